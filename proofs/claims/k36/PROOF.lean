import PyProof.Rows.All
import Wide.All
import OpenK.AllK
import Wide.FinOn
import HandS.Base
import HandS.Call
import HandS.List
import HandS.Comp
import HandS.Ends
import HandS.Dict
import HandS.Iter
import HandS.EndBits
import HandS.Words
import HandS.WordsList
import HandS.WordsDict
import HandS.Text
import HandS.Wide
import HandS.WideBits
import HandS.Conv
import HandS.TupLe
import HandS.IsInst
import HandS.ExcIs
import HandS.ExcValue
import HandS.TupSets
import HandS.Zip
import HandS.Walk
import HandS.TupAny
import HandS.Deep
import PyProof.ReprRoads
import PyProof.ReprBulk
import KE.GoesZip
import KE.GoesMore
import KE.GoesEnum
import HandS.DictTup
import HandS.TupLen
import HandS.NoneIn
import HandS.Records
import HandS.Flow
import HandS.More
import KE.KDictWalk
import KE.KDictDisplayH
import PyProof.WalkInts
import PyProof.DictTable
import KE.KeyNested
import KE.KDictKeyed
import PyProof.DictMoreH
import HandS.ListItems
import KE.KTurns
import HandS.Star
import PyProof.StrOps2
import HandS.TryOnly
import HandS.WordsExc
import HandS.Style
import HandS.RaiseMore
import HandS.FStr
import HandS.ExcOwn
import HandS.ExcCtx
import HandS.SetFor
import PySem.Challenge.RW_anywide_k36_one_to_one_or_meet
set_option Elab.async false
set_option linter.all false
set_option maxRecDepth 100000
namespace AW
open PySem PySem.Spec PyProof.Rows L2

/-! ### a def's call at one around -/
theorem fn_at {P : Program} {w : World} {K : PySem.W.Frag} {mg : Str → Option Value} {base : Heap} {k : Nat} {f : Addr} {x qual : Str} {st : Stmt} {fd : FuncData} {N ps : List Str}
    (F : Fun K x qual st f fd) (S : FnScope N ps (defScope st)) {A : Around} {outer : List Env} {s : Shared} {H : Hp} {args : Args} {us : List Value} {vs : List V} {Q : VK} {E : XK}
    (hr : Room (k + 1) A) (e0 : Env0 P w K mg base A outer s H) (hb : BindsTo s fd args (ps.zip us)) (r : Vals vs us) (hl : vs.length = ps.length)
    (hbody : ∀ cdv : Value, ∃ t, PSs (cxOf CX0 P w K mg base N qual (defScope st) f cdv A outer s H E).nox (defBody st) t ∧ t { nx := fun _ H' => Q .non H', rt := Q } (start N vs) H) :
    codeAny (model P w) A (.call (.ref f) args) (CR CX0 outer P w H s Q E) s := by
  obtain ⟨oc, od, kV, doc, pm, an, cdv, ct, osl, rfl, lk, hcd⟩ := F.ex
  have keep0 : ∀ b o, base.get? b = some o → s.heap.get? b = some o := fun b o e => (e0.bs b o e).1
  have KX := e0.mod.kin.keeps keep0
  refine codeAny_call_function (Room.depth hr) (KX _ _ lk) rfl S.co S.gen rfl (PySem.W.codeRec_of KX hcd) (hb _ _ _ _ ?_)
  have kinds : ∀ y ∈ ps.zip us, (defScope st).names.lookup y.1 = some .local ∨ ((defScope st).names.lookup y.1 = some .cell ∧ ((cellsFrom (s.heap.objs.size + 1) (defScope st).names []).lookup y.1).isSome = true) := by
    intro y hy
    obtain ⟨n, v⟩ := y
    exact (S.par n (List.of_mem_zip hy).1).elim Or.inl fun q => Or.inr ⟨q, PySem.W.cellsFrom_some _ _ _ (.inl q)⟩
  refine wpAny_newFunctionEnv_cells S.kind kinds ?_
  rintro env rfl s1 ic
  obtain ⟨t, ht, hq⟩ := hbody cdv
  refine ⟨(e0.mod.nolimit.keeps keep0).keeps ic.toInCall.keep, codeAny_func (wpAny_mono (ht.nox.run [] s1 (start N vs) H _ (inv_start S hr.hd e0 hl r ic) hq) ?_ (fun _ _ z => z))⟩
  intro fl s' hs
  cases fl with
  | ret u =>
    obtain ⟨v, σ', H', J, rv, q⟩ := hs
    exact ⟨v, H', J.os, J.bare, J.base, J.hok, rv, q⟩
  | next =>
    obtain ⟨σ', H', J, q⟩ := hs
    exact ⟨V.non, H', J.os, J.bare, J.base, J.hok, rfl, q⟩
  | brk => exact hs.elim fun _ z => z.elim fun _ z => z.2.elim
  | cont => exact hs.elim fun _ z => z.elim fun _ z => z.2.elim

/-! ### the law's own call -/
theorem env_at {P : Program} {w : World} {K : PySem.W.Frag} {mg mb : Str → Option Value} {a : Addr} {s1 : Shared} {vs : List Value} {H : Hp}
    (KX : K.In s1.heap) (hns : s1.heap.Ns mainGlobals mg) (hb : s1.heap.Ns builtinsNs mb) (hbb : ∀ x : Str, x ≠ "__name__" → mb x = bootBuiltins x) (hlim : s1.heap.NoLimit) (hg : s1.gens = #[])
    (ha : s1.heap.get? a = some { cls := .type "list", data := .seq vs.toArray }) (one : ∀ b u, H b = some u → b = a) (out : ∀ o, K.lookup a = some o → H a = none) (ok : HOk P w H s1.heap) :
    Env0 P w K mg (hidT s1.heap H) callerA [] s1 H := by
  have dicts : ∀ {b : Addr} {m : Str → Option Value}, s1.heap.Ns b m → (hidT s1.heap H).Ns b m := by
    rintro b m ⟨o, es, ep, e, d, r⟩
    refine ⟨o, es, ep, hidT_get e ?_, d, r⟩
    match q : H b with
    | none => rfl
    | some u =>
      obtain rfl := one b u q
      have e2 := Option.some.inj (e.symm.trans ha)
      rw [e2] at d
      cases d
  have kin : K.In (hidT s1.heap H) := by
    intro b o e
    refine hidT_get (KX b o e) ?_
    match q : H b with
    | none => rfl
    | some u =>
      obtain rfl := one b u q
      exact q.symm.trans (out o e)
  obtain ⟨mc, l1, l2⟩ := hlim
  exact ⟨rfl, ⟨kin, dicts hns, ⟨mb, dicts hb, hbb⟩, ⟨mc, dicts l1, l2⟩⟩, fun b o e => of_hidT e, Nat.le_of_eq (hidT_size _ _), trivial, (fun b z => nomatch z), ok, .of_eq hg⟩

theorem law_end {P : Program} {w : World} {K : PySem.W.Frag} {mg mb : Str → Option Value} {fa a : Addr} {s1 : Shared} {vs : List Value} {ns : List Int}
    (KX : K.In s1.heap) (hns : s1.heap.Ns mainGlobals mg) (hb : s1.heap.Ns builtinsNs mb) (hbb : ∀ x : Str, x ≠ "__name__" → mb x = bootBuiltins x) (hlim : s1.heap.NoLimit) (hg : s1.gens = #[])
    (ha : s1.heap.get? a = some { cls := .type "list", data := .seq vs.toArray }) (hi : IntsAre vs ns) (hl : ns.length ≤ sizeLine)
    (run : ∀ (base : Heap) (H : Hp), Env0 P w K mg base callerA [] s1 H → SqL K H a (ns.map V.int) →
      codeAny (model P w) callerA (.call (.ref fa) ⟨[.ref a], []⟩) (CR CX0 [] P w H s1 (fun v _ => v = .bl true) E0) s1) :
    codeAny (model P w) callerA (.call (.ref fa) ⟨[.ref a], []⟩) (fun r s' => r = .ok (.ret (.bool true)) ∧ OldK s1.heap s'.heap ∧ s'.os = s1.os ∧ AllBare s'.gens) s1 := by
  have rv := vals_ints hi
  have fin : ∀ H : Hp, HOk P w H s1.heap → (∀ b u, H b = some u → ∃ o xs, u = .frz o (.lst xs)) → ∀ r s', CR CX0 [] P w H s1 (fun v _ => v = .bl true) E0 r s' →
      r = .ok (.ret (.bool true)) ∧ OldK s1.heap s'.heap ∧ s'.os = s1.os ∧ AllBare s'.gens := by
    intro H ok hf r s' h
    match r, h with
    | .ok (.ret u), ⟨v, H', os, bare, un, ok2, rel, q⟩ =>
      obtain rfl : v = .bl true := q
      obtain rfl : u = Value.bool true := rel
      refine ⟨rfl, OldK.of_keep ?_, os, bare⟩
      intro b o e
      match qb : H b with
      | none => exact un.keep b o e qb (fun z => nomatch z) (fun z => nomatch z)
      | some ho =>
        obtain ⟨o2, xs, rfl⟩ := hf b ho qb
        have k1 := (ok b _ qb).1
        have k2 := (ok2 b _ (un.frzs b o2 _ qb)).1
        rw [e] at k1
        cases k1
        exact k2
  match hk : K.lookup a with
  | some o =>
    have e := (KX a o hk).symm.trans ha
    obtain rfl := Option.some.inj e
    have ok : HOk P w (fun _ => none) s1.heap := fun b u z => nomatch z
    refine codeAny_mono (run _ (fun _ => none) (env_at KX hns hb hbb hlim hg ha (fun b u z => nomatch z) (fun _ _ => rfl) ok) ?_) (fin _ ok fun b u z => nomatch z)
    exact .inr ⟨_, vs.toArray, _, hk, rfl, rfl, rfl, by rw [List.size_toArray, hi.length]; exact hl, by simpa using rv⟩
  | none =>
    let o : Obj := { cls := .type "list", data := .seq vs.toArray }
    have at_ : ∀ b u, (if b = a then some (HO.frz o (.lst (ns.map V.int))) else none) = some u → b = a ∧ u = HO.frz o (.lst (ns.map V.int)) := by
      intro b u z
      by_cases hb : b = a
      · rw [if_pos hb] at z
        exact ⟨hb, (Option.some.inj z).symm⟩
      · rw [if_neg hb] at z
        cases z
    have ok : HOk P w (fun b => if b = a then some (HO.frz o (.lst (ns.map V.int))) else none) s1.heap := by
      intro b u z
      obtain ⟨rfl, rfl⟩ := at_ b u z
      exact ⟨ha, by rw [List.length_map]; exact hl, vs, _, rv, ha⟩
    refine codeAny_mono (run _ _ (env_at KX hns hb hbb hlim hg ha (fun b u z => (at_ b u z).1) (fun o' e => absurd (hk.symm.trans e) (fun z => nomatch z)) ok) ?_) (fin _ ok fun b u z => ⟨_, _, (at_ b u z).2⟩)
    exact .inl (.inr ⟨o, if_pos rfl⟩)

theorem walkG {l : PySem.W.OpenLaw} {n : Nat} {q : Program} {loose : List Str} {XP : (Str → Option Value) → Heap → Prop} {YP : World → Heap → Prop} {d : DefRec} {K : Params → PySem.W.Frag}
    (hn : l.most = some n) (hn2 : n ≤ sizeLine) (hdf : d.params.defaults = []) (hY : ∀ (w : World) (h : Heap), YP w h → (K w.params).In h)
    (F : ∀ (w : World) (mg : Str → Option Value) (fa : Addr) (h : Heap), (K w.params).In h → h.Ns mainGlobals mg → mg d.name = some (.ref fa) →
      ∀ (s : Shared) (a : Addr) (ns : List Int) (base : Heap) (H : Hp), ns.length ≤ n → (∀ z ∈ ns, Builtin.Int.intBits z ≤ 1048576) → Env0 l.prog w (K w.params) mg base callerA [] s H → SqL (K w.params) H a (ns.map V.int) →
        codeAny (model l.prog w) callerA (.call (.ref fa) ⟨[.ref a], []⟩) (CR CX0 [] l.prog w H s (fun v _ => v = .bl true) E0) s) :
    PySem.W.WalkO q loose XP YP l.row.toRowW d [] (fun f vs => PySem.call f vs) := by
  apply Att.attach_callB hn hdf
  intro w s0 s1 mg mb fa o pm cd doc a vs ns G Y ho hd hcd hmg hobj hints hlen hbits hg
  have KX := hY w _ Y
  exact law_end KX G.T.g G.T.b G.T.builtins G.T.nolimit hg hobj hints (Nat.le_trans hlen hn2) fun base H e0 hS => F w mg fa _ KX G.T.g hmg s1 a ns base H hlen hbits e0 hS

/-! ### repr of data -/
section
variable {X : Cx}
/-- what a value reads, whatever the state -/
def Rz (X : Cx) (H : Hp) (v : V) (d : PyData) : Prop := ∀ pins σ s u, Inv X pins σ H s → RelV v u → ∃ as, Reads s.heap u d as ∧ sysModules ∉ as
def rRepr (X : Cx) : List V → Hp → VK → Prop := fun xs H Q => ∃ (x : V) (d : PyData), xs = [x] ∧ (Rz X H x d ∨ (Dp X.K H x d ∧ d.hasDict = false)) ∧ d.showable = true ∧ d.depth ≤ 40 ∧ d.shown.length ≤ sizeLine ∧ Q (.str d.shown) H
theorem call_repr (hg : X.A.guards = some []) (hu : X.A.units + 64 < cLine) : CallR X (.builtin "repr") (rRepr X) := by
  intro pins s σ H xs us Q I r h
  obtain ⟨x, d, rfl, hd, hs, hp, hz, q⟩ := h
  match us, r with
  | [u], .cons rx .nil =>
    have rd : ∃ as, Reads s.heap u d as ∧ (d.hasDict = true → sysModules ∉ as) := by
      rcases hd with hd | ⟨hd, hn⟩
      · obtain ⟨as, h1, h2⟩ := hd pins σ s u I rx
        exact ⟨as, h1, fun _ => h2⟩
      · obtain ⟨as, h1⟩ := Dp.reads I d x u hd rx
        exact ⟨as, h1, fun z => by rw [hn] at z; cases z⟩
    obtain ⟨as, h1, h2⟩ := rd
    cases h1 with
    | none => exact PySem.P.repr_of_none ⟨.str _, H, I.tok _, ⟨_, rfl⟩, q⟩
    | bool b => exact PySem.P.repr_of_bool ⟨.str _, H, I.tok _, ⟨_, rfl⟩, by have q' := q; simp only [PyData.shown] at q'; cases b <;> exact q'⟩
    | int i t => exact PySem.P.repr_of_int (by simpa [PyData.showable] using hs) ⟨.str _, H, I.tok _, ⟨_, rfl⟩, by simpa only [PyData.shown] using q⟩
    | str x t => exact PySem.P.repr_of_str ⟨.str _, H, I.tok _, ⟨_, rfl⟩, by simpa only [PyData.shown] using q⟩ (by simpa only [PyData.shown] using hz)
    | list a b c e => exact repr_of_reads' (Reads.list a b c e) hs h2 hg (by omega) (fun _ _ e => e) (fun h' u tk k => ⟨.str _, H, I.kept k, ⟨_, rfl⟩, q⟩) hz
    | tuple a b c e => exact repr_of_reads' (Reads.tuple a b c e) hs h2 hg (by omega) (fun _ _ e => e) (fun h' u tk k => ⟨.str _, H, I.kept k, ⟨_, rfl⟩, q⟩) hz
    | dict a b c e f => exact repr_of_reads' (Reads.dict a b c e f) hs h2 hg (by omega) (fun _ _ e => e) (fun h' u tk k => ⟨.str _, H, I.kept k, ⟨_, rfl⟩, q⟩) hz

theorem Rz.int (H : Hp) (i : Int) : Rz X H (.int i) (.int i) := by
  rintro pins σ s u I ⟨t, rfl⟩
  exact ⟨_, Reads.int i t, (fun z => nomatch z)⟩
theorem Rz.str (H : Hp) (x : Str) : Rz X H (.str x) (.str x) := by
  rintro pins σ s u I ⟨t, rfl⟩
  exact ⟨_, Reads.str x t, (fun z => nomatch z)⟩
theorem rz_all {H : Hp} : ∀ {vs : List V} {ds : List PyData}, Paired (Rz X H) vs ds → ∀ {pins σ s us}, Inv X pins σ H s → Vals vs us → ∃ as, ReadsAll s.heap us ds as ∧ sysModules ∉ as
  | _, _, .nil, _, _, _, _, _, .nil => ⟨_, ReadsAll.nil, (fun z => nomatch z)⟩
  | _, _, .cons h t, _, _, _, _, I, .cons r rs => by
    obtain ⟨as, a1, a2⟩ := h _ _ _ _ I r
    obtain ⟨bs, b1, b2⟩ := rz_all t I rs
    exact ⟨_, ReadsAll.cons a1 b1, fun z => (List.mem_append.mp z).elim a2 b2⟩
theorem Rz.tup {H : Hp} {a : Addr} {xs : List V} {ds : List PyData} (h : SqT X.K H a xs) (hs : Paired (Rz X H) xs ds) : Rz X H (.ref a) (.tuple ds) := by
  intro pins σ s u I r
  obtain rfl : u = Value.ref a := r
  obtain ⟨its, rv, ⟨o, ho, hc, n, hd⟩, _⟩ := I.tuple h
  obtain ⟨as, h1, h2⟩ := rz_all hs I rv
  exact ⟨_, Reads.tuple ho hc hd h1, h2⟩
end
end AW
namespace AW
open PySem PySem.Spec PyProof.Rows L2
section
variable {X : Cx}
def CPowW (i j : Int) : Prop := 0 ≤ j ∧ (Builtin.Int.intBits i : Int) * j ≤ 2 ^ 27
theorem op_powW : OpR X (binaryOp .Pow) (rI CPowW fun i j => .int (i ^ j.toNat)) := opI fun _ _ _ _ _ _ _ hc q => pow_int hc.1 hc.2 q
end
theorem bits_lt {z : Int} {n : Nat} (h : Builtin.Int.intBits z ≤ n) : z.natAbs < 2 ^ n := by
  unfold Builtin.Int.intBits at h
  by_cases e : z = 0
  · subst e
    exact Nat.pos_of_ne_zero (by simp)
  · rw [if_neg (by simpa using e)] at h
    have : z.natAbs ≠ 0 := by omega
    exact (Nat.log2_lt this).mp (by omega)
theorem seed_ok {z c : Int} (h0 : 0 ≤ z) (h1 : z ≤ 2147483629) (h2 : Builtin.Int.intBits c ≤ 1048576) : CPowW (z * 50021 + c) 3 := by
  refine ⟨by decide, ?_⟩
  have hc := bits_lt h2
  have h3 : (z * 50021 + c).natAbs < 2 ^ 1048577 := by
    have a : (z * 50021 + c).natAbs ≤ (z * 50021).natAbs + c.natAbs := Int.natAbs_add_le _ _
    have b : (z * 50021).natAbs ≤ 2 ^ 48 := by omega
    have d : (2 : Nat) ^ 48 ≤ 2 ^ 1048576 := Nat.pow_le_pow_right (by decide) (by decide)
    have e : (2 : Nat) ^ 1048577 = 2 ^ 1048576 + 2 ^ 1048576 := by rw [Nat.pow_succ]; omega
    omega
  have h4 := PyProof.Rows.intBits_le h3
  have e : (2 : Int) ^ 27 = 134217728 := by decide
  rw [e]
  omega
/-! ### what follows an if, shown once -/
def tMid (t u : TS) : TS := fun D σ H => ∃ M : L2.St → Hp → Prop, t { D with nx := M } σ H ∧ ∀ σ2 H2, M σ2 H2 → u D σ2 H2
theorem pss_mid {X : Cx} {st : Stmt} {r : List Stmt} {t u : TS} (a : PS X st t) (b : PSs X r u) : PSs X (st :: r) (tMid t u) := by
  constructor
  rintro pins s σ H D I ⟨M, h1, h2⟩
  apply wpAny_execs_cons
  refine thn (a.run pins s σ H _ I h1) ?_
  intro fl s2 z
  match fl, z with
  | .next, ⟨σ2, H2, I2, m⟩ => exact b.run pins s2 σ2 H2 D I2 (h2 σ2 H2 m)
  | .ret _, z => exact z
  | .brk, z => exact z
  | .cont, z => exact z
/-! ### the well -/
def WL (H : Hp) (a c : Addr) : Prop := a ≠ c ∧ ∃ (cs : List Int) (r s : Int), H a = some (.lst [.ref c, .int r, .int s]) ∧ H c = some (.lst (cs.map V.int))
/-- all but the well stands as it stood -/
def Kp (a c : Addr) (H H' : Hp) : Prop := ∀ b o, b ≠ a → b ≠ c → H b = some o → H' b = some o
theorem Kp.refl (a c : Addr) (H : Hp) : Kp a c H H := fun _ _ _ _ h => h
theorem Kp.trans {a c : Addr} {H H1 H2 : Hp} (h : Kp a c H H1) (k : Kp a c H1 H2) : Kp a c H H2 := fun b o n1 n2 e => k b o n1 n2 (h b o n1 n2 e)
theorem Kp.tup {a c : Addr} {H H' : Hp} (w : WL H a c) (k : Kp a c H H') {b : Addr} {xs : List V} (h : H b = some (.tup xs)) : H' b = some (.tup xs) := by
  obtain ⟨_, cs, r, s, e1, e2⟩ := w
  exact k b _ (ne_of h e1 (fun z => nomatch z)) (ne_of h e2 (fun z => nomatch z)) h
theorem Kp.same {a c : Addr} {H H1 H2 : Hp} (ha : H a = none) (hc : H c = none) (s : Same H H1) (k : Kp a c H1 H2) : Same H H2 := fun b o e => k b o (ne_of_none e ha) (ne_of_none e hc) (s b o e)
theorem same_new {H : Hp} {p : Addr} {o : HO} (h : H p = none) : Same H (upd H p o) := fun b x e => by
  rw [upd_ne (ne_of_none e h)]
  exact e
theorem WL.same {H H' : Hp} {a c : Addr} (w : WL H a c) (k : Same H H') : WL H' a c := by
  obtain ⟨n, cs, r, s, e1, e2⟩ := w
  exact ⟨n, cs, r, s, k _ _ e1, k _ _ e2⟩
theorem WL.ne_new {H : Hp} {a c p : Addr} (w : WL H a c) (h : H p = none) : p ≠ a ∧ p ≠ c := by
  obtain ⟨n, cs, r, s, e1, e2⟩ := w
  exact ⟨(ne_of_none e1 h).symm, (ne_of_none e2 h).symm⟩
theorem WL.upd {H : Hp} {a c p : Addr} {o : HO} (w : WL H a c) (h1 : p ≠ a) (h2 : p ≠ c) : WL (upd H p o) a c := by
  obtain ⟨n, cs, r, s, e1, e2⟩ := w
  exact ⟨n, cs, r, s, by rw [upd_ne h1.symm]; exact e1, by rw [upd_ne h2.symm]; exact e2⟩
theorem Same.kp {a c : Addr} {H H' : Hp} (s : Same H H') : Kp a c H H' := fun b o _ _ e => s b o e
theorem dp_ints {K : PySem.W.Frag} {H : Hp} : ∀ cs : List Int, DpAll K H (cs.map V.int) (cs.map PyData.int)
  | [] => .nil
  | c :: cs => .cons (.int c) (dp_ints cs)
theorem lay_ints : ∀ cs : List Int, PyData.canLayAll0 (cs.map PyData.int) = true ∧ PyData.depthAll (cs.map PyData.int) = 0
  | [] => ⟨by simp only [List.map_nil, PyData.canLayAll0], by simp only [List.map_nil, PyData.depthAll]⟩
  | c :: cs => by
    obtain ⟨h1, h2⟩ := lay_ints cs
    exact ⟨by simp only [List.map_cons, PyData.canLayAll0, PyData.canLay0, h1, Bool.and_self], by simp only [List.map_cons, PyData.depthAll, PyData.depth, h2, Nat.max_self]⟩
theorem shaped_ints (cs : List Int) : SeqAt.shaped (.list (cs.map PyData.int)) = true := by
  obtain ⟨h1, h2⟩ := lay_ints cs
  simp only [SeqAt.shaped, PyData.canLay0, PyData.depth, h1, h2, Bool.true_and]
  decide
theorem dp_strs {K : PySem.W.Frag} {H : Hp} : ∀ cs : List Str, DpAll K H (cs.map V.str) (cs.map PyData.str)
  | [] => .nil
  | c :: cs => .cons (.str c) (dp_strs cs)
theorem lay_strs : ∀ cs : List Str, (∀ x ∈ cs, PyData.strOk x = true) → PyData.canLayAll0 (cs.map PyData.str) = true ∧ PyData.depthAll (cs.map PyData.str) = 0
  | [], _ => ⟨by simp only [List.map_nil, PyData.canLayAll0], by simp only [List.map_nil, PyData.depthAll]⟩
  | c :: cs, h => by
    obtain ⟨h1, h2⟩ := lay_strs cs fun x hx => h x (List.mem_cons_of_mem _ hx)
    exact ⟨by simp only [List.map_cons, PyData.canLayAll0, PyData.canLay0, h1, h c List.mem_cons_self, Bool.and_self], by simp only [List.map_cons, PyData.depthAll, PyData.depth, h2, Nat.max_self]⟩
theorem shaped_strs (cs : List Str) (h : ∀ x ∈ cs, PyData.strOk x = true) : SeqAt.shaped (.list (cs.map PyData.str)) = true := by
  obtain ⟨h1, h2⟩ := lay_strs cs h
  simp only [SeqAt.shaped, PyData.canLay0, PyData.depth, h1, h2, Bool.true_and]
  decide
theorem seq0 (n : Nat) : seqIndex? 0 (n + 1) = some 0 := by
  unfold seqIndex?
  simp
/-! ### the words of deeds, deeds, rows -/
def fwL : List (Str × Int) := [("none", 0), ("one", 0), ("all", 0), ("not", 1), ("neg", 1), ("twice", 1), ("and", 2), ("or", 2), ("xor", 2), ("add", 2), ("sub", 2)]
theorem fw_ok : ∀ x ∈ fwL.map (·.1), PyData.strOk x = true := by decide +kernel
def fwK : List (Key × V) := fwL.map fun p => (Sum.inr p.1, .int p.2)
/-- a deed: its word and its numbers -/
abbrev Deed := Str × List Int
def dV (d : Deed) : List V := .str d.1 :: d.2.map V.int
theorem dv0 (d : Deed) : atI (dV d) 0 = some (.str d.1) := atI_nat (j := 0) rfl
theorem dvN {d : Deed} {k : Nat} {i : Int} (h : d.2[k]? = some i) : atI (dV d) ((k + 1 : Nat) : Int) = some (.int i) := atI_nat (by show (d.2.map V.int)[k]? = _; rw [List.getElem?_map, h]; rfl)
structure DeedOk (m : Int) (d : Deed) : Prop where
  word : (d.1, (d.2.length : Int)) ∈ fwL
  ahead : ∀ i ∈ d.2, 0 ≤ i ∧ i < m
theorem fw_at {z : Int} (h0 : 0 ≤ z) (h1 : z < 11) : ∃ x n, (x, n) ∈ fwL ∧ 0 ≤ n ∧ n ≤ 2 ∧ atI (fwK.map fun kv => kV kv.1) z = some (.str x) ∧ valV fwK (Sum.inr x) = some (.int n) := by
  obtain ⟨k, rfl⟩ := Int.eq_ofNat_of_zero_le h0
  have hk : k = 0 ∨ k = 1 ∨ k = 2 ∨ k = 3 ∨ k = 4 ∨ k = 5 ∨ k = 6 ∨ k = 7 ∨ k = 8 ∨ k = 9 ∨ k = 10 := by omega
  rcases hk with rfl | rfl | rfl | rfl | rfl | rfl | rfl | rfl | rfl | rfl | rfl
  · exact ⟨"none", 0, by decide +kernel, by decide, by decide, by decide +kernel, by decide +kernel⟩
  · exact ⟨"one", 0, by decide +kernel, by decide, by decide, by decide +kernel, by decide +kernel⟩
  · exact ⟨"all", 0, by decide +kernel, by decide, by decide, by decide +kernel, by decide +kernel⟩
  · exact ⟨"not", 1, by decide +kernel, by decide, by decide, by decide +kernel, by decide +kernel⟩
  · exact ⟨"neg", 1, by decide +kernel, by decide, by decide, by decide +kernel, by decide +kernel⟩
  · exact ⟨"twice", 1, by decide +kernel, by decide, by decide, by decide +kernel, by decide +kernel⟩
  · exact ⟨"and", 2, by decide +kernel, by decide, by decide, by decide +kernel, by decide +kernel⟩
  · exact ⟨"or", 2, by decide +kernel, by decide, by decide, by decide +kernel, by decide +kernel⟩
  · exact ⟨"xor", 2, by decide +kernel, by decide, by decide, by decide +kernel, by decide +kernel⟩
  · exact ⟨"add", 2, by decide +kernel, by decide, by decide, by decide +kernel, by decide +kernel⟩
  · exact ⟨"sub", 2, by decide +kernel, by decide, by decide, by decide +kernel, by decide +kernel⟩
theorem awSnoc {α β : Type} {F : α → β → Prop} {x : α} {y : β} (h : F x y) : ∀ {l : List α} {l2 : List β}, Paired F l l2 → Paired F (l ++ [x]) (l2 ++ [y])
  | _, _, .nil => .cons h .nil
  | _, _, .cons r t => .cons r (awSnoc h t)
theorem awMap {α β : Type} {F G : α → β → Prop} (f : ∀ a b, F a b → G a b) : ∀ {l : List α} {l2 : List β}, Paired F l l2 → Paired G l l2
  | _, _, .nil => .nil
  | _, _, .cons r t => .cons (f _ _ r) (awMap f t)
theorem awLen {α β : Type} {F : α → β → Prop} : ∀ {l : List α} {l2 : List β}, Paired F l l2 → l.length = l2.length
  | _, _, .nil => rfl
  | _, _, .cons _ t => congrArg (· + 1) (awLen t)
theorem awGet {α β : Type} {F : α → β → Prop} : ∀ {l : List α} {l2 : List β} {i : Nat} {x : α}, Paired F l l2 → l[i]? = some x → ∃ y, l2[i]? = some y ∧ F x y
  | _, _, _, _, .nil, e => by simp at e
  | _, _, 0, _, .cons r _, e => by
    simp only [List.getElem?_cons_zero, Option.some.injEq] at e
    subst e
    exact ⟨_, rfl, r⟩
  | _, _, i + 1, x, .cons _ t, e => by
    simp only [List.getElem?_cons_succ] at e ⊢
    exact awGet t e
theorem awGet2 {α β : Type} {F : α → β → Prop} {l : List α} {l2 : List β} {i : Nat} {y : β} (h : Paired F l l2) (e : l2[i]? = some y) : ∃ x, l[i]? = some x ∧ F x y := by
  have hi : i < l.length := by
    rw [awLen h]
    exact (List.getElem?_eq_some_iff.mp e).1
  obtain ⟨y2, e2, f⟩ := awGet h (List.getElem?_eq_getElem hi)
  rw [e] at e2
  obtain rfl := Option.some.inj e2
  exact ⟨_, List.getElem?_eq_getElem hi, f⟩
/-- deeds that stand in the heap as tuples -/
abbrev DsAt (H : Hp) : List Addr → List Deed → Prop := Paired fun r d => H r = some (.tup (dV d))
def RowAt (H : Hp) (R : Addr) (m : Int) (ds : List Deed) (o : Int) : Prop := ∃ D rs, H R = some (.tup [.int m, .ref D, .int o]) ∧ H D = some (.tup (rs.map V.ref)) ∧ DsAt H rs ds
structure DsOk (m : Int) (ds : List Deed) : Prop where
  each : ∀ (k : Nat) d, ds[k]? = some d → DeedOk (m + k) d
structure RowOk (m : Int) (ds : List Deed) (o : Int) : Prop where
  m1 : 1 ≤ m
  m3 : m ≤ 3
  len : ds.length ≤ 8
  deeds : DsOk m ds
  o0 : 0 ≤ o
  o1 : o < m + ds.length
/-- all tuples stand -/
def TupsStay (H H' : Hp) : Prop := ∀ b xs, H b = some (.tup xs) → H' b = some (.tup xs)
theorem Same.tups {H H' : Hp} (s : Same H H') : TupsStay H H' := fun b xs e => s b _ e
theorem Kp.tups {a c : Addr} {H H' : Hp} (k : Kp a c H H') (w : WL H a c) : TupsStay H H' := fun b xs e => k.tup w e
theorem TupsStay.trans {H H1 H2 : Hp} (a : TupsStay H H1) (b : TupsStay H1 H2) : TupsStay H H2 := fun c xs e => b c xs (a c xs e)
theorem tups_put {H : Hp} {l : Addr} {xs : List V} {o : HO} (h : H l = some (.lst xs)) : TupsStay H (upd H l o) := fun b ys e => by
  rw [upd_ne (ne_of e h (fun z => nomatch z))]
  exact e
theorem TupsStay.ds {H H' : Hp} (t : TupsStay H H') {rs : List Addr} {ds : List Deed} (h : DsAt H rs ds) : DsAt H' rs ds := awMap (fun r d e => t r _ e) h
theorem TupsStay.row {H H' : Hp} (t : TupsStay H H') {R : Addr} {m o : Int} {ds : List Deed} (h : RowAt H R m ds o) : RowAt H' R m ds o := by
  obtain ⟨D, rs, e1, e2, e3⟩ := h
  exact ⟨D, rs, t _ _ e1, t _ _ e2, t.ds e3⟩
theorem dsOk_snoc {m : Int} {ds : List Deed} {d : Deed} (h : DsOk m ds) (k : DeedOk (m + ds.length) d) : DsOk m (ds ++ [d]) := by
  constructor
  intro i d' e
  by_cases hi : i < ds.length
  · rw [List.getElem?_append_left hi] at e
    exact h.each i d' e
  · rw [List.getElem?_append_right (by omega)] at e
    obtain ⟨h1, h2⟩ := List.getElem?_eq_some_iff.mp e
    have h3 : i = ds.length := by simp only [List.length_cons, List.length_nil] at h1; omega
    subst h3
    simp at h2
    subst h2
    exact k
/-! ### data that is shown in few signs -/
structure Nice (b k : Nat) (d : PyData) : Prop where
  sh : d.showable = true
  lv : d.leavesShort 21 = true
  bk : d.bulk ≤ b
  dp : d.depth ≤ k
theorem Nice.fits {b k : Nat} {d : PyData} (h : Nice b k d) (hb : b ≤ 100000) : d.shown.length ≤ sizeLine := by
  have h1 := PyData.shown_le_bulk 21 (by decide) d h.lv
  have h2 := h.bk
  rw [sizeLine_eq]
  omega
theorem Nice.mono {b b2 k k2 : Nat} {d : PyData} (h : Nice b k d) (hb : b ≤ b2) (hk : k ≤ k2) : Nice b2 k2 d := ⟨h.sh, h.lv, Nat.le_trans h.bk hb, Nat.le_trans h.dp hk⟩
theorem nice_int {i : Int} (h : i.natAbs < 10 ^ 20) : Nice 0 0 (.int i) := by
  refine ⟨?_, ?_, ?_, ?_⟩
  · simp only [PyData.showable, decide_eq_true_eq]
    have : i.natAbs < 2 ^ 70 := Nat.lt_trans h (by decide)
    by_cases e : i.natAbs = 0
    · rw [e]; decide
    · have := (Nat.log2_lt e).mpr this
      omega
  · simp only [PyData.leavesShort, decide_eq_true_eq]
    have e := int_text_length_le10 (k := 20) (by decide) h
    simp only [PyData.shown]
    rw [PySem.ofString_length]
    exact e
  · simp only [PyData.bulk, Nat.le_refl]
  · simp only [PyData.depth, Nat.le_refl]
theorem nice_str {x : Str} {n : Nat} (h : x.cps.size ≤ n) (hx : (x.cps.toList.all fun c => decide (c < 16 ^ 8)) = true) : Nice n 0 (.str x) := by
  refine ⟨?_, ?_, ?_, ?_⟩
  · simp only [PyData.showable]
  · simp only [PyData.leavesShort]
    exact hx
  · simp only [PyData.bulk]
    exact h
  · simp only [PyData.depth, Nat.le_refl]
theorem nice_all {b k : Nat} : ∀ {xs : List PyData}, (∀ x ∈ xs, Nice b k x) → PyData.showableAll xs = true ∧ PyData.leavesShortAll 21 xs = true ∧ PyData.bulkAll xs ≤ xs.length * (b + 1) ∧ PyData.depthAll xs ≤ k
  | [], _ => ⟨by simp only [PyData.showableAll], by simp only [PyData.leavesShortAll], by simp only [PyData.bulkAll, Nat.zero_le], by simp only [PyData.depthAll, Nat.zero_le]⟩
  | x :: xs, h => by
    obtain ⟨h1, h2, h3, h4⟩ := nice_all fun y hy => h y (List.mem_cons_of_mem _ hy)
    obtain ⟨g1, g2, g3, g4⟩ := h x List.mem_cons_self
    refine ⟨by simp only [PyData.showableAll, g1, h1, Bool.and_self], by simp only [PyData.leavesShortAll, g2, h2, Bool.and_self], ?_, ?_⟩
    · simp only [PyData.bulkAll, List.length_cons, Nat.add_mul, Nat.one_mul]
      omega
    · simp only [PyData.depthAll]
      omega
theorem nice_tup {b k n : Nat} {xs : List PyData} (h : ∀ x ∈ xs, Nice b k x) (hn : xs.length * (b + 1) ≤ n) : Nice n (k + 1) (.tuple xs) := by
  obtain ⟨h1, h2, h3, h4⟩ := nice_all h
  exact ⟨by simpa only [PyData.showable] using h1, by simpa only [PyData.leavesShort] using h2, by simp only [PyData.bulk]; omega, by simp only [PyData.depth]; omega⟩
theorem nice_lst {b k n : Nat} {xs : List PyData} (h : ∀ x ∈ xs, Nice b k x) (hn : xs.length * (b + 1) ≤ n) : Nice n (k + 1) (.list xs) := by
  obtain ⟨h1, h2, h3, h4⟩ := nice_all h
  exact ⟨by simpa only [PyData.showable] using h1, by simpa only [PyData.leavesShort] using h2, by simp only [PyData.bulk]; omega, by simp only [PyData.depth]; omega⟩
def deedD (d : Deed) : PyData := .tuple (.str d.1 :: d.2.map PyData.int)
def rowD (m : Int) (ds : List Deed) (o : Int) : PyData := .tuple [.int m, .tuple (ds.map deedD), .int o]
theorem fw_short : ∀ p ∈ fwL, p.1.cps.size ≤ 5 ∧ (p.1.cps.toList.all fun c => decide (c < 16 ^ 8)) = true ∧ p.2 ≤ 2 := by decide +kernel
theorem nice_deed {m : Int} {d : Deed} (h : DeedOk m d) (hm : m ≤ 100) : Nice 18 1 (deedD d) := by
  obtain ⟨h1, h2, h3⟩ := fw_short _ h.word
  refine nice_tup (b := 5) (k := 0) (fun x hx => ?_) ?_
  · rcases List.mem_cons.mp hx with rfl | hx
    · exact nice_str h1 h2
    · obtain ⟨i, hi, rfl⟩ := List.mem_map.mp hx
      obtain ⟨i0, i1⟩ := h.ahead i hi
      exact (nice_int (by omega)).mono (by decide) (by decide)
  · rw [List.length_cons, List.length_map]
    have : (d.2.length : Int) ≤ 2 := h3
    omega
theorem nice_row {m o : Int} {ds : List Deed} (h : RowOk m ds o) : Nice 459 3 (rowD m ds o) := by
  have hm := h.m1
  have hm3 := h.m3
  have hl := h.len
  have ho := h.o0
  have ho1 := h.o1
  refine nice_tup (b := 152) (k := 2) (fun x hx => ?_) (by simp only [List.length_cons, List.length_nil]; decide)
  simp only [List.mem_cons, List.not_mem_nil, or_false] at hx
  rcases hx with rfl | rfl | rfl
  · exact (nice_int (by omega)).mono (by decide) (by decide)
  · refine nice_tup (b := 18) (k := 1) (fun x hx => ?_) ?_
    · obtain ⟨d, hd, rfl⟩ := List.mem_map.mp hx
      obtain ⟨k, hk⟩ := List.mem_iff_getElem?.mp hd
      have hk1 := (List.getElem?_eq_some_iff.mp hk).1
      exact nice_deed (h.deeds.each k d hk) (by omega)
    · rw [List.length_map]
      omega
  · exact (nice_int (by omega)).mono (by decide) (by decide)
/-! ### what the row reads -/
section
variable {X : Cx}
theorem rz_ints (H : Hp) : ∀ l : List Int, Paired (Rz X H) (l.map V.int) (l.map PyData.int)
  | [] => .nil
  | i :: l => .cons (Rz.int H i) (rz_ints H l)
theorem rz_deed {H : Hp} {r : Addr} {d : Deed} (h : H r = some (.tup (dV d))) : Rz X H (.ref r) (deedD d) := Rz.tup (SqT.of h) (.cons (Rz.str H _) (rz_ints H _))
theorem rz_deeds {H : Hp} : ∀ {rs : List Addr} {ds : List Deed}, DsAt H rs ds → Paired (Rz X H) (rs.map V.ref) (ds.map deedD)
  | _, _, .nil => .nil
  | _, _, .cons h t => .cons (rz_deed h) (rz_deeds t)
theorem rz_row {H : Hp} {R : Addr} {m o : Int} {ds : List Deed} (h : RowAt H R m ds o) : Rz X H (.ref R) (rowD m ds o) := by
  obtain ⟨D, rs, e1, e2, e3⟩ := h
  exact Rz.tup (SqT.of e1) (.cons (Rz.int H m) (.cons (Rz.tup (SqT.of e2) (rz_deeds e3)) (.cons (Rz.int H o) .nil)))
/-- a dict of texts and ints -/
abbrev siK (es : List (Str × Int)) : List (Key × V) := es.map fun p => (Sum.inr p.1, .int p.2)
theorem si_reads {prog : Program} {w : World} {h : Heap} : ∀ (es : List (Str × Int)) (vs : List (Key × Value)) (en : List DictEntry), KV (siK es) vs → Pairs (mixKind prog w) en vs →
    ReadsAll h (en.map (·.key)) ((es.map fun p => (PyData.str p.1, PyData.int p.2)).map (·.1)) [] ∧ ReadsAll h (en.map (·.val)) ((es.map fun p => (PyData.str p.1, PyData.int p.2)).map (·.2)) []
  | [], _, _, .nil, .nil => ⟨.nil, .nil⟩
  | (x, i) :: es, _, _, .cons hh t, .cons hk hv hp => by
    obtain ⟨h1, h2⟩ := si_reads es _ _ t hp
    obtain ⟨k1, t1, e1⟩ := hh
    rw [← k1] at hk
    obtain ⟨t2, e2⟩ := Value.isStrOf_shape (x := x) hk
    refine ⟨?_, ?_⟩
    · simp only [List.map_cons]
      rw [e2]
      exact ReadsAll.cons (as := []) (Reads.str x t2) h1
    · simp only [List.map_cons]
      rw [hv, e1]
      exact ReadsAll.cons (as := []) (Reads.int i t1) h2
theorem rz_dict {H : Hp} {C : Addr} {es : List (Str × Int)} (h : H C = some (.dK (siK es))) : Rz X H (.ref C) (.dict (es.map fun p => (PyData.str p.1, PyData.int p.2))) := by
  intro pins σ s u I r
  obtain rfl : u = Value.ref C := r
  obtain ⟨_, hs, vs, hkv, o, en, ep, e1, e2, e3, e4, e5, e6⟩ := I.hok C _ h
  obtain ⟨r1, r2⟩ := si_reads (prog := X.prog) (w := X.w) (h := s.heap) es vs _ hkv e5
  refine ⟨_, Reads.dict e1 e2.1 e3 r1 r2, ?_⟩
  intro z
  simp only [List.append_nil, List.mem_cons, List.not_mem_nil, or_false] at z
  rw [← z] at hs
  simp at hs
end
theorem nice_dict {n : Nat} : ∀ {es : List (Str × Int)}, (∀ p ∈ es, p.1.cps.size ≤ 5 ∧ (p.1.cps.toList.all fun c => decide (c < 16 ^ 8)) = true ∧ p.2.natAbs < 10 ^ 20) → es.length * 7 ≤ n →
    Nice n 1 (.dict (es.map fun p => (PyData.str p.1, PyData.int p.2))) := by
  intro es h hn
  have key : ∀ es : List (Str × Int), (∀ p ∈ es, p.1.cps.size ≤ 5 ∧ (p.1.cps.toList.all fun c => decide (c < 16 ^ 8)) = true ∧ p.2.natAbs < 10 ^ 20) →
      PyData.showableKv (es.map fun p => (PyData.str p.1, PyData.int p.2)) = true ∧ PyData.leavesShortKv 21 (es.map fun p => (PyData.str p.1, PyData.int p.2)) = true ∧ PyData.bulkKv (es.map fun p => (PyData.str p.1, PyData.int p.2)) ≤ es.length * 7 ∧ PyData.depthKv (es.map fun p => (PyData.str p.1, PyData.int p.2)) = 0 := by
    intro es
    induction es with
    | nil => intro _; exact ⟨by simp only [List.map_nil, PyData.showableKv], by simp only [List.map_nil, PyData.leavesShortKv], by simp only [List.map_nil, PyData.bulkKv, Nat.zero_le], by simp only [List.map_nil, PyData.depthKv]⟩
    | cons p es ih =>
      intro h
      obtain ⟨h1, h2, h3, h4⟩ := ih fun q hq => h q (List.mem_cons_of_mem _ hq)
      obtain ⟨a, b, c⟩ := h p List.mem_cons_self
      obtain ⟨i1, i2, i3, i4⟩ := nice_int c
      obtain ⟨s1, s2, s3, s4⟩ := nice_str a b
      refine ⟨by simp only [List.map_cons, PyData.showableKv, i1, s1, h1, Bool.and_self], by simp only [List.map_cons, PyData.leavesShortKv, i2, s2, h2, Bool.and_self], ?_, ?_⟩
      · simp only [List.map_cons, PyData.bulkKv, List.length_cons]
        omega
      · simp only [List.map_cons, PyData.depthKv]
        omega
  obtain ⟨h1, h2, h3, h4⟩ := key es h
  exact ⟨by simpa only [PyData.showable] using h1, by simpa only [PyData.leavesShort] using h2, by simp only [PyData.bulk]; omega, by simp only [PyData.depth]; omega⟩
/-! ### values of rows -/
theorem strEq {x y : Str} (h : decide (V.str x = V.str y) = true) : x = y := V.str.inj (of_decide_eq_true h)
theorem strNe {x y : Str} (h : ¬ decide (V.str x = V.str y) = true) : ¬ x = y := fun e => h (decide_eq_true (congrArg V.str e))
def argAt (d : Deed) (told : List Int) (k : Nat) : Int := told.getD (d.2.getD k 0).toNat 0
def dvalue (x : Str) (A B size : Int) : Int :=
  if x = "none" then 0 else if x = "one" then 1 else if x = "all" then size - 1 else if x = "not" then size - 1 - A else if x = "neg" then -A else if x = "twice" then A + A
  else if x = "and" then Builtin.bitAnd A B else if x = "or" then Builtin.bitOr A B else if x = "xor" then Builtin.bitXor A B else if x = "add" then A + B else A - B
def dval (size : Int) (d : Deed) (told : List Int) : Int := dvalue d.1 (argAt d told 0) (argAt d told 1) size % size
def vals (size : Int) : List Deed → List Int → List Int
  | [], told => told
  | d :: ds, told => vals size ds (told ++ [dval size d told])
theorem vals_append (size : Int) : ∀ (l1 l2 : List Deed) (t : List Int), vals size (l1 ++ l2) t = vals size l2 (vals size l1 t)
  | [], _, _ => rfl
  | d :: l1, l2, t => vals_append size l1 l2 (t ++ [dval size d t])
theorem vals_len {size : Int} : ∀ (ds : List Deed) (t : List Int), (vals size ds t).length = t.length + ds.length
  | [], _ => rfl
  | d :: ds, t => by
    show (vals size ds (t ++ [dval size d t])).length = _
    rw [vals_len ds, List.length_append, List.length_cons, List.length_cons, List.length_nil]
    omega
theorem vals_next {size : Int} {ds : List Deed} {i : Nat} {d : Deed} {t : List Int} (h : ds[i]? = some d) : vals size (ds.take (i + 1)) t = vals size (ds.take i) t ++ [dval size d (vals size (ds.take i) t)] := by
  rw [List.take_add_one, h, vals_append]
  rfl
theorem atI_ints {l : List Int} {o : Int} (h0 : 0 ≤ o) (h1 : o < l.length) : atI (l.map V.int) o = some (.int (l.getD o.toNat 0)) := by
  obtain ⟨k, rfl⟩ := Int.eq_ofNat_of_zero_le h0
  have hk : k < l.length := by omega
  apply atI_nat
  rw [List.getElem?_map, List.getElem?_eq_getElem hk, Int.toNat_natCast, List.getD_eq_getElem?_getD, List.getElem?_eq_getElem hk]
  rfl
theorem fw_one : ∀ p ∈ fwL, ¬ p.1 = "none" → ¬ p.1 = "one" → ¬ p.1 = "all" → 1 ≤ p.2 := by decide +kernel
theorem fw_two' : ∀ p ∈ fwL, (decide (p.1 ∈ (["none", "one", "all", "not", "neg", "twice"] : List Str)) || decide (2 ≤ p.2)) = true := by decide +kernel
theorem fw_two (p : Str × Int) (h : p ∈ fwL) (n1 : ¬ p.1 = "none") (n2 : ¬ p.1 = "one") (n3 : ¬ p.1 = "all") (n4 : ¬ p.1 = "not") (n5 : ¬ p.1 = "neg") (n6 : ¬ p.1 = "twice") : 2 ≤ p.2 := by
  have e := fw_two' p h
  rw [Bool.or_eq_true] at e
  rcases e with e | e
  · have e2 := of_decide_eq_true e
    simp only [List.mem_cons, List.not_mem_nil, or_false] at e2
    rcases e2 with e2 | e2 | e2 | e2 | e2 | e2
    · exact absurd e2 n1
    · exact absurd e2 n2
    · exact absurd e2 n3
    · exact absurd e2 n4
    · exact absurd e2 n5
    · exact absurd e2 n6
  · exact of_decide_eq_true e
theorem arg_of {d : Deed} {told : List Int} (h : DeedOk told.length d) {k : Nat} (hk : k < d.2.length) : ∃ i, d.2[k]? = some i ∧ 0 ≤ i ∧ atI (told.map V.int) i = some (.int (argAt d told k)) := by
  have hg := List.getElem?_eq_getElem hk
  obtain ⟨i0, i1⟩ := h.ahead _ (List.getElem_mem hk)
  refine ⟨d.2[k], hg, i0, ?_⟩
  rw [atI_ints i0 i1]
  unfold argAt
  rw [List.getD_eq_getElem?_getD (l := d.2), hg]
  rfl
theorem arg1 {d : Deed} {told : List Int} (h : DeedOk told.length d) (n1 : ¬ d.1 = "none") (n2 : ¬ d.1 = "one") (n3 : ¬ d.1 = "all") : ∃ i, d.2[0]? = some i ∧ 0 ≤ i ∧ atI (told.map V.int) i = some (.int (argAt d told 0)) :=
  arg_of h (by have := fw_one _ h.word n1 n2 n3; show 0 < d.2.length; have e : (1 : Int) ≤ (d.2.length : Int) := this; omega)
theorem arg2 {d : Deed} {told : List Int} (h : DeedOk told.length d) (n1 : ¬ d.1 = "none") (n2 : ¬ d.1 = "one") (n3 : ¬ d.1 = "all") (n4 : ¬ d.1 = "not") (n5 : ¬ d.1 = "neg") (n6 : ¬ d.1 = "twice") :
    ∃ i, d.2[1]? = some i ∧ 0 ≤ i ∧ atI (told.map V.int) i = some (.int (argAt d told 1)) :=
  arg_of h (by have := fw_two _ h.word n1 n2 n3 n4 n5 n6; show 1 < d.2.length; have e : (2 : Int) ≤ (d.2.length : Int) := this; omega)
/-! ### the low bits of values -/
theorem pw_cast (n : Nat) : (2 : Int) ^ n = ((2 ^ n : Nat) : Int) := (PySem.W.kbt_cast n).symm
theorem pw_le {n k : Nat} (h : n ≤ k) : (2 : Int) ^ n ≤ 2 ^ k := by
  rw [pw_cast, pw_cast]
  exact Int.ofNat_le.mpr (Nat.pow_le_pow_right (by decide) h)
theorem pw_pos (n : Nat) : (0 : Int) < 2 ^ n := Int.pow_pos (by decide)
theorem castMod (a n : Nat) : ((a : Int) % 2 ^ n) = ((a % 2 ^ n : Nat) : Int) := by rw [pw_cast, Int.natCast_emod]
theorem low_and {A B : Int} (n : Nat) (ha : 0 ≤ A) (hb : 0 ≤ B) : Builtin.bitAnd (A % 2 ^ n) (B % 2 ^ n) % 2 ^ n = Builtin.bitAnd A B % 2 ^ n := by
  obtain ⟨a, rfl⟩ := Int.eq_ofNat_of_zero_le ha
  obtain ⟨b, rfl⟩ := Int.eq_ofNat_of_zero_le hb
  rw [castMod, castMod, bitAnd_pp (Int.natCast_nonneg _) (Int.natCast_nonneg _), bitAnd_pp (Int.natCast_nonneg _) (Int.natCast_nonneg _), castMod, castMod]
  simp only [Int.toNat_natCast]
  rw [Nat.and_mod_two_pow, Nat.and_mod_two_pow, Nat.mod_mod, Nat.mod_mod]
theorem low_or {A B : Int} (n : Nat) (ha : 0 ≤ A) (hb : 0 ≤ B) : Builtin.bitOr (A % 2 ^ n) (B % 2 ^ n) % 2 ^ n = Builtin.bitOr A B % 2 ^ n := by
  obtain ⟨a, rfl⟩ := Int.eq_ofNat_of_zero_le ha
  obtain ⟨b, rfl⟩ := Int.eq_ofNat_of_zero_le hb
  rw [castMod, castMod, bitOr_nn (Int.natCast_nonneg _) (Int.natCast_nonneg _), bitOr_nn (Int.natCast_nonneg _) (Int.natCast_nonneg _), castMod, castMod]
  simp only [Int.toNat_natCast]
  rw [Nat.or_mod_two_pow, Nat.or_mod_two_pow, Nat.mod_mod, Nat.mod_mod]
theorem low_xor {A B : Int} (n : Nat) (ha : 0 ≤ A) (hb : 0 ≤ B) : Builtin.bitXor (A % 2 ^ n) (B % 2 ^ n) % 2 ^ n = Builtin.bitXor A B % 2 ^ n := by
  obtain ⟨a, rfl⟩ := Int.eq_ofNat_of_zero_le ha
  obtain ⟨b, rfl⟩ := Int.eq_ofNat_of_zero_le hb
  rw [castMod, castMod, Bits.bitXor_pp (Int.natCast_nonneg _) (Int.natCast_nonneg _), Bits.bitXor_pp (Int.natCast_nonneg _) (Int.natCast_nonneg _), castMod, castMod]
  simp only [Int.toNat_natCast]
  rw [Nat.xor_mod_two_pow, Nat.xor_mod_two_pow, Nat.mod_mod, Nat.mod_mod]
theorem pw_dvd {n k : Nat} (h : n ≤ k) : (2 : Int) ^ n ∣ 2 ^ k := ⟨2 ^ (k - n), by rw [← Int.pow_add]; congr 1; omega⟩
theorem emod_same {a b m : Int} (k : Int) (h : a - b = m * k) : a % m = b % m := Int.emod_eq_emod_iff_emod_sub_eq_zero.mpr (by rw [h]; exact Int.mul_emod_right m k)
theorem dvalue_low' {x : Str} {N c qa qb ra rb A B : Int} (ea : N * qa + ra = A) (eb : N * qb + rb = B) (l1 : Builtin.bitAnd ra rb % N = Builtin.bitAnd A B % N) (l2 : Builtin.bitOr ra rb % N = Builtin.bitOr A B % N)
    (l3 : Builtin.bitXor ra rb % N = Builtin.bitXor A B % N) : dvalue x ra rb N % N = dvalue x A B (N * c) % N := by
  unfold dvalue
  by_cases h1 : x = "none"
  · rw [if_pos h1, if_pos h1]
  rw [if_neg h1, if_neg h1]
  by_cases h2 : x = "one"
  · rw [if_pos h2, if_pos h2]
  rw [if_neg h2, if_neg h2]
  by_cases h3 : x = "all"
  · rw [if_pos h3, if_pos h3]
    exact emod_same (1 - c) (by rw [Int.mul_sub, Int.mul_one]; omega)
  rw [if_neg h3, if_neg h3]
  by_cases h4 : x = "not"
  · rw [if_pos h4, if_pos h4]
    exact emod_same (1 - c + qa) (by rw [Int.mul_add, Int.mul_sub, Int.mul_one]; omega)
  rw [if_neg h4, if_neg h4]
  by_cases h5 : x = "neg"
  · rw [if_pos h5, if_pos h5]
    exact emod_same qa (by omega)
  rw [if_neg h5, if_neg h5]
  by_cases h6 : x = "twice"
  · rw [if_pos h6, if_pos h6]
    exact emod_same (-qa - qa) (by rw [Int.mul_sub, Int.mul_neg]; omega)
  rw [if_neg h6, if_neg h6]
  by_cases h7 : x = "and"
  · rw [if_pos h7, if_pos h7]
    exact l1
  rw [if_neg h7, if_neg h7]
  by_cases h8 : x = "or"
  · rw [if_pos h8, if_pos h8]
    exact l2
  rw [if_neg h8, if_neg h8]
  by_cases h9 : x = "xor"
  · rw [if_pos h9, if_pos h9]
    exact l3
  rw [if_neg h9, if_neg h9]
  by_cases h10 : x = "add"
  · rw [if_pos h10, if_pos h10]
    exact emod_same (-qa - qb) (by rw [Int.mul_sub, Int.mul_neg]; omega)
  rw [if_neg h10, if_neg h10]
  exact emod_same (qb - qa) (by rw [Int.mul_sub]; omega)
theorem dvalue_low {x : Str} {A B : Int} {n k : Nat} (hA : 0 ≤ A) (hB : 0 ≤ B) (h : n ≤ k) : dvalue x (A % 2 ^ n) (B % 2 ^ n) (2 ^ n) % 2 ^ n = dvalue x A B (2 ^ k) % 2 ^ n := by
  obtain ⟨c, hc⟩ := pw_dvd h
  rw [hc]
  exact dvalue_low' (Int.mul_ediv_add_emod A (2 ^ n)) (Int.mul_ediv_add_emod B (2 ^ n)) (low_and n hA hB) (low_or n hA hB) (low_xor n hA hB)
theorem getD_low (N : Int) (l : List Int) (i : Nat) : (l.map (· % N)).getD i 0 = l.getD i 0 % N := by
  rw [List.getD_eq_getElem?_getD, List.getD_eq_getElem?_getD, List.getElem?_map]
  cases l[i]? with
  | none => exact (Int.zero_emod N).symm
  | some y => rfl
theorem arg_nn {told : List Int} (h : ∀ x ∈ told, 0 ≤ x) (d : Deed) (j : Nat) : 0 ≤ argAt d told j := by
  unfold argAt
  rw [List.getD_eq_getElem?_getD]
  cases e : told[(d.2.getD j 0).toNat]? with
  | none => exact Int.le_refl 0
  | some y => exact h y (List.mem_of_getElem? e)
theorem dval_low {d : Deed} {told : List Int} {n k : Nat} (h : ∀ x ∈ told, 0 ≤ x) (hk : n ≤ k) : dval (2 ^ n) d (told.map (· % 2 ^ n)) = dval (2 ^ k) d told % 2 ^ n := by
  unfold dval
  have e : ∀ j, argAt d (told.map (· % 2 ^ n)) j = argAt d told j % 2 ^ n := fun j => getD_low _ _ _
  rw [e, e, dvalue_low (arg_nn h d 0) (arg_nn h d 1) hk, Int.emod_emod_of_dvd _ (pw_dvd hk)]
theorem vals_low {n k : Nat} (hk : n ≤ k) : ∀ (ds : List Deed) (told : List Int), (∀ x ∈ told, 0 ≤ x) → vals (2 ^ n) ds (told.map (· % 2 ^ n)) = (vals (2 ^ k) ds told).map (· % 2 ^ n)
  | [], _, _ => rfl
  | d :: ds, told, h => by
    show vals (2 ^ n) ds (told.map (· % 2 ^ n) ++ [dval (2 ^ n) d (told.map (· % 2 ^ n))]) = (vals (2 ^ k) ds (told ++ [dval (2 ^ k) d told])).map (· % 2 ^ n)
    rw [dval_low h hk, ← vals_low hk ds, List.map_append]
    · rfl
    · intro x hx
      rcases List.mem_append.mp hx with hx | hx
      · exact h x hx
      · rw [List.mem_singleton.mp hx]
        exact Int.emod_nonneg _ (by have := pw_pos k; omega)
theorem vals_range {size : Int} (hs : 0 < size) : ∀ (ds : List Deed) (told : List Int), (∀ x ∈ told, 0 ≤ x ∧ x < size) → ∀ x ∈ vals size ds told, 0 ≤ x ∧ x < size
  | [], _, h => h
  | d :: ds, told, h => by
    refine vals_range hs ds (told ++ [dval size d told]) fun x hx => ?_
    rcases List.mem_append.mp hx with hx | hx
    · exact h x hx
    · rw [List.mem_singleton.mp hx]
      exact ⟨Int.emod_nonneg _ (by omega), Int.emod_lt_of_pos _ hs⟩
/-! ### lists of ints compared -/
theorem eqv_ints : ∀ l : List Int, PyData.eqv (.list (l.map PyData.int)) (.list (l.map PyData.int)) = true := fun l => SeqAt.eqv_refl _ (SeqAt.canLay_of_shaped (shaped_ints l))
theorem dget_at {H : Hp} {a : Addr} {kvs : List (Key × V)} {k : Key} {v : V} (e : H a = some (.dK kvs)) (h : valV kvs k = some v) : DGet H a (kV k) (some v) := h ▸ DGet.k e
theorem fw_cases {x : Str} {n : Nat} (h : (x, (n : Int)) ∈ fwL) : (n = 0 ∧ (x = "none" ∨ x = "one" ∨ x = "all")) ∨ (n = 1 ∧ (x = "not" ∨ x = "neg" ∨ x = "twice")) ∨ (n = 2 ∧ (x = "and" ∨ x = "or" ∨ x = "xor" ∨ x = "add" ∨ x = "sub")) := by
  unfold fwL at h
  simp only [List.mem_cons, List.not_mem_nil, or_false, Prod.mk.injEq] at h
  rcases h with h | h | h | h | h | h | h | h | h | h | h
  · exact .inl ⟨by omega, .inl h.1⟩
  · exact .inl ⟨by omega, .inr (.inl h.1)⟩
  · exact .inl ⟨by omega, .inr (.inr h.1)⟩
  · exact .inr (.inl ⟨by omega, .inl h.1⟩)
  · exact .inr (.inl ⟨by omega, .inr (.inl h.1)⟩)
  · exact .inr (.inl ⟨by omega, .inr (.inr h.1)⟩)
  · exact .inr (.inr ⟨by omega, .inl h.1⟩)
  · exact .inr (.inr ⟨by omega, .inr (.inl h.1)⟩)
  · exact .inr (.inr ⟨by omega, .inr (.inr (.inl h.1))⟩)
  · exact .inr (.inr ⟨by omega, .inr (.inr (.inr (.inl h.1)))⟩)
  · exact .inr (.inr ⟨by omega, .inr (.inr (.inr (.inr h.1)))⟩)
theorem and_lt {A B : Int} {n : Nat} (a0 : 0 ≤ A) (a1 : A < 2 ^ n) (b0 : 0 ≤ B) : Builtin.bitAnd A B % 2 ^ n = Builtin.bitAnd A B := by
  obtain ⟨a, rfl⟩ := Int.eq_ofNat_of_zero_le a0
  obtain ⟨b, rfl⟩ := Int.eq_ofNat_of_zero_le b0
  rw [bitAnd_pp (Int.natCast_nonneg _) (Int.natCast_nonneg _), castMod]
  rw [pw_cast] at a1
  simp only [Int.toNat_natCast]
  rw [Nat.mod_eq_of_lt (Nat.lt_of_le_of_lt Nat.and_le_left (by omega))]
theorem or_lt {A B : Int} {n : Nat} (a0 : 0 ≤ A) (a1 : A < 2 ^ n) (b0 : 0 ≤ B) (b1 : B < 2 ^ n) : Builtin.bitOr A B % 2 ^ n = Builtin.bitOr A B := by
  obtain ⟨a, rfl⟩ := Int.eq_ofNat_of_zero_le a0
  obtain ⟨b, rfl⟩ := Int.eq_ofNat_of_zero_le b0
  rw [bitOr_nn (Int.natCast_nonneg _) (Int.natCast_nonneg _), castMod]
  rw [pw_cast] at a1 b1
  simp only [Int.toNat_natCast]
  rw [Nat.mod_eq_of_lt (Nat.or_lt_two_pow (by omega) (by omega))]
theorem xor_lt {A B : Int} {n : Nat} (a0 : 0 ≤ A) (a1 : A < 2 ^ n) (b0 : 0 ≤ B) (b1 : B < 2 ^ n) : Builtin.bitXor A B % 2 ^ n = Builtin.bitXor A B := by
  obtain ⟨a, rfl⟩ := Int.eq_ofNat_of_zero_le a0
  obtain ⟨b, rfl⟩ := Int.eq_ofNat_of_zero_le b0
  rw [Bits.bitXor_pp (Int.natCast_nonneg _) (Int.natCast_nonneg _), castMod]
  rw [pw_cast] at a1 b1
  simp only [Int.toNat_natCast]
  rw [Nat.mod_eq_of_lt (Nat.xor_lt_two_pow (by omega) (by omega))]
/-! ### all but the first -/
theorem sIx_one (x : V) (xs : List V) : HT.sIx (x :: xs).length 0 (some 1) = 1 := by
  have e : HT.sIx (x :: xs).length 0 (some 1) = min 1 (x :: xs).length := HT.sIx_nat (x :: xs).length 0 1
  rw [e, List.length_cons]
  omega
theorem cutTail (x : V) (xs : List V) : cutV (x :: xs) (some 1) none = xs := by
  have h2 : HT.sIx (x :: xs).length (x :: xs).length none = (x :: xs).length := HT.sIx_none _ _
  unfold cutV
  rw [sIx_one, h2]
  simp
theorem notWhole (x : V) (xs : List V) : ¬ (HT.sIx (x :: xs).length 0 (some 1) = 0 ∧ HT.sIx (x :: xs).length (x :: xs).length none = (x :: xs).length) := by
  rw [sIx_one]
  exact fun h => absurd h.1 (by decide)
theorem intEq {x y : Int} (h : decide (V.int x = V.int y) = true) : x = y := V.int.inj (of_decide_eq_true h)
theorem intNe {x y : Int} (h : ¬ decide (V.int x = V.int y) = true) : ¬ x = y := fun e => h (decide_eq_true (congrArg V.int e))
/-! ### t + u of two tuples at hand, whatever they hold -/
section
variable {X : Cx}
def rCatZ : R2 := fun x y H Q => ∃ a b xs ys, x = .ref a ∧ y = .ref b ∧ H a = some (.tup xs) ∧ H b = some (.tup ys) ∧ xs.length + ys.length ≤ sizeLine ∧ ∀ p H2, Same H H2 → H2 p = some (.tup (xs ++ ys)) → Q (.ref p) H2
theorem op_catZ : OpR X (binaryOp .Add) rCatZ := by
  intro pins s σ H x y v u Q I rx ry h
  obtain ⟨a, b, xs, ys, rfl, rfl, ha, hb, hz, q⟩ := h
  refine op_catA pins s σ H _ _ v u Q I rx ry ⟨a, b, xs, ys, rfl, rfl, SqT.of ha, SqT.of hb, hz, fun e => ?_, fun _ e => ?_, fun _ _ p hp => ?_⟩
  · subst e
    exact q b H (Same.refl H) hb
  · subst e
    exact q a H (Same.refl H) (by rw [List.append_nil]; exact ha)
  · exact q p _ (same_new hp) upd_same
end
theorem awAppend {α β : Type} {F : α → β → Prop} : ∀ {l k : List α} {l2 k2 : List β}, Paired F l l2 → Paired F k k2 → Paired F (l ++ k) (l2 ++ k2)
  | _, _, _, _, .nil, h => h
  | _, _, _, _, .cons r t, h => .cons r (awAppend t h)
theorem dsOk_append {m t : Int} {ds es : List Deed} (h : DsOk m ds) (k : DsOk t es) (e : t = m + ds.length) : DsOk m (ds ++ es) := by
  constructor
  intro i d hi
  by_cases hl : i < ds.length
  · rw [List.getElem?_append_left hl] at hi
    exact h.each i d hi
  · rw [List.getElem?_append_right (by omega)] at hi
    have := k.each _ d hi
    rw [e] at this
    have e2 : m + (ds.length : Int) + ((i - ds.length : Nat) : Int) = m + i := by omega
    rw [e2] at this
    exact this
/-- all but one stands as it stood -/
def But (f : Addr) (H H2 : Hp) : Prop := ∀ b o, b ≠ f → H b = some o → H2 b = some o
theorem But.trans {f : Addr} {H H1 H2 : Hp} (a : But f H H1) (b : But f H1 H2) : But f H H2 := fun c o n e => b c o n (a c o n e)
theorem But.same {f : Addr} {H H2 : Hp} (s : Same H H2) : But f H H2 := fun b o _ e => s b o e
theorem But.put {f : Addr} {H : Hp} {o : HO} : But f H (upd H f o) := fun b u n e => by
  rw [upd_ne n]
  exact e
theorem But.tups {f : Addr} {H H2 : Hp} {xs : List V} (h : But f H H2) (e : H f = some (.lst xs)) : TupsStay H H2 := fun b ys z => h b _ (ne_of z e (fun q => nomatch q)) z
/-! ### the tape -/
def TP (H : Hp) (a : Addr) : Prop := ∃ x y : Int, H a = some (.lst [.int x, .int y])
theorem TP.same {H H2 : Hp} {a : Addr} (h : TP H a) (s : Same H H2) : TP H2 a := by
  obtain ⟨x, y, e⟩ := h
  exact ⟨x, y, s _ _ e⟩
theorem TP.ne_new {H : Hp} {a p : Addr} (h : TP H a) (e : H p = none) : p ≠ a := by
  obtain ⟨x, y, e1⟩ := h
  exact (ne_of_none e1 e).symm
theorem TP.upd {H : Hp} {a p : Addr} {o : HO} (h : TP H a) (n : p ≠ a) : TP (upd H p o) a := by
  obtain ⟨x, y, e1⟩ := h
  exact ⟨x, y, by rw [upd_ne n.symm]; exact e1⟩
theorem But.tape {a : Addr} {H H2 : Hp} (h : But a H H2) (t : TP H a) : TupsStay H H2 := by
  obtain ⟨x, y, e⟩ := t
  exact h.tups e
theorem But.refl (a : Addr) (H : Hp) : But a H H := fun _ _ _ e => e
theorem atI_in {α : Type} {l : List α} {i : Int} (h0 : 0 ≤ i) (h1 : i < l.length) : ∃ v, atI l i = some v ∧ v ∈ l := by
  obtain ⟨k, rfl⟩ := Int.eq_ofNat_of_zero_le h0
  have hk : k < l.length := by omega
  exact ⟨l[k], atI_nat (List.getElem?_eq_getElem hk), List.getElem_mem hk⟩
/-! ### texts in written tuples -/
theorem inS (x : Str) : ∀ l : List Str, inV (.str x) (l.map V.str) = decide (x ∈ l)
  | [] => rfl
  | y :: l => by
    have ih := inS x l
    show (eqV (.str y) (.str x) || inV (.str x) (l.map V.str)) = _
    rw [ih]
    by_cases h : x = y
    · subst h
      simp [eqV]
    · have h2 : ¬ y = x := fun e => h e.symm
      simp [eqV, h, h2]
def tw12 : List Str := ["add", "sub", "and", "xor", "or", "not", "twice", "neg", "all", "one", "none", "add"]
def twC : List Str := ["add", "sub", "twice", "neg", "one"]
theorem tw_zero : ∀ x ∈ (["all", "one", "none"] : List Str), (x, (0 : Int)) ∈ fwL := by decide +kernel
theorem tw_one : ∀ x ∈ (["not", "twice", "neg"] : List Str), (x, (1 : Int)) ∈ fwL := by decide +kernel
theorem tw_two : ∀ x ∈ tw12, x ∈ (["all", "one", "none"] : List Str) ∨ x ∈ (["not", "twice", "neg"] : List Str) ∨ (x, (2 : Int)) ∈ fwL := by decide +kernel
theorem tw_four : ∀ x ∈ (["and", "or", "xor", "not"] : List Str), x ∈ tw12 := by decide +kernel
theorem mem_strs {v : V} {l : List Str} (h : v ∈ l.map V.str) : ∃ x, x ∈ l ∧ v = .str x := by
  obtain ⟨x, hx, e⟩ := List.mem_map.mp h
  exact ⟨x, hx, e.symm⟩
/-! ### bits and carries of rows -/
def fcD (d : Deed) : Int := if d.1 ∈ (["neg", "one"] : List Str) then 1 else 0
def dbit (x : Str) (a b c : Int) : Int :=
  if x = "none" then 0 else if x = "all" then 1 else if x = "one" then c else if x = "twice" then c else if x = "not" then 1 - a else if x = "neg" then Builtin.bitXor (1 - a) c
  else if x = "and" then Builtin.bitAnd a b else if x = "or" then Builtin.bitOr a b else if x = "xor" then Builtin.bitXor a b else Builtin.bitXor (Builtin.bitXor a b) c
def dcar (x : Str) (a b c : Int) : Int :=
  if x = "neg" then Builtin.bitAnd (1 - a) c else if x = "twice" then a else if x = "add" then (a + b + c) / 2 else if x = "sub" then (1 - a + b + c) / 2 else 0
def dbitAt (d : Deed) (c : Int) (told : List Int) : Int := dbit d.1 (argAt d told 0) (argAt d told 1) c
def dcarAt (d : Deed) (c : Int) (told : List Int) : Int := dcar d.1 (argAt d told 0) (argAt d told 1) c
def bts : List Deed → List Int → List Int → List Int
  | d :: ds, c :: cs, told => bts ds cs (told ++ [dbitAt d c told])
  | _, _, told => told
def nxt (ds : List Deed) (cs told : List Int) : List Int := List.zipWith (fun d c => dcarAt d c told) ds cs
abbrev Bit (x : Int) : Prop := x = 0 ∨ x = 1
theorem bit0 : Bit 0 := .inl rfl
theorem bit1 : Bit 1 := .inr rfl
theorem dbit_bit {x : Str} {a b c : Int} (ha : Bit a) (hb : Bit b) (hc : Bit c) : Bit (dbit x a b c) := by
  have n1 : Bit (1 - a) := by rcases ha with rfl | rfl <;> simp [Bit]
  have hx : ∀ {p q : Int}, Bit p → Bit q → Bit (Builtin.bitXor p q) := fun hp hq => by
    rcases hp with rfl | rfl <;> rcases hq with rfl | rfl <;> decide
  have hand : ∀ {p q : Int}, Bit p → Bit q → Bit (Builtin.bitAnd p q) := fun hp hq => by
    rcases hp with rfl | rfl <;> rcases hq with rfl | rfl <;> decide
  have hor : ∀ {p q : Int}, Bit p → Bit q → Bit (Builtin.bitOr p q) := fun hp hq => by
    rcases hp with rfl | rfl <;> rcases hq with rfl | rfl <;> decide
  unfold dbit
  split; · exact bit0
  split; · exact bit1
  split; · exact hc
  split; · exact hc
  split; · exact n1
  split; · exact hx n1 hc
  split; · exact hand ha hb
  split; · exact hor ha hb
  split; · exact hx ha hb
  exact hx (hx ha hb) hc
theorem dcar_bit {x : Str} {a b c : Int} (ha : Bit a) (hb : Bit b) (hc : Bit c) : Bit (dcar x a b c) := by
  unfold dcar
  split
  · rcases ha with rfl | rfl <;> rcases hc with rfl | rfl <;> decide
  split; · exact ha
  split
  · rcases ha with rfl | rfl <;> rcases hb with rfl | rfl <;> rcases hc with rfl | rfl <;> decide
  split
  · rcases ha with rfl | rfl <;> rcases hb with rfl | rfl <;> rcases hc with rfl | rfl <;> decide
  exact bit0
theorem argAt_bit {told : List Int} (h : ∀ x ∈ told, Bit x) (d : Deed) (j : Nat) : Bit (argAt d told j) := by
  unfold argAt
  rw [List.getD_eq_getElem?_getD]
  cases e : told[(d.2.getD j 0).toNat]? with
  | none => exact bit0
  | some y => exact h y (List.mem_of_getElem? e)
theorem bts_next : ∀ {ds : List Deed} {cs t : List Int} {i : Nat} {d : Deed} {c : Int}, ds[i]? = some d → cs[i]? = some c → bts (ds.take (i + 1)) (cs.take (i + 1)) t = bts (ds.take i) (cs.take i) t ++ [dbitAt d c (bts (ds.take i) (cs.take i) t)]
  | [], _, _, _, _, _, h, _ => by simp at h
  | _ :: _, [], _, _, _, _, _, h => by simp at h
  | e :: ds, g :: cs, t, 0, d, c, h, k => by
    simp only [List.getElem?_cons_zero, Option.some.injEq] at h k
    subst h k
    rfl
  | e :: ds, g :: cs, t, i + 1, d, c, h, k => by
    simp only [List.getElem?_cons_succ] at h k
    exact bts_next (t := t ++ [dbitAt e g t]) h k
theorem bts_len : ∀ {ds : List Deed} {cs t : List Int}, ds.length = cs.length → (bts ds cs t).length = t.length + ds.length
  | [], [], _, _ => rfl
  | [], _ :: _, _, h => by simp at h
  | _ :: _, [], _, h => by simp at h
  | d :: ds, c :: cs, t, h => by
    show (bts ds cs (t ++ [dbitAt d c t])).length = _
    rw [bts_len (by simpa using h), List.length_append, List.length_cons, List.length_cons, List.length_nil]
    omega
theorem bts_bits : ∀ {ds : List Deed} {cs t : List Int}, (∀ x ∈ t, Bit x) → (∀ x ∈ cs, Bit x) → ∀ x ∈ bts ds cs t, Bit x
  | [], cs, t, h, _ => by
    unfold bts
    exact h
  | _ :: _, [], t, h, _ => by
    unfold bts
    exact h
  | d :: ds, c :: cs, t, h, k => by
    refine bts_bits (ds := ds) (cs := cs) (t := t ++ [dbitAt d c t]) (fun x hx => ?_) fun x hx => k x (List.mem_cons_of_mem _ hx)
    rcases List.mem_append.mp hx with hx | hx
    · exact h x hx
    · rw [List.mem_singleton.mp hx]
      exact dbit_bit (argAt_bit h d 0) (argAt_bit h d 1) (k c List.mem_cons_self)
theorem nxt_len {ds : List Deed} {cs t : List Int} (h : ds.length = cs.length) : (nxt ds cs t).length = ds.length := by
  unfold nxt
  rw [List.length_zipWith]
  omega
theorem nxt_bits {ds : List Deed} {cs t : List Int} (h : ∀ x ∈ t, Bit x) (k : ∀ x ∈ cs, Bit x) : ∀ x ∈ nxt ds cs t, Bit x := by
  intro x hx
  unfold nxt at hx
  obtain ⟨i, hi⟩ := List.mem_iff_getElem?.mp hx
  rw [List.getElem?_zipWith] at hi
  cases e1 : ds[i]? with
  | none => rw [e1] at hi; simp at hi
  | some d =>
    cases e2 : cs[i]? with
    | none => rw [e1, e2] at hi; simp at hi
    | some c =>
      rw [e1, e2] at hi
      have := Option.some.inj hi
      rw [← this]
      exact dcar_bit (argAt_bit h d 0) (argAt_bit h d 1) (k c (List.mem_of_getElem? e2))
theorem nxt_next {ds : List Deed} {cs t : List Int} {i : Nat} {d : Deed} {c : Int} (h : ds[i]? = some d) (k : cs[i]? = some c) : (nxt ds cs t).take (i + 1) = (nxt ds cs t).take i ++ [dcarAt d c t] := by
  rw [List.take_add_one]
  unfold nxt
  rw [List.getElem?_zipWith, h, k]
  rfl
section
variable {K : PySem.W.Frag} {a b : Addr} {xs ys : List V}
theorem walk_zipT (hn : xs.length = ys.length) : Walk (RZ.ItzT K a b) xs.length (fun H => SqT K H a xs ∧ SqT K H b ys) (YPair (fun i => xs[i]?) (fun i => ys[i]?)) where
  goes := fun i H hi q => ⟨xs, ys, xs[i], ys[i]'(by omega), q.1, q.2, List.getElem?_eq_getElem hi, List.getElem?_eq_getElem (by omega)⟩
  stops := fun H q => ⟨xs, ys, q.1, q.2, .inl (Nat.le_refl _)⟩
  yields := fun i H v H2 hi q y => by
    obtain ⟨T, x, z, h1, h2, h3, h4, h5⟩ := y
    exact ⟨T, x, z, h1, h2, h3, h4 xs q.1, h5 ys q.2⟩
end
/-! ### own exceptions as values -/
section
variable {X : Cx} {K : PySem.W.Frag}
theorem kit_ref {D C : Addr} {b : Bool} (h1 : PySem.W.isClsIn K C = true) (h2 : PySem.W.typeIn K (.ref C) = some (.type "type")) (h3 : PySem.W.subIn K (.ref D) (.ref C) = some b) (h4 : PySem.W.subIn K (.ref C) (.ref C) = some true) : PySem.W.kitOne K (.ref D) (.ref C) = some b := by
  unfold PySem.W.kitOne
  by_cases e : D = C
  · subst e
    rw [h3] at h4
    rw [if_pos (by simp), h4]
  · rw [if_neg (by simpa using e)]
    have e1 : ((PySem.W.clsIn K C).isSome && PySem.W.typeIn K (.ref C) == some (.type "type")) = true := by
      have h1' : (PySem.W.clsIn K C).isSome = true := h1
      rw [h1', h2]
      rfl
    show (if ((PySem.W.clsIn K C).isSome && PySem.W.typeIn K (.ref C) == some (.type "type")) = true then PySem.W.subIn K (.ref D) (.ref C) else none) = some b
    rw [if_pos e1]
    exact h3
theorem kit_ve {D : Addr} {b : Bool} (h : PySem.W.subIn K (.ref D) (.type "ValueError") = some b) : PySem.W.kitOne K (.ref D) (.type "ValueError") = some b := by
  have e1 : PySem.W.kitMeta "ValueError" = true := by decide +kernel
  show (if PySem.W.kitMeta "ValueError" = true then PySem.W.subIn K (.ref D) (.type "ValueError") else none) = some b
  rw [if_pos e1]
  exact h
def rIsX (K : PySem.W.Frag) : List V → Hp → VK → Prop := fun xs H Q => ∃ (a D : Addr) (c : V) (cv : Value) (b : Bool), xs = [.ref a, c] ∧ H a = some (ExO (.ref D) a) ∧ ExcC K D ∧ ClsV c cv ∧ PySem.W.kitOne K (.ref D) cv = some b ∧ Q (.bl b) H
theorem call_isX : CallR X (.builtin "isinstance") (rIsX X.K) := by
  intro pins s σ H xs us Q I r h
  obtain ⟨a, D, c, cv, b, rfl, ha, hD, hc, hk, q⟩ := h
  match us, r with
  | [u1, u2], .cons r1 (.cons r2 .nil) =>
    obtain rfl : u1 = Value.ref a := r1
    obtain rfl := ClsV.eq hc r2
    obtain ⟨⟨oe, vs, hget, ⟨z1, z2⟩, hv, _⟩, _, _⟩ := I.hok a _ ha
    have J : PySem.W.InstAt s.heap a oe D none := by
      obtain ⟨oc, od, oda, osl⟩ := oe
      dsimp only at z1 z2 hv
      subst z1 z2 hv
      exact ⟨hget, rfl, rfl, trivial⟩
    exact PySem.W.kia_one (PySem.W.handS_kitx_exc hD.hg hD.hk hD.hs hD.hd hD.ha hD.hn hD.ht hD.hm) I.kIn J hk (fun z => nomatch z) fun tk => ⟨.bl b, H, I.kept (t' := tk) fun _ _ z => z, rfl, q⟩
end
theorem dp_bls {K : PySem.W.Frag} {H : Hp} : ∀ cs : List Bool, DpAll K H (cs.map V.bl) (cs.map PyData.bool)
  | [] => .nil
  | c :: cs => .cons (.bl c) (dp_bls cs)
theorem lay_bls : ∀ cs : List Bool, PyData.canLayAll0 (cs.map PyData.bool) = true ∧ PyData.depthAll (cs.map PyData.bool) = 0
  | [] => ⟨by simp only [List.map_nil, PyData.canLayAll0], by simp only [List.map_nil, PyData.depthAll]⟩
  | c :: cs => by
    obtain ⟨h1, h2⟩ := lay_bls cs
    exact ⟨by simp only [List.map_cons, PyData.canLayAll0, PyData.canLay0, h1, Bool.and_self], by simp only [List.map_cons, PyData.depthAll, PyData.depth, h2, Nat.max_self]⟩
theorem shaped_bls (cs : List Bool) : SeqAt.shaped (.list (cs.map PyData.bool)) = true := by
  obtain ⟨h1, h2⟩ := lay_bls cs
  simp only [SeqAt.shaped, PyData.canLay0, PyData.depth, h1, h2, Bool.true_and]
  decide
theorem eqv_bls (l : List Bool) : PyData.eqv (.list (l.map PyData.bool)) (.list (l.map PyData.bool)) = true := SeqAt.eqv_refl _ (SeqAt.canLay_of_shaped (shaped_bls l))
/-- a test that is never asked -/
def tNevT : TT := fun _ _ _ => False
theorem pt_never {X : Cx} {e : Expr} : PT X e tNevT := ⟨fun _ _ _ _ _ _ h => h.elim⟩
end AW
namespace KK
open PySem PySem.Spec PyProof.Rows L2 AW
def topS (i : Nat) : Stmt := PySem.Challenge.pw_anywide_k36_one_to_one_or_meet.main.body.getD i (.Pass ⟨0, 0, 0, 0⟩)
abbrev s_all_bits : Stmt := topS 1
abbrev N_all_bits : List Str := ["many", "choices", "place", "bits", "bit"]
theorem sc_all_bits : FnScope N_all_bits ["many"] (defScope s_all_bits) := ⟨rfl, rfl, rfl, by decide +kernel, rfl, by decide +kernel, by decide +kernel⟩
abbrev s_first_carry : Stmt := topS 2
abbrev N_first_carry : List Str := ["row", "deed"]
theorem sc_first_carry : FnScope N_first_carry ["row"] (defScope s_first_carry) := ⟨rfl, rfl, rfl, by decide +kernel, rfl, by decide +kernel, by decide +kernel⟩
abbrev s_deed_bit : Stmt := topS 3
abbrev N_deed_bit : List Str := ["deed", "held", "told", "word", "first", "second"]
theorem sc_deed_bit : FnScope N_deed_bit ["deed", "held", "told"] (defScope s_deed_bit) := ⟨rfl, rfl, rfl, by decide +kernel, rfl, by decide +kernel, by decide +kernel⟩
abbrev s_bits_of : Stmt := topS 4
abbrev N_bits_of : List Str := ["row", "carry", "bits", "told", "deed", "held"]
theorem sc_bits_of : FnScope N_bits_of ["row", "carry", "bits"] (defScope s_bits_of) := ⟨rfl, rfl, rfl, by decide +kernel, rfl, by decide +kernel, by decide +kernel⟩
abbrev s_two_or_more : Stmt := topS 5
abbrev N_two_or_more : List Str := ["one", "other", "third"]
theorem sc_two_or_more : FnScope N_two_or_more ["one", "other", "third"] (defScope s_two_or_more) := ⟨rfl, rfl, rfl, by decide +kernel, rfl, by decide +kernel, by decide +kernel⟩
abbrev s_deed_carry : Stmt := topS 6
abbrev N_deed_carry : List Str := ["deed", "held", "told", "word"]
theorem sc_deed_carry : FnScope N_deed_carry ["deed", "held", "told"] (defScope s_deed_carry) := ⟨rfl, rfl, rfl, by decide +kernel, rfl, by decide +kernel, by decide +kernel⟩
abbrev s_carry_behind : Stmt := topS 7
abbrev N_carry_behind : List Str := ["row", "carry", "told", "deed", "held"]
theorem sc_carry_behind : FnScope N_carry_behind ["row", "carry", "told"] (defScope s_carry_behind) := ⟨rfl, rfl, rfl, by decide +kernel, rfl, by decide +kernel, by decide +kernel⟩
abbrev s_steps : Stmt := topS 8
abbrev N_steps : List Str := ["row", "carry", "told", "bits", "all_told"]
theorem sc_steps : FnScope N_steps ["row", "carry"] (defScope s_steps) := ⟨rfl, rfl, rfl, by decide +kernel, rfl, by decide +kernel, by decide +kernel⟩
abbrev s_kept_steps : Stmt := topS 9
abbrev N_kept_steps : List Str := ["kept", "row", "carry"]
theorem sc_kept_steps : FnScope N_kept_steps ["kept", "row", "carry"] (defScope s_kept_steps) := ⟨rfl, rfl, rfl, by decide +kernel, rfl, by decide +kernel, by decide +kernel⟩
abbrev s_words_of : Stmt := topS 21
abbrev N_words_of : List Str := ["many", "columns", "words", "place", "bits", "at", "bit"]
theorem sc_words_of : FnScope N_words_of ["many", "columns"] (defScope s_words_of) := ⟨rfl, rfl, rfl, by decide +kernel, rfl, by decide +kernel, by decide +kernel⟩
abbrev s_check_single : Stmt := topS 23
abbrev N_check_single : List Str := ["row"]
theorem sc_check_single : FnScope N_check_single ["row"] (defScope s_check_single) := ⟨rfl, rfl, rfl, by decide +kernel, rfl, by decide +kernel, by decide +kernel⟩
abbrev s_turned : Stmt := topS 24
abbrev N_turned : List Str := ["row", "walk", "at", "bit", "after", "others_bit", "others_after", "below", "one"]
theorem sc_turned : FnScope N_turned ["row"] (defScope s_turned) := ⟨rfl, rfl, rfl, by decide +kernel, rfl, by decide +kernel, by decide +kernel⟩
abbrev s_is_turning : Stmt := topS 25
abbrev N_is_turning : List Str := ["row", "carries", "listed", "carry", "bit", "after", "others_bit", "others_after"]
theorem sc_is_turning : FnScope N_is_turning ["row", "carries"] (defScope s_is_turning) := ⟨rfl, rfl, rfl, by decide +kernel, rfl, by decide +kernel, by decide +kernel⟩
abbrev s_gone_up : Stmt := topS 26
abbrev N_gone_up : List Str := ["row", "kept", "least", "place", "wanted", "told", "carry", "low", "top", "bit", "after", "word"]
theorem sc_gone_up : FnScope N_gone_up ["row", "kept", "least", "place", "wanted"] (defScope s_gone_up) := ⟨rfl, rfl, rfl, by decide +kernel, rfl, by decide +kernel, by decide +kernel⟩
abbrev s_gone_back : Stmt := topS 27
abbrev N_gone_back : List Str := ["row", "width", "word", "kept", "least", "place"]
theorem sc_gone_back : FnScope N_gone_back ["row", "width", "word"] (defScope s_gone_back) := ⟨rfl, rfl, rfl, by decide +kernel, rfl, by decide +kernel, by decide +kernel⟩
abbrev s_law_tape : Stmt := topS 29
abbrev N_law_tape : List Str := ["script", "start", "cell"]
theorem sc_law_tape : FnScope N_law_tape ["script", "start"] (defScope s_law_tape) := ⟨rfl, rfl, rfl, by decide +kernel, rfl, by decide +kernel, by decide +kernel⟩
abbrev s_law_digit : Stmt := topS 30
abbrev N_law_digit : List Str := ["tape", "many", "found", "more"]
theorem sc_law_digit : FnScope N_law_digit ["tape", "many"] (defScope s_law_digit) := ⟨rfl, rfl, rfl, by decide +kernel, rfl, by decide +kernel, by decide +kernel⟩
abbrev s_law_deed : Stmt := topS 31
abbrev N_law_deed : List Str := ["tape", "ahead", "left", "some", "word", "numbers"]
theorem sc_law_deed : FnScope N_law_deed ["tape", "ahead", "left"] (defScope s_law_deed) := ⟨rfl, rfl, rfl, by decide +kernel, rfl, by decide +kernel, by decide +kernel⟩
abbrev s_law_carrying : Stmt := topS 32
abbrev N_law_carrying : List Str := ["deeds", "deed"]
theorem sc_law_carrying : FnScope N_law_carrying ["deeds"] (defScope s_law_carrying) := ⟨rfl, rfl, rfl, by decide +kernel, rfl, by decide +kernel, by decide +kernel⟩
abbrev s_law_row : Stmt := topS 33
abbrev N_law_row : List Str := ["tape", "many", "most", "left", "deeds", "k", "out"]
theorem sc_law_row : FnScope N_law_row ["tape", "many", "most", "left"] (defScope s_law_row) := ⟨rfl, rfl, rfl, by decide +kernel, rfl, by decide +kernel, by decide +kernel⟩
abbrev s_law_value : Stmt := topS 34
abbrev N_law_value : List Str := ["deed", "told", "full", "word", "one", "other"]
theorem sc_law_value : FnScope N_law_value ["deed", "told", "full"] (defScope s_law_value) := ⟨rfl, rfl, rfl, by decide +kernel, rfl, by decide +kernel, by decide +kernel⟩
abbrev s_law_values : Stmt := topS 35
abbrev N_law_values : List Str := ["row", "width", "words", "told", "deed"]
theorem sc_law_values : FnScope N_law_values ["row", "width", "words"] (defScope s_law_values) := ⟨rfl, rfl, rfl, by decide +kernel, rfl, by decide +kernel, by decide +kernel⟩
abbrev s_law_bit : Stmt := topS 36
abbrev N_law_bit : List Str := ["deed", "carry", "bits", "word", "one", "other"]
theorem sc_law_bit : FnScope N_law_bit ["deed", "carry", "bits"] (defScope s_law_bit) := ⟨rfl, rfl, rfl, by decide +kernel, rfl, by decide +kernel, by decide +kernel⟩
abbrev s_law_carry : Stmt := topS 37
abbrev N_law_carry : List Str := ["deed", "carry", "bits", "word"]
theorem sc_law_carry : FnScope N_law_carry ["deed", "carry", "bits"] (defScope s_law_carry) := ⟨rfl, rfl, rfl, by decide +kernel, rfl, by decide +kernel, by decide +kernel⟩
abbrev s_law_step : Stmt := topS 38
abbrev N_law_step : List Str := ["row", "carry", "bits", "told", "deed", "one"]
theorem sc_law_step : FnScope N_law_step ["row", "carry", "bits"] (defScope s_law_step) := ⟨rfl, rfl, rfl, by decide +kernel, rfl, by decide +kernel, by decide +kernel⟩
abbrev s_law_first : Stmt := topS 39
abbrev N_law_first : List Str := ["row", "deed"]
theorem sc_law_first : FnScope N_law_first ["row"] (defScope s_law_first) := ⟨rfl, rfl, rfl, by decide +kernel, rfl, by decide +kernel, by decide +kernel⟩
abbrev s_law_bits : Stmt := topS 40
abbrev N_law_bits : List Str := ["many", "found", "k", "some"]
theorem sc_law_bits : FnScope N_law_bits ["many"] (defScope s_law_bits) := ⟨rfl, rfl, rfl, by decide +kernel, rfl, by decide +kernel, by decide +kernel⟩
abbrev s_law_bent : Stmt := topS 41
abbrev N_law_bent : List Str := ["tape", "row", "many", "deeds", "out", "way", "at", "deed", "place", "some"]
theorem sc_law_bent : FnScope N_law_bent ["tape", "row"] (defScope s_law_bent) := ⟨rfl, rfl, rfl, by decide +kernel, rfl, by decide +kernel, by decide +kernel⟩
abbrev s_law_turning_row : Stmt := topS 42
abbrev N_law_turning_row : List Str := ["tape", "deeds", "last", "k", "at", "some", "row"]
theorem sc_law_turning_row : FnScope N_law_turning_row ["tape"] (defScope s_law_turning_row) := ⟨rfl, rfl, rfl, by decide +kernel, rfl, by decide +kernel, by decide +kernel⟩
abbrev s_law_unlike : Stmt := topS 43
abbrev N_law_unlike : List Str := ["row", "carry"]
theorem sc_law_unlike : FnScope N_law_unlike ["row", "carry"] (defScope s_law_unlike) := ⟨rfl, rfl, rfl, by decide +kernel, rfl, by decide +kernel, by decide +kernel⟩
abbrev s_law_turning : Stmt := topS 44
abbrev N_law_turning : List Str := ["row", "told", "carry", "bits"]
theorem sc_law_turning : FnScope N_law_turning ["row", "told"] (defScope s_law_turning) := ⟨rfl, rfl, rfl, by decide +kernel, rfl, by decide +kernel, by decide +kernel⟩
abbrev s_law_meeting : Stmt := topS 45
abbrev N_law_meeting : List Str := ["row", "met", "layer", "width", "later", "carry", "bits", "there"]
theorem sc_law_meeting : FnScope N_law_meeting ["row"] (defScope s_law_meeting) := ⟨rfl, rfl, rfl, by decide +kernel, rfl, by decide +kernel, by decide +kernel⟩
abbrev s_law_is_carry : Stmt := topS 46
abbrev N_law_is_carry : List Str := ["row", "thing", "one"]
theorem sc_law_is_carry : FnScope N_law_is_carry ["row", "thing"] (defScope s_law_is_carry) := ⟨rfl, rfl, rfl, by decide +kernel, rfl, by decide +kernel, by decide +kernel⟩
abbrev s_law_right : Stmt := topS 47
abbrev N_law_right : List Str := ["row", "found", "width", "one", "word"]
theorem sc_law_right : FnScope N_law_right ["row", "found"] (defScope s_law_right) := ⟨rfl, rfl, rfl, by decide +kernel, rfl, by decide +kernel, by decide +kernel⟩
abbrev s_law_kinds : Stmt := topS 48
abbrev N_law_kinds : List Str := ["caught", "some"]
theorem sc_law_kinds : FnScope N_law_kinds ["caught"] (defScope s_law_kinds) := ⟨rfl, rfl, rfl, by decide +kernel, rfl, by decide +kernel, by decide +kernel⟩
abbrev s_law_refused : Stmt := topS 49
abbrev N_law_refused : List Str := ["row", "way", "told", "asked", "caught", "handed", "e"]
theorem sc_law_refused : FnScope N_law_refused ["row", "way", "told", "asked"] (defScope s_law_refused) := ⟨rfl, rfl, rfl, by decide +kernel, rfl, by decide +kernel, by decide +kernel⟩
abbrev s_law : Stmt := topS 50
abbrev N_law : List Str := ["script", "start", "tape", "row", "turn", "found", "wide", "told", "width", "way", "deed"]
theorem sc_law : FnScope N_law ["script"] (defScope s_law) := ⟨rfl, rfl, rfl, by decide +kernel, rfl, by decide +kernel, by decide +kernel⟩
abbrev c_WideError : Stmt := topS 11
abbrev c_NoRow : Stmt := topS 12
abbrev c_NoPair : Stmt := topS 13
abbrev c_NoRule : Stmt := topS 14
abbrev c_NoName : Stmt := topS 15
abbrev c_NoText : Stmt := topS 16
abbrev c_TooMany : Stmt := topS 17
abbrev c_Nothing : Stmt := topS 18
abbrev c_Walk : Stmt := topS 20
section
variable {P : Program} {w : World} {K : PySem.W.Frag} {mg : Str → Option Value} {base : Heap}
/-! ### dicts whose keys are tuples: entries, walks, displays, the least value -/
section dts
theorem dt_raw {H : Hp} {h : Heap} {d : Addr} {kvs : List (List Key × V)} (ok : ObjOk P w H h d (.dT kvs)) :
    (d == sysModules) = false ∧ ∃ es ep, h.DictRaw d es ep ∧ es.size = kvs.length ∧ ∀ (i : Nat) (hi : i < es.size), ∃ k v q, kvs[i]? = some (k, v) ∧ es[i].key = .ref q ∧ H q = some (.tup (k.map kV)) ∧ RelV v es[i].val := by
  obtain ⟨_, hs, xs, pr, o, es, ep, ho, hx, hdt, he, _⟩ := ok
  have l1 : es.size = xs.length := size_of_entries he
  refine ⟨hs, es, ep, ⟨o, ho, hx, hdt⟩, l1.trans (awLen pr).symm, fun i hi => ?_⟩
  have hi2 : i < xs.length := by omega
  obtain ⟨⟨k, v⟩, h1, h2, h3, h4⟩ := awGet2 pr (List.getElem?_eq_getElem hi2)
  have e : es.toList[i]? = some (entryOfKey (tupleKind (mixKind P w)) xs[i]) := by
    rw [he, List.getElem?_map, List.getElem?_eq_getElem hi2]
    rfl
  have e2 : es[i] = entryOfKey (tupleKind (mixKind P w)) xs[i] := by
    rw [Array.getElem?_toList, Array.getElem?_eq_getElem hi] at e
    exact Option.some.inj e
  refine ⟨k, v, xs[i].2.1, h1, ?_, h3, ?_⟩
  · rw [e2]
    rfl
  · rw [e2]
    exact h4
/-- the pairs, each a new tuple with the key's own tuple -/
def ItT (d : Addr) (o : Obj) (kvs : List (List Key × V)) : It where
  go := fun i H => H d = some (.frz o (.dT kvs)) ∧ i < kvs.length
  yld := fun i H x H' => ∃ (T q : Addr) (k : List Key) (v : V), kvs[i]? = some (k, v) ∧ H q = some (.tup (k.map kV)) ∧ x = .ref T ∧ H T = none ∧ H' = upd H T (.tup [.ref q, v])
  stop := fun i H => H d = some (.frz o (.dT kvs)) ∧ kvs.length ≤ i
theorem turn_T {d : Addr} {o : Obj} {kvs : List (List Key × V)} {elts : List Expr} {kk : Nat} {tpos : Pos} (it : Addr) {ep : Nat} {es : Array DictEntry} (hod : o.data = .dict es ep) :
    Turn P w K (.Tuple elts kk tpos) (ItT d o kvs) [it] it (fun i h => ∃ x y, IsItemIter h it d i kvs.length ep x y) where
  mem := List.mem_singleton.mpr rfl
  obj := fun i h st b hb => by
    obtain rfl := List.mem_singleton.mp hb
    obtain ⟨x, y, e⟩ := st
    exact ⟨_, e, fun v z => nomatch z⟩
  keep := fun i h h' st k => by
    obtain ⟨x, y, e⟩ := st
    exact ⟨x, y, k it (List.mem_singleton.mpr rfl) _ e⟩
  item := by
    intro X hP hw hK hc i pins s σ H E I hf st hg
    subst hP hw hK
    obtain ⟨hd, hi⟩ := hg
    obtain ⟨hg1, okd⟩ := I.hok d _ hd
    obtain ⟨_, es', ep', raw, sz, ent⟩ := dt_raw okd
    have raw' := raw
    obtain ⟨o', ho', _, hdt'⟩ := raw'
    obtain rfl : o' = o := Option.some.inj (ho'.symm.trans hg1)
    obtain ⟨rfl, rfl⟩ := dict_ep hod hdt'
    obtain ⟨x, y, he⟩ := st
    have hi' : i < es'.size := by omega
    obtain ⟨k, v, q, hkv, hkey, hq, rv⟩ := ent i hi'
    rw [← sz] at he
    have below : it < s.heap.objs.size := Heap.lt_size he
    refine wpAny_pyNext_items_item_raw he raw hi' fun h' ho hT _ hk => ?_
    refine ⟨_, rfl, wpAny_letOwnedTupleGo_items (s := { s with heap := h' }) ho fun h2 he2 sb => ?_⟩
    have there : h2.get? s.heap.objs.size = some { cls := .type "tuple", data := .seq #[es'[i].key, es'[i].val] } := (sb.2 _ (Nat.ne_of_gt below)).trans hT
    have laid : ObjOk X.prog X.w (upd H s.heap.objs.size (.tup [.ref q, v])) h2 s.heap.objs.size (.tup [.ref q, v]) :=
      ⟨by show 2 ≤ sizeLine; decide, [es'[i].key, es'[i].val], .cons hkey (.cons rv .nil), ⟨_, there, rfl, _, rfl⟩⟩
    refine ⟨.ref s.heap.objs.size, _, I.turnedNew (t' := s.toks) (ch := [it]) (fun b ob hb e => ?_) hf (Nat.le_refl _) laid, rfl, ⟨_, q, k, v, hkv, hq, rfl, I.hok.fresh (Nat.le_refl _), rfl⟩, ⟨es'[i].key, es'[i].val, by rw [← sz]; exact he2⟩, fun b hb => ?_⟩
    · have nb : b ≠ it := fun z => hb (List.mem_singleton.mpr z)
      exact (sb.2 b nb).trans (hk b ob nb e)
    · obtain rfl := List.mem_singleton.mp hb
      rw [upd_ne (Nat.ne_of_lt below)]
      exact (hf b hb).1
  done := by
    intro X hP hw hK hc i pins s σ H E I hf st hg
    subst hP hw hK
    obtain ⟨hd, hi⟩ := hg
    obtain ⟨f0, f1, f2, f3, f4, f5⟩ := hf it (List.mem_singleton.mpr rfl)
    obtain ⟨hg1, okd⟩ := I.hok d _ hd
    obtain ⟨_, es', ep', raw, sz, _⟩ := dt_raw okd
    have raw' := raw
    obtain ⟨o', ho', _, hdt'⟩ := raw'
    obtain rfl : o' = o := Option.some.inj (ho'.symm.trans hg1)
    obtain ⟨rfl, rfl⟩ := dict_ep hod hdt'
    obtain ⟨x, y, he⟩ := st
    rw [← sz] at he
    refine wpAny_pyNext_items_end_raw (I.ok.hd hc) he raw (by omega) fun h' eb => ⟨rfl, ?_⟩
    exact I.turned (t' := s.toks) (fun b ob hb e => eb b ob hb e) f0 f1 f3 f4 f5
  self := fun A i s Q E st h => by
    obtain ⟨x, y, e⟩ := st
    exact wpAny_pyIter_itemiter e h
variable {X : Cx} {e : Expr} {td : TE} {apos cpos : Pos}
def iItT (td : TE) : TI := fun σ H R => td σ H fun x H1 => ∃ d o kvs, x = .ref d ∧ H1 d = some (.frz o (.dT kvs)) ∧ R (ItT d o kvs) H1
theorem pi_itT {elts : List Expr} {kk : Nat} {tpos : Pos} (he : PE X e td) (hb : attributeBase e "items" X.env (eval e X.env) = eval e X.env := by rfl) (hl : (apos.endLine == cpos.line) = true := by rfl) :
    PI X (.Tuple elts kk tpos) (.Call (.Attribute e "items" apos) [] [] cpos) (iItT td) := by
  constructor
  intro pins s σ H R I h
  refine wpAny_Call_method (T := "dict") (id := "dict.items") hb rfl hl F.plainAttrs_dict F.slot_dict_items F.type_dict_items (thn (he.run pins s σ H _ I h) ?_)
  rintro u s1 ⟨x, H1, I1, rx, d, o, kvs, rfl, hd, q⟩
  obtain rfl : u = Value.ref d := rx
  obtain ⟨hg1, okd⟩ := I1.hok d _ hd
  obtain ⟨hs, es, ep, raw, sz, _⟩ := dt_raw okd
  have raw' := raw
  obtain ⟨o', ho', hx', hdt'⟩ := raw'
  obtain rfl : o' = o := Option.some.inj (ho'.symm.trans hg1)
  have I2 : Inv X pins σ H1 { s1 with heap := s1.heap.push { cls := .type "dict_items", data := .fields #[.ref d] } } := I1.kept (t' := s1.toks) fun b ob z => Heap.get?_push_of_some _ z
  refine ⟨raw.typeIs, fun a z => ⟨o', by cases z; exact hg1, hx'.2.1⟩, ?_⟩
  refine method_meetsIn F.slot_dict_items F.entry_dict_items rfl (PySem.evalArgs_none ⟨rfl, raw.typeIs, F.args_dict_items_1 _, _, meets_dict_items_raw d hs, ⟨es, ep, raw⟩, ?_⟩)
  refine wpAny_pyIter_items_raw (d := d) ⟨_, Heap.get?_push_size _ rfl, rfl, rfl⟩ (raw.at fun ob z => Heap.get?_push_of_some _ z) (pi_one (tk := s1.toks) I2 _ (turn_T _ hdt') ⟨.none, .none, ?_⟩ q)
  rw [← sz]
  exact Heap.get?_push_size _ rfl
theorem walk_T {d : Addr} {o : Obj} {kvs : List (List Key × V)} : Walk (ItT d o kvs) kvs.length (fun H => H d = some (.frz o (.dT kvs)))
    (fun i H x H' => ∃ (T q : Addr) (k : List Key) (v : V), kvs[i]? = some (k, v) ∧ H q = some (.tup (k.map kV)) ∧ x = .ref T ∧ H T = none ∧ H' = upd H T (.tup [.ref q, v])) :=
  ⟨fun _ _ hi q => ⟨q, hi⟩, fun _ q => ⟨q, Nat.le_refl _⟩, fun _ _ _ _ _ _ y => y⟩
/-- d.values() -/
def valsO (p d : Addr) : HO := .ext fun h => h.IsValuesView p d
theorem valsO_ok {H : Hp} {h : Heap} {p d : Addr} (e : h.get? p = some { cls := .type "dict_values", data := .fields #[.ref d] }) : ObjOk P w H h p (valsO p d) := by
  refine ⟨⟨_, e, rfl, rfl⟩, ⟨_, e⟩, ?_⟩
  rintro h1 h2 ⟨o, ho, r⟩ k
  exact ⟨o, k o ho, r⟩
def rValsT : V → List V → Hp → VK → Prop := fun x xs H Q => ∃ (a : Addr) (kvs : List (List Key × V)), x = .ref a ∧ xs = [] ∧ H a = some (.dT kvs) ∧ ∀ p, H p = none → Q (.ref p) (upd H p (valsO p a))
theorem mt_valsT : MtR X "dict.values" rValsT := by
  intro pins s σ H x xs v us Q I rx rxs h
  obtain ⟨a, kvs, rfl, rfl, ha, q⟩ := h
  cases rx
  cases rxs
  obtain ⟨hs, es, ep, raw, _⟩ := dt_raw (I.hok a _ ha)
  refine call_meetsIn F.slot_dict_values raw.typeIs F.entry_dict_values (F.args_dict_values_1 _) (meets_dict_values_raw a hs) ⟨⟨es, ep, raw⟩, ?_⟩
  have I2 := I.laid (o := valsO s.heap.objs.size a) (t' := s.toks) (fun b u z => Heap.get?_push_of_some _ z) (Nat.le_refl _) (valsO_ok (H := upd H s.heap.objs.size (valsO s.heap.objs.size a)) (Heap.get?_push_size _ rfl))
  exact ⟨.ref _, _, I2, rfl, q _ (I.hok.fresh (Nat.le_refl _))⟩
theorem best_least {f : Nat → Int} : ∀ n, argBest (fun i j => decide (f i < f j)) n ≤ n ∧ ∀ j, j ≤ n → f (argBest (fun i j => decide (f i < f j)) n) ≤ f j
  | 0 => ⟨Nat.le_refl _, fun j hj => (Nat.le_zero.mp hj).symm ▸ Int.le_refl _⟩
  | n + 1 => by
    obtain ⟨h1, h2⟩ := best_least (f := f) n
    unfold argBest
    by_cases e : f (n + 1) < f (argBest (fun i j => decide (f i < f j)) n)
    · rw [if_pos (by simpa using e)]
      refine ⟨Nat.le_refl _, fun j hj => ?_⟩
      by_cases hj2 : j ≤ n
      · have := h2 j hj2
        omega
      · obtain rfl : j = n + 1 := by omega
        exact Int.le_refl _
    · rw [if_neg (by simpa using e)]
      refine ⟨by omega, fun j hj => ?_⟩
      by_cases hj2 : j ≤ n
      · exact h2 j hj2
      · obtain rfl : j = n + 1 := by omega
        omega
/-- min(d.values()), the values ints -/
def rMinV : List V → Hp → VK → Prop := fun vs H Q => ∃ (p a : Addr) (kvs : List (List Key × V)) (zs : List Int), vs = [.ref p] ∧ H p = some (valsO p a) ∧ H a = some (.dT kvs) ∧ kvs.map (·.2) = zs.map V.int ∧ zs ≠ [] ∧ ∀ z, z ∈ zs → (∀ y ∈ zs, z ≤ y) → Q (.int z) H
theorem call_minV (hc : X.calm = true) : CallR X (.builtin "min") rMinV := by
  intro pins s σ H vs us Q I r h
  obtain ⟨p, a, kvs, zs, rfl, hp, ha, hz, hne, q⟩ := h
  obtain ⟨u, rfl, ru⟩ := vals1 r
  obtain rfl : u = Value.ref p := ru
  obtain ⟨hs, es, ep, raw, sz, ent⟩ := dt_raw (I.hok a _ ha)
  have hv : s.heap.IsValuesView p a := (I.hok p _ hp).1
  have zl : zs.length = es.size := by
    have := congrArg List.length hz
    rw [List.length_map, List.length_map] at this
    omega
  have la : a < s.heap.objs.size := raw.elim fun o z => Heap.lt_size z.1
  refine call_min_walk (wpAny_pyIter_values_raw hv raw ?_)
  have rel : ∀ i v, (∃ hi : i < es.size, v = es[i].val) → ∃ t, v = .int (zs.getD i 0) t := by
    rintro i v ⟨hi, rfl⟩
    obtain ⟨k, v, _, hkv, _, _, rv⟩ := ent i hi
    have e : (kvs.map (·.2))[i]? = some v := by rw [List.getElem?_map, hkv]; rfl
    rw [hz, List.getElem?_map] at e
    cases e2 : zs[i]? with
    | none => rw [e2] at e; cases e
    | some z =>
      rw [e2] at e
      obtain rfl : V.int z = v := Option.some.inj e
      rw [List.getD_eq_getElem?_getD, e2]
      exact rv
  refine ⟨s.heap.objs.size, [s.heap.objs.size, a], [s.heap.objs.size], es.size, _, _, fun i j => decide (zs.getD i 0 < zs.getD j 0), rfl, Walks.rawValues (A := X.A.in1) (I.ok.hd hc) _ a (Nat.ne_of_lt la) es ep, ?_, ?_, ?_, CmpOf.ints_lt (fun i => zs.getD i 0) rel, ?_⟩
  · exact ⟨⟨_, Heap.get?_push_size _ rfl, rfl, rfl⟩, raw.at fun o z => Heap.get?_push_of_some _ z⟩
  · intro b hb
    show b < (s.heap.push _).objs.size
    rw [Heap.size_push]
    simp only [List.mem_cons, List.not_mem_nil, or_false] at hb
    rcases hb with rfl | rfl
    · exact Nat.lt_succ_self _
    · exact Nat.lt_succ_of_lt la
  · have := List.length_pos_iff.mpr hne
    omega
  · intro v h' tk hP hk
    obtain ⟨t, rfl⟩ := rel _ _ hP
    obtain ⟨b1, b2⟩ := best_least (f := fun i => zs.getD i 0) (es.size - 1)
    have pos := List.length_pos_iff.mpr hne
    generalize argBest (fun i j => decide (zs.getD i 0 < zs.getD j 0)) (es.size - 1) = m at b1 b2 hP
    have hm : m < zs.length := by omega
    have em : zs.getD m 0 = zs[m] := by rw [List.getD_eq_getElem?_getD, List.getElem?_eq_getElem hm]; rfl
    refine ⟨.int (zs.getD m 0), H, I.kept fun b o e => hk b o (fun z => ?_) (Heap.get?_push_of_some _ e), ⟨t, rfl⟩, q _ (by rw [em]; exact List.getElem_mem hm) fun y hy => ?_⟩
    · exact absurd (List.mem_singleton.mp z) (Nat.ne_of_lt (Heap.lt_size e))
    · obtain ⟨j, hj, rfl⟩ := List.mem_iff_getElem.mp hy
      have := b2 j (by omega)
      have ej : zs.getD j 0 = zs[j] := by rw [List.getD_eq_getElem?_getD, List.getElem?_eq_getElem hj]; rfl
      rw [ej] at this
      exact this
/-- whether a dict is not empty -/
theorem truth_H {κ : Type} [DecidableEq κ] {knd : HeapKind P w κ} {A : Around} {E : Value → Shared → Prop} {s : Shared} {d : Addr} {xs : List (κ × Addr × Value)} {Q : Bool → Shared → Prop} (hd : (d == sysModules) = false) (hm : s.heap.DictOfH knd d xs)
    (hf : (xs.length : Int) < 2 ^ 63) (h : Q (!xs.isEmpty) { s with toks := s.toks + 1 + 1 }) : wpAny (model P w) A (truthy (.ref d)) Q E s := by
  have e : ((xs.length : Int) != 0) = !xs.isEmpty := by cases xs <;> simp <;> omega
  have run : wpAny (model P w) A (runValue (.builtin "len" ⟨[.ref d], []⟩)) (fun r s' => r = .int xs.length (s.toks + 1) ∧ Q (!xs.isEmpty) s') E s := by
    apply wpAny_runValue
    apply codeAny_builtin entry_len
    rw [Around.under_plainId plain_len _]
    refine wpAny_mono (wpAny_len_body_dictH (Q := fun r s' => r = .int xs.length (s.toks + 1) ∧ Q (!xs.isEmpty) s') hd hm hf ⟨rfl, h⟩) ?_ (fun _ _ z => z)
    rintro fin s' ⟨r, rfl, z⟩
    exact z
  unfold truthy
  first
  | apply wpAny_bind; refine wpAny_callSpecial?_none (name := Str.ofString "__bool__") hm.typeIs noBool_dict ?_
  | apply wpAny_bind; apply wpAny_pure; apply wpAny_bind; refine wpAny_callSpecial?_none (name := Str.ofString "__bool__") hm.typeIs noBool_dict ?_
  first
  | apply wpAny_bind; refine wpAny_specialOf (name := Str.ofString "__len__") hm.typeIs F.slot_dict_len.lookup ?_
  | apply wpAny_bind; apply wpAny_pure; apply wpAny_bind; refine wpAny_specialOf (name := Str.ofString "__len__") hm.typeIs F.slot_dict_len.lookup ?_
  first
  | apply wpAny_bind
    refine wpAny_mono run ?_ (fun _ _ z => z)
    rintro r s' ⟨rfl, z⟩
    exact wpAny_pure (e ▸ z)
  | apply wpAny_bind
    apply wpAny_pure
    apply wpAny_bind
    refine wpAny_mono run ?_ (fun _ _ z => z)
    rintro r s' ⟨rfl, z⟩
    exact wpAny_pure (e ▸ z)
theorem tru_dT : TruR X (fun x H Q => ∃ a kvs, x = .ref a ∧ H a = some (.dT kvs) ∧ Q (!kvs.isEmpty) H) := by
  intro pins s σ H x v Q I rx h
  obtain ⟨a, kvs, rfl, ha, q⟩ := h
  obtain rfl : v = Value.ref a := rx
  obtain ⟨z, hd, ys, rel, dd⟩ := dt_of I.hok ha
  have hl : kvs.length = ys.length := awLen rel
  refine truth_H hd dd (by rw [← hl]; rw [sizeLine_eq] at z; omega) ⟨H, I.tok _, ?_⟩
  have e : (!ys.isEmpty) = !kvs.isEmpty := by cases rel <;> rfl
  rw [e]
  exact q
/-- {t: v}, t a tuple -/
def tDispT (tk tv : TE) : TE := fun σ H Q => ∀ p, H p = none → tk σ (upd H p (.dT [])) fun x H1 => tv σ H1 fun v H2 => ∃ b k, x = .ref b ∧ H2 b = some (.tup (k.map kV)) ∧ H2 p = some (.dT []) ∧ Q (.ref p) (upd H2 p (.dT [(k, v)]))
theorem pe_dispT {ek ev : Expr} {tk tv : TE} {pos : Pos} (hu : X.A.units < cLine) (hk : PE X ek tk) (hv : PE X ev tv) : PE X (.Dict [some ek] [ev] pos) (tDispT tk tv) := by
  constructor
  intro pins s σ H Q I q
  have hn := I.hok.fresh (Nat.le_refl s.heap.objs.size)
  have I1 := I.laid (a := s.heap.objs.size) (o := .dT []) (h' := s.heap.push { cls := .type "dict", data := .dict #[] }) (t' := s.toks) (fun _ _ z => Heap.get?_push_of_some _ z) (Nat.le_refl _) (dt_empty s.heap I.big)
  rw [arm_eval_Dict, zip_pairTrees [some ek] [ev] X.env pos rfl rfl, dictDisplay_pairs (pairTrees [some ek] [ev] X.env pos) (by simp [pairTrees]) (by simp [pairTrees])]
  apply wpAny_bind
  apply wpAny_standAt
  apply wpAny_bind
  refine wpAny_subDictH (knd := tupleKind (mixKind X.prog X.w)) (show X.A.units < cLine from hu) (by show 1 ≤ 15; decide) ?_
  refine thn ((pps_cons (pos := pos) hk hv pps_nil).run pins _ σ _ (fun ps H2 => match ps with | [(x, v)] => ∃ b k, x = .ref b ∧ H2 b = some (.tup (k.map kV)) ∧ H2 s.heap.objs.size = some (.dT []) ∧ Q (.ref s.heap.objs.size) (upd H2 s.heap.objs.size (.dT [(k, v)])) | _ => False) I1 (q _ hn)) ?_
  rintro ws s2 ⟨ps, H2, I2, rel, hq⟩
  match ps, ws, rel, hq with
  | [(x, v)], [(u1, u2)], .cons ⟨r1, r2⟩ .nil, ⟨b, k, e, hb, hp, q2⟩ =>
    subst e
    obtain rfl : u1 = Value.ref b := r1
    obtain ⟨_, hd, ys, r0, dd⟩ := dt_of I2.hok hp
    cases r0
    refine ⟨[(k, b, u2)], ⟨rfl, rfl, key_of I2.hok hb, trivial⟩, dd, fun h' tk dd' hs => ?_⟩
    obtain ⟨o, es, ep, ho, h2, h3, h4, _, h5⟩ := dd'
    have npb : b ≠ s.heap.objs.size := ne_of hb hp (fun z => nomatch z)
    have I3 : Inv X pins σ (upd H2 s.heap.objs.size (.dT [(k, v)])) { s2 with heap := h', toks := tk } :=
      d_write I2 (by rw [hp]; exact True.intro) hs ⟨o, ho⟩ ⟨by show 1 ≤ sizeLine; decide, hd, [(k, b, u2)], .cons ⟨rfl, by rw [upd_ne npb]; exact hb, r2⟩ .nil, o, es, ep, ho, h2, h3, h4, h5⟩
    exact wpAny_pure ⟨.ref s.heap.objs.size, _, I3, rfl, q2⟩
end dts
/-! ### dicts whose keys are nested tuples of ints -/
mutual
inductive NkAt (H : Hp) : NestedKey → V → Prop
  | num (i : Int) : NkAt H (.num i) (.int i)
  | tup {a : Addr} {xs : List V} {ks : List NestedKey} : H a = some (.tup xs) → NkAll H ks xs → NkAt H (.tup ks) (.ref a)
inductive NkAll (H : Hp) : List NestedKey → List V → Prop
  | nil : NkAll H [] []
  | cons {k : NestedKey} {v : V} {ks : List NestedKey} {vs : List V} : NkAt H k v → NkAll H ks vs → NkAll H (k :: ks) (v :: vs)
end
section nds
variable {X : Cx}
mutual
theorem nk_is {pins : List (Addr × Obj)} {σ : L2.St} {H : Hp} {s : Shared} (I : Inv X pins σ H s) : ∀ (k : NestedKey) (v : V) (u : Value), NkAt H k v → RelV v u → NestedIs s.heap k u
  | .none, _, _, h, _ => nomatch h
  | .text _, _, _, h, _ => nomatch h
  | .num i, _, _, h, r => by
    cases h
    obtain ⟨t, rfl⟩ := r
    exact .int _ _
  | .tup ks, _, _, h, r => by
    cases h with
    | tup e hs =>
      cases r
      obtain ⟨_, its, rv, o, ho, hc, n, hd⟩ := I.hok _ _ e
      exact .tup ho hc hd (by simpa using nks_is I ks _ _ hs rv)
theorem nks_is {pins : List (Addr × Obj)} {σ : L2.St} {H : Hp} {s : Shared} (I : Inv X pins σ H s) : ∀ (ks : List NestedKey) (vs : List V) (us : List Value), NkAll H ks vs → Vals vs us → NestedAll s.heap ks us
  | [], _, _, h, r => by
    cases h
    cases r
    exact .nil
  | k :: ks, _, _, h, r => by
    cases h with
    | cons h1 h2 =>
      cases r with
      | cons r1 r2 => exact .cons (nk_is I k _ _ h1 r1) (nks_is I ks _ _ h2 r2)
end
mutual
theorem nk_stay {H H' : Hp} (t : TupsStay H H') : ∀ (k : NestedKey) (v : V), NkAt H k v → NkAt H' k v
  | .none, _, h => nomatch h
  | .text _, _, h => nomatch h
  | .num i, _, h => by
    cases h
    exact .num i
  | .tup ks, _, h => by
    cases h with
    | tup e hs => exact .tup (t _ _ e) (nks_stay t ks _ hs)
theorem nks_stay {H H' : Hp} (t : TupsStay H H') : ∀ (ks : List NestedKey) (vs : List V), NkAll H ks vs → NkAll H' ks vs
  | [], _, h => by
    cases h
    exact .nil
  | k :: ks, _, h => by
    cases h with
    | cons h1 h2 => exact .cons (nk_stay t k _ h1) (nks_stay t ks _ h2)
end
abbrev NE := NestedKey × Addr × V
abbrev NRel : List NE → List (NestedKey × Addr × Value) → Prop := Paired fun p q => p.1 = q.1 ∧ p.2.1 = q.2.1 ∧ RelV p.2.2 q.2.2
def NDO (P : Program) (w : World) (a : Addr) (xs : List NE) : HO := .ext fun h => xs.length ≤ sizeLine ∧ (a == sysModules) = false ∧ ∃ ys, NRel xs ys ∧ ∃ o es ep, h.get? a = some o ∧ o.ExactDict ∧ o.data = .dict es ep ∧ es.toList = ys.map (entryOfKey (nestedKind P w)) ∧ (ys.map (·.1)).Nodup
theorem ndo_ok {P : Program} {w : World} {H : Hp} {h : Heap} {a : Addr} {xs : List NE} {ys : List (NestedKey × Addr × Value)} (hz : xs.length ≤ sizeLine) (hd : (a == sysModules) = false) (r : NRel xs ys) (dd : h.DictOfH (nestedKind P w) a ys) : ObjOk P w H h a (NDO P w a xs) := by
  obtain ⟨o, es, ep, h1, h2, h3, h4, _, h5⟩ := dd
  refine ⟨⟨hz, hd, ys, r, o, es, ep, h1, h2, h3, h4, h5⟩, ⟨o, h1⟩, ?_⟩
  rintro g1 g2 ⟨z1, z2, ys, z3, o, es, ep, z4, z5⟩ k
  exact ⟨z1, z2, ys, z3, o, es, ep, k o z4, z5⟩
structure ND (P : Program) (w : World) (H : Hp) (a : Addr) (xs : List NE) : Prop where
  ob : H a = some (NDO P w a xs)
  ks : ∀ p ∈ xs, NkAt H p.1 (.ref p.2.1) ∧ p.1.depth ≤ 8
theorem ND.full {pins : List (Addr × Obj)} {σ : L2.St} {H : Hp} {s : Shared} {a : Addr} {xs : List NE} (I : Inv X pins σ H s) (h : ND X.prog X.w H a xs) : xs.length ≤ sizeLine ∧ (a == sysModules) = false ∧ ∃ ys, NRel xs ys ∧ s.heap.DictOfH (nestedKind X.prog X.w) a ys := by
  obtain ⟨⟨z1, z2, ys, z3, o, es, ep, z4, z5, z6, z7, z8⟩, _⟩ := I.hok a _ h.ob
  refine ⟨z1, z2, ys, z3, o, es, ep, z4, z5, z6, z7, fun y hy => ?_, z8⟩
  obtain ⟨i, hi⟩ := List.mem_iff_getElem?.mp hy
  obtain ⟨p, hp, e1, e2, _⟩ := awGet2 z3 hi
  obtain ⟨k1, k2⟩ := h.ks p (List.mem_of_getElem? hp)
  rw [e1, e2] at k1
  rw [e1] at k2
  exact ⟨nk_is I _ _ _ k1 rfl, k2⟩
def getN (xs : List NE) (k : NestedKey) : Option V := (xs.find? fun x => decide (x.1 = k)).map (·.2.2)
theorem getN_rel {k : NestedKey} : ∀ {xs : List NE} {ys : List (NestedKey × Addr × Value)}, NRel xs ys → RelO (getN xs k) ((atKey ys k).map (·.2))
  | _, _, .nil => trivial
  | x :: _, y :: _, .cons ⟨e1, _, e3⟩ t => by
    have ih := getN_rel (k := k) t
    unfold getN atKey at *
    rw [List.find?_cons, List.find?_cons, ← e1]
    by_cases h : x.1 = k
    · rw [decide_eq_true h]
      exact e3
    · rw [decide_eq_false h]
      exact ih
theorem getN_none {k : NestedKey} {xs : List NE} : getN xs k = none ↔ ∀ p ∈ xs, p.1 ≠ k := by
  unfold getN
  rw [Option.map_eq_none_iff, List.find?_eq_none]
  simp
theorem getN_some {k : NestedKey} {xs : List NE} {v : V} (h : getN xs k = some v) : ∃ b, (k, b, v) ∈ xs := by
  unfold getN at h
  cases e : xs.find? fun x => decide (x.1 = k) with
  | none => rw [e] at h; cases h
  | some p =>
    rw [e] at h
    have h2 : p.1 = k := of_decide_eq_true (List.find?_some (p := fun x : NE => decide (x.1 = k)) e)
    obtain rfl : p.2.2 = v := Option.some.inj h
    exact ⟨p.2.1, h2 ▸ List.mem_of_find?_eq_some e⟩
theorem getN_snoc {k j : NestedKey} {b : Addr} {v : V} {xs : List NE} (hn : getN xs k = none) : getN (xs ++ [(k, b, v)]) j = if j = k then some v else getN xs j := by
  unfold getN at *
  rw [List.find?_append]
  by_cases h : j = k
  · subst h
    rw [if_pos rfl, Option.map_eq_none_iff.mp hn]
    simp
  · rw [if_neg h]
    have hk : ¬ k = j := fun z => h z.symm
    cases xs.find? fun x => decide (x.1 = j) with
    | none => simp [hk]
    | some p => rfl
theorem nd_stay {P : Program} {w : World} {H H' : Hp} {a : Addr} {xs : List NE} (h : ND P w H a xs) (e : H' a = some (NDO P w a xs)) (t : TupsStay H H') : ND P w H' a xs := ⟨e, fun p hp => ⟨nk_stay t _ _ (h.ks p hp).1, (h.ks p hp).2⟩⟩
theorem nd_same {P : Program} {w : World} {H H' : Hp} {a : Addr} {xs : List NE} (h : ND P w H a xs) (s : Same H H') : ND P w H' a xs := nd_stay h (s _ _ h.ob) (Same.tups s)
/-- {} -/
theorem pe_ndnew {P : Program} {w : World} (hP : X.prog = P) (hw : X.w = w) {pos : Pos} : PE X (.Dict [] [] pos) (fun _ H Q => ∀ p, H p = none → Q (.ref p) (upd H p (NDO P w p []))) := by
  subst hP hw
  constructor
  intro pins s σ H Q I h
  have ok : ObjOk X.prog X.w (upd H s.heap.objs.size (NDO X.prog X.w s.heap.objs.size [])) (s.heap.push { cls := .type "dict", data := .dict #[] }) s.heap.objs.size (NDO X.prog X.w s.heap.objs.size []) :=
    ndo_ok (Nat.zero_le _) (beq_eq_false_iff_ne.mpr (Ne.symm (Nat.ne_of_lt I.big))) .nil (Heap.DictOfH.new s.heap)
  exact wpAny_Dict_empty ⟨.ref _, _, I.laid (t' := s.toks) (fun _ _ z => Heap.get?_push_of_some _ z) (Nat.le_refl _) ok, rfl, h _ (I.hok.fresh (Nat.le_refl _))⟩
theorem nd_nil {P : Program} {w : World} {H : Hp} {a : Addr} : ND P w (upd H a (NDO P w a [])) a [] := ⟨upd_same, (fun _ z => nomatch z)⟩
/-- what is asked of a key -/
def KeyN (H : Hp) (y : V) (k : NestedKey) : Prop := NkAt H k y ∧ k.depth ≤ 8 ∧ ∃ b, y = .ref b
def tNGet (P : Program) (w : World) (td ty : TE) : TE := fun σ H Q => td σ H fun x H1 => ty σ H1 fun y H2 => ∃ a xs k v, x = .ref a ∧ ND P w H2 a xs ∧ KeyN H2 y k ∧ getN xs k = some v ∧ Q v H2
def tNNotIn (P : Program) (w : World) (ty td : TE) : TE := fun σ H Q => ty σ H fun y H1 => td σ H1 fun x H2 => ∃ a xs k, x = .ref a ∧ ND P w H2 a xs ∧ KeyN H2 y k ∧ Q (.bl (!(getN xs k).isSome)) H2
def sNPut (P : Program) (w : World) (td ty tv : TE) : TS := fun D σ H => tv σ H fun v H1 => td σ H1 fun x H2 => ty σ H2 fun y H3 => ∃ a xs k b, x = .ref a ∧ ND P w H3 a xs ∧ y = .ref b ∧ KeyN H3 y k ∧ getN xs k = none ∧ xs.length < sizeLine ∧ D.nx σ (upd H3 a (NDO P w a (xs ++ [(k, b, v)])))
theorem nd_put {P : Program} {w : World} {H : Hp} {a b : Addr} {xs : List NE} {k : NestedKey} {v : V} (h : ND P w H a xs) (hk : KeyN H (.ref b) k) : ND P w (upd H a (NDO P w a (xs ++ [(k, b, v)]))) a (xs ++ [(k, b, v)]) := by
  have t : TupsStay H (upd H a (NDO P w a (xs ++ [(k, b, v)]))) := fun c ys e => by
    rw [upd_ne (ne_of e h.ob (fun z => nomatch z))]
    exact e
  refine ⟨upd_same, fun p hp => ?_⟩
  rcases List.mem_append.mp hp with hp | hp
  · exact ⟨nk_stay t _ _ (h.ks p hp).1, (h.ks p hp).2⟩
  · rw [List.mem_singleton.mp hp]
    exact ⟨nk_stay t _ _ hk.1, hk.2.1⟩
theorem nd_at {pins : List (Addr × Obj)} {σ : L2.St} {H : Hp} {s : Shared} {y : V} {k : NestedKey} {u : Value} (I : Inv X pins σ H s) (hk : KeyN H y k) (r : RelV y u) : ∃ b, u = .ref b ∧ y = .ref b ∧ (nestedKind X.prog X.w).is s.heap k b := by
  obtain ⟨h1, h2, b, rfl⟩ := hk
  obtain rfl : u = Value.ref b := r
  exact ⟨b, rfl, rfl, nk_is I _ _ _ h1 rfl, h2⟩
theorem nrel_none {k : NestedKey} {xs : List NE} {ys : List (NestedKey × Addr × Value)} (r : NRel xs ys) (h : getN xs k = none) : atKey ys k = none := by
  have z := getN_rel (k := k) r
  rw [h] at z
  cases e : atKey ys k with
  | none => rfl
  | some p => rw [e] at z; exact z.elim
theorem pe_ndget {P : Program} {w : World} (hP : X.prog = P) (hw : X.w = w) {o i : Expr} {td ty : TE} {pos : Pos} (hu : X.A.units + 64 < cLine) (ho : PE X o td) (hi : PE X i ty) (hs : NoSl i) : PE X (.Subscript o i pos) (tNGet P w td ty) := by
  subst hP hw
  constructor
  intro pins s σ H Q I h
  refine subD_of PySem.F.slot_dict_getitem.lookup hs (thn (ho.run pins s σ H _ I h) ?_)
  rintro u s1 ⟨x, H1, I1, rx, q1⟩
  refine thn (hi.run pins s1 σ H1 _ I1 q1) ?_
  rintro iv s2 ⟨y, H2, I2, ry, a, xs, k, v, rfl, hn, hk, hv, q2⟩
  obtain rfl : u = Value.ref a := rx
  obtain ⟨b, rfl, rfl, hb⟩ := nd_at I2 hk ry
  obtain ⟨_, hd, ys, r, dd⟩ := hn.full I2
  have z := getN_rel (k := k) r
  rw [hv] at z
  cases e : atKey ys k with
  | none => rw [e] at z; exact z.elim
  | some p =>
    rw [e] at z
    exact ⟨dd.typeIs, wpAny_getItem_heap (knd := nestedKind X.prog X.w) (show X.A.in1.units + 8 < cLine by show X.A.units + 1 + 8 < cLine; omega) hb dd e ⟨v, H2, I2.tok _, z, q2⟩⟩
theorem pc_ndnotin {P : Program} {w : World} (hP : X.prog = P) (hw : X.w = w) {o i : Expr} {td ty : TE} (hu : X.A.units + 64 < cLine) (hi : PE X i ty) (ho : PE X o td) : PC X .NotIn i o (tNNotIn P w ty td) := by
  subst hP hw
  constructor
  intro pins s σ H Q I h
  refine thn (hi.run pins s σ H _ I h) ?_
  rintro iv s1 ⟨y, H1, I1, ry, q1⟩
  refine thn (ho.run pins s1 σ H1 _ I1 q1) ?_
  rintro u s2 ⟨x, H2, I2, rx, a, xs, k, rfl, hn, hk, q2⟩
  obtain rfl : u = Value.ref a := rx
  obtain ⟨b, rfl, rfl, hb⟩ := nd_at I2 hk ry
  obtain ⟨_, hd, ys, r, dd⟩ := hn.full I2
  have z := (getN_rel (k := k) r).isSome_eq
  rw [Option.isSome_map] at z
  refine notIn_keyed (knd := nestedKind X.prog X.w) (show X.A.in1.units + 8 < cLine by show X.A.units + 1 + 8 < cLine; omega) hb hd ⟨ys, dd, rfl⟩ ⟨.bl (!(getN xs k).isSome), H2, I2.tok _, ?_, q2⟩
  rw [valueAt_pairsH, Option.isSome_map, ← z]
  rfl
theorem nd_write {pins : List (Addr × Obj)} {σ : L2.St} {H : Hp} {s : Shared} {a b : Addr} {xs : List NE} {ys : List (NestedKey × Addr × Value)} {k : NestedKey} {v : V} {r : Value} {h' : Heap} {tk : Nat} (I : Inv X pins σ H s) (hn : ND X.prog X.w H a xs) (hl : xs.length < sizeLine) (rel : NRel xs ys) (hd : (a == sysModules) = false)
    (h0 : atKey ys k = none) (rv : RelV v r) (dd : h'.DictOfH (nestedKind X.prog X.w) a (storedH ys k b r)) (hs : Heap.SameBut a s.heap h') : Inv X pins σ (upd H a (NDO X.prog X.w a (xs ++ [(k, b, v)]))) { s with heap := h', toks := tk } := by
  rw [storedH_new h0] at dd
  have he : ∃ o, h'.get? a = some o := dd.elim fun o z => ⟨o, z.choose_spec.choose_spec.1⟩
  refine d_write I (by rw [hn.ob]; exact True.intro) hs he (ndo_ok ?_ hd (awSnoc (F := fun (p : NE) (q : NestedKey × Addr × Value) => p.1 = q.1 ∧ p.2.1 = q.2.1 ∧ RelV p.2.2 q.2.2) ⟨rfl, rfl, rv⟩ rel) dd)
  rw [List.length_append]
  exact hl
theorem ps_ndput {P : Program} {w : World} (hP : X.prog = P) (hw : X.w = w) {o i value : Expr} {td ty tv : TE} {pos pos' : Pos} (hu : X.A.units + 64 < cLine) (ho : PE X o td) (hi : PE X i ty) (hv : PE X value tv) (hs : swapsWith value (some (.Subscript o i pos')) pos.line X.env = pure false) :
    PS X (.Assign [.Subscript o i pos'] value pos) (sNPut P w td ty tv) := by
  subst hP hw
  constructor
  intro pins s σ H D I h
  refine wpAny_Assign_Subscript (thn (hv.run pins s σ H _ I h) ?_) hs
  rintro r s1 ⟨v, H1, I1, rv, q1⟩
  refine thn (ho.run pins s1 σ H1 _ I1 q1) ?_
  rintro u s2 ⟨x, H2, I2, rx, q2⟩
  refine thn (hi.run pins s2 σ H2 _ I2 q2) ?_
  rintro iv s3 ⟨y, H3, I3, ry, a, xs, k, b, rfl, hn, rfl, hk, hg, hl, q3⟩
  obtain rfl : u = Value.ref a := rx
  obtain ⟨b', rfl, eb, hb⟩ := nd_at I3 hk ry
  obtain rfl : b = b' := V.ref.inj eb
  obtain ⟨_, hd, ys, rel, dd⟩ := hn.full I3
  have hz : ys.length ≤ sizeLine := by
    have := awLen rel
    omega
  exact wpAny_setItem_heap (knd := nestedKind X.prog X.w) (hsz := hz) (show X.A.in1.units + 8 < cLine by show X.A.units + 1 + 8 < cLine; omega) hb dd fun h' dd' hs' => ⟨σ, _, nd_write I3 hn hl rel hd (nrel_none rel hg) rv dd' hs', q3⟩
/-- {t: v} -/
def tNDisp (P : Program) (w : World) (tk tv : TE) : TE := fun σ H Q => ∀ p, H p = none → tk σ (upd H p (NDO P w p [])) fun x H1 => tv σ H1 fun v H2 => ∃ b k, x = .ref b ∧ KeyN H2 x k ∧ H2 p = some (NDO P w p []) ∧ Q (.ref p) (upd H2 p (NDO P w p [(k, b, v)]))
theorem pe_ndisp {P : Program} {w : World} (hP : X.prog = P) (hw : X.w = w) {ek ev : Expr} {tk tv : TE} {pos : Pos} (hu : X.A.units + 64 < cLine) (hk : PE X ek tk) (hv : PE X ev tv) : PE X (.Dict [some ek] [ev] pos) (tNDisp P w tk tv) := by
  subst hP hw
  constructor
  intro pins s σ H Q I q
  have hn := I.hok.fresh (Nat.le_refl s.heap.objs.size)
  have ok : ObjOk X.prog X.w (upd H s.heap.objs.size (NDO X.prog X.w s.heap.objs.size [])) (s.heap.push { cls := .type "dict", data := .dict #[] }) s.heap.objs.size (NDO X.prog X.w s.heap.objs.size []) :=
    ndo_ok (Nat.zero_le _) (beq_eq_false_iff_ne.mpr (Ne.symm (Nat.ne_of_lt I.big))) .nil (Heap.DictOfH.new s.heap)
  have I1 := I.laid (t' := s.toks) (fun _ _ z => Heap.get?_push_of_some _ z) (Nat.le_refl _) ok
  rw [arm_eval_Dict, zip_pairTrees [some ek] [ev] X.env pos rfl rfl, dictDisplay_pairs (pairTrees [some ek] [ev] X.env pos) (by simp [pairTrees]) (by simp [pairTrees])]
  apply wpAny_bind
  apply wpAny_standAt
  apply wpAny_bind
  refine wpAny_subDictH (knd := nestedKind X.prog X.w) (show X.A.units + 8 < cLine by omega) (by show 1 ≤ 15; decide) ?_
  refine thn ((pps_cons (pos := pos) hk hv pps_nil).run pins _ σ _ (fun ps H2 => match ps with | [(x, v)] => ∃ b k, x = .ref b ∧ KeyN H2 x k ∧ H2 s.heap.objs.size = some (NDO X.prog X.w s.heap.objs.size []) ∧ Q (.ref s.heap.objs.size) (upd H2 s.heap.objs.size (NDO X.prog X.w s.heap.objs.size [(k, b, v)])) | _ => False) I1 (q _ hn)) ?_
  rintro ws s2 ⟨ps, H2, I2, rel, hq⟩
  match ps, ws, rel, hq with
  | [(x, v)], [(u1, u2)], .cons ⟨r1, r2⟩ .nil, ⟨b, k, e, hk2, hp, q2⟩ =>
    subst e
    obtain ⟨b', rfl, eb, hb⟩ := nd_at I2 hk2 r1
    obtain rfl : b = b' := V.ref.inj eb
    have hN : ND X.prog X.w H2 s.heap.objs.size [] := ⟨hp, (fun _ z => nomatch z)⟩
    obtain ⟨_, hd, ys, r0, dd⟩ := hN.full I2
    cases r0
    refine ⟨[(k, b, u2)], ⟨rfl, rfl, hb, trivial⟩, dd, fun h' tk dd' hs => ?_⟩
    exact wpAny_pure ⟨.ref s.heap.objs.size, _, nd_write I2 hN (by show 0 < sizeLine; decide) .nil hd rfl r2 dd' hs, rfl, q2⟩
/-- len(d) -/
theorem call_lenN {P : Program} {w : World} (hP : X.prog = P) (hw : X.w = w) : CallR X (.builtin "len") (fun vs H Q => ∃ p xs, vs = [.ref p] ∧ ND P w H p xs ∧ Q (.int ((xs.length : Nat) : Int)) H) := by
  subst hP hw
  intro pins s σ H vs us Q I r h
  obtain ⟨p, xs, rfl, hn, q⟩ := h
  obtain ⟨u, rfl, ru⟩ := vals1 r
  obtain rfl : u = Value.ref p := ru
  obtain ⟨z, hd, ys, rel, dd⟩ := hn.full I
  have hl : xs.length = ys.length := awLen rel
  refine call_len_dictH hd dd (by rw [← hl]; rw [sizeLine_eq] at z; omega) ?_
  rw [← hl]
  exact ⟨.int _, H, I.tok _, ⟨_, rfl⟩, q⟩
/-- d.setdefault(k, v) -/
def rNSetd (P : Program) (w : World) : V → List V → Hp → VK → Prop := fun x vs H Q => ∃ a xs k b v, x = .ref a ∧ vs = [.ref b, v] ∧ ND P w H a xs ∧ KeyN H (.ref b) k ∧ xs.length < sizeLine ∧ (∀ y, getN xs k = some y → Q y H) ∧ (getN xs k = none → Q v (upd H a (NDO P w a (xs ++ [(k, b, v)]))))
theorem mt_nsetd (hu : X.A.units + 64 < cLine) : MtR X "dict.setdefault" (rNSetd X.prog X.w) := by
  intro pins s σ H x vs v us Q I rx rxs h
  obtain ⟨a, xs, k, b, v0, rfl, rfl, hn, hk, hl, q1, q2⟩ := h
  cases rx
  obtain ⟨u1, u2, rfl, r1, r2⟩ := vals2 rxs
  obtain ⟨b', rfl, eb, hb⟩ := nd_at I hk r1
  obtain rfl : b = b' := V.ref.inj eb
  obtain ⟨_, hd, ys, rel, dd⟩ := hn.full I
  have hz : ys.length ≤ sizeLine := by
    have := awLen rel
    omega
  have z := getN_rel (k := k) rel
  refine call_setdefault_heap (knd := nestedKind X.prog X.w) (hsz := hz) (show X.A.in1.units + 8 < cLine by show X.A.units + 1 + 8 < cLine; omega) hb hd dd (fun p hp => ?_) (fun h0 h' dd' hs => ?_)
  · rw [hp] at z
    cases e : getN xs k with
    | none => rw [e] at z; exact z.elim
    | some y =>
      rw [e] at z
      exact ⟨y, H, I.tok _, z, q1 y e⟩
  · rw [h0] at z
    cases e : getN xs k with
    | some y => rw [e] at z; exact z.elim
    | none => exact ⟨v0, _, nd_write I hn hl rel hd h0 r2 dd' hs, r2, q2 e⟩
def tNSetd (P : Program) (w : World) (to : TE) (t : TA) : TE := fun σ H Q => to σ H fun x H1 => (∃ a xs, x = V.ref a ∧ ND P w H1 a xs) ∧ t σ H1 fun vs H2 => rNSetd P w x vs H2 Q
theorem pe_nsetd {P : Program} {w : World} (hP : X.prog = P) (hw : X.w = w) {o e : Expr} {es : List Expr} {to : TE} {t : TA} {apos cpos : Pos} (hu : X.A.units + 64 < cLine) (ho : PE X o to) (ha : PA X (e :: es) t)
    (c1 : attributeBase o "setdefault" X.env (eval o X.env) = eval o X.env := by rfl)
    (c2 : ((backTo cpos (starEach (e :: es) X.env)).all (fun x => !x.1) && (backToKw cpos (keywordEach [] X.env)).all (fun x => x.1.isSome) && decide ((e :: es).length + ([] : List Keyword).length + (if ([] : List Keyword).isEmpty then 0 else 1) < 30)) = true := by rfl)
    (c3 : (apos.endLine == cpos.line) = true := by rfl) (c4 : starEach (e :: es) X.env = (false, eval e X.env) :: starEach es X.env := by rfl) (c5 : (backTo cpos (starEach es X.env)).any (·.1) = false := by rfl) :
    PE X (.Call (.Attribute o "setdefault" apos) (e :: es) [] cpos) (tNSetd P w to t) := by
  subst hP hw
  constructor
  intro pins s σ H Q I h
  refine wpAny_Call_method_late c1 c2 c3 rfl (thn (ho.run pins s σ H _ I h) ?_)
  rintro v s1 ⟨x, H1, I1, r1, ⟨a, xs, rfl, hn⟩, q1⟩
  cases r1
  obtain ⟨_, hd, ys, rel, dd⟩ := hn.full I1
  obtain ⟨ob, es', ep, g1, g2, _⟩ := id dd
  refine ⟨"dict", "dict.setdefault", F.plainAttrs_dict, F.slot_dict_setdefault, F.type_dict_setdefault, dd.typeIs, (fun z e => ⟨ob, by injection e with e; rw [← e]; exact g1, g2.2.1⟩), ?_⟩
  have hA := ha.run cpos pins s1 σ H1 _ I1 q1
  rw [c4] at hA ⊢
  refine Calls.callWith_builtin (by show (false || (backTo cpos (starEach es X.env)).any (·.1)) = false; rw [c5]; rfl) (Calls.evalArgs_plain ?_)
  exact thn hA fun us s2 ⟨vs, H2, I2, r2, q2⟩ => mt_nsetd hu pins s2 σ H2 (.ref a) vs (.ref a) us Q I2 rfl r2 q2
end nds
/-! ### the class Walk -/
abbrev sWalk___init__ : Stmt := inClass c_Walk 0
abbrev sWalk_meet : Stmt := inClass c_Walk 1
theorem scWi : FnScope ["self", "first"] ["self", "first"] (defScope sWalk___init__) := ⟨rfl, rfl, rfl, by decide +kernel, rfl, by decide +kernel, by decide +kernel⟩
theorem scWm : FnScope ["self", "thing", "ahead", "bits"] ["self", "thing", "ahead", "bits"] (defScope sWalk_meet) := ⟨rfl, rfl, rfl, by decide +kernel, rfl, by decide +kernel, by decide +kernel⟩
theorem w_mn : ¬ ("met" : Str) = "numbers" := by decide +kernel
theorem w_mw : ¬ ("met" : Str) = "ways" := by decide +kernel
theorem w_nw : ¬ ("numbers" : Str) = "ways" := by decide +kernel
def wF (M N W : Addr) : List (Str × V) := putF "ways" (.ref W) (putF "numbers" (.ref N) (putF "met" (.ref M) []))
theorem wF_met (M N W : Addr) : (wF M N W).lookup ("met" : Str) = some (.ref M) := by
  unfold wF
  rw [lookup_putF, if_neg w_mw, lookup_putF, if_neg w_mn, lookup_putF, if_pos rfl]
theorem wF_num (M N W : Addr) : (wF M N W).lookup ("numbers" : Str) = some (.ref N) := by
  unfold wF
  rw [lookup_putF, if_neg w_nw, lookup_putF, if_pos rfl]
theorem wF_ways (M N W : Addr) : (wF M N W).lookup ("ways" : Str) = some (.ref W) := by
  unfold wF
  rw [lookup_putF, if_pos rfl]
theorem wF_no (M N W : Addr) {m : Str} (h1 : ¬ m = "ways") (h2 : ¬ m = "numbers") (h3 : ¬ m = "met") : (wF M N W).lookup m = none := by
  unfold wF
  rw [lookup_putF, if_neg h1, lookup_putF, if_neg h2, lookup_putF, if_neg h3]
  rfl
theorem wF_meet (M N W : Addr) : (wF M N W).lookup ("meet" : Str) = none := wF_no M N W (by decide +kernel) (by decide +kernel) (by decide +kernel)
structure WCls (K : PySem.W.Frag) (mg : Str → Option Value) (C : Addr) : Prop where
  cl : Cls K C
  nM : NoAttr K C "met"
  nN : NoAttr K C "numbers"
  nW : NoAttr K C "ways"
  mgC : mg "Walk" = some (.ref C)
abbrev WT := NestedKey × Addr
def numE (ts : List WT) : List NE := ts.mapIdx fun i t => (t.1, t.2, .int (i : Nat))
theorem numE_snoc (ts : List WT) (t : WT) : numE (ts ++ [t]) = numE ts ++ [(t.1, t.2, .int (ts.length : Nat))] := by
  unfold numE
  rw [List.mapIdx_append]
  simp
theorem numE_len (ts : List WT) : (numE ts).length = ts.length := List.length_mapIdx ..
theorem numE_mem {ts : List WT} {e : NE} (h : e ∈ numE ts) : ∃ i t, ts[i]? = some t ∧ e = (t.1, t.2, .int (i : Nat)) := by
  obtain ⟨i, hi, rfl⟩ := List.mem_mapIdx.mp h
  exact ⟨i, ts[i], List.getElem?_eq_getElem hi, rfl⟩
theorem numE_none {ts : List WT} {k : NestedKey} (h : ∀ t ∈ ts, t.1 ≠ k) : getN (numE ts) k = none := by
  rw [getN_none]
  intro e he
  obtain ⟨i, t, ht, rfl⟩ := numE_mem he
  exact h t (List.mem_of_getElem? ht)
theorem numE_some {ts : List WT} {i : Nat} {k : NestedKey} {b : Addr} (nd : (ts.map (·.1)).Nodup) (h : ts[i]? = some (k, b)) : getN (numE ts) k = some (.int (i : Nat)) := by
  cases e : getN (numE ts) k with
  | none =>
    exfalso
    have hi := (List.getElem?_eq_some_iff.mp h).1
    have := getN_none.mp e (k, b, .int (i : Nat)) (List.mem_mapIdx.mpr ⟨i, hi, by rw [List.getElem?_eq_getElem hi] at h; rw [Option.some.inj h]⟩)
    exact this rfl
  | some v =>
    obtain ⟨c, hc⟩ := getN_some e
    obtain ⟨j, t, ht, he⟩ := numE_mem hc
    have e1 : t.1 = k := (Prod.mk.inj he).1.symm
    have e2 : v = .int (j : Nat) := (Prod.mk.inj (Prod.mk.inj he).2).2
    have ij : i = j := by
      have a1 : (ts.map (·.1))[i]? = some k := by rw [List.getElem?_map, h]; rfl
      have a2 : (ts.map (·.1))[j]? = some k := by rw [List.getElem?_map, ht, ← e1]; rfl
      exact (List.getElem?_inj (List.getElem?_eq_some_iff.mp a1).1 nd).mp (a1.trans a2.symm)
    rw [e2, ij]
abbrev WayAt (H : Hp) : List Addr → List (Int × List Int) → Prop := Paired fun q e => ∃ bb, H q = some (.tup [.int e.1, .ref bb]) ∧ H bb = some (.tup (e.2.map V.int))
structure WalkAt (P : Program) (w : World) (C : Addr) (H : Hp) (p M N W : Addr) (ts : List WT) (wy : List (Int × List Int)) : Prop where
  ob : ∃ dx, H p = some (.ins C dx (wF M N W))
  met : H M = some (.lst (ts.map fun t => V.ref t.2))
  num : ND P w H N (numE ts)
  ways : ∃ ws, H W = some (.lst (ws.map V.ref)) ∧ WayAt H ws wy
  nd : (ts.map (·.1)).Nodup
  keys : ∀ t ∈ ts, KeyN H (.ref t.2) t.1
  len : wy.length = ts.length
  nMW : M ≠ W
theorem keyn_stay {H H' : Hp} (t : TupsStay H H') {y : V} {k : NestedKey} (h : KeyN H y k) : KeyN H' y k := ⟨nk_stay t _ _ h.1, h.2⟩
theorem WalkAt.stay {C : Addr} {H H' : Hp} {p M N W : Addr} {ts : List WT} {wy : List (Int × List Int)} (h : WalkAt P w C H p M N W ts wy) (t : TupsStay H H') (k : ∀ c o, (c = p ∨ c = M ∨ c = N ∨ c = W) → H c = some o → H' c = some o) : WalkAt P w C H' p M N W ts wy := by
  obtain ⟨⟨dx, ob⟩, met, num, ⟨ws, e1, e2⟩, nd, keys, len, ne⟩ := h
  exact ⟨⟨dx, k _ _ (.inl rfl) ob⟩, k _ _ (.inr (.inl rfl)) met, nd_stay num (k _ _ (.inr (.inr (.inl rfl))) num.ob) t, ⟨ws, k _ _ (.inr (.inr (.inr rfl))) e1, awMap (fun q e z => z.elim fun bb y => ⟨bb, t _ _ y.1, t _ _ y.2⟩) e2⟩, nd, fun x hx => keyn_stay t (keys x hx), len, ne⟩
theorem WalkAt.same {C : Addr} {H H' : Hp} {p M N W : Addr} {ts : List WT} {wy : List (Int × List Int)} (h : WalkAt P w C H p M N W ts wy) (s : Same H H') : WalkAt P w C H' p M N W ts wy := h.stay (Same.tups s) fun c o _ e => s c o e
def spWi (P : Program) (w : World) (C : Addr) : Sp := fun vs H Q _ => ∃ (p dx b : Addr) (k : NestedKey), vs = [.ref p, .ref b] ∧ H p = some (.ins C dx []) ∧ KeyN H (.ref b) k ∧
  ∀ H' M N W, WalkAt P w C H' p M N W [(k, b)] [(0, [])] → H M = none → H N = none → H W = none → (∀ c o, c ≠ p → H c = some o → H' c = some o) → Q .non H'
theorem ok_wi {f C : Addr} {fd : FuncData} {k : Nat} (F : Fun K "__init__" "Walk.__init__" sWalk___init__ f fd) (T : WCls K mg C) : FnOk P w K mg base CX0 (k + 1) f fd ["self", "first"] (spWi P w C) := by
  refine F.ok scWi (fun vs H Q E h => ?_) (fun cdv A outer s H vs Q E hr h => ?_)
  · obtain ⟨p, dx, b, k, rfl, _⟩ := h
    rfl
  · obtain ⟨p, dx, b, key, rfl, hp, hk, q⟩ := h
    refine ⟨_, pss_cons (ps_fld (pv 0) (pe_lst (pa_cons (pv 1) pa_nil)) rfl)
      (pss_cons (ps_fld (pv 0) (pe_ndisp (P := P) (w := w) rfl rfl hr.units (pv 1) pe_int) rfl)
      (pss_one (ps_fld (pv 0) (pe_lst (pa_cons (pe_tup (pa_cons pe_int (pa_cons (pe_tup pa_nil) pa_nil))) pa_nil)) rfl))), ?_⟩
    refine ⟨.ref b, rfl, by show 1 ≤ sizeLine; decide, fun M hM => ?_⟩
    have sM := same_new (o := .lst [.ref b]) hM
    have npM : p ≠ M := ne_of_none hp hM
    refine ⟨.ref p, rfl, p, C, dx, [], rfl, sM _ _ hp, T.cl, T.nM, (by show 0 < 1000; decide), ?_⟩
    -- the heap with met
    have t1 : TupsStay H (upd (upd H M (.lst [.ref b])) p (.ins C dx (putF "met" (.ref M) []))) := fun c xs e => by
      rw [upd_ne (ne_of e hp (fun z => nomatch z))]
      exact sM _ _ e
    have k1 : ∀ c o, c ≠ p → H c = some o → upd (upd H M (.lst [.ref b])) p (.ins C dx (putF "met" (.ref M) [])) c = some o := fun c o n e => by
      rw [upd_ne n]
      exact sM _ _ e
    have ep1 : upd (upd H M (.lst [.ref b])) p (.ins C dx (putF "met" (.ref M) [])) p = some (.ins C dx (putF "met" (.ref M) [])) := upd_same
    have eM1 : upd (upd H M (.lst [.ref b])) p (.ins C dx (putF "met" (.ref M) [])) M = some (.lst [.ref b]) := by
      rw [upd_ne npM.symm]
      exact upd_same
    generalize upd (upd H M (.lst [.ref b])) p (.ins C dx (putF "met" (.ref M) [])) = H1 at t1 k1 ep1 eM1
    intro N hN
    have sN := same_new (o := NDO P w N []) hN
    have npN : p ≠ N := ne_of_none ep1 hN
    have nMN : M ≠ N := ne_of_none eM1 hN
    refine ⟨.ref b, rfl, b, key, rfl, keyn_stay (t1.trans (Same.tups sN)) hk, upd_same, ?_⟩
    rw [upd_upd]
    have sN2 := same_new (o := NDO P w N [(key, b, .int 0)]) hN
    refine ⟨.ref p, rfl, p, C, dx, _, rfl, sN2 _ _ ep1, T.cl, T.nN, (by show 1 < 1000; decide), ?_⟩
    have k2 : ∀ c o, c ≠ p → H1 c = some o → upd (upd H1 N (NDO P w N [(key, b, .int 0)])) p (.ins C dx (putF "numbers" (.ref N) (putF "met" (.ref M) []))) c = some o := fun c o n e => by
      rw [upd_ne n]
      exact sN2 _ _ e
    have t2 : TupsStay H1 (upd (upd H1 N (NDO P w N [(key, b, .int 0)])) p (.ins C dx (putF "numbers" (.ref N) (putF "met" (.ref M) [])))) := fun c xs e => k2 c _ (ne_of e ep1 (fun z => nomatch z)) e
    have ep2 : upd (upd H1 N (NDO P w N [(key, b, .int 0)])) p (.ins C dx (putF "numbers" (.ref N) (putF "met" (.ref M) []))) p = some (.ins C dx (putF "numbers" (.ref N) (putF "met" (.ref M) []))) := upd_same
    have eN2 : upd (upd H1 N (NDO P w N [(key, b, .int 0)])) p (.ins C dx (putF "numbers" (.ref N) (putF "met" (.ref M) []))) N = some (NDO P w N [(key, b, .int 0)]) := by
      rw [upd_ne npN.symm]
      exact upd_same
    generalize upd (upd H1 N (NDO P w N [(key, b, .int 0)])) p (.ins C dx (putF "numbers" (.ref N) (putF "met" (.ref M) []))) = H2 at k2 t2 ep2 eN2
    have eM2 := k2 _ _ npM.symm eM1
    refine ⟨by show 0 ≤ sizeLine; decide, fun E0 hE0 => ⟨by show 2 ≤ sizeLine; decide, fun T0 hT0 => ⟨by show 1 ≤ sizeLine; decide, fun W hW => ?_⟩⟩⟩
    have s1 := same_new (o := .tup []) hE0
    have s2 := same_new (o := .tup [.int 0, .ref E0]) hT0
    have s3 := same_new (o := .lst [.ref T0]) hW
    have s123 := (s1.trans s2).trans s3
    have npW : p ≠ W := ne_of_none ((s1.trans s2) _ _ ep2) hW
    have nMW : M ≠ W := ne_of_none ((s1.trans s2) _ _ eM2) hW
    have nNW : N ≠ W := ne_of_none ((s1.trans s2) _ _ eN2) hW
    refine ⟨.ref p, rfl, p, C, dx, _, rfl, s123 _ _ ep2, T.cl, T.nW, (by show 2 < 1000; decide), ?_⟩
    have k3 : ∀ c o, c ≠ p → H2 c = some o → upd (upd (upd (upd H2 E0 (.tup [])) T0 (.tup [.int 0, .ref E0])) W (.lst [.ref T0])) p (.ins C dx (putF "ways" (.ref W) (putF "numbers" (.ref N) (putF "met" (.ref M) [])))) c = some o := fun c o n e => by
      rw [upd_ne n]
      exact s123 _ _ e
    have t3 : TupsStay H2 (upd (upd (upd (upd H2 E0 (.tup [])) T0 (.tup [.int 0, .ref E0])) W (.lst [.ref T0])) p (.ins C dx (putF "ways" (.ref W) (putF "numbers" (.ref N) (putF "met" (.ref M) []))))) := fun c xs e => k3 c _ (ne_of e ep2 (fun z => nomatch z)) e
    have tA := (t1.trans t2).trans t3
    refine q _ M N W ⟨⟨dx, upd_same⟩, k3 _ _ npM.symm eM2, ⟨k3 _ _ npN.symm eN2, fun e he => ?_⟩, ⟨[T0], ?_, .cons ⟨E0, ?_, ?_⟩ .nil⟩, by simp, fun x hx => ?_, rfl, nMW⟩ hM ?_ ?_ fun c o n e => k3 c o n (k2 c o n (k1 c o n e))
    · rw [List.mem_singleton.mp he]
      exact ⟨nk_stay tA _ _ hk.1, hk.2.1⟩
    · rw [upd_ne npW.symm]
      exact upd_same
    · have : T0 ≠ p := fun z => by rw [z] at hT0; rw [s1 _ _ ep2] at hT0; cases hT0
      rw [upd_ne this]
      exact s3 _ _ upd_same
    · have : E0 ≠ p := fun z => by rw [z, ep2] at hE0; cases hE0
      rw [upd_ne this]
      exact s3 _ _ (s2 _ _ upd_same)
    · rw [List.mem_singleton.mp hx]
      exact keyn_stay tA hk
    · cases e : H N with
      | none => rfl
      | some o =>
        by_cases z : N = p
        · exact absurd z npN.symm
        · rw [k1 _ _ z e] at hN
          cases hN
    · cases e : H W with
      | none => rfl
      | some o =>
        by_cases z : W = p
        · exact absurd z npW.symm
        · rw [(s1.trans s2) _ _ (k2 _ _ z (k1 _ _ z e))] at hW
          cases hW
def spWm (P : Program) (w : World) (C : Addr) : Sp := fun vs H Q _ => ∃ (p M N W b bb : Addr) (ts : List WT) (wy : List (Int × List Int)) (k : NestedKey) (ah : Int) (bs : List Int), vs = [.ref p, .ref b, .int ah, .ref bb] ∧ WalkAt P w C H p M N W ts wy ∧ KeyN H (.ref b) k ∧ H bb = some (.tup (bs.map V.int)) ∧ ts.length ≤ 1000000 ∧
  ∀ H' ts' wy' i, WalkAt P w C H' p M N W ts' wy' → (∃ b', ts'[i]? = some (k, b')) → ((ts' = ts ∧ wy' = wy) ∨ (ts' = ts ++ [(k, b)] ∧ wy' = wy ++ [(ah, bs)] ∧ i = ts.length ∧ ∀ t ∈ ts, t.1 ≠ k)) → (∀ c o, c ≠ M → c ≠ N → c ≠ W → H c = some o → H' c = some o) → Q (.int (i : Nat)) H'
theorem ok_wm {f C : Addr} {fd : FuncData} {k : Nat} (F : Fun K "meet" "Walk.meet" sWalk_meet f fd) (T : WCls K mg C) (mn : mg "len" = none) : FnOk P w K mg base CX0 (k + 1) f fd ["self", "thing", "ahead", "bits"] (spWm P w C) := by
  refine F.ok scWm (fun vs H Q E h => ?_) (fun cdv A outer s H vs Q E hr h => ?_)
  · obtain ⟨p, M, N, W, b, bb, ts, wy, k, ah, bs, rfl, _⟩ := h
    rfl
  · obtain ⟨p, M, N, W, b, bb, ts, wy, key, ah, bs, rfl, hw, hk, hbb, hl, q⟩ := h
    refine ⟨_, pss_mid (ps_if (pt_cmp (pc_ndnotin (P := P) (w := w) rfl rfl hr.units (pv 1) (pe_fld (pv 0) rfl)))
        (pss_cons (ps_ndput (P := P) (w := w) rfl rfl hr.units (pe_fld (pv 0) rfl) (pv 1) (pe_callB call_len_seq (by rfl) mn PySem.boot_len (pa_cons (pe_fld (pv 0) rfl) pa_nil)) rfl)
        (pss_cons (ps_expr (pe_bm PySem.F.plainAttrs_list PySem.F.slot_list_append PySem.F.type_list_append mt_append (pe_fld (pv 0) rfl) (pa_cons (pv 1) pa_nil)))
        (pss_one (ps_expr (pe_bm PySem.F.plainAttrs_list PySem.F.slot_list_append PySem.F.type_list_append mt_append (pe_fld (pv 0) rfl) (pa_cons (pe_tup (pa_cons (pv 2) (pa_cons (pv 3) pa_nil))) pa_nil)))))) pss_nil)
      (pss_one (ps_ret (pe_ndget (P := P) (w := w) rfl rfl hr.units (pe_fld (pv 0) rfl) (pv 1) (fun _ _ => rfl)))), ?_⟩
    obtain ⟨⟨dx, ob⟩, met, num, ⟨ws, ways, wat⟩, nd, keys, len, nMW⟩ := id hw
    have npM : p ≠ M := ne_of ob met (fun z => nomatch z)
    have npN : p ≠ N := ne_of ob num.ob (fun z => nomatch z)
    have npW : p ≠ W := ne_of ob ways (fun z => nomatch z)
    have nMN : M ≠ N := ne_of met num.ob (fun z => nomatch z)
    have nNW : N ≠ W := ne_of num.ob ways (fun z => nomatch z)
    have sl : (1000000 : Nat) < sizeLine := by rw [sizeLine_eq]; decide
    refine ⟨fun σ2 H2 => ∃ ts' wy' i, σ2 = [some (.ref p), some (.ref b), some (.int ah), some (.ref bb)] ∧ WalkAt P w C H2 p M N W ts' wy' ∧ (∃ b', ts'[i]? = some (key, b')) ∧ ((ts' = ts ∧ wy' = wy) ∨ (ts' = ts ++ [(key, b)] ∧ wy' = wy ++ [(ah, bs)] ∧ i = ts.length ∧ ∀ t ∈ ts, t.1 ≠ key)) ∧ (∀ c o, c ≠ M → c ≠ N → c ≠ W → H c = some o → H2 c = some o), ?_, ?_⟩
    · refine ⟨.ref b, rfl, .ref p, rfl, p, C, dx, _, _, rfl, ob, T.cl, T.nN, wF_num _ _ _, N, _, key, rfl, num, hk, _, rfl, ?_⟩
      cases e : getN (numE ts) key with
      | some v =>
        refine iteF ?_
        obtain ⟨c, hc⟩ := getN_some e
        obtain ⟨i, t, ht, he⟩ := numE_mem hc
        have e1 : t.1 = key := (Prod.mk.inj he).1.symm
        exact ⟨ts, wy, i, rfl, hw, ⟨t.2, by rw [ht, ← e1]⟩, .inl ⟨rfl, rfl⟩, fun c o _ _ _ z => z⟩
      | none =>
        refine iteT ?_
        have fresh : ∀ t ∈ ts, t.1 ≠ key := fun t ht z => by
          obtain ⟨i, hi⟩ := List.mem_iff_getElem?.mp ht
          have : ts[i]? = some (key, t.2) := by rw [hi, ← z]
          rw [numE_some nd this] at e
          cases e
        have nl : (numE ts).length < sizeLine := by rw [numE_len]; omega
        refine ⟨.ref p, rfl, p, C, dx, _, _, rfl, ob, T.cl, T.nM, wF_met _ _ _, M, _, rfl, .inl (.inl (.inl met)), .ref p, rfl, p, C, dx, _, _, rfl, ob, T.cl, T.nN, wF_num _ _ _, .ref b, rfl, N, _, key, b, rfl, num, rfl, hk, e, nl, ?_⟩
        have ml : ((ts.map fun t => V.ref t.2).length : Int) = ((ts.length : Nat) : Int) := by rw [List.length_map]
        rw [ml]
        have num1 := nd_put (v := .int ((ts.length : Nat) : Int)) num hk
        rw [← numE_snoc ts (key, b)] at num1 ⊢
        have k1 : ∀ c o, c ≠ N → H c = some o → upd H N (NDO P w N (numE (ts ++ [(key, b)]))) c = some o := fun c o n z => by
          rw [upd_ne n]
          exact z
        have t1 : TupsStay H (upd H N (NDO P w N (numE (ts ++ [(key, b)])))) := fun c xs z => k1 c _ (ne_of z num.ob (fun y => nomatch y)) z
        generalize upd H N (NDO P w N (numE (ts ++ [(key, b)]))) = H1 at num1 k1 t1
        have ob1 := k1 _ _ npN ob
        have met1 := k1 _ _ nMN met
        refine ⟨.ref p, rfl, p, C, dx, _, _, rfl, ob1, T.cl, T.nM, wF_met _ _ _, .inl ⟨rfl, _, .inl (.inl met1)⟩, .ref b, rfl, M, _, _, rfl, rfl, met1, ?_, ?_⟩
        · rw [List.length_map]
          omega
        have e2 : (ts.map fun t => V.ref t.2) ++ [V.ref b] = (ts ++ [(key, b)]).map fun t => V.ref t.2 := by rw [List.map_append]; rfl
        rw [e2]
        have k2 : ∀ c o, c ≠ M → H1 c = some o → upd H1 M (.lst ((ts ++ [(key, b)]).map fun t => V.ref t.2)) c = some o := fun c o n z => by
          rw [upd_ne n]
          exact z
        have t2 : TupsStay H1 (upd H1 M (.lst ((ts ++ [(key, b)]).map fun t => V.ref t.2))) := fun c xs z => k2 c _ (ne_of z met1 (fun y => nomatch y)) z
        have met2 : upd H1 M (.lst ((ts ++ [(key, b)]).map fun t => V.ref t.2)) M = some (.lst ((ts ++ [(key, b)]).map fun t => V.ref t.2)) := upd_same
        generalize upd H1 M (.lst ((ts ++ [(key, b)]).map fun t => V.ref t.2)) = H2 at k2 t2 met2
        have ob2 := k2 _ _ npM ob1
        have ways2 := k2 _ _ nMW.symm (k1 _ _ nNW.symm ways)
        refine ⟨.ref p, rfl, p, C, dx, _, _, rfl, ob2, T.cl, T.nW, wF_ways _ _ _, .inl ⟨rfl, _, .inl (.inl ways2)⟩, .int ah, rfl, .ref bb, rfl, by show 2 ≤ sizeLine; decide, fun U hU => ?_⟩
        have sU := same_new (o := .tup [.int ah, .ref bb]) hU
        have wl := awLen wat
        refine ⟨W, _, _, rfl, rfl, sU _ _ ways2, ?_, ?_⟩
        · rw [List.length_map]
          omega
        have e3 : ws.map V.ref ++ [V.ref U] = (ws ++ [U]).map V.ref := by rw [List.map_append]; rfl
        rw [e3]
        have k3 : ∀ c o, c ≠ W → H2 c = some o → upd (upd H2 U (.tup [.int ah, .ref bb])) W (.lst ((ws ++ [U]).map V.ref)) c = some o := fun c o n z => by
          rw [upd_ne n]
          exact sU _ _ z
        have t3 : TupsStay H2 (upd (upd H2 U (.tup [.int ah, .ref bb])) W (.lst ((ws ++ [U]).map V.ref))) := fun c xs z => k3 c _ (ne_of z ways2 (fun y => nomatch y)) z
        have tA := (t1.trans t2).trans t3
        have nUW : U ≠ W := fun z => by rw [z, ways2] at hU; cases hU
        have eU3 : upd (upd H2 U (.tup [.int ah, .ref bb])) W (.lst ((ws ++ [U]).map V.ref)) U = some (.tup [.int ah, .ref bb]) := by
          rw [upd_ne nUW]
          exact upd_same
        have eW3 : upd (upd H2 U (.tup [.int ah, .ref bb])) W (.lst ((ws ++ [U]).map V.ref)) W = some (.lst ((ws ++ [U]).map V.ref)) := upd_same
        generalize upd (upd H2 U (.tup [.int ah, .ref bb])) W (.lst ((ws ++ [U]).map V.ref)) = H3 at k3 t3 tA eU3 eW3
        refine ⟨ts ++ [(key, b)], wy ++ [(ah, bs)], ts.length, rfl, ⟨⟨dx, k3 _ _ npW ob2⟩, k3 _ _ nMW met2, nd_stay num1 (k3 _ _ nNW (k2 _ _ nMN.symm num1.ob)) (t2.trans t3), ⟨ws ++ [U], eW3, ?_⟩, ?_, fun x hx => ?_, ?_, nMW⟩, ⟨b, ?_⟩, .inr ⟨rfl, rfl, rfl, fresh⟩, fun c o n1 n2 n3 z => k3 _ _ n3 (k2 _ _ n1 (k1 _ _ n2 z))⟩
        · exact awSnoc (F := fun (q : Addr) (e : Int × List Int) => ∃ bb, H3 q = some (.tup [.int e.1, .ref bb]) ∧ H3 bb = some (.tup (e.2.map V.int))) ⟨bb, eU3, tA _ _ hbb⟩ (awMap (fun q e z => z.elim fun bb y => ⟨bb, tA _ _ y.1, tA _ _ y.2⟩) wat)
        · rw [List.map_append, List.nodup_append]
          refine ⟨nd, by simp, fun x hx y hy => ?_⟩
          obtain ⟨t, ht, rfl⟩ := List.mem_map.mp hx
          rw [List.mem_singleton.mp hy]
          exact fresh t ht
        · rcases List.mem_append.mp hx with hx | hx
          · exact keyn_stay tA (keys x hx)
          · rw [List.mem_singleton.mp hx]
            exact keyn_stay tA hk
        · rw [List.length_append, List.length_append, len]
          rfl
        · rw [List.getElem?_append_right (Nat.le_refl _), Nat.sub_self]
          rfl
    · rintro σ2 H2 ⟨ts', wy', i, rfl, hw2, ⟨b', hb'⟩, hcase, kp⟩
      obtain ⟨⟨dx2, ob2⟩, _, num2, _, nd2, _⟩ := id hw2
      have tS : TupsStay H H2 := fun c xs z => kp c _ (ne_of z met (fun y => nomatch y)) (ne_of z num.ob (fun y => nomatch y)) (ne_of z ways (fun y => nomatch y)) z
      exact ⟨.ref p, rfl, p, C, dx2, _, _, rfl, ob2, T.cl, T.nN, wF_num _ _ _, .ref b, rfl, N, _, key, .int (i : Nat), rfl, num2, keyn_stay tS hk, numE_some nd2 hb', q H2 ts' wy' i hw2 ⟨b', hb'⟩ hcase kp⟩
/-! ### list(zip(a, b)) of two lists -/
section lz
variable {A : Around} {E : Value → Shared → Prop} {s : Shared}
abbrev IsZ (h : Heap) (z TI TO : Addr) (f0 : Value) (b : Bool) : Prop := h.get? z = some { cls := .type "zip", dict := none, data := .fields #[f0, .bool b, .bool false, .ref TI, .ref TO], slots := #[] }
theorem z_free {z TI TO T : Addr} {f : Bool} {oT : Obj} {Q : Bool → Shared → Prop} (hz : IsZ s.heap z TI TO (rawInt T) f) (hT : s.heap.get? T = some oT) (q : ∀ h', IsZ h' z TI TO (rawInt T) true → Heap.SameBut z s.heap h' → Q false { s with heap := h' }) :
    wpAny (model P w) A (Builtin.SmallTypes.ownedTupleIsFree (.ref z)) Q E s := by
  unfold Builtin.SmallTypes.ownedTupleIsFree
  apply wpAny_bind
  refine wpAny_field hz rfl (x := rawInt T) rfl ?_
  show wpAny _ _ (loadIfAlive ((T : Int).toNat) >>= _) _ _ _
  rw [Int.toNat_natCast]
  apply wpAny_bind
  refine PySem.W.kdx_alive hT ?_
  simp only [Option.isNone_some, Bool.false_eq_true, if_false]
  apply wpAny_bind
  refine wpAny_field hz rfl (x := .bool f) rfl ?_
  cases f with
  | true =>
    rw [if_neg (show ¬ ((Value.bool true != Value.bool true) = true) from Bool.false_ne_true)]
    exact wpAny_pure (q s.heap hz (Heap.SameBut.refl _ _))
  | false =>
    rw [if_pos (show (Value.bool false != Value.bool true) = true from rfl)]
    apply wpAny_bind
    exact wpAny_setField_rec hz (by simp) fun h' hz' hs' => wpAny_pure (q h' hz' hs')
theorem z_next_out {z TI TO i1 i2 l1 l2 T : Addr} {k1 k2 : Nat} {xs ys : Array Value} {x y : Value} {f : Bool} {oT : Obj} {Q : Value → Shared → Prop} (D : ZipApart z TI TO i1 i2 l1 l2) (hz : IsZ s.heap z TI TO (rawInt T) f) (hT : s.heap.get? T = some oT)
    (hTI : IsPair s.heap TI (.ref i1) (.ref i2)) (h1 : s.heap.IsListIter i1 l1 k1) (h2 : s.heap.IsListIter i2 l2 k2) (hl1 : s.heap.IsList l1 xs) (hl2 : s.heap.IsList l2 ys) (hx : xs[k1]? = some x) (hy : ys[k2]? = some y)
    (q : ∀ h', IsZ h' z TI TO (rawInt T) true → h'.IsListIter i1 l1 (k1 + 1) → h'.IsListIter i2 l2 (k2 + 1) → IsPair h' s.heap.objs.size x y → h'.objs.size = s.heap.objs.size + 1 → (∀ c o, c ≠ z → c ≠ i1 → c ≠ i2 → s.heap.get? c = some o → h'.get? c = some o) → Q (.ref s.heap.objs.size) { s with heap := h' }) :
    wpAny (model P w) A (Builtin.«zip.__next__» ⟨[.ref z], []⟩) (fun fin s' => ∃ v, fin = .done (.ret v) ∧ Q v s') E s := by
  show wpAny _ _ (field (.ref z) 2 >>= _) _ _ _
  apply wpAny_bind
  refine wpAny_field hz rfl (x := .bool false) rfl ?_
  show wpAny _ _ (field (.ref z) 3 >>= _) _ _ _
  apply wpAny_bind
  refine wpAny_field hz rfl (x := .ref TI) rfl ?_
  apply wpAny_bind
  refine wpAny_seqItems hTI rfl ?_
  show wpAny _ _ (Builtin.SmallTypes.ownedTupleIsFree (.ref z) >>= _) _ _ _
  apply wpAny_bind
  refine z_free hz hT fun h₁ hz₁ hs₁ => ?_
  simp only [Bool.false_eq_true, if_false]
  apply wpAny_bind
  simp only [← Array.forIn_toList, List.forIn_cons, List.forIn_nil]
  apply wpAny_bind
  apply wpAny_bind
  apply wpAny_holding
  show wpAny _ _ (Builtin.SmallTypes.nextOf (.ref i1) >>= _) _ _ _
  apply wpAny_bind
  refine wpAny_nextOf_list_item (h1.extBut hs₁.extBut D.i1z) (hl1.extBut hs₁.extBut D.l1z) hx fun h₂ h1₂ hs₂ => wpAny_pure ?_
  refine wpAny_pure ?_
  apply wpAny_bind
  apply wpAny_bind
  apply wpAny_holding
  show wpAny _ _ (Builtin.SmallTypes.nextOf (.ref i2) >>= _) _ _ _
  apply wpAny_bind
  refine wpAny_nextOf_list_item ((h2.extBut hs₁.extBut D.i2z).extBut hs₂.extBut D.i12.symm) ((hl2.extBut hs₁.extBut D.l2z).extBut hs₂.extBut D.l2i1) hy fun h₃ h2₃ hs₃ => wpAny_pure ?_
  refine wpAny_pure (wpAny_pure ?_)
  have hsz : h₃.objs.size = s.heap.objs.size := by rw [hs₃.1, hs₂.1, hs₁.1]
  apply wpAny_bind
  refine wpAny_newTuple ?_ (by show 2 ≤ sizeLine; decide)
  have z3 : IsZ h₃ z TI TO (rawInt T) true := hs₃.extBut _ _ D.i2z.symm (hs₂.extBut _ _ D.i1z.symm hz₁)
  refine wpAny_pure ⟨_, rfl, ?_⟩
  show Q (.ref h₃.objs.size) _
  rw [hsz]
  refine q _ (Heap.get?_push_of_some _ z3) ((h1₂.extBut hs₃.extBut D.i12).at fun o e => Heap.get?_push_of_some _ e) (h2₃.at fun o e => Heap.get?_push_of_some _ e) ?_ ?_ fun c o c1 c2 c3 e => Heap.get?_push_of_some _ (hs₃.extBut _ _ c3 (hs₂.extBut _ _ c2 (hs₁.extBut _ _ c1 e)))
  · rw [← hsz]
    exact Heap.get?_push_size _ rfl
  · rw [Heap.size_push, hsz]
theorem z_pyNext_out {z TI TO i1 i2 l1 l2 T : Addr} {k1 k2 : Nat} {xs ys : Array Value} {x y : Value} {f : Bool} {oT : Obj} {Q : Option Value → Shared → Prop} (D : ZipApart z TI TO i1 i2 l1 l2) (hz : IsZ s.heap z TI TO (rawInt T) f) (hT : s.heap.get? T = some oT)
    (hTI : IsPair s.heap TI (.ref i1) (.ref i2)) (h1 : s.heap.IsListIter i1 l1 k1) (h2 : s.heap.IsListIter i2 l2 k2) (hl1 : s.heap.IsList l1 xs) (hl2 : s.heap.IsList l2 ys) (hx : xs[k1]? = some x) (hy : ys[k2]? = some y)
    (q : ∀ h', IsZ h' z TI TO (rawInt T) true → h'.IsListIter i1 l1 (k1 + 1) → h'.IsListIter i2 l2 (k2 + 1) → IsPair h' s.heap.objs.size x y → h'.objs.size = s.heap.objs.size + 1 → (∀ c o, c ≠ z → c ≠ i1 → c ≠ i2 → s.heap.get? c = some o → h'.get? c = some o) → Q (some (.ref s.heap.objs.size)) { s with heap := h' }) :
    wpAny (model P w) A (pyNext (.ref z)) Q E s := by
  have ty : s.TypeIs (.ref z) "zip" := ⟨_, hz, rfl⟩
  unfold pyNext
  apply wpAny_bind
  apply wpAny_attempt
  refine wpAny_callSpecial?_slot (name := Str.ofString "__next__") ty F.slot_zip_next ?_
  refine wpAny_call_entry F.slot_zip_next ty F.entry_zip_next ?_ (F.args_zip_next_1 _)
  exact z_next_out D hz hT hTI h1 h2 hl1 hl2 hx hy fun h' a1 a2 a3 a4 a5 a6 => wpAny_pure (q h' a1 a2 a3 a4 a5 a6)
theorem z_end_out {z TI TO i1 i2 l1 l2 T : Addr} {k1 : Nat} {xs : Array Value} {f : Bool} {oT : Obj} {Q : Option Value → Shared → Prop} (hh : A.handled = none) (D : ZipApart z TI TO i1 i2 l1 l2) (hz : IsZ s.heap z TI TO (rawInt T) f) (hT : s.heap.get? T = some oT)
    (hTI : IsPair s.heap TI (.ref i1) (.ref i2)) (h1 : s.heap.IsListIter i1 l1 k1) (hl1 : s.heap.IsList l1 xs) (hx : xs[k1]? = none)
    (q : ∀ h', (∀ c o, c ≠ z → c ≠ i1 → s.heap.get? c = some o → h'.get? c = some o) → Q none { s with heap := h' }) :
    wpAny (model P w) A (pyNext (.ref z)) Q E s := by
  have ty : s.TypeIs (.ref z) "zip" := ⟨_, hz, rfl⟩
  unfold pyNext
  apply wpAny_bind
  apply wpAny_attempt
  refine wpAny_callSpecial?_slot (name := Str.ofString "__next__") ty F.slot_zip_next ?_
  refine wpAny_call_entry F.slot_zip_next ty F.entry_zip_next ?_ (F.args_zip_next_1 _)
  show wpAny _ _ (field (.ref z) 2 >>= _) _ _ _
  apply wpAny_bind
  refine wpAny_field hz rfl (x := .bool false) rfl ?_
  show wpAny _ _ (field (.ref z) 3 >>= _) _ _ _
  apply wpAny_bind
  refine wpAny_field hz rfl (x := .ref TI) rfl ?_
  apply wpAny_bind
  refine wpAny_seqItems hTI rfl ?_
  show wpAny _ _ (Builtin.SmallTypes.ownedTupleIsFree (.ref z) >>= _) _ _ _
  apply wpAny_bind
  refine z_free hz hT fun h₁ hz₁ hs₁ => ?_
  simp only [Bool.false_eq_true, if_false]
  apply wpAny_bind
  simp only [← Array.forIn_toList, List.forIn_cons, List.forIn_nil]
  apply wpAny_bind
  apply wpAny_bind
  apply wpAny_holding
  show wpAny _ _ (Builtin.SmallTypes.nextOf (.ref i1) >>= _) _ _ _
  apply wpAny_bind
  refine wpAny_nextOf_list_end hh (h1.extBut hs₁.extBut D.i1z) (hl1.extBut hs₁.extBut D.l1z) hx fun h₂ e hs₂ he => ?_
  obtain ⟨o, ho, hc⟩ := he
  apply wpAny_bind
  refine wpAny_isInstance (T := "StopIteration") (b := true) ⟨o, ho, hc⟩ isSubtype_stop ?_
  exact wpAny_pure (q h₂ fun c o c1 c2 e => hs₂ c o c2 (hs₁.extBut c o c1 e))
/-- the pairs that were made -/
structure MadeZ (xs ys : Array Value) (lo : Addr) (h : Heap) (as : List Addr) : Prop where
  rise : as.Pairwise (· < ·)
  above : ∀ a ∈ as, lo < a
  pairs : ∀ (j : Nat) a, as[j]? = some a → ∃ x y, xs[j]? = some x ∧ ys[j]? = some y ∧ IsPair h a x y
/-- where the zip stands -/
def ZAt (h : Heap) (z TI TO i1 i2 : Addr) (l1 l2 : Addr) (i : Nat) (as : List Addr) : Prop := IsPair h TI (.ref i1) (.ref i2) ∧ (∃ a b, IsPair h TO a b) ∧ h.IsListIter i1 l1 i ∧ h.IsListIter i2 l2 i ∧
  ((i = 0 ∧ IsZ h z TI TO .none false) ∨ ∃ T f, T ∈ as ∧ IsZ h z TI TO (rawInt T) f)
theorem z_loop {S z TI TO i1 i2 l1 l2 : Addr} {xs ys : Array Value} (hh : A.handled = none) (D : ZipApart z TI TO i1 i2 l1 l2) (hxy : xs.size = ys.size) (hSz : S ≠ z) (hSI : S ≠ TI) (hSO : S ≠ TO) (hS1 : S ≠ i1) (hS2 : S ≠ i2) (hSa : S ≠ l1) (hSb : S ≠ l2)
    (lo : Addr) (hlo : z ≤ lo ∧ TI ≤ lo ∧ TO ≤ lo ∧ i1 ≤ lo ∧ i2 ≤ lo ∧ S ≤ lo) (hn : xs.size ≤ sizeLine) (res : Value) {h₁ : Heap} {R : Result → Shared → Prop}
    (hR : ∀ h' tk acc c as, (∀ b o, b ≠ S → b ≠ z → b ≠ TO → b ≠ i1 → b ≠ i2 → h₁.get? b = some o → h'.get? b = some o) → h'.get? S = some { cls := .type "list", dict := none, data := .seq acc c, slots := #[] } → as.length = xs.size → MadeZ xs ys lo h' as →
      acc.toList = as.map Value.ref → R (.ok (.ret res)) { s with heap := h', toks := tk }) :
    ∀ (k i : Nat) (h : Heap) (tk c : Nat) (acc : Array Value) (as : List Addr), xs.size - i = k → i ≤ xs.size → ZAt h z TI TO i1 i2 l1 l2 i as → h.IsList l1 xs → h.IsList l2 ys → (∀ b o, b ≠ S → b ≠ z → b ≠ TO → b ≠ i1 → b ≠ i2 → h₁.get? b = some o → h.get? b = some o) →
      h.get? S = some { cls := .type "list", dict := none, data := .seq acc c, slots := #[] } → acc.toList = as.map Value.ref → as.length = i → MadeZ xs ys lo h as → lo < h.objs.size →
      codeAny (model P w) A (.builtin "list.extend.loop" ⟨[.ref S, .ref z, res], []⟩) R { s with heap := h, toks := tk } := by
  have far : ∀ u : Addr, lo < u → u ≠ z ∧ u ≠ TO ∧ u ≠ i1 ∧ u ≠ i2 ∧ u ≠ S := fun u hu => ⟨Nat.ne_of_gt (Nat.lt_of_le_of_lt hlo.1 hu), Nat.ne_of_gt (Nat.lt_of_le_of_lt hlo.2.2.1 hu), Nat.ne_of_gt (Nat.lt_of_le_of_lt hlo.2.2.2.1 hu), Nat.ne_of_gt (Nat.lt_of_le_of_lt hlo.2.2.2.2.1 hu), Nat.ne_of_gt (Nat.lt_of_le_of_lt hlo.2.2.2.2.2 hu)⟩
  intro k
  induction k with
  | zero =>
    intro i h tk c acc as hk hi hz hl1 hl2 keep hS hacc hal hG hls
    obtain ⟨hTI, ⟨a, b, hTO⟩, g1, g2, st⟩ := hz
    have xe : xs[i]? = none := Array.getElem?_eq_none (by omega)
    have fin : ∀ h', (∀ c o, c ≠ z → c ≠ TO → c ≠ i1 → c ≠ i2 → h.get? c = some o → h'.get? c = some o) → R (.ok (.ret res)) { s with heap := h', toks := tk } := fun h' kp => by
      refine hR h' tk acc c as (fun b o n1 n2 n3 n4 n5 e => kp b o n2 n3 n4 n5 (keep b o n1 n2 n3 n4 n5 e)) (kp S _ hSz hSO hS1 hS2 hS) (by omega) ⟨hG.rise, hG.above, fun j a hj => ?_⟩ hacc
      obtain ⟨x, y, e1, e2, e3⟩ := hG.pairs j a hj
      obtain ⟨f1, f2, f3, f4, _⟩ := far a (hG.above a (List.mem_of_getElem? hj))
      exact ⟨x, y, e1, e2, kp a _ f1 f2 f3 f4 e3⟩
    refine codeAny_builtin F.entry_extend_loop ?_
    rw [Around.under_plainId F.plain_extend_loop _]
    show wpAny _ A.in1 (pyNext (.ref z) >>= _) _ _ _
    apply wpAny_bind
    rcases st with ⟨rfl, hz0⟩ | ⟨T, f, hT, hz1⟩
    · exact wpAny_pyNext_zip_end (s := { s with heap := h, toks := tk }) (A := A.in1) hh D hz0 hTI hTO g1 g2 hl1 hl2 (.inl xe) fun h' kp => wpAny_pure (fin h' kp)
    · obtain ⟨j, hj⟩ := List.mem_iff_getElem?.mp hT
      obtain ⟨x, y, _, _, e3⟩ := hG.pairs j T hj
      exact z_end_out (s := { s with heap := h, toks := tk }) (A := A.in1) hh D hz1 e3 hTI g1 hl1 xe fun h' kp => wpAny_pure (fin h' fun c o n1 _ n3 _ e => kp c o n1 n3 e)
  | succ k ih =>
    intro i h tk c acc as hk hi hz hl1 hl2 keep hS hacc hal hG hls
    obtain ⟨hTI, ⟨a, b, hTO⟩, g1, g2, st⟩ := hz
    have hlt : i < xs.size := by omega
    have hx := Array.getElem?_eq_getElem hlt
    have hy := Array.getElem?_eq_getElem (show i < ys.size by omega)
    have hsz : acc.size = i := by rw [← Array.length_toList, hacc, List.length_map, hal]
    have hSl : S < h.objs.size := Heap.lt_size hS
    refine codeAny_builtin F.entry_extend_loop ?_
    rw [Around.under_plainId F.plain_extend_loop _]
    show wpAny _ A.in1 (pyNext (.ref z) >>= _) _ _ _
    apply wpAny_bind
    -- one more pair
    have more : ∀ (h' : Heap) (f : Bool) (T : Addr), T ∈ as ++ [h.objs.size] → IsZ h' z TI TO (rawInt T) f → (∃ a b, IsPair h' TO a b) → h'.IsListIter i1 l1 (i + 1) → h'.IsListIter i2 l2 (i + 1) → IsPair h' h.objs.size xs[i] (ys[i]'(by omega)) → h'.objs.size = h.objs.size + 1 →
        (∀ c o, c ≠ z → c ≠ TO → c ≠ i1 → c ≠ i2 → h.get? c = some o → h'.get? c = some o) →
        wpAny (model P w) A.in1 (updateSeq S (·.push (Value.ref h.objs.size)) >>= fun _ => again (.builtin "list.extend.loop" ⟨[.ref S, .ref z, res], []⟩)) (fun fin s' => match fin with | .done f => R (.ok f) s' | .again c' => c'.quiet = true ∧ codeAny (model P w) A c' R s') (fun e s' => R (.error e) s') { s with heap := h', toks := tk } := by
      intro h' f T hT hz' hTO' g1' g2' hp hsz' kp
      have hS' := kp S _ hSz hSO hS1 hS2 hS
      have up : ∀ b o, b ≠ S → h'.get? b = some o → (h'.update S (Obj.mapSeq (·.push (Value.ref h.objs.size)))).get? b = some o := fun b o hb e => (Heap.get?_update_other _ _ (Ne.symm hb)).trans e
      apply wpAny_bind
      refine wpAny_updateSeq hS' rfl (wpAny_pure ⟨plainId_quiet F.plain_extend_loop _, ?_⟩) (by rw [hsz]; omega) (by show (acc.push (Value.ref h.objs.size)).size ≤ sizeLine + 1; rw [Array.size_push, hsz]; omega)
      refine ih (i + 1) _ tk _ (acc.push (Value.ref h.objs.size)) (as ++ [h.objs.size]) (by omega) hlt ?_ ?_ ?_ (fun b o n1 n2 n3 n4 n5 e => up b o n1 (kp b o n2 n3 n4 n5 (keep b o n1 n2 n3 n4 n5 e))) (Heap.get?_update_self _ hS' rfl) (by rw [Array.toList_push, hacc, List.map_append]; rfl) (by rw [List.length_append, hal]; rfl) ⟨?_, ?_, ?_⟩ ?_
      · obtain ⟨p, q, hpq⟩ := hTO'
        exact ⟨up _ _ hSI.symm (kp _ _ D.TIz D.TITO D.TIi1 D.TIi2 hTI), ⟨p, q, up _ _ hSO.symm hpq⟩, g1'.at fun o e => up _ o hS1.symm e, g2'.at fun o e => up _ o hS2.symm e, .inr ⟨T, f, hT, up _ _ hSz.symm hz'⟩⟩
      · exact hl1.at fun o e => up _ o hSa.symm (kp _ o D.l1z D.l1TO D.l1i1 D.l1i2 e)
      · exact hl2.at fun o e => up _ o hSb.symm (kp _ o D.l2z D.l2TO D.l2i1 D.l2i2 e)
      · refine List.pairwise_append.mpr ⟨hG.rise, List.pairwise_singleton _ _, fun u hu v hv => ?_⟩
        rw [List.mem_singleton.mp hv]
        obtain ⟨j, hj⟩ := List.mem_iff_getElem?.mp hu
        obtain ⟨_, _, _, _, e3⟩ := hG.pairs j u hj
        exact Heap.lt_size e3
      · intro u hu
        rcases List.mem_append.mp hu with hu | hu
        · exact hG.above u hu
        · rw [List.mem_singleton.mp hu]
          exact hls
      · intro j u hj
        by_cases hjl : j < as.length
        · rw [List.getElem?_append_left hjl] at hj
          obtain ⟨x, y, e1, e2, e3⟩ := hG.pairs j u hj
          obtain ⟨f1, f2, f3, f4, f5⟩ := far u (hG.above u (List.mem_of_getElem? hj))
          exact ⟨x, y, e1, e2, up u _ f5 (kp u _ f1 f2 f3 f4 e3)⟩
        · rw [List.getElem?_append_right (by omega)] at hj
          have hj2 := (List.getElem?_eq_some_iff.mp hj).1
          have ej : j = as.length := by
            simp only [List.length_cons, List.length_nil] at hj2
            omega
          subst ej
          rw [Nat.sub_self] at hj
          obtain rfl := Option.some.inj hj
          subst hal
          exact ⟨_, _, hx, hy, up _ _ (Nat.ne_of_gt hSl) hp⟩
      · have e := up _ _ (Nat.ne_of_gt hSl) hp
        exact Nat.lt_trans hls (Heap.lt_size e)
    rcases st with ⟨rfl, hz0⟩ | ⟨T, f, hT, hz1⟩
    · refine wpAny_pyNext_zip_item (s := { s with heap := h, toks := tk }) (A := A.in1) D hz0 hTI hTO g1 g2 hl1 hl2 hx hy fun h' b1 b2 b3 b4 b5 b6 b7 => ?_
      exact more h' false h.objs.size (List.mem_append_right _ List.mem_cons_self) b1 ⟨_, _, b2⟩ b3 b4 b5 b6 b7
    · obtain ⟨j, hj⟩ := List.mem_iff_getElem?.mp hT
      obtain ⟨x, y, _, _, e3⟩ := hG.pairs j T hj
      refine z_pyNext_out (s := { s with heap := h, toks := tk }) (A := A.in1) D hz1 e3 hTI g1 g2 hl1 hl2 hx hy fun h' b1 b2 b3 b4 b5 b6 => ?_
      exact more h' true T (List.mem_append_left _ hT) b1 ⟨_, _, b6 _ _ D.TOz D.TOi1 D.TOi2 hTO⟩ b2 b3 b4 b5 fun c o n1 _ n3 n4 e => b6 c o n1 n3 n4 e
theorem z_nolen : typeLookup (.type "zip") "__len__" = pure none := by
  rw [typeLookup_type, builtinLookup_eq_fast]
  kernel_rfl
theorem z_nohint : typeLookup (.type "zip") "__length_hint__" = pure none := by
  rw [typeLookup_type, builtinLookup_eq_fast]
  kernel_rfl
theorem z_hint {z : Addr} {Q : Bool → Shared → Prop} (hT : s.TypeIs (.ref z) "zip") (q : Q true s) : wpAny (model P w) A (Builtin.List.listLengthHint (.ref z)) Q E s := by
  unfold Builtin.List.listLengthHint
  apply wpAny_bind
  refine wpAny_specialOf hT z_nolen ?_
  refine wpAny_ite_split (fun h => absurd h (by decide)) (fun _ => ?_)
  refine wpAny_ite_split (fun h => absurd h (by decide)) (fun _ => ?_)
  apply wpAny_bind
  refine wpAny_specialOf hT z_nohint ?_
  exact wpAny_pure q
theorem z_extend {S z TI TO i1 i2 l1 l2 : Addr} {xs ys : Array Value} (hh : A.handled = none) (D : ZipApart z TI TO i1 i2 l1 l2) (hxy : xs.size = ys.size) (hSz : S ≠ z) (hSI : S ≠ TI) (hSO : S ≠ TO) (hS1 : S ≠ i1) (hS2 : S ≠ i2) (hSa : S ≠ l1) (hSb : S ≠ l2)
    (lo : Addr) (hlo : z ≤ lo ∧ TI ≤ lo ∧ TO ≤ lo ∧ i1 ≤ lo ∧ i2 ≤ lo ∧ S ≤ lo) (hls : lo < s.heap.objs.size) (hn : xs.size ≤ sizeLine) (res : Value) {R : Result → Shared → Prop} {c₀ : Nat}
    (hz : ZAt s.heap z TI TO i1 i2 l1 l2 0 []) (hz0 : IsZ s.heap z TI TO .none false) (hl1 : s.heap.IsList l1 xs) (hl2 : s.heap.IsList l2 ys) (hS : s.heap.get? S = some { cls := .type "list", data := .seq #[] c₀ })
    (hR : ∀ h' tk acc c as, (∀ b o, b ≠ S → b ≠ z → b ≠ TO → b ≠ i1 → b ≠ i2 → s.heap.get? b = some o → h'.get? b = some o) → h'.get? S = some { cls := .type "list", dict := none, data := .seq acc c, slots := #[] } → as.length = xs.size → MadeZ xs ys lo h' as →
      acc.toList = as.map Value.ref → R (.ok (.ret res)) { s with heap := h', toks := tk }) :
    wpAny (model P w) A.in1 (Builtin.List.listExtendWith (.ref S) (.ref z) res)
      (fun fin s' => match fin with | .done f => R (.ok f) s' | .again c' => c'.quiet = true ∧ codeAny (model P w) A c' R s') (fun e s' => R (.error e) s') s := by
  have ty : s.TypeIs (.ref z) "zip" := ⟨_, hz0, rfl⟩
  have go : ∀ (h : Heap) (c₁ tk : Nat), (∀ b o, b ≠ S → s.heap.get? b = some o → h.get? b = some o) → lo < h.objs.size → h.get? S = some { cls := .type "list", data := .seq #[] c₁ } →
      codeAny (model P w) A (.builtin "list.extend.loop" ⟨[.ref S, .ref z, res], []⟩) R { s with heap := h, toks := tk } := by
    intro h c₁ tk kp hl hS₁
    obtain ⟨hTI, ⟨a, b, hTO⟩, g1, g2, _⟩ := hz
    refine z_loop (s := s) (h₁ := s.heap) hh D hxy hSz hSI hSO hS1 hS2 hSa hSb lo hlo hn res hR xs.size 0 h tk c₁ #[] [] (Nat.sub_zero _) (Nat.zero_le _) ?_ (hl1.at fun o e => kp _ o hSa.symm e) (hl2.at fun o e => kp _ o hSb.symm e) (fun b o n1 _ _ _ _ e => kp b o n1 e) hS₁ rfl rfl ⟨List.Pairwise.nil, (fun _ z => nomatch z), (fun j a hj => by simp at hj)⟩ hl
    exact ⟨kp _ _ hSI.symm hTI, ⟨a, b, kp _ _ hSO.symm hTO⟩, g1.at fun o e => kp _ o hS1.symm e, g2.at fun o e => kp _ o hS2.symm e, .inl ⟨rfl, kp _ _ hSz.symm hz0⟩⟩
  unfold Builtin.List.listExtendWith
  apply wpAny_bind
  refine wpAny_typeOf (T := "zip") ty ?_
  have e1 : Builtin.List.listSameRef (.ref S) (.ref z) = false := by simp [Builtin.List.listSameRef, hSz]
  have e2 : (Value.type "zip" == Value.type "list") = false := by decide
  have e3 : (Value.type "zip" == Value.type "tuple") = false := by decide
  simp only [e1, e2, e3, Bool.or_false, Bool.false_eq_true, if_false]
  apply wpAny_bind
  refine wpAny_pyIter_slot ty F.slot_zip_iter ?_
  refine wpAny_call_entry F.slot_zip_iter ty F.entry_zip_iter ?_ (F.args_zip_iter_1 _)
  show wpAny _ _ (ret (.ref z)) _ _ s
  refine wpAny_pure ⟨_, rfl, "zip", _, ty, F.slot_zip_next.lookup, ?_⟩
  apply wpAny_bind
  apply wpAny_holding
  refine z_hint ty ?_
  refine wpAny_ite_split (fun _ => ?_) (fun _ => wpAny_pure ⟨plainId_quiet F.plain_extend_loop _, go _ c₀ _ (fun b o _ e => e) hls hS⟩)
  apply wpAny_bind
  apply wpAny_rule
  apply wpAny_bind
  show wpAny _ _ (updateSeq S (·.push .none) >>= fun _ => updateSeq S (·.pop)) _ _ _
  apply wpAny_bind
  refine wpAny_updateSeq hS rfl ?_
  have hS₂ := Heap.get?_update_self (Obj.mapSeq (·.push Value.none)) hS rfl
  refine wpAny_updateSeq (hz := by seq_fits) hS₂ rfl ?_
  have hS₃ := Heap.get?_update_self (Obj.mapSeq (·.pop)) hS₂ rfl
  refine wpAny_pure ⟨plainId_quiet F.plain_extend_loop _, go _ _ _ (fun b o hb e => ?_) ?_ hS₃⟩
  · exact (Heap.get?_update_other _ _ (Ne.symm hb)).trans ((Heap.get?_update_other _ _ (Ne.symm hb)).trans e)
  · rw [Heap.size_update, Heap.size_update]
    exact hls
theorem z_list {z TI TO i1 i2 l1 l2 : Addr} {xs ys : Array Value} (hh : A.handled = none) (D : ZipApart z TI TO i1 i2 l1 l2) (hxy : xs.size = ys.size) (hn : xs.size ≤ sizeLine) {Q : Value → Shared → Prop}
    (hz : ZAt s.heap z TI TO i1 i2 l1 l2 0 []) (hz0 : IsZ s.heap z TI TO .none false) (hl1 : s.heap.IsList l1 xs) (hl2 : s.heap.IsList l2 ys)
    (q : ∀ h' tk acc c as, (∀ b o, b ≠ z → b ≠ TO → b ≠ i1 → b ≠ i2 → s.heap.get? b = some o → h'.get? b = some o) → h'.get? s.heap.objs.size = some { cls := .type "list", dict := none, data := .seq acc c, slots := #[] } → as.length = xs.size → MadeZ xs ys s.heap.objs.size h' as →
      acc.toList = as.map Value.ref → Q (.ref s.heap.objs.size) { s with heap := h', toks := tk }) :
    wpAny (model P w) A (call (.type "list") [.ref z]) Q E s := by
  refine callType_codes (Q₁ := fun obj s₁ => obj = .ref s.heap.objs.size ∧ s₁ = { s with heap := s.heap.push { cls := .type "list", data := .seq #[] } }) F.called_list (F.typeCall_list_1 _) F.entry_list_init (code_list_new _ ⟨rfl, rfl⟩) ?_
  rintro obj s₁ ⟨rfl, rfl⟩
  have hS : (s.heap.push { cls := .type "list", data := .seq #[] }).get? s.heap.objs.size = some { cls := .type "list", data := .seq #[] } := Heap.get?_push_size _ rfl
  obtain ⟨hTI, ⟨a, b, hTO⟩, g1, g2, _⟩ := id hz
  have lt : ∀ {c : Addr} {o : Obj}, s.heap.get? c = some o → c < s.heap.objs.size := fun e => Heap.lt_size e
  have z1 : i1 < s.heap.objs.size := g1.elim fun o e => lt e.1
  have z2 : i2 < s.heap.objs.size := g2.elim fun o e => lt e.1
  have z3 : l1 < s.heap.objs.size := hl1.elim fun o e => lt e.1
  have z4 : l2 < s.heap.objs.size := hl2.elim fun o e => lt e.1
  refine ⟨⟨_, hS, rfl⟩, F.args_list_init_2 _ _, ?_⟩
  show wpAny _ _ (do let old ← Builtin.List.listItems (.ref s.heap.objs.size); Builtin.List.listUpdate (.ref s.heap.objs.size) (fun _ => #[]); letGo old.toList.reverse; Builtin.List.listExtendWith (.ref s.heap.objs.size) (.ref z) .none) _ _ _
  apply wpAny_bind
  unfold Builtin.List.listItems
  apply wpAny_bind
  refine wpAny_seqItems hS rfl (wpAny_pure ?_)
  show wpAny _ _ (updateSeq s.heap.objs.size (fun _ => #[]) >>= fun _ => letGo (#[] : Array Value).toList.reverse >>= fun _ => Builtin.List.listExtendWith (.ref s.heap.objs.size) (.ref z) .none) _ _ _
  apply wpAny_bind
  refine wpAny_updateSeq hS rfl ?_
  have hS₂ := Heap.get?_update_self (Obj.mapSeq (fun _ => (#[] : Array Value))) hS rfl
  have kp : ∀ b o, s.heap.get? b = some o → ((s.heap.push { cls := .type "list", data := .seq #[] }).update s.heap.objs.size (Obj.mapSeq (fun _ => (#[] : Array Value)))).get? b = some o := fun b o e => (Heap.get?_update_other _ _ (Nat.ne_of_gt (Heap.lt_size e))).trans (Heap.get?_push_of_some _ e)
  apply wpAny_bind
  apply wpAny_letGo
  refine z_extend (A := A.in1) (S := s.heap.objs.size) hh D hxy (Nat.ne_of_gt (lt hz0)) (Nat.ne_of_gt (lt hTI)) (Nat.ne_of_gt (lt hTO)) (Nat.ne_of_gt z1) (Nat.ne_of_gt z2) (Nat.ne_of_gt z3) (Nat.ne_of_gt z4) s.heap.objs.size ⟨Nat.le_of_lt (lt hz0), Nat.le_of_lt (lt hTI), Nat.le_of_lt (lt hTO), Nat.le_of_lt z1, Nat.le_of_lt z2, Nat.le_refl _⟩ ?_ hn .none ?_ (kp _ _ hz0) (hl1.at fun o e => kp _ o e) (hl2.at fun o e => kp _ o e) hS₂ ?_
  · show s.heap.objs.size < ((s.heap.push { cls := .type "list", data := .seq #[] }).update s.heap.objs.size (Obj.mapSeq (fun _ => (#[] : Array Value)))).objs.size
    rw [Heap.size_update, Heap.size_push]
    exact Nat.lt_succ_self _
  · exact ⟨kp _ _ hTI, ⟨a, b, kp _ _ hTO⟩, g1.at fun o e => kp _ o e, g2.at fun o e => kp _ o e, .inl ⟨rfl, kp _ _ hz0⟩⟩
  · intro h' tk acc c as k1 k2 k3 k4 k5
    exact ⟨rfl, q h' tk acc c as (fun b o n1 n2 n3 n4 e => k1 b o (Nat.ne_of_lt (Heap.lt_size e)) n1 n2 n3 n4 (kp b o e)) k2 k3 k4 k5⟩
end lz
theorem paired_of {α β : Type} {F : α → β → Prop} : ∀ {l : List α} {k : List β}, l.length = k.length → (∀ (j : Nat) x y, l[j]? = some x → k[j]? = some y → F x y) → Paired F l k
  | [], [], _, _ => .nil
  | [], _ :: _, h, _ => nomatch h
  | _ :: _, [], h, _ => nomatch h
  | x :: l, y :: k, h, f => .cons (f 0 x y rfl rfl) (paired_of (Nat.succ.inj h) fun j a b ha hb => f (j + 1) a b (by simpa using ha) (by simpa using hb))
section lzr
variable {X : Cx}
def tListZip (K : PySem.W.Frag) (ta : TA) : TE := fun σ H Q => ta σ H fun vs H1 => ∃ a b xs ys, vs = [.ref a, .ref b] ∧ SqL K H1 a xs ∧ SqL K H1 b ys ∧ xs.length = ys.length ∧
  ∀ H' p ts, Same H1 H' → H1 p = none → H' p = some (.lst (ts.map V.ref)) → Paired (fun (t : Addr) (e : V × V) => H' t = some (.tup [e.1, e.2])) ts (xs.zip ys) → Q (.ref p) H'
theorem pe_listZip {e e2 : Expr} {ta : TA} {p p2 pos pos2 : Pos} (hc : X.calm = true) (hg : Gl X "list") (hm : X.mg "list" = none) (hg2 : Gl X "zip") (hm2 : X.mg "zip" = none) (ha : PA X [e, e2] ta)
    (c1 : starEach [.Call (.Name "zip" p2) [e, e2] [] pos2] X.env = (false, eval (.Call (.Name "zip" p2) [e, e2] [] pos2) X.env) :: starEach [] X.env := by rfl)
    (c2 : starEach [e, e2] X.env = (false, eval e X.env) :: starEach [e2] X.env := by rfl) (c3 : (backTo pos2 (starEach [e2] X.env)).any (·.1) = false := by rfl) :
    PE X (.Call (.Name "list" p) [.Call (.Name "zip" p2) [e, e2] [] pos2] [] pos) (tListZip X.K ta) := by
  constructor
  intro pins s σ H Q I h
  refine wpAny_Call_Name_kw (ld_blt I hg hm (by decide +kernel : bootBuiltins "list" = some (.type "list")) ?_)
  refine PyProof.Rows.callWith_type1 ?_ c1 rfl
  rw [c1]
  show wpAny _ _ (spliced ((false, eval (.Call (.Name "zip" p2) [e, e2] [] pos2) X.env) :: backTo pos (starEach [] X.env))) _ _ s
  refine Calls.spliced_cons ?_
  refine Call_ (ld_blt I hg2 hm2 PyProof.Rows.boot_zip (PyProof.Rows.callWith_type1 (thn (ha.run pos2 pins s σ H _ I h) ?_) c2 c3))
  rintro us s1 ⟨vs, H1, I1, r1, a, b, xs, ys, rfl, hx, hy, hxy, q⟩
  match us, r1 with
  | [u1, u2], .cons ra (.cons rb .nil) =>
    cases ra
    cases rb
    obtain ⟨it1, rv1, p1, z1⟩ := I1.list hx
    obtain ⟨it2, rv2, p2', z2⟩ := I1.list hy
    have n1 := rv1.length
    have n2 := rv2.length
    refine call_zip_2 p1.isList p2'.isList fun h' hz hTI hTO g1 g2 hsz hk => ?_
    refine Calls.spliced_nil ?_
    have la : a < s1.heap.objs.size := p1.lt
    have lb : b < s1.heap.objs.size := p2'.lt
    refine z_list (s := { s1 with heap := h' }) (I1.ok.hd hc) (PySem.W.ktu_apart s1.heap.objs.size a b la lb) (by simp; omega) (by simp; omega) ⟨hTI, ⟨_, _, hTO⟩, g1, g2, .inl ⟨rfl, hz⟩⟩ hz (p1.isList.at fun o e => hk _ o e) (p2'.isList.at fun o e => hk _ o e) fun h'' tk acc c as kp hS hal hG hacc => ?_
    have old : ∀ b o, s1.heap.get? b = some o → h''.get? b = some o := fun b o e => by
      have lt := Heap.lt_size e
      exact kp b o (Nat.ne_of_lt (Nat.lt_of_lt_of_le lt (Nat.le_add_right _ _))) (Nat.ne_of_lt (Nat.lt_of_lt_of_le lt (Nat.le_add_right _ _))) (Nat.ne_of_lt lt) (Nat.ne_of_lt (Nat.lt_of_lt_of_le lt (Nat.le_add_right _ _))) (hk b o e)
    have hS5 : s1.heap.objs.size ≤ h'.objs.size := by
      rw [hsz]
      exact Nat.le_add_right _ _
    have J0 : Inv X pins σ H1 { s1 with heap := h'', toks := tk } := I1.kept (t' := tk) old
    have nS : H1 h'.objs.size = none := I1.hok.fresh hS5
    have hl : as.length = xs.length := by
      rw [hal]
      simp
      omega
    have ok1 : ObjOk X.prog X.w (upd H1 h'.objs.size (.lst (as.map V.ref))) h'' h'.objs.size (.lst (as.map V.ref)) := by
      refine ⟨by rw [List.length_map, hl]; exact z1, acc.toList, c, ?_, ?_⟩
      · rw [hacc]
        exact LiI.vals_refs as
      · rw [Array.toArray_toList]
        exact hS
    have J1 : Inv X pins σ (upd H1 h'.objs.size (.lst (as.map V.ref))) { s1 with heap := h'', toks := tk } := J0.take (h' := h'') (t' := tk) (fun b ob _ e => e) (I1.fpOk hS5 nS) ok1
    have nd : as.Nodup := hG.rise.imp fun {a b} (h : a < b) => Nat.ne_of_lt h
    obtain ⟨H2, J2, s2, tp⟩ := L2.DX.takeT (P := fun t vs => ∃ (j : Nat) (e : V × V), as[j]? = some t ∧ (xs.zip ys)[j]? = some e ∧ vs = [e.1, e.2]) I1 as _ J1 nd fun t ht => by
      obtain ⟨j, hj⟩ := List.mem_iff_getElem?.mp ht
      obtain ⟨x, y, e1, e2, e3⟩ := hG.pairs j t hj
      have ab := hG.above t ht
      have hjx : j < xs.length := by
        have := (List.getElem?_eq_some_iff.mp hj).1
        omega
      have ex : it1[j]? = some x := by simpa using e1
      have ey : it2[j]? = some y := by simpa using e2
      obtain ⟨x', hx', rx⟩ := rv1.get (List.getElem?_eq_getElem hjx)
      obtain ⟨y', hy', ry⟩ := rv2.get (List.getElem?_eq_getElem (show j < ys.length by omega))
      rw [hx'] at ex
      rw [hy'] at ey
      obtain rfl := Option.some.inj ex
      obtain rfl := Option.some.inj ey
      refine ⟨Nat.le_trans hS5 (Nat.le_of_lt ab), ?_, [xs[j], ys[j]'(by omega)], ⟨j, (xs[j], ys[j]'(by omega)), hj, ?_, rfl⟩, fun H3 => ⟨by show 2 ≤ sizeLine; decide, [x', y'], .cons rx (.cons ry .nil), ⟨_, e3, rfl, _, rfl⟩⟩⟩
      · rw [upd_ne (Nat.ne_of_gt ab)]
        exact I1.hok.fresh (Nat.le_trans hS5 (Nat.le_of_lt ab))
      · rw [List.getElem?_zip_eq_some]
        exact ⟨List.getElem?_eq_getElem hjx, List.getElem?_eq_getElem (by omega)⟩
    refine ⟨.ref h'.objs.size, H2, J2, rfl, q H2 h'.objs.size as (fun b o e => s2 b o (by rw [upd_ne (ne_of_none e nS)]; exact e)) nS (s2 _ _ upd_same) ?_⟩
    refine paired_of (by rw [List.length_zip]; omega) fun j t e ht he => ?_
    obtain ⟨vs, ⟨j', e', h1, h2, rfl⟩, h3⟩ := tp t (List.mem_of_getElem? ht)
    have : j = j' := by
      have i1 := (List.getElem?_eq_some_iff.mp ht).1
      exact (List.getElem?_inj i1 nd).mp (ht.trans h1.symm)
    subst this
    rw [he] at h2
    obtain rfl := Option.some.inj h2
    exact h3
end lzr
/-! ### tape, digit -/
def spTape (K : PySem.W.Frag) : Sp := fun vs H Q _ => ∃ (S : Addr) (ns : List Int) (st : Int), vs = [.ref S, .int st] ∧ SqL K H S (ns.map V.int) ∧ 0 ≤ st ∧ st ≤ 1000 ∧ ∀ H' p, Same H H' → H p = none → TP H' p → Q (.ref p) H'
theorem ok_tape {f : Addr} {fd : FuncData} {k : Nat} (F : Fun K "_law_tape" "_law_tape" s_law_tape f fd) (ma : mg "abs" = none) (mn : mg "len" = none) : FnOk P w K mg base CX0 (k + 1) f fd ["script", "start"] (spTape K) := by
  refine F.ok sc_law_tape (fun vs H Q E h => ?_) (fun cdv A outer s H vs Q E hr h => ?_)
  · obtain ⟨S, ns, st, rfl, _⟩ := h
    rfl
  · obtain ⟨S, ns, st, rfl, hS, h0, h1, q⟩ := h
    refine ⟨_, pss_cons (ps_set (i := 2) sc_law_tape.nd rfl (.inl rfl) pe_int)
      (pss_mid (ps_if (pt_cmpR op_lt (pv 1) (pe_callB call_len_seq (by rfl) mn PySem.boot_len (pa_cons (pv 0) pa_nil)) (nomark _))
        (pss_one (ps_set (i := 2) sc_law_tape.nd rfl (.inl rfl) (pe_callB call_abs (by rfl) ma (by decide +kernel) (pa_cons (pe_ix ix_list (pv 0) (pv 1) (fun _ _ => rfl)) pa_nil))))
        (pss_one (ps_if (pt_cmpR op_gt (pe_callB call_len_seq (by rfl) mn PySem.boot_len (pa_cons (pv 0) pa_nil)) pe_int (nomark _))
          (pss_one (ps_set (i := 2) sc_law_tape.nd rfl (.inl rfl) (pe_op op_add (pe_op op_mod (pe_callB call_abs (by rfl) ma (by decide +kernel) (pa_cons (pe_ix ix_list (pv 0) (pe_op op_mod (pv 1) (pe_callB call_len_seq (by rfl) mn PySem.boot_len (pa_cons (pv 0) pa_nil))) (fun _ _ => rfl)) pa_nil)) (pe_op op_pow pe_int pe_int)) (pe_op op_mul (pv 1) pe_int)))) pss_nil)))
      (pss_one (ps_ret (pe_lst (pa_cons (pv 2) (pa_cons (pe_op op_add (pe_op op_mod (pe_op op_add (pe_op op_mul (pv 1) pe_int) (pv 2)) pe_int) pe_int) pa_nil)))))), ?_⟩
    refine ⟨fun σ2 H2 => ∃ c : Int, σ2 = [some (.ref S), some (.int st), some (.int c)] ∧ H2 = H, ?_, ?_⟩
    · refine ⟨.int st, rfl, .ref S, rfl, S, _, rfl, .inl hS, st, _, rfl, rfl, _, rfl, ite2 (fun e => ?_) (fun e => ?_)⟩
      · have hl := of_decide_eq_true e
        rw [List.length_map] at hl
        refine ⟨.ref S, rfl, .int st, rfl, S, _, st, _, rfl, rfl, hS, atI_ints h0 hl, _, rfl, ?_⟩
        exact ⟨_, rfl, rfl⟩
      · refine ⟨.ref S, rfl, S, _, rfl, .inl hS, _, 0, rfl, rfl, _, rfl, ite2 (fun e2 => ?_) (fun e2 => ?_)⟩
        · have hpos := of_decide_eq_true e2
          have hp2 : (0 : Int) < ns.length := by
            rw [List.length_map] at hpos
            exact hpos
          refine ⟨.ref S, rfl, .int st, rfl, .ref S, rfl, S, _, rfl, .inl hS, st, _, rfl, rfl, hpos, S, _, _, _, rfl, rfl, hS, atI_ints (Int.emod_nonneg _ (by omega)) (by rw [List.length_map]; exact Int.emod_lt_of_pos _ hp2), _, rfl, ?_⟩
          refine ⟨10, 9, rfl, rfl, ⟨by decide, by decide, by decide⟩, _, _, rfl, rfl, (by show (0 : Int) < 10 ^ 9; decide), .int st, rfl, st, 1000003, rfl, rfl, .inr ⟨by decide, by decide⟩, _, _, rfl, rfl, _, rfl, rfl⟩
        · exact ⟨_, rfl, rfl⟩
    · rintro σ2 H2 ⟨c, rfl, rfl⟩
      refine ⟨.int c, rfl, .int st, rfl, st, 7919, rfl, rfl, .inr ⟨by decide, by decide⟩, .int c, rfl, _, c, rfl, rfl, _, 998244353, rfl, rfl, (by show (0 : Int) < 998244353; decide), _, 1, rfl, rfl, by show 2 ≤ sizeLine; decide, fun p hp => ?_⟩
      exact q _ p (same_new hp) hp ⟨_, _, upd_same⟩
def spDigit : Sp := fun vs H Q _ => ∃ (a : Addr) (m : Int), vs = [.ref a, .int m] ∧ 0 < m ∧ m ≤ 2 ^ 80 ∧ TP H a ∧ ∀ H' z, 0 ≤ z → z < m → TP H' a → But a H H' → Q (.int z) H'
theorem ok_digit {f : Addr} {fd : FuncData} {k : Nat} (F : Fun K "_law_digit" "_law_digit" s_law_digit f fd) : FnOk P w K mg base CX0 (k + 1) f fd ["tape", "many"] spDigit := by
  refine F.ok sc_law_digit (fun vs H Q E h => ?_) (fun cdv A outer s H vs Q E hr h => ?_)
  · obtain ⟨a, m, rfl, _⟩ := h
    rfl
  · obtain ⟨a, m, rfl, hm, hm2, ⟨x, y, ea⟩, q⟩ := h
    refine ⟨_, pss_cons (ps_if (pt_cmpR op_gt (pe_ix ix_list (pv 0) pe_int (fun _ _ => rfl)) pe_int (nomark _))
        (pss_cons (ps_set (i := 2) sc_law_digit.nd rfl (.inl rfl) (pe_op op_mod (pe_ix ix_list (pv 0) pe_int (fun _ _ => rfl)) (pv 1)))
        (pss_cons (ps_asg (pe_op op_fdivW (pe_ix ix_list (pv 0) pe_int (fun _ _ => rfl)) (pv 1)) (pg_sub (pv 0) pe_int set_list))
        (pss_one (ps_ret (pv 2))))) pss_nil)
      (pss_cons (ps_asg (pe_op op_mod (pe_op op_add (pe_op op_mul (pe_ix ix_list (pv 0) pe_int (fun _ _ => rfl)) pe_int) pe_int) pe_int) (pg_sub (pv 0) pe_int set_list))
      (pss_cons (ps_set (i := 3) sc_law_digit.nd rfl (.inl rfl) (pe_op op_mod (pe_op op_mul (pe_ix ix_list (pv 0) pe_int (fun _ _ => rfl)) pe_int) pe_int))
      (pss_one (ps_ret (pe_op op_mod (pe_op op_add (pe_op op_mul (pe_op op_mod (pe_op op_mul (pe_ix ix_list (pv 0) pe_int (fun _ _ => rfl)) (pe_ix ix_list (pv 0) pe_int (fun _ _ => rfl))) pe_int) pe_int) (pv 3)) (pv 1)))))), ?_⟩
    have lA : SqL K H a [.int x, .int y] := .inl (.inl ea)
    have put : ∀ o, But a H (upd H a o) := fun o => But.put
    refine ⟨.ref a, rfl, a, _, 0, .int x, rfl, rfl, lA, rfl, x, 0, rfl, rfl, _, rfl, ite2 (fun e => ?_) (fun e => ?_)⟩
    · refine ⟨.ref a, rfl, a, _, 0, .int x, rfl, rfl, lA, rfl, .int m, rfl, x, m, rfl, rfl, hm, ?_⟩
      refine ⟨.ref a, rfl, a, _, 0, .int x, rfl, rfl, lA, rfl, .int m, rfl, x, m, rfl, rfl, wide_div (b := 81) hm (by omega) (by decide) (by decide), ?_⟩
      refine ⟨.ref a, rfl, a, _, 0, 0, rfl, rfl, ea, rfl, .int (x % m), rfl, ?_⟩
      exact q _ _ (Int.emod_nonneg _ (by omega)) (Int.emod_lt_of_pos _ hm) ⟨x / m, y, upd_same⟩ (put _)
    · refine ⟨.ref a, rfl, a, _, 1, .int y, rfl, rfl, lA, rfl, y, 48271, rfl, rfl, .inr ⟨by decide, by decide⟩, _, 11, rfl, rfl, _, 2147483647, rfl, rfl, (by show (0 : Int) < 2147483647; decide), ?_⟩
      have l0 := Int.emod_nonneg (y * 48271 + 11) (show (2147483647 : Int) ≠ 0 by decide)
      have l1 := Int.emod_lt_of_pos (y * 48271 + 11) (show (0 : Int) < 2147483647 by decide)
      obtain ⟨z, hz⟩ : ∃ z : Int, (y * 48271 + 11) % 2147483647 = z := ⟨_, rfl⟩
      rw [hz] at l0 l1
      refine ⟨.ref a, rfl, a, _, 1, 1, rfl, rfl, ea, rfl, ?_⟩
      refine ⟨.ref a, rfl, a, _, 1, .int z, rfl, rfl, .inl (.inl upd_same), (by rw [← hz]; rfl), z, 40692, rfl, rfl, .inr ⟨by decide, by decide⟩, _, 2147483399, rfl, rfl, (by show (0 : Int) < 2147483399; decide), ?_⟩
      refine ⟨.ref a, rfl, a, _, 1, .int z, rfl, rfl, .inl (.inl upd_same), (by rw [← hz]; rfl), .ref a, rfl, a, _, 1, .int z, rfl, rfl, .inl (.inl upd_same), (by rw [← hz]; rfl), z, z, rfl, rfl, .inr ⟨by omega, by omega⟩, _, 2147483629, rfl, rfl, (by show (0 : Int) < 2147483629; decide), _, 2147483399, rfl, rfl, .inr ⟨by decide, by decide⟩, _, rfl, _, _, rfl, rfl, .int m, rfl, _, m, rfl, rfl, hm, ?_⟩
      exact q _ _ (Int.emod_nonneg _ (by omega)) (Int.emod_lt_of_pos _ hm) ⟨x, z, by rw [← hz]; exact upd_same⟩ (put _)
/-! ### deeds that carry -/
theorem four_calm : ∀ x ∈ (["and", "or", "xor", "not"] : List Str), x ∉ twC := by decide +kernel
def carN : List Deed → Nat
  | [] => 0
  | d :: ds => carN ds + if d.1 ∈ twC then 1 else 0
theorem carN_snoc (d : Deed) : ∀ ds : List Deed, carN (ds ++ [d]) = carN ds + if d.1 ∈ twC then 1 else 0
  | [] => by simp [carN]
  | e :: ds => by
    show carN (ds ++ [d]) + _ = carN ds + _ + _
    rw [carN_snoc d ds]
    omega
theorem carN_le : ∀ ds : List Deed, carN ds ≤ ds.length
  | [] => Nat.le_refl _
  | d :: ds => by
    show carN ds + _ ≤ ds.length + 1
    have := carN_le ds
    split <;> omega
/-! ### a deed off the tape -/
def spTd : Sp := fun vs H Q _ => ∃ (a : Addr) (m lf : Int), vs = [.ref a, .int m, .int lf] ∧ 0 < m ∧ m ≤ 100 ∧ TP H a ∧ ∀ H' r d, DeedOk m d → (lf = 0 → d.1 ∉ twC) → H' r = some (.tup (dV d)) → TP H' a → But a H H' → Q (.ref r) H'
theorem ok_td {f fD : Addr} {fd fdD : FuncData} {k : Nat} (F : Fun K "_law_deed" "_law_deed" s_law_deed f fd) (GD : FnOk P w K mg base CX0 (k + 1) fD fdD ["tape", "many"] spDigit) (kD : PySem.W.keepIn K (.ref fD) = true) (bD : Binds K fdD ["tape", "many"] []) (gD : mg "_law_digit" = some (.ref fD)) :
    FnOk P w K mg base CX0 (k + 2) f fd ["tape", "ahead", "left"] spTd := by
  refine F.ok sc_law_deed (fun vs H Q E h => ?_) (fun cdv A outer s H vs Q E hr h => ?_)
  · obtain ⟨a, m, lf, rfl, _⟩ := h
    rfl
  · obtain ⟨a, m, lf, rfl, hm, hm2, ht, q⟩ := h
    refine ⟨_, pss_cons (ps_set (i := 3) sc_law_deed.nd rfl (.inl rfl) (pe_lst (pa_cons pe_str (pa_cons pe_str (pa_cons pe_str (pa_cons pe_str (pa_cons pe_str (pa_cons pe_str (pa_cons pe_str (pa_cons pe_str (pa_cons pe_str (pa_cons pe_str (pa_cons pe_str (pa_cons pe_str pa_nil))))))))))))))
      (pss_cons (ps_set (i := 4) sc_law_deed.nd rfl (.inl rfl) (pe_ix ix_list (pv 3) (pe_call GD hr (by rfl) gD kD bD .nil pass0 (pa_cons (pv 0) (pa_cons pe_int pa_nil))) (fun _ _ => rfl)))
      (pss_mid (ps_if (PW.pt (pw_and (pt_cmpR op_eq (pv 2) pe_int (nomark _)) (pw_and1 (pt_cmpR op_in_seq (pv 4) (pe_tup (pa_cons pe_str (pa_cons pe_str (pa_cons pe_str (pa_cons pe_str (pa_cons pe_str pa_nil)))))) (by rfl)))))
        (pss_one (ps_set (i := 4) sc_law_deed.nd rfl (.inl rfl) (pe_ix ix_list (pe_lst (pa_cons pe_str (pa_cons pe_str (pa_cons pe_str (pa_cons pe_str pa_nil))))) (pe_call GD hr (by rfl) gD kD bD .nil pass0 (pa_cons (pv 0) (pa_cons pe_int pa_nil))) (fun _ _ => rfl)))) pss_nil)
      (pss_cons (ps_set (i := 5) sc_law_deed.nd rfl (.inl rfl) (pe_lst (pa_cons (pe_call GD hr (by rfl) gD kD bD .nil pass0 (pa_cons (pv 0) (pa_cons (pv 1) pa_nil))) (pa_cons (pe_call GD hr (by rfl) gD kD bD .nil pass0 (pa_cons (pv 0) (pa_cons (pv 1) pa_nil))) pa_nil))))
      (pss_mid (ps_if (pt_cmpR op_eq (pe_call GD hr (by rfl) gD kD bD .nil pass0 (pa_cons (pv 0) (pa_cons pe_int pa_nil))) pe_int (nomark _)) (pss_one (ps_asg (pe_op op_sub (pv 1) pe_int) (pg_sub (pv 5) (pe_call GD hr (by rfl) gD kD bD .nil pass0 (pa_cons (pv 0) (pa_cons pe_int pa_nil))) set_list))) pss_nil)
      (pss_cons (ps_if (pt_cmpR op_in_seq (pv 4) (pe_tup (pa_cons pe_str (pa_cons pe_str (pa_cons pe_str pa_nil)))) (by rfl)) (pss_one (ps_ret (pe_tup (pa_cons (pv 4) pa_nil)))) pss_nil)
      (pss_cons (ps_if (pt_cmpR op_in_seq (pv 4) (pe_tup (pa_cons pe_str (pa_cons pe_str (pa_cons pe_str pa_nil)))) (by rfl)) (pss_one (ps_ret (pe_tup (pa_cons (pv 4) (pa_cons (pe_ix ix_list (pv 5) pe_int (fun _ _ => rfl)) pa_nil))))) pss_nil)
      (pss_one (ps_ret (pe_tup (pa_cons (pv 4) (pa_cons (pe_ix ix_list (pv 5) pe_int (fun _ _ => rfl)) (pa_cons (pe_ix ix_list (pv 5) pe_int (fun _ _ => rfl)) pa_nil)))))))))))), ?_⟩
    refine ⟨by show 12 ≤ sizeLine; decide, fun S hS => ?_⟩
    have nS := ht.ne_new hS
    refine ⟨.ref S, rfl, .ref a, rfl, a, 12, rfl, by decide, by decide, ht.upd nS, fun H1 z z0 z1 t1 b1 => ?_⟩
    have eS1 : H1 S = some (.lst (tw12.map V.str)) := b1 _ _ nS upd_same
    obtain ⟨v, hv, hvm⟩ := atI_in (l := tw12.map V.str) z0 (by show z < 12; exact z1)
    obtain ⟨x, hx, rfl⟩ := mem_strs hvm
    have kp1 : But a H H1 := (But.same (same_new hS)).trans b1
    refine ⟨S, _, z, .str x, rfl, rfl, .inl (.inl eS1), hv, ?_⟩
    refine ⟨fun σ2 H2 => ∃ x, σ2 = [some (.ref a), some (.int m), some (.int lf), some (.ref S), some (.str x), none] ∧ x ∈ tw12 ∧ (lf = 0 → x ∉ twC) ∧ TP H2 a ∧ But a H H2, ?_, ?_⟩
    · refine ⟨.int lf, rfl, rfl, _, rfl, ite2 (fun e => ?_) (fun e => ?_)⟩
      · refine ⟨.str x, rfl, by show 5 ≤ sizeLine; decide, fun T hT => ?_⟩
        have nT := t1.ne_new hT
        refine ⟨T, _, rfl, .inr (SqT.of upd_same), rfl, rfl, _, rfl, ite2 (fun e2 => ?_) (fun e2 => ?_)⟩
        · refine ⟨by show 4 ≤ sizeLine; decide, fun M hM => ?_⟩
          have t2 := t1.upd (o := .tup (twC.map V.str)) nT
          have nM := t2.ne_new hM
          refine ⟨.ref a, rfl, a, 4, rfl, by decide, by decide, t2.upd nM, fun H3 y y0 y1 t3 b3 => ?_⟩
          obtain ⟨v2, hv2, hvm2⟩ := atI_in (l := (["and", "or", "xor", "not"] : List Str).map V.str) y0 (by show y < 4; exact y1)
          obtain ⟨x2, hx2, rfl⟩ := mem_strs hvm2
          refine ⟨M, _, y, .str x2, rfl, rfl, .inl (.inl (b3 _ _ nM upd_same)), hv2, x2, rfl, tw_four x2 hx2, fun _ => four_calm x2 hx2, t3, ?_⟩
          exact ((kp1.trans (But.same (same_new hT))).trans (But.same (same_new hM))).trans b3
        · exact ⟨x, rfl, hx, fun _ z => e2 ((inS x twC).trans (decide_eq_true z)), t1.upd nT, kp1.trans (But.same (same_new hT))⟩
      · exact ⟨x, rfl, hx, fun z => absurd (decide_eq_true (congrArg V.int z)) e, t1, kp1⟩
    · rintro σ2 H2 ⟨x, rfl, hx, hcalm, t2, b2⟩
      refine ⟨.ref a, rfl, .int m, rfl, a, m, rfl, hm, by omega, t2, fun H3 i i0 i1 t3 b3 => ?_⟩
      refine ⟨.ref a, rfl, .int m, rfl, a, m, rfl, hm, by omega, t3, fun H4 j j0 j1 t4 b4 => ?_⟩
      refine ⟨by show 2 ≤ sizeLine; decide, fun M hM => ?_⟩
      have nM := t4.ne_new hM
      have bH : But a H H4 := (b2.trans b3).trans b4
      refine ⟨fun σ5 H5 => ∃ i j : Int, σ5 = [some (.ref a), some (.int m), some (.int lf), some (.ref S), some (.str x), some (.ref M)] ∧ 0 ≤ i ∧ i < m ∧ 0 ≤ j ∧ j < m ∧ H5 M = some (.lst [.int i, .int j]) ∧ TP H5 a ∧ But a H H5, ?_, ?_⟩
      · have bM : But a H (upd H4 M (.lst [.int i, .int j])) := bH.trans (But.same (same_new hM))
        refine ⟨.ref a, rfl, a, 3, rfl, by decide, by decide, t4.upd nM, fun H5 y y0 y1 t5 b5 => ?_⟩
        have eM5 := b5 _ _ nM upd_same
        refine ⟨rfl, _, rfl, ite2 (fun e => ?_) (fun e => ?_)⟩
        · refine ⟨.int m, rfl, m, 1, rfl, rfl, .ref M, rfl, .ref a, rfl, a, 2, rfl, by decide, by decide, t5, fun H6 u u0 u1 t6 b6 => ?_⟩
          have eM6 := b6 _ _ nM eM5
          have old : ∀ o, But a H (upd H6 M o) := fun o b v nb e => by
            have e1 := bH b v nb e
            rw [upd_ne (ne_of_none e1 hM)]
            exact b6 b v nb (b5 b v nb (by rw [upd_ne (ne_of_none e1 hM)]; exact e1))
          have hu : u = 0 ∨ u = 1 := by omega
          rcases hu with rfl | rfl
          · exact ⟨M, _, 0, 0, rfl, rfl, eM6, rfl, m - 1, j, rfl, by omega, by omega, j0, j1, upd_same, t6.upd nM, old _⟩
          · exact ⟨M, _, 1, 1, rfl, rfl, eM6, rfl, i, m - 1, rfl, i0, i1, by omega, by omega, upd_same, t6.upd nM, old _⟩
        · exact ⟨i, j, rfl, i0, i1, j0, j1, eM5, t5, bM.trans b5⟩
      · rintro σ5 H5 ⟨i, j, rfl, i0, i1, j0, j1, eM, t5, b5⟩
        refine ⟨.str x, rfl, by show 3 ≤ sizeLine; decide, fun T hT => ?_⟩
        have nT := t5.ne_new hT
        have sT := same_new (o := .tup [.str "all", .str "one", .str "none"]) hT
        refine ⟨T, _, rfl, .inr (SqT.of upd_same), rfl, rfl, _, rfl, ite2 (fun e => ?_) (fun e => ?_)⟩
        · have hx0 : x ∈ (["all", "one", "none"] : List Str) := of_decide_eq_true ((inS x ["all", "one", "none"]).symm.trans e)
          refine ⟨.str x, rfl, by show 1 ≤ sizeLine; decide, fun r hr => ?_⟩
          have nr := (t5.upd nT).ne_new hr
          exact q _ r (x, []) ⟨tw_zero x hx0, (fun _ z => nomatch z)⟩ hcalm upd_same ((t5.upd nT).upd nr) ((b5.trans (But.same sT)).trans (But.same (same_new hr)))
        · have hx0 : ¬ x ∈ (["all", "one", "none"] : List Str) := fun z => e ((inS x ["all", "one", "none"]).trans (decide_eq_true z))
          refine ⟨.str x, rfl, by show 3 ≤ sizeLine; decide, fun U hU => ?_⟩
          have nU := (t5.upd nT).ne_new hU
          have sU := same_new (o := .tup [.str "not", .str "twice", .str "neg"]) hU
          have t6 := (t5.upd (o := .tup [.str "all", .str "one", .str "none"]) nT).upd (o := .tup [.str "not", .str "twice", .str "neg"]) nU
          have eM6 := sU _ _ (sT _ _ eM)
          refine ⟨U, _, rfl, .inr (SqT.of upd_same), rfl, rfl, _, rfl, ite2 (fun e2 => ?_) (fun e2 => ?_)⟩
          · have hx1 : x ∈ (["not", "twice", "neg"] : List Str) := of_decide_eq_true ((inS x ["not", "twice", "neg"]).symm.trans e2)
            refine ⟨.str x, rfl, .ref M, rfl, M, _, 0, .int i, rfl, rfl, .inl (.inl eM6), rfl, by show 2 ≤ sizeLine; decide, fun r hr => ?_⟩
            have nr := t6.ne_new hr
            refine q _ r (x, [i]) ⟨tw_one x hx1, fun z hz => ?_⟩ hcalm upd_same (t6.upd nr) (((b5.trans (But.same sT)).trans (But.same sU)).trans (But.same (same_new hr)))
            rw [List.mem_singleton.mp hz]
            exact ⟨i0, i1⟩
          · have hx1 : ¬ x ∈ (["not", "twice", "neg"] : List Str) := fun z => e2 ((inS x ["not", "twice", "neg"]).trans (decide_eq_true z))
            have hx2 : (x, (2 : Int)) ∈ fwL := ((tw_two x hx).resolve_left hx0).resolve_left hx1
            refine ⟨.str x, rfl, .ref M, rfl, M, _, 0, .int i, rfl, rfl, .inl (.inl eM6), rfl, .ref M, rfl, M, _, 1, .int j, rfl, rfl, .inl (.inl eM6), rfl, by show 3 ≤ sizeLine; decide, fun r hr => ?_⟩
            have nr := t6.ne_new hr
            refine q _ r (x, [i, j]) ⟨hx2, fun z hz => ?_⟩ hcalm upd_same (t6.upd nr) (((b5.trans (But.same sT)).trans (But.same sU)).trans (But.same (same_new hr)))
            simp only [List.mem_cons, List.not_mem_nil, or_false] at hz
            rcases hz with rfl | rfl
            · exact ⟨i0, i1⟩
            · exact ⟨j0, j1⟩
/-! ### how many carry -/
def spCr (K : PySem.W.Frag) : Sp := fun vs H Q _ => ∃ (L : Addr) (rs : List Addr) (ds : List Deed), vs = [.ref L] ∧ SqL K H L (rs.map V.ref) ∧ DsAt H rs ds ∧ ds.length ≤ 100 ∧ ∀ H', Same H H' → Q (.int (carN ds : Nat)) H'
theorem ok_cr {f : Addr} {fd : FuncData} {k : Nat} (F : Fun K "_law_carrying" "_law_carrying" s_law_carrying f fd) (mn : mg "len" = none) : FnOk P w K mg base CX0 (k + 1) f fd ["deeds"] (spCr K) := by
  refine F.ok sc_law_carrying (fun vs H Q E h => ?_) (fun cdv A outer s H vs Q E hr h => ?_)
  · obtain ⟨L, rs, ds, rfl, _⟩ := h
    rfl
  · obtain ⟨L, rs, ds, rfl, eL, hd, hl, q⟩ := h
    refine ⟨_, pss_one (ps_ret (pe_callB call_len_seq (by rfl) mn PySem.boot_len (pa_cons
      (pe_lc (own := [("deed", 1)]) (g := gName 1) (by rfl) sc_law_carrying.nd (pi_list (pv 0)) (blkOk_by (own := [("deed", 1)]) (N := N_law_carrying) (sc := defScope s_law_carrying) (by decide +kernel))
        (fun _ _ _ _ _ => pg_name (i := 1) sc_law_carrying.nd rfl (Or.inl rfl)) (fun _ _ _ _ _ => pts_one (pt_cmpR (r := rIn K false) op_in_seq (pe_ix (r := rIxT K) ix_tup (pv 1) pe_int (fun _ _ => rfl)) (pe_tup (pa_cons pe_str (pa_cons pe_str (pa_cons pe_str (pa_cons pe_str (pa_cons pe_str pa_nil)))))) (by rfl)))
        (fun _ _ _ _ _ => pv 1)) pa_nil))), ?_⟩
    refine ⟨.ref L, rfl, L, rfl, ⟨_, eL⟩, fun C hC => ?_⟩
    refine lc_list (K := K) (a := L) (xs := rs.map V.ref) (fun i H4 => ∃ ys : List V, ys.length = carN (ds.take i) ∧ H4 C = some (.lst ys) ∧ Same H H4) ⟨[], rfl, upd_same, same_new hC⟩ (fun i H4 _ hp => ?_) (fun i x H4 hx hp => ?_) (fun H4 hp => ?_)
    · obtain ⟨_, _, _, sm⟩ := hp
      exact sm.seq eL
    · obtain ⟨ys, hy, eC, sm⟩ := hp
      have hi : i < rs.length := by
        have := (List.getElem?_eq_some_iff.mp hx).1
        rwa [List.length_map] at this
      have hx' : x = .ref rs[i] := by
        rw [List.getElem?_map, List.getElem?_eq_getElem hi] at hx
        exact (Option.some.inj hx).symm
      subst hx'
      obtain ⟨d, hd1, hd2⟩ := awGet hd (List.getElem?_eq_getElem hi)
      have old : ∀ H6, Same H H6 → ∀ o, Same H (upd H6 C o) := fun H6 s6 o b u e => by
        rw [upd_ne (ne_of_none e hC)]
        exact s6 b u e
      refine ⟨rfl, .ref rs[i], rfl, rs[i], _, 0, .str d.1, rfl, rfl, SqT.of (sm _ _ hd2), dv0 d, by show 5 ≤ sizeLine; decide, fun T hT => ?_⟩
      have sT := sm.trans (same_new (o := .tup [.str "add", .str "sub", .str "twice", .str "neg", .str "one"]) hT)
      have eCT : upd H4 T (.tup [.str "add", .str "sub", .str "twice", .str "neg", .str "one"]) C = some (.lst ys) := same_new hT _ _ eC
      refine ⟨T, _, rfl, .inr (SqT.of upd_same), rfl, rfl, _, rfl, ite2 (fun e => ?_) (fun e => ?_)⟩
      · have hc : d.1 ∈ twC := of_decide_eq_true ((inS d.1 twC).symm.trans e)
        refine ⟨.ref rs[i], rfl, ys, eCT, ?_, ys ++ [.ref rs[i]], ?_, upd_same, old _ sT _⟩
        · have := awLen hd
          have h2 := carN_le (ds.take i)
          rw [List.length_take] at h2
          exact small1000 (by omega)
        · rw [List.length_append, hy, List.take_add_one, hd1, Option.toList_some, carN_snoc, if_pos hc]
          rfl
      · have hc : ¬ d.1 ∈ twC := fun z => e ((inS d.1 twC).trans (decide_eq_true z))
        exact ⟨ys, by rw [hy, List.take_add_one, hd1, Option.toList_some, carN_snoc, if_neg hc]; rfl, eCT, sT⟩
    · obtain ⟨ys, hy, eC, sm⟩ := hp
      rw [List.length_map, awLen hd, List.take_length] at hy
      rw [← hy] at q
      exact ⟨C, ys, rfl, .inl (.inl (.inl eC)), q _ sm⟩
/-! ### a row off the tape -/
def spTr : Sp := fun vs H Q _ => ∃ (a : Addr) (m n lf : Int), vs = [.ref a, .int m, .int n, .int lf] ∧ 1 ≤ m ∧ m ≤ 3 ∧ 0 ≤ n ∧ n ≤ 8 ∧ TP H a ∧
  ∀ H' R ds o, RowAt H' R m ds o → RowOk m ds o → (ds.length : Int) ≤ n → (0 ≤ lf → (carN ds : Int) ≤ lf) → TP H' a → But a H H' → Q (.ref R) H'
theorem ok_tr {f fD fE fC : Addr} {fd fdD fdE fdC : FuncData} {k : Nat} (F : Fun K "_law_row" "_law_row" s_law_row f fd) (GD : FnOk P w K mg base CX0 (k + 1) fD fdD ["tape", "many"] spDigit) (kD : PySem.W.keepIn K (.ref fD) = true)
    (GE : FnOk P w K mg base CX0 (k + 2) fE fdE ["tape", "ahead", "left"] spTd) (kE : PySem.W.keepIn K (.ref fE) = true) (GC : FnOk P w K mg base CX0 (k + 1) fC fdC ["deeds"] (spCr K)) (kC : PySem.W.keepIn K (.ref fC) = true)
    (bD : Binds K fdD ["tape", "many"] []) (bE : Binds K fdE ["tape", "ahead", "left"] []) (bC : Binds K fdC ["deeds"] []) (gD : mg "_law_digit" = some (.ref fD)) (gE : mg "_law_deed" = some (.ref fE)) (gC : mg "_law_carrying" = some (.ref fC))
    (mt : mg "tuple" = none) (mr : mg "range" = none) (mn : mg "len" = none) : FnOk P w K mg base CX0 (k + 3) f fd ["tape", "many", "most", "left"] spTr := by
  refine F.ok sc_law_row (fun vs H Q E h => ?_) (fun cdv A outer s H vs Q E hr h => ?_)
  · obtain ⟨a, m, n, lf, rfl, _⟩ := h
    rfl
  · obtain ⟨a, m, n, lf, rfl, hm, hm2, hn, hn2, ht, q⟩ := h
    have hr1 := hr.mono (show k + 1 ≤ k + 2 by omega)
    refine ⟨_, pss_cons (ps_set (i := 4) sc_law_row.nd rfl (.inl rfl) (pe_lst pa_nil))
      (pss_cons (ps_for PassesOwn.never rfl (pi_range1 (by rfl) mr (pa_cons (pe_call GD hr1 (by rfl) gD kD bD .nil pass0 (pa_cons (pv 0) (pa_cons (pe_op op_add (pv 2) pe_int) pa_nil))) pa_nil)) (pg_name (i := 5) sc_law_row.nd rfl (.inl rfl))
        (pss_one (ps_expr (pe_bm PySem.F.plainAttrs_list PySem.F.slot_list_append PySem.F.type_list_append mt_append (pv 4) (pa_cons (pe_call GE hr (by rfl) gE kE bE .nil pass0 (pa_cons (pv 0) (pa_cons (pe_op op_add (pv 1) (pv 5)) (pa_cons (pe_op op_sub (pv 3) (pe_call GC hr1 (by rfl) gC kC bC .nil pass0 (pa_cons (pv 4) pa_nil))) pa_nil)))) pa_nil)))))
      (pss_cons (ps_set (i := 6) sc_law_row.nd rfl (.inl rfl) (pe_op op_sub (pe_op op_add (pv 1) (pe_callB call_len_seq (by rfl) mn PySem.boot_len (pa_cons (pv 4) pa_nil))) pe_int))
      (pss_mid (ps_if (pt_cmpR op_eq (pe_call GD hr1 (by rfl) gD kD bD .nil pass0 (pa_cons (pv 0) (pa_cons pe_int pa_nil))) pe_int (nomark _)) (pss_one (ps_set (i := 6) sc_law_row.nd rfl (.inl rfl) (pe_call GD hr1 (by rfl) gD kD bD .nil pass0 (pa_cons (pv 0) (pa_cons (pe_op op_add (pv 1) (pe_callB call_len_seq (by rfl) mn PySem.boot_len (pa_cons (pv 4) pa_nil))) pa_nil))))) pss_nil)
      (pss_one (ps_ret (pe_tup (pa_cons (pv 1) (pa_cons (pe_callTy call_tuple_of (by rfl) mt (by decide +kernel) (pa_cons (pv 4) pa_nil)) (pa_cons (pv 6) pa_nil))))))))), ?_⟩
    refine ⟨Nat.zero_le _, fun D hD => ?_⟩
    have nD := ht.ne_new hD
    have sD := same_new (o := .lst []) hD
    refine ⟨.ref a, rfl, .int n, rfl, n, 1, rfl, rfl, a, n + 1, rfl, by omega, by omega, ht.upd nD, fun H1 sz z0 z1 t1 b1 => ?_⟩
    have bH : But a H H1 := (But.same sD).trans b1
    refine ⟨sz, rfl, by omega, by omega, for_range (lo := 0) (n := sz.toNat) (fun i σ H3 => ∃ y rs ds, σ = [some (.ref a), some (.int m), some (.int n), some (.int lf), some (.ref D), y, none] ∧ H3 D = some (.lst (rs.map V.ref)) ∧ DsAt H3 rs ds ∧ ds.length = i ∧ DsOk m ds ∧ (0 ≤ lf → (carN ds : Int) ≤ lf) ∧ TP H3 a ∧ But a H H3)
      ⟨none, [], [], rfl, b1 _ _ nD upd_same, .nil, rfl, ⟨fun k d e => by simp at e⟩, (fun z => z), t1, bH⟩ (fun i σ H3 hi hp => ?_) (fun σ H3 hp => ?_)⟩
    · obtain ⟨y, rs, ds, rfl, eD, hd, hl, ok, hcn, t3, b3⟩ := hp
      refine ⟨.ref D, rfl, .inl ⟨rfl, _, .inl (.inl eD)⟩, .ref a, rfl, .int m, rfl, .int (0 + i), rfl, m, 0 + i, rfl, rfl, .int lf, rfl, .ref D, rfl, D, rs, ds, rfl, .inl (.inl eD), hd, by omega, fun H4 s4 => ?_⟩
      refine ⟨lf, carN ds, rfl, rfl, a, m + (0 + i), lf - carN ds, rfl, by omega, by omega, t3.same s4, fun H5 r d hok hcalm er t5 b5 => ?_⟩
      have eD5 := b5 _ _ nD (s4 _ _ eD)
      refine ⟨D, _, _, rfl, rfl, eD5, ?_, some (.int (0 + i)), rs ++ [r], ds ++ [d], rfl, ?_, ?_, ?_, ?_, ?_, t5.upd nD, ?_⟩
      · rw [List.length_map, awLen hd]
        exact small1000 (by omega)
      · rw [upd_same, List.map_append]
        rfl
      · exact (tups_put eD5).ds (awSnoc (F := fun r d => H5 r = some (.tup (dV d))) er ((b5.tape (t3.same s4)).ds ((Same.tups s4).ds hd)))
      · rw [List.length_append, hl]
        rfl
      · refine dsOk_snoc ok ?_
        rw [hl]
        have : m + (0 + (i : Int)) = m + i := by omega
        rw [this] at hok
        exact hok
      · intro h0
        have h1 := hcn h0
        rw [carN_snoc]
        by_cases hz : d.1 ∈ twC
        · rw [if_pos hz]
          have : ¬ lf - (carN ds : Int) = 0 := fun z => hcalm z hz
          omega
        · rw [if_neg hz]
          omega
      · intro b o nb e
        have nbD : b ≠ D := ne_of_none e hD
        rw [upd_ne nbD]
        exact b5 b o nb (s4 b o (b3 b o nb e))
    · obtain ⟨y, rs, ds, rfl, eD, hd, hl, ok, hcn, t3, b3⟩ := hp
      have elen : ((rs.map V.ref).length : Int) = ds.length := by rw [List.length_map, awLen hd]
      refine ⟨.int m, rfl, .ref D, rfl, D, _, rfl, .inl (.inl (.inl eD)), m, _, rfl, rfl, _, 1, rfl, rfl, ?_⟩
      refine ⟨fun σ4 H4 => ∃ o, σ4 = [some (.ref a), some (.int m), some (.int n), some (.int lf), some (.ref D), y, some (.int o)] ∧ 0 ≤ o ∧ o < m + ds.length ∧ H4 D = some (.lst (rs.map V.ref)) ∧ DsAt H4 rs ds ∧ TP H4 a ∧ But a H H4, ?_, ?_⟩
      · refine ⟨.ref a, rfl, a, 5, rfl, by decide, by decide, t3, fun H4 u u0 u1 t4 b4 => ⟨rfl, _, rfl, ite2 (fun e => ?_) (fun e => ?_)⟩⟩
        · refine ⟨.ref a, rfl, .int m, rfl, .ref D, rfl, D, _, rfl, .inl (.inl (.inl (b4 _ _ nD eD))), m, _, rfl, rfl, a, _, rfl, by omega, by omega, t4, fun H5 o o0 o1 t5 b5 => ?_⟩
          exact ⟨o, rfl, o0, by omega, b5 _ _ nD (b4 _ _ nD eD), ((b4.tape t3).trans (b5.tape t4)).ds hd, t5, (b3.trans b4).trans b5⟩
        · exact ⟨m + ((rs.map V.ref).length : Int) - 1, rfl, by omega, by omega, b4 _ _ nD eD, (b4.tape t3).ds hd, t4, b3.trans b4⟩
      · rintro σ4 H4 ⟨o, rfl, o0, o1, eD4, hd4, t4, b4⟩
        refine ⟨.int m, rfl, .ref D, rfl, D, _, rfl, .inl ⟨.inl (.inl eD4), fun T hT => ?_⟩⟩
        refine ⟨.int o, rfl, by show 3 ≤ sizeLine; decide, fun R hR => ?_⟩
        have s1 : Same H4 (upd H4 T (.tup (rs.map V.ref))) := same_new hT
        have s2 := same_new (o := .tup [.int m, .ref T, .int o]) hR
        exact q _ R ds o ⟨T, rs, upd_same, s2 _ _ upd_same, (Same.tups (s1.trans s2)).ds hd4⟩ ⟨hm, hm2, by omega, ok, o0, by omega⟩ (by omega) hcn (t4.same (s1.trans s2)) (b4.trans (But.same (s1.trans s2)))
/-! ### first_carry -/
def spFc : Sp := fun vs H Q _ => ∃ (R : Addr) (m o : Int) (ds : List Deed), vs = [.ref R] ∧ RowAt H R m ds o ∧ ds.length ≤ 100 ∧ ∀ H' p, Same H H' → H p = none → H' p = some (.tup ((ds.map fcD).map V.int)) → Q (.ref p) H'
theorem ok_fc {f : Addr} {fd : FuncData} {k : Nat} (F : Fun K "first_carry" "first_carry" s_first_carry f fd) (mt : mg "tuple" = none) : FnOk P w K mg base CX0 (k + 1) f fd ["row"] spFc := by
  refine F.ok sc_first_carry (fun vs H Q E h => ?_) (fun cdv A outer s H vs Q E hr h => ?_)
  · obtain ⟨R, m, o, ds, rfl, _⟩ := h
    rfl
  · obtain ⟨R, m, o, ds, rfl, hrow, hl, q⟩ := h
    obtain ⟨D, rs, eR, eD, hd⟩ := id hrow
    refine ⟨_, pss_one (ps_ret (pe_callTy call_tuple_of (by rfl) mt (by decide +kernel) (pa_cons
      (pe_lc (own := [("deed", 1)]) (g := gName 1) (by rfl) sc_first_carry.nd (pi_tup (pe_ix ix_tup (pv 0) pe_int (fun _ _ => rfl))) (blkOk_by (own := [("deed", 1)]) (N := N_first_carry) (sc := defScope s_first_carry) (by decide +kernel))
        (fun _ _ _ _ _ => pg_name (i := 1) sc_first_carry.nd rfl (Or.inl rfl)) (fun _ _ _ _ _ => pts_nil)
        (fun _ _ _ _ _ => pe_ifExp (pt_cmpR (r := rIn K false) op_in_seq (pe_ix (r := rIxT K) ix_tup (pv 1) pe_int (fun _ _ => rfl)) (pe_tup (pa_cons pe_str (pa_cons pe_str pa_nil))) (by rfl)) pe_int pe_int)) pa_nil))), ?_⟩
    refine ⟨.ref R, rfl, R, _, 1, .ref D, rfl, rfl, SqT.of eR, rfl, D, rfl, ⟨_, SqT.of eD⟩, fun L hL => ?_⟩
    refine lc_tup (K := K) (a := D) (xs := rs.map V.ref) (fun i H4 => H4 L = some (.lst (((ds.take i).map fcD).map V.int)) ∧ Same H H4) ⟨upd_same, same_new hL⟩ (fun i H4 _ hp => SqT.of (hp.2 _ _ eD)) (fun i x H4 hx hp => ?_) (fun H4 hp => ?_)
    · obtain ⟨eL, sm⟩ := hp
      have hi : i < rs.length := by
        have := (List.getElem?_eq_some_iff.mp hx).1
        rwa [List.length_map] at this
      have hx' : x = .ref rs[i] := by
        rw [List.getElem?_map, List.getElem?_eq_getElem hi] at hx
        exact (Option.some.inj hx).symm
      subst hx'
      obtain ⟨d, hd1, hd2⟩ := awGet hd (List.getElem?_eq_getElem hi)
      refine ⟨rfl, .ref rs[i], rfl, rs[i], _, 0, .str d.1, rfl, rfl, SqT.of (sm _ _ hd2), dv0 d, by show 2 ≤ sizeLine; decide, fun T hT => ?_⟩
      have sT := same_new (o := .tup [.str "neg", .str "one"]) hT
      have eL2 := sT _ _ eL
      have old : ∀ o, Same H (upd (upd H4 T (.tup [.str "neg", .str "one"])) L o) := fun o b u e => by
        rw [upd_ne (ne_of_none e hL)]
        exact sT b u (sm b u e)
      have small : (((ds.take i).map fcD).map V.int).length < sizeLine := by
        rw [List.length_map, List.length_map, List.length_take]
        exact small1000 (by omega)
      have hin := inS d.1 ["neg", "one"]
      refine ⟨T, _, rfl, .inr (SqT.of upd_same), rfl, rfl, _, rfl, ite2 (fun e => ?_) (fun e => ?_)⟩
      · have hm : d.1 ∈ (["neg", "one"] : List Str) := of_decide_eq_true (hin.symm.trans e)
        have e1 : fcD d = 1 := if_pos hm
        refine ⟨_, eL2, small, ?_, old _⟩
        rw [upd_same, List.take_add_one, hd1]
        simp [e1]
      · have hm : ¬ d.1 ∈ (["neg", "one"] : List Str) := fun z => e (hin.trans (decide_eq_true z))
        have e1 : fcD d = 0 := if_neg hm
        refine ⟨_, eL2, small, ?_, old _⟩
        rw [upd_same, List.take_add_one, hd1]
        simp [e1]
    · obtain ⟨eL, sm⟩ := hp
      rw [List.length_map, awLen hd, List.take_length] at eL
      refine ⟨L, _, rfl, .inl ⟨.inl (.inl eL), fun p hp => ?_⟩⟩
      exact q _ p (sm.trans (same_new hp)) (sm.free hp) upd_same
/-! ### deed_bit, bits_of -/
def spDb (K : PySem.W.Frag) : Sp := fun vs H Q _ => ∃ (r L : Addr) (d : Deed) (told : List Int) (c : Int), vs = [.ref r, .int c, .ref L] ∧ H r = some (.tup (dV d)) ∧ SqL K H L (told.map V.int) ∧ DeedOk told.length d ∧ Q (.int (dbitAt d c told)) H
theorem ok_db {f : Addr} {fd : FuncData} {k : Nat} (F : Fun K "deed_bit" "deed_bit" s_deed_bit f fd) : FnOk P w K mg base CX0 (k + 1) f fd ["deed", "held", "told"] (spDb K) := by
  refine F.ok sc_deed_bit (fun vs H Q E h => ?_) (fun cdv A outer s H vs Q E hr h => ?_)
  · obtain ⟨r, L, d, told, c, rfl, _⟩ := h
    rfl
  · obtain ⟨r, L, d, told, c, rfl, er, eL, ok, q⟩ := h
    refine ⟨_, pss_cons (ps_set (i := 3) sc_deed_bit.nd rfl (.inl rfl) (pe_ix ix_tup (pv 0) pe_int (fun _ _ => rfl)))
      (pss_cons (ps_if (pt_cmpR op_eq (pv 3) pe_str (nomark _)) (pss_one (ps_ret pe_int)) pss_nil)
      (pss_cons (ps_if (pt_cmpR op_eq (pv 3) pe_str (nomark _)) (pss_one (ps_ret pe_int)) pss_nil)
      (pss_cons (ps_if (PW.pt (pw_or (pt_cmpR op_eq (pv 3) pe_str (nomark _)) (pw_or1 (pt_cmpR op_eq (pv 3) pe_str (nomark _))))) (pss_one (ps_ret (pv 1))) pss_nil)
      (pss_cons (ps_set (i := 4) sc_deed_bit.nd rfl (.inl rfl) (pe_ix ix_list (pv 2) (pe_ix ix_tup (pv 0) pe_int (fun _ _ => rfl)) (fun _ _ => rfl)))
      (pss_cons (ps_if (pt_cmpR op_eq (pv 3) pe_str (nomark _)) (pss_one (ps_ret (pe_op op_sub pe_int (pv 4)))) pss_nil)
      (pss_cons (ps_if (pt_cmpR op_eq (pv 3) pe_str (nomark _)) (pss_one (ps_ret (pe_op op_xor (pe_op op_sub pe_int (pv 4)) (pv 1)))) pss_nil)
      (pss_cons (ps_set (i := 5) sc_deed_bit.nd rfl (.inl rfl) (pe_ix ix_list (pv 2) (pe_ix ix_tup (pv 0) pe_int (fun _ _ => rfl)) (fun _ _ => rfl)))
      (pss_cons (ps_if (pt_cmpR op_eq (pv 3) pe_str (nomark _)) (pss_one (ps_ret (pe_op op_and (pv 4) (pv 5)))) pss_nil)
      (pss_cons (ps_if (pt_cmpR op_eq (pv 3) pe_str (nomark _)) (pss_one (ps_ret (pe_op op_or (pv 4) (pv 5)))) pss_nil)
      (pss_cons (ps_if (pt_cmpR op_eq (pv 3) pe_str (nomark _)) (pss_one (ps_ret (pe_op op_xor (pv 4) (pv 5)))) pss_nil)
      (pss_one (ps_ret (pe_op op_xor (pe_op op_xor (pv 4) (pv 5)) (pv 1)))))))))))))), ?_⟩
    unfold dbitAt dbit at q
    refine ⟨.ref r, rfl, r, _, 0, .str d.1, rfl, rfl, SqT.of er, dv0 d, ?_⟩
    refine ⟨.str d.1, rfl, rfl, _, rfl, ite2 (fun e => ?_) (fun n1 => ?_)⟩
    · rw [if_pos (strEq e)] at q
      exact q
    rw [if_neg (strNe n1)] at q
    refine ⟨.str d.1, rfl, rfl, _, rfl, ite2 (fun e => ?_) (fun n2 => ?_)⟩
    · rw [if_pos (strEq e)] at q
      exact q
    rw [if_neg (strNe n2)] at q
    refine ⟨.str d.1, rfl, rfl, _, rfl, ite2 (fun e => ?_) (fun n3 => ?_)⟩
    · rw [if_pos (strEq e)] at q
      exact ⟨.int c, rfl, q⟩
    rw [if_neg (strNe n3)] at q
    refine ⟨.str d.1, rfl, rfl, _, rfl, ite2 (fun e => ?_) (fun n4 => ?_)⟩
    · rw [if_pos (strEq e)] at q
      exact ⟨.int c, rfl, q⟩
    rw [if_neg (strNe n4)] at q
    obtain ⟨i, hi, ai, ei⟩ := arg1 ok (strNe n1) (strNe n3) (strNe n2)
    refine ⟨.ref L, rfl, .ref r, rfl, r, _, 1, .int i, rfl, rfl, SqT.of er, dvN (k := 0) hi, L, _, i, .int (argAt d told 0), rfl, rfl, eL, ei, ?_⟩
    refine ⟨.str d.1, rfl, rfl, _, rfl, ite2 (fun e => ?_) (fun n5 => ?_)⟩
    · rw [if_pos (strEq e)] at q
      exact ⟨.int _, rfl, 1, _, rfl, rfl, q⟩
    rw [if_neg (strNe n5)] at q
    refine ⟨.str d.1, rfl, rfl, _, rfl, ite2 (fun e => ?_) (fun n6 => ?_)⟩
    · rw [if_pos (strEq e)] at q
      exact ⟨.int _, rfl, 1, _, rfl, rfl, .int c, rfl, _, _, rfl, rfl, q⟩
    rw [if_neg (strNe n6)] at q
    obtain ⟨j, hj, aj, ej⟩ := arg2 ok (strNe n1) (strNe n3) (strNe n2) (strNe n5) (strNe n6) (strNe n4)
    refine ⟨.ref L, rfl, .ref r, rfl, r, _, 2, .int j, rfl, rfl, SqT.of er, dvN (k := 1) hj, L, _, j, .int (argAt d told 1), rfl, rfl, eL, ej, ?_⟩
    refine ⟨.str d.1, rfl, rfl, _, rfl, ite2 (fun e => ?_) (fun n7 => ?_)⟩
    · rw [if_pos (strEq e)] at q
      exact ⟨.int _, rfl, .int _, rfl, _, _, rfl, rfl, q⟩
    rw [if_neg (strNe n7)] at q
    refine ⟨.str d.1, rfl, rfl, _, rfl, ite2 (fun e => ?_) (fun n8 => ?_)⟩
    · rw [if_pos (strEq e)] at q
      exact ⟨.int _, rfl, .int _, rfl, _, _, rfl, rfl, q⟩
    rw [if_neg (strNe n8)] at q
    refine ⟨.str d.1, rfl, rfl, _, rfl, ite2 (fun e => ?_) (fun n9 => ?_)⟩
    · rw [if_pos (strEq e)] at q
      exact ⟨.int _, rfl, .int _, rfl, _, _, rfl, rfl, q⟩
    rw [if_neg (strNe n9)] at q
    exact ⟨.int _, rfl, .int _, rfl, _, _, rfl, rfl, .int c, rfl, _, _, rfl, rfl, q⟩
def spBo : Sp := fun vs H Q _ => ∃ (R C B : Addr) (m o : Int) (ds : List Deed) (cs bs : List Int), vs = [.ref R, .ref C, .ref B] ∧ RowAt H R m ds o ∧ DsOk m ds ∧ ds.length ≤ 100 ∧ H C = some (.tup (cs.map V.int)) ∧ cs.length = ds.length ∧ H B = some (.tup (bs.map V.int)) ∧ (bs.length : Int) = m ∧ bs.length ≤ 100 ∧
  ∀ H' p, Same H H' → H p = none → H' p = some (.tup ((bts ds cs bs).map V.int)) → Q (.ref p) H'
theorem ok_bo {f fB : Addr} {fd fdB : FuncData} {k : Nat} (F : Fun K "bits_of" "bits_of" s_bits_of f fd) (GB : FnOk P w K mg base CX0 (k + 1) fB fdB ["deed", "held", "told"] (spDb K)) (kB : PySem.W.keepIn K (.ref fB) = true) (bB : Binds K fdB ["deed", "held", "told"] []) (gB : mg "deed_bit" = some (.ref fB))
    (ml : mg "list" = none) (mt : mg "tuple" = none) (mz : mg "zip" = none) : FnOk P w K mg base CX0 (k + 2) f fd ["row", "carry", "bits"] spBo := by
  refine F.ok sc_bits_of (fun vs H Q E h => ?_) (fun cdv A outer s H vs Q E hr h => ?_)
  · obtain ⟨R, C, B, m, o, ds, cs, bs, rfl, _⟩ := h
    rfl
  · obtain ⟨R, C, B, m, o, ds, cs, bs, rfl, hrow, hok, hds, eC, hcl, eB, hm, hbl, q⟩ := h
    obtain ⟨D, rs, eR, eD, hd⟩ := id hrow
    refine ⟨_, pss_cons (ps_set (i := 3) sc_bits_of.nd rfl (.inl rfl) (pe_callTy call_list_of (by rfl) ml (by decide +kernel) (pa_cons (pv 2) pa_nil)))
      (pss_cons (ps_for PassesOwn.never rfl (RZ.pi_zipA (by rfl) mz (pa_cons (pe_ix ix_tup (pv 0) pe_int (fun _ _ => rfl)) (pa_cons (pv 1) pa_nil))) (pg_tup rfl (pgs_cons (pg_name (i := 4) sc_bits_of.nd rfl (.inl rfl)) (pgs_cons (pg_name (i := 5) sc_bits_of.nd rfl (.inl rfl)) pgs_nil)))
        (pss_one (ps_expr (pe_bm PySem.F.plainAttrs_list PySem.F.slot_list_append PySem.F.type_list_append mt_append (pv 3) (pa_cons (pe_call GB hr (by rfl) gB kB bB .nil pass0 (pa_cons (pv 4) (pa_cons (pv 5) (pa_cons (pv 3) pa_nil)))) pa_nil)))))
      (pss_one (ps_ret (pe_callTy call_tuple_of (by rfl) mt (by decide +kernel) (pa_cons (pv 3) pa_nil))))), ?_⟩
    refine ⟨.ref B, rfl, B, _, rfl, .inr (SqT.of eB), fun L hL => ?_⟩
    have sL := same_new (o := .lst (bs.map V.int)) hL
    have lrs : (rs.map V.ref).length = ds.length := by rw [List.length_map, awLen hd]
    have lcs : (cs.map V.int).length = ds.length := by rw [List.length_map, hcl]
    refine ⟨.ref R, rfl, R, _, 1, .ref D, rfl, rfl, SqT.of (sL _ _ eR), rfl, .ref C, rfl, D, C, _, _, rfl, .inr ⟨SqT.of (sL _ _ eD), SqT.of (sL _ _ eC), RZ.for_zipT (K := K) (xs := rs.map V.ref) (ys := cs.map V.int) (lrs.trans lcs.symm) (fun i σ H3 => ∃ y4 y5, σ = [some (.ref R), some (.ref C), some (.ref B), some (.ref L), y4, y5] ∧ H3 L = some (.lst ((bts (ds.take i) (cs.take i) bs).map V.int)) ∧ Same H H3) ⟨none, none, rfl, by rw [upd_same]; cases ds <;> rfl, sL⟩ (fun i σ H3 hp => ?_) (fun i x y T σ H3 hx hy hp hT => ?_) (fun σ H3 hp => ?_)⟩⟩
    · obtain ⟨_, _, _, _, sm⟩ := hp
      exact ⟨SqT.of (sm _ _ eD), SqT.of (sm _ _ eC)⟩
    · obtain ⟨y4, y5, rfl, e3, sm⟩ := hp
      have hi : i < rs.length := by
        have := (List.getElem?_eq_some_iff.mp hx).1
        rwa [List.length_map] at this
      have hx' : x = .ref rs[i] := by
        rw [List.getElem?_map, List.getElem?_eq_getElem hi] at hx
        exact (Option.some.inj hx).symm
      subst hx'
      obtain ⟨d, hd1, hd2⟩ := awGet hd (List.getElem?_eq_getElem hi)
      obtain ⟨c, hc, rfl⟩ : ∃ c, cs[i]? = some c ∧ y = .int c := by
        rw [List.getElem?_map] at hy
        cases e : cs[i]? with
        | none => rw [e] at hy; cases hy
        | some c => rw [e] at hy; exact ⟨c, rfl, (Option.some.inj hy).symm⟩
      have h2 : i < ds.length := by
        rw [← awLen hd]
        exact hi
      have hlen : (bts (ds.take i) (cs.take i) bs).length = bs.length + i := by
        rw [bts_len (by rw [List.length_take, List.length_take, hcl]), List.length_take, Nat.min_eq_left (Nat.le_of_lt h2)]
      have okd : DeedOk (bts (ds.take i) (cs.take i) bs).length d := by
        rw [hlen]
        have := hok.each i d hd1
        rw [← hm] at this
        exact this
      have sT := same_new (o := .tup [.ref rs[i], .int c]) hT
      have e4 := sT _ _ e3
      refine ⟨T, [.ref rs[i], .int c], rfl, .inl (.inl upd_same), rfl, .ref rs[i], [.int c], rfl, .int c, [], rfl, rfl, ?_⟩
      refine ⟨.ref L, rfl, .inl ⟨rfl, _, .inl (.inl e4)⟩, .ref rs[i], rfl, .int c, rfl, .ref L, rfl, rs[i], L, d, _, c, rfl, sT _ _ (sm _ _ hd2), .inl (.inl e4), okd, L, _, _, rfl, rfl, e4, ?_, some (.ref rs[i]), some (.int c), rfl, ?_, ?_⟩
      · rw [List.length_map, hlen]
        exact small1000 (by omega)
      · rw [upd_same, bts_next hd1 hc, List.map_append]
        rfl
      · intro b u e
        rw [upd_ne (ne_of_none e hL)]
        exact sT b u (sm b u e)
    · obtain ⟨y4, y5, rfl, e3, sm⟩ := hp
      rw [lrs, List.take_length, ← hcl, List.take_length] at e3
      refine ⟨.ref L, rfl, L, _, rfl, .inl ⟨.inl (.inl e3), fun p hp => ?_⟩⟩
      exact q _ p (sm.trans (same_new hp)) (sm.free hp) upd_same
/-! ### two_or_more, deed_carry -/
def spTm : Sp := fun vs H Q _ => ∃ a b c : Int, vs = [.int a, .int b, .int c] ∧ Q (.int ((a + b + c) / 2)) H
theorem ok_tm {f : Addr} {fd : FuncData} {k : Nat} (F : Fun K "two_or_more" "two_or_more" s_two_or_more f fd) : FnOk P w K mg base CX0 (k + 1) f fd ["one", "other", "third"] spTm := by
  refine F.ok sc_two_or_more (fun vs H Q E h => ?_) (fun cdv A outer s H vs Q E hr h => ?_)
  · obtain ⟨a, b, c, rfl, _⟩ := h
    rfl
  · obtain ⟨a, b, c, rfl, q⟩ := h
    refine ⟨_, pss_one (ps_ret (pe_op op_fdiv (pe_op op_add (pe_op op_add (pv 0) (pv 1)) (pv 2)) pe_int)), ?_⟩
    exact ⟨.int a, rfl, .int b, rfl, a, b, rfl, rfl, .int c, rfl, _, c, rfl, rfl, _, 2, rfl, rfl, ⟨by decide, by decide⟩, q⟩
def spDc : Sp := fun vs H Q _ => ∃ (r L : Addr) (d : Deed) (told : List Int) (c : Int), vs = [.ref r, .int c, .ref L] ∧ H r = some (.tup (dV d)) ∧ H L = some (.tup (told.map V.int)) ∧ DeedOk told.length d ∧ Q (.int (dcarAt d c told)) H
theorem ok_dc {f fT : Addr} {fd fdT : FuncData} {k : Nat} (F : Fun K "deed_carry" "deed_carry" s_deed_carry f fd) (GT : FnOk P w K mg base CX0 (k + 1) fT fdT ["one", "other", "third"] spTm) (kT : PySem.W.keepIn K (.ref fT) = true) (bT : Binds K fdT ["one", "other", "third"] []) (gT : mg "two_or_more" = some (.ref fT)) :
    FnOk P w K mg base CX0 (k + 2) f fd ["deed", "held", "told"] spDc := by
  refine F.ok sc_deed_carry (fun vs H Q E h => ?_) (fun cdv A outer s H vs Q E hr h => ?_)
  · obtain ⟨r, L, d, told, c, rfl, _⟩ := h
    rfl
  · obtain ⟨r, L, d, told, c, rfl, er, eL, ok, q⟩ := h
    refine ⟨_, pss_cons (ps_set (i := 3) sc_deed_carry.nd rfl (.inl rfl) (pe_ix ix_tup (pv 0) pe_int (fun _ _ => rfl)))
      (pss_cons (ps_if (pt_cmpR op_eq (pv 3) pe_str (nomark _)) (pss_one (ps_ret (pe_op op_and (pe_op op_sub pe_int (pe_ix ix_tup (pv 2) (pe_ix ix_tup (pv 0) pe_int (fun _ _ => rfl)) (fun _ _ => rfl))) (pv 1)))) pss_nil)
      (pss_cons (ps_if (pt_cmpR op_eq (pv 3) pe_str (nomark _)) (pss_one (ps_ret (pe_ix ix_tup (pv 2) (pe_ix ix_tup (pv 0) pe_int (fun _ _ => rfl)) (fun _ _ => rfl)))) pss_nil)
      (pss_cons (ps_if (pt_cmpR op_eq (pv 3) pe_str (nomark _)) (pss_one (ps_ret (pe_call GT hr (by rfl) gT kT bT .nil pass0 (pa_cons (pe_ix ix_tup (pv 2) (pe_ix ix_tup (pv 0) pe_int (fun _ _ => rfl)) (fun _ _ => rfl)) (pa_cons (pe_ix ix_tup (pv 2) (pe_ix ix_tup (pv 0) pe_int (fun _ _ => rfl)) (fun _ _ => rfl)) (pa_cons (pv 1) pa_nil)))))) pss_nil)
      (pss_cons (ps_if (pt_cmpR op_eq (pv 3) pe_str (nomark _)) (pss_one (ps_ret (pe_call GT hr (by rfl) gT kT bT .nil pass0 (pa_cons (pe_op op_sub pe_int (pe_ix ix_tup (pv 2) (pe_ix ix_tup (pv 0) pe_int (fun _ _ => rfl)) (fun _ _ => rfl))) (pa_cons (pe_ix ix_tup (pv 2) (pe_ix ix_tup (pv 0) pe_int (fun _ _ => rfl)) (fun _ _ => rfl)) (pa_cons (pv 1) pa_nil)))))) pss_nil)
      (pss_one (ps_ret pe_int)))))), ?_⟩
    unfold dcarAt dcar at q
    have lL : SqT K H L (told.map V.int) := SqT.of eL
    refine ⟨.ref r, rfl, r, _, 0, .str d.1, rfl, rfl, SqT.of er, dv0 d, ?_⟩
    refine ⟨.str d.1, rfl, rfl, _, rfl, ite2 (fun e => ?_) (fun n1 => ?_)⟩
    · rw [if_pos (strEq e)] at q
      have e2 := strEq e
      obtain ⟨i, hi, ai, ei⟩ := arg1 ok (by rw [e2]; decide +kernel) (by rw [e2]; decide +kernel) (by rw [e2]; decide +kernel)
      exact ⟨.ref L, rfl, .ref r, rfl, r, _, 1, .int i, rfl, rfl, SqT.of er, dvN (k := 0) hi, L, _, i, _, rfl, rfl, lL, ei, 1, _, rfl, rfl, .int c, rfl, _, _, rfl, rfl, q⟩
    rw [if_neg (strNe n1)] at q
    refine ⟨.str d.1, rfl, rfl, _, rfl, ite2 (fun e => ?_) (fun n2 => ?_)⟩
    · rw [if_pos (strEq e)] at q
      have e2 := strEq e
      obtain ⟨i, hi, ai, ei⟩ := arg1 ok (by rw [e2]; decide +kernel) (by rw [e2]; decide +kernel) (by rw [e2]; decide +kernel)
      exact ⟨.ref L, rfl, .ref r, rfl, r, _, 1, .int i, rfl, rfl, SqT.of er, dvN (k := 0) hi, L, _, i, _, rfl, rfl, lL, ei, q⟩
    rw [if_neg (strNe n2)] at q
    refine ⟨.str d.1, rfl, rfl, _, rfl, ite2 (fun e => ?_) (fun n3 => ?_)⟩
    · rw [if_pos (strEq e)] at q
      have e2 := strEq e
      obtain ⟨i, hi, ai, ei⟩ := arg1 ok (by rw [e2]; decide +kernel) (by rw [e2]; decide +kernel) (by rw [e2]; decide +kernel)
      obtain ⟨j, hj, aj, ej⟩ := arg2 ok (by rw [e2]; decide +kernel) (by rw [e2]; decide +kernel) (by rw [e2]; decide +kernel) (by rw [e2]; decide +kernel) (by rw [e2]; decide +kernel) (by rw [e2]; decide +kernel)
      exact ⟨.ref L, rfl, .ref r, rfl, r, _, 1, .int i, rfl, rfl, SqT.of er, dvN (k := 0) hi, L, _, i, _, rfl, rfl, lL, ei, .ref L, rfl, .ref r, rfl, r, _, 2, .int j, rfl, rfl, SqT.of er, dvN (k := 1) hj, L, _, j, _, rfl, rfl, lL, ej, .int c, rfl, _, _, c, rfl, q⟩
    rw [if_neg (strNe n3)] at q
    refine ⟨.str d.1, rfl, rfl, _, rfl, ite2 (fun e => ?_) (fun n4 => ?_)⟩
    · rw [if_pos (strEq e)] at q
      have e2 := strEq e
      obtain ⟨i, hi, ai, ei⟩ := arg1 ok (by rw [e2]; decide +kernel) (by rw [e2]; decide +kernel) (by rw [e2]; decide +kernel)
      obtain ⟨j, hj, aj, ej⟩ := arg2 ok (by rw [e2]; decide +kernel) (by rw [e2]; decide +kernel) (by rw [e2]; decide +kernel) (by rw [e2]; decide +kernel) (by rw [e2]; decide +kernel) (by rw [e2]; decide +kernel)
      exact ⟨.ref L, rfl, .ref r, rfl, r, _, 1, .int i, rfl, rfl, SqT.of er, dvN (k := 0) hi, L, _, i, _, rfl, rfl, lL, ei, 1, _, rfl, rfl, .ref L, rfl, .ref r, rfl, r, _, 2, .int j, rfl, rfl, SqT.of er, dvN (k := 1) hj, L, _, j, _, rfl, rfl, lL, ej, .int c, rfl, _, _, c, rfl, q⟩
    rw [if_neg (strNe n4)] at q
    exact q
theorem okd_more {m : Int} {i n : Nat} {d : Deed} (h : DeedOk (m + i) d) (hn : m + i ≤ n) : DeedOk n d := ⟨h.word, fun z hz => ⟨(h.ahead z hz).1, by have := (h.ahead z hz).2; omega⟩⟩
/-! ### bits tell values -/
def bitA (t : Nat) (x : Int) : Int := x / 2 ^ t % 2
theorem bitA_bit (t : Nat) (x : Int) : Bit (bitA t x) := by
  have h0 := Int.emod_nonneg (x / 2 ^ t) (show (2 : Int) ≠ 0 by decide)
  have h1 := Int.emod_lt_of_pos (x / 2 ^ t) (show (0 : Int) < 2 by decide)
  unfold bitA Bit
  omega
/-- the bit at p -/
theorem bit_at {V p u k r : Int} (hp : 0 < p) (h : V = p * (2 * u + k) + r) (r0 : 0 ≤ r) (r1 : r < p) : V / p % 2 = k % 2 := by
  have e : V / p = 2 * u + k := by
    rw [h, Int.add_comm, Int.add_mul_ediv_left _ _ (by omega), Int.ediv_eq_zero_of_lt r0 r1, Int.zero_add]
  rw [e]
  omega
theorem bit_val {k : Int} (h : Bit k) : k % 2 = k := by rcases h with rfl | rfl <;> decide
theorem low_next (A : Int) {p : Int} (hp : 0 < p) : A % (2 * p) = p * (A / p % 2) + A % p := by
  have e := Int.mul_ediv_add_emod A p
  have e2 := Int.mul_ediv_add_emod (A / p) 2
  have r0 := Int.emod_nonneg A (show p ≠ 0 by omega)
  have r1 := Int.emod_lt_of_pos A hp
  have hb := bitA_bit 0 (A / p)
  have b : A / p % 2 = 0 ∨ A / p % 2 = 1 := by omega
  have e3 : A = 2 * p * (A / p / 2) + (p * (A / p % 2) + A % p) := by
    have z : p * (A / p) = p * (2 * (A / p / 2) + A / p % 2) := by rw [e2]
    rw [Int.mul_add, ← Int.mul_assoc, Int.mul_comm p 2] at z
    omega
  have s0 : 0 ≤ p * (A / p % 2) + A % p := by rcases b with b | b <;> rw [b] <;> omega
  have s1 : p * (A / p % 2) + A % p < 2 * p := by rcases b with b | b <;> rw [b] <;> omega
  generalize p * (A / p % 2) + A % p = s at e3 s0 s1
  rw [e3, Int.mul_add_emod_self_left, Int.emod_eq_of_lt s0 s1]
/-- what is carried into the bit at p -/
def CI (x : Str) (A B p c : Int) : Prop :=
  if x = "add" then ∃ r, A % p + B % p = p * c + r ∧ 0 ≤ r ∧ r < p
  else if x = "sub" then ∃ r, A % p - B % p = r - p * c ∧ 0 ≤ r ∧ r < p
  else if x = "neg" then ∃ r, -(A % p) = r - p * (1 - c) ∧ 0 ≤ r ∧ r < p
  else if x = "twice" then ∃ r, A % p + A % p = p * c + r ∧ 0 ≤ r ∧ r < p
  else if x = "one" then c = if p = 1 then 1 else 0
  else c = 0
theorem ci_first (d : Deed) (A B : Int) : CI d.1 A B 1 (fcD d) := by
  unfold CI fcD
  rw [Int.emod_one, Int.emod_one]
  by_cases h1 : d.1 = "add"
  · rw [if_pos h1, h1]
    exact ⟨0, by decide, by decide, by decide⟩
  rw [if_neg h1]
  by_cases h2 : d.1 = "sub"
  · rw [if_pos h2, h2]
    exact ⟨0, by decide, by decide, by decide⟩
  rw [if_neg h2]
  by_cases h3 : d.1 = "neg"
  · rw [if_pos h3, h3]
    exact ⟨0, by decide, by decide, by decide⟩
  rw [if_neg h3]
  by_cases h4 : d.1 = "twice"
  · rw [if_pos h4, h4]
    exact ⟨0, by decide, by decide, by decide⟩
  rw [if_neg h4]
  by_cases h5 : d.1 = "one"
  · rw [if_pos h5, h5]
    decide
  rw [if_neg h5, if_neg (by simp [h3, h5])]
theorem ci_next {x : Str} {A B p c : Int} (hp : 0 < p) (hc : Bit c) (h : CI x A B p c) : CI x A B (2 * p) (dcar x (A / p % 2) (B / p % 2) c) := by
  have ba : Bit (A / p % 2) := by unfold Bit; omega
  have bb : Bit (B / p % 2) := by unfold Bit; omega
  have la := low_next A hp
  have lb := low_next B hp
  have a0 := Int.emod_nonneg A (show p ≠ 0 by omega)
  have a1 := Int.emod_lt_of_pos A hp
  generalize A / p % 2 = α at la ba
  generalize B / p % 2 = β at lb bb
  unfold CI at h ⊢
  rw [la, lb]
  generalize A % p = a at h a0 a1
  generalize B % p = b at h
  by_cases h1 : x = "add"
  · subst h1
    rw [if_pos rfl] at h ⊢
    obtain ⟨r, e, r0, r1⟩ := h
    rcases ba with rfl | rfl <;> rcases bb with rfl | rfl <;> rcases hc with rfl | rfl
    · exact ⟨r, by show _ = 2 * p * 0 + r; omega, r0, by omega⟩
    · exact ⟨p + r, by show _ = 2 * p * 0 + (p + r); omega, by omega, by omega⟩
    · exact ⟨p + r, by show _ = 2 * p * 0 + (p + r); omega, by omega, by omega⟩
    · exact ⟨r, by show _ = 2 * p * 1 + r; omega, r0, by omega⟩
    · exact ⟨p + r, by show _ = 2 * p * 0 + (p + r); omega, by omega, by omega⟩
    · exact ⟨r, by show _ = 2 * p * 1 + r; omega, r0, by omega⟩
    · exact ⟨r, by show _ = 2 * p * 1 + r; omega, r0, by omega⟩
    · exact ⟨p + r, by show _ = 2 * p * 1 + (p + r); omega, by omega, by omega⟩
  rw [if_neg h1] at h ⊢
  by_cases h2 : x = "sub"
  · subst h2
    rw [if_pos rfl] at h ⊢
    obtain ⟨r, e, r0, r1⟩ := h
    rcases ba with rfl | rfl <;> rcases bb with rfl | rfl <;> rcases hc with rfl | rfl
    · exact ⟨r, by show _ = r - 2 * p * 0; omega, r0, by omega⟩
    · exact ⟨p + r, by show _ = (p + r) - 2 * p * 1; omega, by omega, by omega⟩
    · exact ⟨p + r, by show _ = (p + r) - 2 * p * 1; omega, by omega, by omega⟩
    · exact ⟨r, by show _ = r - 2 * p * 1; omega, r0, by omega⟩
    · exact ⟨p + r, by show _ = (p + r) - 2 * p * 0; omega, by omega, by omega⟩
    · exact ⟨r, by show _ = r - 2 * p * 0; omega, r0, by omega⟩
    · exact ⟨r, by show _ = r - 2 * p * 0; omega, r0, by omega⟩
    · exact ⟨p + r, by show _ = (p + r) - 2 * p * 1; omega, by omega, by omega⟩
  rw [if_neg h2] at h ⊢
  by_cases h3 : x = "neg"
  · subst h3
    rw [if_pos rfl] at h ⊢
    obtain ⟨r, e, r0, r1⟩ := h
    rcases ba with rfl | rfl <;> rcases hc with rfl | rfl
    · exact ⟨p + r, by show _ = (p + r) - 2 * p * (1 - 0); omega, by omega, by omega⟩
    · exact ⟨r, by show _ = r - 2 * p * (1 - 1); omega, r0, by omega⟩
    · exact ⟨r, by show _ = r - 2 * p * (1 - 0); omega, r0, by omega⟩
    · exact ⟨p + r, by show _ = (p + r) - 2 * p * (1 - 0); omega, by omega, by omega⟩
  rw [if_neg h3] at h ⊢
  by_cases h4 : x = "twice"
  · subst h4
    rw [if_pos rfl] at h ⊢
    obtain ⟨r, e, r0, r1⟩ := h
    rcases ba with rfl | rfl
    · exact ⟨a + a, by show _ = 2 * p * 0 + (a + a); omega, by omega, by omega⟩
    · exact ⟨a + a, by show _ = 2 * p * 1 + (a + a); omega, by omega, by omega⟩
  rw [if_neg h4] at h ⊢
  have hz : dcar x α β c = 0 := by
    unfold dcar
    rw [if_neg h3, if_neg h4, if_neg h1, if_neg h2]
  by_cases h5 : x = "one"
  · rw [if_pos h5, hz, if_neg (by omega)]
  · rw [if_neg h5, hz]
theorem nat_bits {a b t : Nat} : ((a &&& b) / 2 ^ t % 2 = (a / 2 ^ t % 2) &&& (b / 2 ^ t % 2)) ∧ ((a ||| b) / 2 ^ t % 2 = (a / 2 ^ t % 2) ||| (b / 2 ^ t % 2)) ∧ ((a ^^^ b) / 2 ^ t % 2 = (a / 2 ^ t % 2) ^^^ (b / 2 ^ t % 2)) := by
  refine ⟨?_, ?_, ?_⟩
  · rw [← Nat.shiftRight_eq_div_pow, ← Nat.shiftRight_eq_div_pow, ← Nat.shiftRight_eq_div_pow, Nat.shiftRight_and_distrib]
    exact Nat.and_mod_two_pow (n := 1)
  · rw [← Nat.shiftRight_eq_div_pow, ← Nat.shiftRight_eq_div_pow, ← Nat.shiftRight_eq_div_pow, Nat.shiftRight_or_distrib]
    exact Nat.or_mod_two_pow (n := 1)
  · rw [← Nat.shiftRight_eq_div_pow, ← Nat.shiftRight_eq_div_pow, ← Nat.shiftRight_eq_div_pow, Nat.shiftRight_xor_distrib]
    exact Nat.xor_mod_two_pow (n := 1)
theorem cast_bit (a t : Nat) : bitA t (a : Int) = ((a / 2 ^ t % 2 : Nat) : Int) := by
  unfold bitA
  rw [pw_cast]
  omega
theorem bit_land {A B : Int} (t : Nat) (ha : 0 ≤ A) (hb : 0 ≤ B) : bitA t (Builtin.bitAnd A B) = Builtin.bitAnd (bitA t A) (bitA t B) := by
  obtain ⟨a, rfl⟩ := Int.eq_ofNat_of_zero_le ha
  obtain ⟨b, rfl⟩ := Int.eq_ofNat_of_zero_le hb
  rw [cast_bit, cast_bit, bitAnd_pp (Int.natCast_nonneg _) (Int.natCast_nonneg _), bitAnd_pp (Int.natCast_nonneg _) (Int.natCast_nonneg _)]
  simp only [Int.toNat_natCast]
  rw [cast_bit, nat_bits.1]
theorem bit_lor {A B : Int} (t : Nat) (ha : 0 ≤ A) (hb : 0 ≤ B) : bitA t (Builtin.bitOr A B) = Builtin.bitOr (bitA t A) (bitA t B) := by
  obtain ⟨a, rfl⟩ := Int.eq_ofNat_of_zero_le ha
  obtain ⟨b, rfl⟩ := Int.eq_ofNat_of_zero_le hb
  rw [cast_bit, cast_bit, bitOr_nn (Int.natCast_nonneg _) (Int.natCast_nonneg _), bitOr_nn (Int.natCast_nonneg _) (Int.natCast_nonneg _)]
  simp only [Int.toNat_natCast]
  rw [cast_bit, nat_bits.2.1]
theorem bit_lxor {A B : Int} (t : Nat) (ha : 0 ≤ A) (hb : 0 ≤ B) : bitA t (Builtin.bitXor A B) = Builtin.bitXor (bitA t A) (bitA t B) := by
  obtain ⟨a, rfl⟩ := Int.eq_ofNat_of_zero_le ha
  obtain ⟨b, rfl⟩ := Int.eq_ofNat_of_zero_le hb
  rw [cast_bit, cast_bit, Bits.bitXor_pp (Int.natCast_nonneg _) (Int.natCast_nonneg _), Bits.bitXor_pp (Int.natCast_nonneg _) (Int.natCast_nonneg _)]
  simp only [Int.toNat_natCast]
  rw [cast_bit, nat_bits.2.2]
theorem dbit_tells {x : Str} {A B c : Int} {t n : Nat} (hx : x ∈ fwL.map (·.1)) (ht : t < n) (ha : 0 ≤ A) (hb : 0 ≤ B) (hc : Bit c) (h : CI x A B (2 ^ t) c) : dbit x (bitA t A) (bitA t B) c = bitA t (dvalue x A B (2 ^ n)) := by
  have hp := pw_pos t
  have eA := Int.mul_ediv_add_emod A (2 ^ t)
  have eB := Int.mul_ediv_add_emod B (2 ^ t)
  have qa := Int.mul_ediv_add_emod (A / 2 ^ t) 2
  have qb := Int.mul_ediv_add_emod (B / 2 ^ t) 2
  have a0 := Int.emod_nonneg A (show (2 : Int) ^ t ≠ 0 by omega)
  have a1 := Int.emod_lt_of_pos A hp
  have b0 := Int.emod_nonneg B (show (2 : Int) ^ t ≠ 0 by omega)
  have b1 := Int.emod_lt_of_pos B hp
  have ba := bitA_bit t A
  have bb := bitA_bit t B
  obtain ⟨N', hN⟩ : ∃ N' : Int, (2 : Int) ^ n = 2 ^ t * (2 * N') := by
    refine ⟨2 ^ (n - t - 1), ?_⟩
    rw [show n = t + 1 + (n - t - 1) by omega, Int.pow_add, Int.pow_succ, Int.mul_assoc]
    congr 3
    omega
  have land := bit_land t ha hb
  have lor := bit_lor t ha hb
  have lxor := bit_lxor t ha hb
  have tt : bitA t (A + A) = (A + A) / 2 ^ t % 2 := rfl
  rw [hN]
  unfold CI at h
  have p1 : (2 : Int) ^ t = 1 ∨ 2 ≤ (2 : Int) ^ t := by omega
  unfold bitA at ba bb ⊢
  unfold bitA at land lor lxor
  clear tt hN
  generalize (2 : Int) ^ t = p at *
  generalize hα : A / p % 2 = α at *
  generalize hβ : B / p % 2 = β at *
  generalize A % p = a at *
  generalize B % p = b at *
  generalize A / p / 2 = A' at *
  generalize B / p / 2 = B' at *
  have dA : A = p * (2 * A' + α) + a := by rw [qa]; omega
  have dB : B = p * (2 * B' + β) + b := by rw [qb]; omega
  have mA := Int.mul_add p (2 * A') α
  have mB := Int.mul_add p (2 * B') β
  simp only [fwL, List.map_cons, List.map_nil, List.mem_cons, List.not_mem_nil, or_false] at hx
  rcases hx with rfl | rfl | rfl | rfl | rfl | rfl | rfl | rfl | rfl | rfl | rfl
  · show (0 : Int) = 0 / p % 2
    rw [Int.zero_ediv]
    rfl
  · show c = 1 / p % 2
    have hc1 : c = if p = 1 then 1 else 0 := h
    rcases p1 with p1 | p1
    · rw [hc1, if_pos p1, p1]
      decide
    · rw [hc1, if_neg (by omega), Int.ediv_eq_zero_of_lt (by omega) (by omega)]
      rfl
  · show (1 : Int) = (p * (2 * N') - 1) / p % 2
    rw [bit_at (u := N' - 1) (k := 1) (r := p - 1) hp (by rw [Int.mul_add, Int.mul_sub, Int.mul_sub]; omega) (by omega) (by omega)]
    decide
  · show 1 - α = (p * (2 * N') - 1 - A) / p % 2
    have e : p * (2 * (N' - 1 - A') + (1 - α)) = p * (2 * N') - p * (2 * A') - p * α - p := by
      rw [Int.mul_add, Int.mul_sub 2, Int.mul_sub 2, Int.mul_sub p, Int.mul_sub p, Int.mul_sub p]
      omega
    rw [bit_at (u := N' - 1 - A') (k := 1 - α) (r := p - 1 - a) hp (by rw [e]; omega) (by omega) (by omega)]
    rcases ba with rfl | rfl <;> decide
  · show Builtin.bitXor (1 - α) c = (-A) / p % 2
    obtain ⟨r, er, r0, r1⟩ : ∃ r, -a = r - p * (1 - c) ∧ 0 ≤ r ∧ r < p := h
    have e : p * (2 * (-A') + (-α - 1 + c)) = -(p * (2 * A')) - p * α - p * (1 - c) := by
      rw [Int.mul_add, Int.mul_neg, Int.mul_neg, Int.mul_sub, Int.mul_add, Int.mul_sub, Int.mul_neg]
      omega
    rw [bit_at (u := -A') (k := -α - 1 + c) (r := r) hp (by rw [e]; omega) r0 r1]
    rcases ba with rfl | rfl <;> rcases hc with rfl | rfl <;> decide
  · show c = (A + A) / p % 2
    obtain ⟨r, er, r0, r1⟩ : ∃ r, a + a = p * c + r ∧ 0 ≤ r ∧ r < p := h
    have e : p * (2 * (2 * A' + α) + c) = 2 * (p * (2 * A')) + 2 * (p * α) + p * c := by
      rw [Int.mul_add, Int.mul_left_comm, Int.mul_add p]
      omega
    rw [bit_at (u := 2 * A' + α) (k := c) (r := r) hp (by rw [e]; omega) r0 r1, bit_val hc]
  · show Builtin.bitAnd α β = Builtin.bitAnd A B / p % 2
    rw [land]
  · show Builtin.bitOr α β = Builtin.bitOr A B / p % 2
    rw [lor]
  · show Builtin.bitXor α β = Builtin.bitXor A B / p % 2
    rw [lxor]
  · show Builtin.bitXor (Builtin.bitXor α β) c = (A + B) / p % 2
    obtain ⟨r, er, r0, r1⟩ : ∃ r, a + b = p * c + r ∧ 0 ≤ r ∧ r < p := h
    have e : p * (2 * (A' + B') + (α + β + c)) = p * (2 * A') + p * (2 * B') + p * α + p * β + p * c := by
      rw [Int.mul_add 2, Int.mul_add, Int.mul_add p, Int.mul_add p, Int.mul_add p]
      omega
    rw [bit_at (u := A' + B') (k := α + β + c) (r := r) hp (by rw [e]; omega) r0 r1]
    rcases ba with rfl | rfl <;> rcases bb with rfl | rfl <;> rcases hc with rfl | rfl <;> decide
  · show Builtin.bitXor (Builtin.bitXor α β) c = (A - B) / p % 2
    obtain ⟨r, er, r0, r1⟩ : ∃ r, a - b = r - p * c ∧ 0 ≤ r ∧ r < p := h
    have e : p * (2 * (A' - B') + (α - β - c)) = p * (2 * A') - p * (2 * B') + p * α - p * β - p * c := by
      rw [Int.mul_sub 2, Int.mul_add, Int.mul_sub p, Int.mul_sub p, Int.mul_sub p]
      omega
    rw [bit_at (u := A' - B') (k := α - β - c) (r := r) hp (by rw [e]; omega) r0 r1]
    rcases ba with rfl | rfl <;> rcases bb with rfl | rfl <;> rcases hc with rfl | rfl <;> decide
/-! ### rows' bits and carries -/
theorem bit_mod {V : Int} {t n : Nat} (h : t < n) : bitA t (V % 2 ^ n) = bitA t V := by
  obtain ⟨N', hN⟩ : ∃ N' : Int, (2 : Int) ^ n = 2 ^ t * (2 * N') := by
    refine ⟨2 ^ (n - t - 1), ?_⟩
    rw [show n = t + 1 + (n - t - 1) by omega, Int.pow_add, Int.pow_succ, Int.mul_assoc]
    congr 3
    omega
  have hp := pw_pos t
  have e := Int.mul_ediv_add_emod V (2 ^ n)
  have e1 := Int.mul_ediv_add_emod (V % 2 ^ n) (2 ^ t)
  have r0 := Int.emod_nonneg (V % 2 ^ n) (show (2 : Int) ^ t ≠ 0 by omega)
  have r1 := Int.emod_lt_of_pos (V % 2 ^ n) hp
  unfold bitA
  have z : V / 2 ^ t % 2 = (V % 2 ^ n / 2 ^ t) % 2 := by
    refine bit_at (u := N' * (V / 2 ^ n)) (k := V % 2 ^ n / 2 ^ t) (r := V % 2 ^ n % 2 ^ t) hp ?_ r0 r1
    have e2 : (2 : Int) ^ t * (2 * (N' * (V / 2 ^ n))) = 2 ^ n * (V / 2 ^ n) := by rw [hN, Int.mul_assoc, Int.mul_assoc]
    rw [Int.mul_add, e2]
    omega
  exact z.symm
theorem vals_pre {N : Int} : ∀ (ds : List Deed) (t : List Int), (vals N ds t).take t.length = t
  | [], t => List.take_length
  | d :: ds, t => by
    have h := vals_pre ds (t ++ [dval N d t]) (N := N)
    show (vals N ds (t ++ [dval N d t])).take t.length = t
    have h2 : ((vals N ds (t ++ [dval N d t])).take (t ++ [dval N d t]).length).take t.length = t := by
      rw [h]
      exact List.take_left
    rw [List.take_take, List.length_append, Nat.min_eq_left (by omega)] at h2
    exact h2
theorem vals_at {N : Int} {ds : List Deed} {xs : List Int} (i : Nat) (hi : i ≤ ds.length) : vals N (ds.take i) xs = (vals N ds xs).take (xs.length + i) := by
  have e : vals N ds xs = vals N (ds.drop i) (vals N (ds.take i) xs) := by rw [← vals_append, List.take_append_drop]
  have l : (vals N (ds.take i) xs).length = xs.length + i := by rw [vals_len, List.length_take, Nat.min_eq_left hi]
  rw [e, ← l, vals_pre]
theorem ix_lt {d : Deed} {n : Nat} (h : DeedOk n d) (hn : 1 ≤ n) (k : Nat) : (d.2.getD k 0).toNat < n := by
  rw [List.getD_eq_getElem?_getD]
  cases e : d.2[k]? with
  | none => exact hn
  | some i =>
    obtain ⟨h0, h1⟩ := h.ahead i (List.mem_of_getElem? e)
    show i.toNat < n
    omega
theorem arg_map {d : Deed} {told : List Int} (f : Int → Int) (h : DeedOk told.length d) (hn : 1 ≤ told.length) (k : Nat) : argAt d (told.map f) k = f (argAt d told k) := by
  have hi := ix_lt h hn k
  unfold argAt
  generalize (d.2.getD k 0).toNat = j at hi
  rw [List.getD_eq_getElem?_getD, List.getD_eq_getElem?_getD, List.getElem?_map, List.getElem?_eq_getElem hi]
  rfl
theorem arg_take {d : Deed} {v : List Int} {n : Nat} (h : DeedOk n d) (hn : 1 ≤ n) (hv : n ≤ v.length) (k : Nat) : argAt d (v.take n) k = argAt d v k := by
  have hi := ix_lt h hn k
  unfold argAt
  generalize (d.2.getD k 0).toNat = j at hi
  rw [List.getD_eq_getElem?_getD, List.getD_eq_getElem?_getD, List.getElem?_take, if_pos hi]
/-- the carries into bit t -/
structure CIs (v : List Int) (t : Nat) (ds : List Deed) (cs : List Int) : Prop where
  len : cs.length = ds.length
  each : ∀ (k : Nat) d c, ds[k]? = some d → cs[k]? = some c → CI d.1 (argAt d v 0) (argAt d v 1) (2 ^ t) c ∧ Bit c
theorem cis_first (v : List Int) (ds : List Deed) : CIs v 0 ds (ds.map fcD) where
  len := List.length_map ..
  each := fun k d c hd hc => by
    rw [List.getElem?_map, hd] at hc
    obtain rfl := Option.some.inj hc
    refine ⟨ci_first d _ _, ?_⟩
    unfold fcD
    split
    · exact bit1
    · exact bit0
theorem cis_bits {m n t : Nat} {ds : List Deed} {xs cs : List Int} (ok : DsOk m ds) (hm : xs.length = m) (m1 : 1 ≤ m) (hx : ∀ x ∈ xs, 0 ≤ x ∧ x < 2 ^ n) (ht : t < n) (h : CIs (vals (2 ^ n) ds xs) t ds cs) : bts ds cs (xs.map (bitA t)) = (vals (2 ^ n) ds xs).map (bitA t) := by
  have vr := vals_range (pw_pos n) ds xs hx
  have vl := vals_len (size := 2 ^ n) ds xs
  have key : ∀ i, i ≤ ds.length → bts (ds.take i) (cs.take i) (xs.map (bitA t)) = ((vals (2 ^ n) ds xs).take (xs.length + i)).map (bitA t) := by
    intro i
    induction i with
    | zero =>
      intro _
      rw [Nat.add_zero, vals_pre]
      cases ds <;> rfl
    | succ i ih =>
      intro hi
      have hd : ds[i]? = some ds[i] := List.getElem?_eq_getElem (by omega)
      have hc : cs[i]? = some (cs[i]'(by rw [h.len]; omega)) := List.getElem?_eq_getElem _
      obtain ⟨h1, h2⟩ := h.each i _ _ hd hc
      generalize ds[i] = d at hd h1
      generalize cs[i]'(by rw [h.len]; omega) = c at hc h1 h2
      have okd : DeedOk ((xs.length + i : Nat) : Int) d := by
        have := ok.each i d hd
        rw [hm]
        have e : ((m + i : Nat) : Int) = (m : Int) + (i : Int) := by omega
        rw [e]
        exact this
      have pl : ((vals (2 ^ n) ds xs).take (xs.length + i)).length = xs.length + i := by
        rw [List.length_take, vl]
        omega
      rw [bts_next hd hc, ih (by omega), ← vals_at (i + 1) hi, vals_next hd, vals_at i (by omega), List.map_append]
      congr 1
      show [dbitAt d c _] = [bitA t (dval (2 ^ n) d _)]
      unfold dbitAt dval
      rw [arg_map _ (by rw [pl]; exact okd) (by omega), arg_map _ (by rw [pl]; exact okd) (by omega), arg_take okd (by omega) (by omega), arg_take okd (by omega) (by omega), bit_mod ht]
      rw [dbit_tells (List.mem_map.mpr ⟨_, okd.word, rfl⟩) ht (arg_nn (fun x hx => (vr x hx).1) d 0) (arg_nn (fun x hx => (vr x hx).1) d 1) h2 h1]
  have e := key ds.length (Nat.le_refl _)
  rw [List.take_length, ← h.len, List.take_length, h.len, ← vl, List.take_length] at e
  exact e
theorem cis_next {m n t : Nat} {ds : List Deed} {xs cs : List Int} (ok : DsOk m ds) (hm : xs.length = m) (m1 : 1 ≤ m) (h : CIs (vals (2 ^ n) ds xs) t ds cs) : CIs (vals (2 ^ n) ds xs) (t + 1) ds (nxt ds cs ((vals (2 ^ n) ds xs).map (bitA t))) where
  len := nxt_len h.len.symm
  each := fun k d c hd hc => by
    unfold nxt at hc
    rw [List.getElem?_zipWith, hd] at hc
    cases e : cs[k]? with
    | none => rw [e] at hc; simp at hc
    | some c0 =>
      rw [e] at hc
      obtain rfl : dcarAt d c0 ((vals (2 ^ n) ds xs).map (bitA t)) = c := by simpa using hc
      obtain ⟨h1, h2⟩ := h.each k d c0 hd e
      have kl := (List.getElem?_eq_some_iff.mp hd).1
      have okd : DeedOk (vals (2 ^ n) ds xs).length d := by
        rw [vals_len]
        refine ⟨(ok.each k d hd).word, fun i hi => ?_⟩
        have := (ok.each k d hd).ahead i hi
        omega
      have l1 : 1 ≤ (vals (2 ^ n) ds xs).length := by
        rw [vals_len]
        omega
      unfold dcarAt
      rw [arg_map _ okd l1, arg_map _ okd l1]
      refine ⟨?_, dcar_bit (bitA_bit _ _) (bitA_bit _ _) h2⟩
      rw [Int.pow_succ, Int.mul_comm]
      exact ci_next (pw_pos t) h2 h1
/-- the carry come to by the words' bits -/
def crry (ds : List Deed) (xs : List Int) : Nat → List Int
  | 0 => ds.map fcD
  | t + 1 => nxt ds (crry ds xs t) (bts ds (crry ds xs t) (xs.map (bitA t)))
theorem crry_ok {m n : Nat} {ds : List Deed} {xs : List Int} (ok : DsOk m ds) (hm : xs.length = m) (m1 : 1 ≤ m) (hx : ∀ x ∈ xs, 0 ≤ x ∧ x < 2 ^ n) : ∀ t, t ≤ n → CIs (vals (2 ^ n) ds xs) t ds (crry ds xs t)
  | 0, _ => cis_first _ ds
  | t + 1, h => by
    have ih := crry_ok ok hm m1 hx t (by omega)
    show CIs _ (t + 1) ds (nxt ds (crry ds xs t) (bts ds (crry ds xs t) (xs.map (bitA t))))
    rw [cis_bits ok hm m1 hx (by omega) ih]
    exact cis_next ok hm m1 ih
theorem crry_bits {m n t : Nat} {ds : List Deed} {xs : List Int} (ok : DsOk m ds) (hm : xs.length = m) (m1 : 1 ≤ m) (hx : ∀ x ∈ xs, 0 ≤ x ∧ x < 2 ^ n) (ht : t < n) : bts ds (crry ds xs t) (xs.map (bitA t)) = (vals (2 ^ n) ds xs).map (bitA t) :=
  cis_bits ok hm m1 hx ht (crry_ok ok hm m1 hx t (by omega))
/-! ### the carries that come -/
inductive Rch (m : Nat) (ds : List Deed) : List Int → Prop
  | first : Rch m ds (ds.map fcD)
  | next {c bs : List Int} : Rch m ds c → bs.length = m → (∀ x ∈ bs, Bit x) → Rch m ds (nxt ds c (bts ds c bs))
theorem crry_rch (ds : List Deed) (xs : List Int) : ∀ t, Rch xs.length ds (crry ds xs t)
  | 0 => .first
  | t + 1 => .next (crry_rch ds xs t) (List.length_map ..) fun x hx => by
    obtain ⟨y, _, rfl⟩ := List.mem_map.mp hx
    exact bitA_bit t y
/-- bits, none where nothing carries -/
def Shp : List Deed → List Int → Prop
  | [], [] => True
  | d :: ds, c :: cs => Bit c ∧ (d.1 ∉ twC → c = 0) ∧ Shp ds cs
  | _, _ => False
theorem Shp.len : ∀ {ds : List Deed} {cs : List Int}, Shp ds cs → cs.length = ds.length
  | [], [], _ => rfl
  | [], _ :: _, h => h.elim
  | _ :: _, [], h => h.elim
  | _ :: _, _ :: _, h => congrArg (· + 1) (Shp.len h.2.2)
theorem Shp.bits : ∀ {ds : List Deed} {cs : List Int}, Shp ds cs → ∀ c ∈ cs, Bit c
  | [], [], _ => (fun _ z => nomatch z)
  | [], _ :: _, h => h.elim
  | _ :: _, [], h => h.elim
  | _ :: _, _ :: _, h => fun c hc => by
    rcases List.mem_cons.mp hc with rfl | hc
    · exact h.1
    · exact Shp.bits h.2.2 c hc
theorem calm_first {d : Deed} (h : d.1 ∉ twC) : fcD d = 0 := by
  unfold fcD
  rw [if_neg]
  intro z
  simp only [List.mem_cons, List.not_mem_nil, or_false] at z
  simp only [twC, List.mem_cons, List.not_mem_nil, or_false, not_or] at h
  rcases z with z | z
  · exact h.2.2.2.1 z
  · exact h.2.2.2.2 z
theorem calm_car {x : Str} (h : x ∉ twC) (a b c : Int) : dcar x a b c = 0 := by
  simp only [twC, List.mem_cons, List.not_mem_nil, or_false, not_or] at h
  obtain ⟨h1, h2, h3, h4, h5⟩ := h
  unfold dcar
  rw [if_neg h4, if_neg h3, if_neg h1, if_neg h2]
theorem shp_first : ∀ ds : List Deed, Shp ds (ds.map fcD)
  | [] => trivial
  | d :: ds => ⟨(by unfold fcD; split; exact bit1; exact bit0), calm_first, shp_first ds⟩
theorem shp_nxt {told : List Int} (hb : ∀ x ∈ told, Bit x) : ∀ {ds : List Deed} {cs : List Int}, Shp ds cs → Shp ds (nxt ds cs told)
  | [], [], _ => trivial
  | [], _ :: _, h => h.elim
  | _ :: _, [], h => h.elim
  | d :: ds, c :: cs, h => ⟨dcar_bit (argAt_bit hb d 0) (argAt_bit hb d 1) h.1, fun z => calm_car z _ _ _, shp_nxt hb h.2.2⟩
theorem rch_shp {m : Nat} {ds : List Deed} : ∀ {c : List Int}, Rch m ds c → Shp ds c := by
  intro c h
  induction h with
  | first => exact shp_first ds
  | next h hl hb ih => exact shp_nxt (bts_bits hb ih.bits) ih
def univ : List Deed → List (List Int)
  | [] => [[]]
  | d :: ds => if d.1 ∈ twC then (univ ds).map (0 :: ·) ++ (univ ds).map (1 :: ·) else (univ ds).map (0 :: ·)
theorem univ_len : ∀ ds : List Deed, (univ ds).length = 2 ^ carN ds
  | [] => rfl
  | d :: ds => by
    have ih := univ_len ds
    unfold univ carN
    by_cases h : d.1 ∈ twC
    · rw [if_pos h, if_pos h, List.length_append, List.length_map, List.length_map, ih, Nat.pow_succ]
      omega
    · rw [if_neg h, if_neg h, List.length_map, ih]
      rfl
theorem shp_univ : ∀ {ds : List Deed} {cs : List Int}, Shp ds cs → cs ∈ univ ds
  | [], [], _ => List.mem_cons_self
  | [], _ :: _, h => h.elim
  | _ :: _, [], h => h.elim
  | d :: ds, c :: cs, h => by
    have ih := shp_univ h.2.2
    unfold univ
    by_cases hd : d.1 ∈ twC
    · rw [if_pos hd]
      rcases h.1 with rfl | rfl
      · exact List.mem_append_left _ (List.mem_map.mpr ⟨cs, ih, rfl⟩)
      · exact List.mem_append_right _ (List.mem_map.mpr ⟨cs, ih, rfl⟩)
    · rw [if_neg hd, h.2.1 hd]
      exact List.mem_map.mpr ⟨cs, ih, rfl⟩
theorem pigeon {α : Type} [DecidableEq α] : ∀ (l D : List α), l.Nodup → (∀ x ∈ l, x ∈ D) → l.length ≤ D.length
  | [], _, _, _ => Nat.zero_le _
  | x :: l, D, nd, h => by
    rw [List.nodup_cons] at nd
    have hx := h x List.mem_cons_self
    have ih := pigeon l (D.erase x) nd.2 fun y hy => (List.mem_erase_of_ne (fun e : y = x => nd.1 (by rw [← e]; exact hy))).mpr (h y (List.mem_cons_of_mem _ hy))
    rw [List.length_erase_of_mem hx] at ih
    have := List.length_pos_of_mem hx
    rw [List.length_cons]
    omega
/-! ### all bits -/
theorem walk_gen {J : It} {n : Nat} {G : Hp → Prop} {Y : Nat → Hp → V → Hp → Prop} (w : Walk J n G Y) {g : TG} {σ0 : L2.St} {B : (Hp → Prop) → L2.St → Hp → Prop} {H0 : Hp} {Qd : Hp → Prop} (Pv : Nat → Hp → Prop) (h0 : Pv 0 H0)
    (hG : ∀ i H, i ≤ n → Pv i H → G H) (hs : ∀ i x H H', i < n → Pv i H → Y i H x H' → g x σ0 H' fun σ2 H2 => B (Pv (i + 1)) σ2 H2) (hd : ∀ H, Pv n H → Qd H) :
    ∃ W : Nat → Nat → Hp → Prop, (∃ m, W 0 m H0) ∧ ∀ i m H, W i m H → (J.stop i H ∧ Qd H) ∨ (J.go i H ∧ ∃ Nx : Hp → Prop, (∀ H', Nx H' → ∃ m', m' < m ∧ W (i + 1) m' H') ∧ ∀ x H', J.yld i H x H' → g x σ0 H' fun σ2 H2 => B Nx σ2 H2) := by
  refine ⟨fun i m H => m = n - i ∧ i ≤ n ∧ Pv i H, ⟨n, by simp, Nat.zero_le _, h0⟩, ?_⟩
  rintro i m H ⟨rfl, hi, q⟩
  by_cases lt : i < n
  · exact .inr ⟨w.goes i H lt (hG i H hi q), Pv (i + 1), fun H' z => ⟨n - (i + 1), by omega, rfl, lt, z⟩, fun x H' y => hs i x H H' lt q (w.yields i H x H' lt (hG i H hi q) y)⟩
  · obtain rfl : i = n := by omega
    exact .inl ⟨w.stops H (hG i H hi q), hd H q⟩
def ext2 (l : List (List Int)) : List (List Int) := l.flatMap fun b => [b ++ [0], b ++ [1]]
def allB : Nat → List (List Int)
  | 0 => [[]]
  | m + 1 => ext2 (allB m)
theorem ext2_len (l : List (List Int)) : (ext2 l).length = 2 * l.length := by
  unfold ext2
  induction l with
  | nil => rfl
  | cons b l ih => rw [List.flatMap_cons, List.length_append, ih, List.length_cons]; simp; omega
theorem allB_len : ∀ m, (allB m).length = 2 ^ m
  | 0 => rfl
  | m + 1 => by
    show (ext2 (allB m)).length = _
    rw [ext2_len, allB_len m, Nat.pow_succ]
    omega
theorem allB_ok : ∀ m, ∀ bs ∈ allB m, bs.length = m ∧ ∀ x ∈ bs, Bit x
  | 0, bs, h => by
    rw [List.mem_singleton.mp h]
    exact ⟨rfl, (fun _ z => nomatch z)⟩
  | m + 1, bs, h => by
    obtain ⟨b, hb, h2⟩ := List.mem_flatMap.mp h
    obtain ⟨h3, h4⟩ := allB_ok m b hb
    simp only [List.mem_cons, List.not_mem_nil, or_false] at h2
    rcases h2 with rfl | rfl
    · refine ⟨by rw [List.length_append, h3]; rfl, fun x hx => ?_⟩
      rcases List.mem_append.mp hx with hx | hx
      · exact h4 x hx
      · rw [List.mem_singleton.mp hx]
        exact bit0
    · refine ⟨by rw [List.length_append, h3]; rfl, fun x hx => ?_⟩
      rcases List.mem_append.mp hx with hx | hx
      · exact h4 x hx
      · rw [List.mem_singleton.mp hx]
        exact bit1
theorem allB_all : ∀ m, ∀ bs : List Int, bs.length = m → (∀ x ∈ bs, Bit x) → bs ∈ allB m
  | 0, bs, h, _ => by
    rw [List.eq_nil_of_length_eq_zero h]
    exact List.mem_cons_self
  | m + 1, bs, h, hb => by
    have hne : bs ≠ [] := fun e => by rw [e] at h; simp at h
    have e := List.dropLast_concat_getLast hne
    have h1 : bs.dropLast ∈ allB m := allB_all m _ (by rw [List.length_dropLast, h]; rfl) fun x hx => hb x ((List.dropLast_sublist bs).subset hx)
    refine List.mem_flatMap.mpr ⟨_, h1, ?_⟩
    rcases hb _ (List.getLast_mem hne) with z | z
    · rw [z] at e
      exact List.mem_cons.mpr (.inl e.symm)
    · rw [z] at e
      exact List.mem_cons.mpr (.inr (List.mem_singleton.mpr e.symm))
/-- tuples of ints -/
abbrev TAt (H : Hp) : List Addr → List (List Int) → Prop := Paired fun f bs => H f = some (.tup (bs.map V.int))
theorem tat_stay {H H' : Hp} (t : TupsStay H H') {fs : List Addr} {l : List (List Int)} (h : TAt H fs l) : TAt H' fs l := awMap (fun f b e => t f _ e) h
def spAll : Sp := fun vs H Q _ => ∃ m : Nat, vs = [.int (m : Int)] ∧ m ≤ 3 ∧ ∀ H' p fs, Same H H' → H p = none → H' p = some (.lst (fs.map V.ref)) → TAt H' fs (allB m) → Q (.ref p) H'
theorem ok_all {f : Addr} {fd : FuncData} {k : Nat} (F : Fun K "all_bits" "all_bits" s_all_bits f fd) (mr : mg "range" = none) : FnOk P w K mg base CX0 (k + 1) f fd ["many"] spAll := by
  refine F.ok sc_all_bits (fun vs H Q E h => ?_) (fun cdv A outer s H vs Q E hr h => ?_)
  · obtain ⟨m, rfl, _⟩ := h
    rfl
  · obtain ⟨m, rfl, m3, q⟩ := h
    refine ⟨_, pss_cons (ps_set (i := 1) sc_all_bits.nd rfl (.inl rfl) (pe_lst (pa_cons (pe_tup pa_nil) pa_nil)))
      (pss_cons (ps_for PassesOwn.never rfl (pi_range1 (by rfl) mr (pa_cons (pv 0) pa_nil)) (pg_name (i := 2) sc_all_bits.nd rfl (.inl rfl))
        (pss_one (ps_setLc2 (i := 1) (own := [("bits", 3), ("bit", 4)]) (vs1 := [4]) (g := gName 3) (g1 := gName 4) (wi1 := iTup K (tTup (tCons (tC (.int 0)) (tCons (tC (.int 1)) tNil)))) (by rfl) sc_all_bits.nd rfl rfl (sw_true rfl rfl rfl (by decide +kernel)) (pi_list (pv 1)) (blkOk_by (own := [("bits", 3), ("bit", 4)]) (N := N_all_bits) (sc := defScope s_all_bits) (by decide +kernel)) (by decide)
          (fun _ _ _ _ _ => pg_name (i := 3) sc_all_bits.nd rfl (Or.inl rfl)) (fun _ _ _ _ _ => pts_nil) (fun _ _ _ _ _ => pi_tup (pe_tup (pa_cons pe_int (pa_cons pe_int pa_nil))))
          (fun _ _ _ _ _ => pg_name (i := 4) sc_all_bits.nd rfl (Or.inl rfl)) (fun _ _ _ _ _ => pts_nil) (fun _ _ _ _ _ => pe_op op_catZ (pv 3) (pe_tup (pa_cons (pv 4) pa_nil))))))
      (pss_one (ps_ret (pv 1)))), ?_⟩
    refine ⟨by show 0 ≤ sizeLine; decide, fun T hT => ⟨by show 1 ≤ sizeLine; decide, fun L hL => ?_⟩⟩
    have s1 := same_new (o := .tup []) hT
    have s2 := same_new (o := .lst [.ref T]) hL
    refine ⟨.int m, rfl, m, rfl, by omega, by omega, for_range (lo := 0) (n := m) (fun i σ H3 => ∃ y2 F1 fs, σ = [some (.int (m : Int)), some (.ref F1), y2, none, none] ∧ H F1 = none ∧ H3 F1 = some (.lst (fs.map V.ref)) ∧ TAt H3 fs (allB i) ∧ Same H H3) ⟨none, L, [T], rfl, s1.free hL, upd_same, .cons (s2 _ _ upd_same) .nil, s1.trans s2⟩ (fun i σ H3 hi hp => ?_) (fun σ H3 hp => ?_)⟩
    · obtain ⟨y2, F1, fs, rfl, nF, eF, hf, sm⟩ := hp
      have fl : fs.length ≤ 8 := by
        rw [awLen hf, allB_len]
        exact Nat.le_trans (Nat.pow_le_pow_right (by decide) (show i ≤ 3 by omega)) (by decide)
      refine ⟨.ref F1, rfl, F1, rfl, ⟨_, .inl (.inl eF)⟩, fun M hM => ?_⟩
      refine walk_gen (walk_list (K := K) (a := F1) (xs := fs.map V.ref)) (fun j H4 => ∃ gs, H4 M = some (.lst (gs.map V.ref)) ∧ TAt H4 gs (ext2 ((allB i).take j)) ∧ Same H3 H4) ⟨[], upd_same, .nil, same_new hM⟩ (fun j H4 _ hp => ?_) (fun j x H4 H5 hj hp hy => ?_) (fun H4 hp => ?_)
      · obtain ⟨_, _, _, s4⟩ := hp
        exact .inl (.inl (s4 _ _ eF))
      · obtain ⟨gs, eM, hg, s4⟩ := hp
        obtain ⟨rfl, hx⟩ := hy
        have hj2 : j < fs.length := by rwa [List.length_map] at hj
        have hx' : x = .ref fs[j] := by
          rw [List.getElem?_map, List.getElem?_eq_getElem hj2] at hx
          exact (Option.some.inj hx).symm
        subst hx'
        obtain ⟨b, hb1, hb2⟩ := awGet hf (List.getElem?_eq_getElem hj2)
        have bl : b.length = i := (allB_ok i b (List.mem_of_getElem? hb1)).1
        refine ⟨rfl, by show 2 ≤ sizeLine; decide, fun U hU => ?_⟩
        have sU := same_new (o := .tup [.int 0, .int 1]) hU
        refine ⟨U, rfl, ⟨_, SqT.of upd_same⟩, ?_⟩
        refine walk_gen (walk_tup (K := K) (a := U) (xs := [.int 0, .int 1])) (fun t H6 => ∃ gs, H6 M = some (.lst (gs.map V.ref)) ∧ TAt H6 gs (ext2 ((allB i).take j) ++ [b ++ [0], b ++ [1]].take t) ∧ TupsStay (upd H5 U (.tup [.int 0, .int 1])) H6 ∧ Same H3 H6) ⟨gs, sU _ _ eM, (by rw [List.take_zero, List.append_nil]; exact tat_stay (Same.tups sU) hg), (fun _ _ e => e), s4.trans sU⟩ (fun t H6 _ hp => ?_) (fun t x H6 H7 ht hp hy => ?_) (fun H6 hp => ?_)
        · obtain ⟨_, _, _, t6, _⟩ := hp
          exact SqT.of (t6 _ _ upd_same)
        · obtain ⟨gs, eM6, hg6, t6, s6⟩ := hp
          obtain ⟨rfl, hx⟩ := hy
          obtain ⟨z, rfl, hz⟩ : ∃ z : Int, x = .int z ∧ [b ++ [0], b ++ [1]].take (t + 1) = [b ++ [0], b ++ [1]].take t ++ [b ++ [z]] := by
            have ht2 : t = 0 ∨ t = 1 := by
              have : t < 2 := ht
              omega
            rcases ht2 with rfl | rfl
            · exact ⟨0, (Option.some.inj hx).symm, rfl⟩
            · exact ⟨1, (Option.some.inj hx).symm, rfl⟩
          have eb := s6 _ _ (hb2)
          refine ⟨rfl, .ref fs[j], rfl, .int z, rfl, by show 1 ≤ sizeLine; decide, fun U2 hU2 => ?_⟩
          have sU2 := same_new (o := .tup [.int z]) hU2
          refine ⟨fs[j], U2, _, _, rfl, rfl, sU2 _ _ eb, upd_same, by rw [List.length_map]; exact Nat.le_of_lt (small1000 (by show b.length + 1 ≤ 1000; omega)), fun p H8 s8 ep => ?_⟩
          have s78 := sU2.trans s8
          have eM8 := s78 _ _ eM6
          have gl := awLen hg6
          have gl2 : gs.length ≤ 18 := by
            rw [gl, List.length_append, ext2_len, List.length_take]
            have e1 : (allB i).length = fs.length := (awLen hf).symm
            have e2 : ([b ++ [0], b ++ [1]].take t).length ≤ 2 := by
              rw [List.length_take]
              exact Nat.min_le_right _ _
            omega
          have tp := tups_put (o := .lst (gs.map V.ref ++ [V.ref p])) eM8
          refine ⟨_, eM8, by rw [List.length_map]; exact small1000 (by omega), gs ++ [p], ?_, ?_, ?_, ?_⟩
          · rw [upd_same, List.map_append]
            rfl
          · rw [hz, ← List.append_assoc]
            refine tat_stay tp (awSnoc (F := fun f (bs : List Int) => H8 f = some (.tup (bs.map V.int))) ?_ (tat_stay (Same.tups s78) hg6))
            rw [ep, List.map_append]
            rfl
          · exact (t6.trans (Same.tups s78)).trans tp
          · intro c u e
            rw [upd_ne (ne_of_none e hM)]
            exact s78 c u (s6 c u e)
        · obtain ⟨gs, eM6, hg6, t6, s6⟩ := hp
          refine ⟨gs, eM6, ?_, s6⟩
          have e1 : ext2 ((allB i).take (j + 1)) = ext2 ((allB i).take j) ++ [b ++ [0], b ++ [1]] := by
            rw [List.take_add_one, hb1]
            unfold ext2
            rw [List.flatMap_append]
            rfl
          rw [e1]
          exact hg6
      · obtain ⟨gs, eM, hg, s4⟩ := hp
        refine ⟨some (.int (0 + i)), M, gs, rfl, sm.free hM, eM, ?_, sm.trans s4⟩
        rw [List.length_map, awLen hf, List.take_length] at hg
        exact hg
    · obtain ⟨y2, F1, fs, rfl, nF, eF, hf, sm⟩ := hp
      exact ⟨.ref F1, rfl, q _ F1 fs sm nF eF hf⟩
/-! ### carry_behind, steps, kept_steps -/
def spCb : Sp := fun vs H Q _ => ∃ (R C T : Addr) (m o : Int) (ds : List Deed) (cs told : List Int), vs = [.ref R, .ref C, .ref T] ∧ RowAt H R m ds o ∧ DsOk m ds ∧ ds.length ≤ 100 ∧ H C = some (.tup (cs.map V.int)) ∧ cs.length = ds.length ∧ H T = some (.tup (told.map V.int)) ∧ (told.length : Int) = m + ds.length ∧
  ∀ H' p, Same H H' → H p = none → H' p = some (.tup ((nxt ds cs told).map V.int)) → Q (.ref p) H'
theorem ok_cb {f fC : Addr} {fd fdC : FuncData} {k : Nat} (F : Fun K "carry_behind" "carry_behind" s_carry_behind f fd)
    (GC : FnOk P w K mg base CX0 (k + 2) fC fdC ["deed", "held", "told"] spDc) (kC : PySem.W.keepIn K (.ref fC) = true) (bC : Binds K fdC ["deed", "held", "told"] []) (gC : mg "deed_carry" = some (.ref fC)) (mt : mg "tuple" = none) (mz : mg "zip" = none) : FnOk P w K mg base CX0 (k + 3) f fd ["row", "carry", "told"] spCb := by
  refine F.ok sc_carry_behind (fun vs H Q E h => ?_) (fun cdv A outer s H vs Q E hr h => ?_)
  · obtain ⟨R, C, T, m, o, ds, cs, told, rfl, _⟩ := h
    rfl
  · obtain ⟨R, C, T, m, o, ds, cs, told, rfl, hrow, hok, hds, eC, hcl, eT, htl, q⟩ := h
    obtain ⟨D, rs, eR, eD, hd⟩ := id hrow
    refine ⟨_, pss_one (ps_ret (pe_callTy call_tuple_of (by rfl) mt (by decide +kernel) (pa_cons
        (pe_lc (own := [("deed", 3), ("held", 4)]) (g := gTup K 2 (gCons (gName 3) (gCons (gName 4) gNil))) (by rfl) sc_carry_behind.nd (RZ.pi_zipA (by rfl) mz (pa_cons (pe_ix ix_tup (pv 0) pe_int (fun _ _ => rfl)) (pa_cons (pv 1) pa_nil))) (blkOk_by (own := [("deed", 3), ("held", 4)]) (N := N_carry_behind) (sc := defScope s_carry_behind) (by decide +kernel))
          (fun _ _ _ _ _ => pg_tup rfl (pgs_cons (pg_name (i := 3) sc_carry_behind.nd rfl (.inl rfl)) (pgs_cons (pg_name (i := 4) sc_carry_behind.nd rfl (.inl rfl)) pgs_nil))) (fun _ _ _ _ _ => pts_nil)
          (fun _ _ _ _ _ => pe_call GC hr (by rfl) gC kC bC .nil pass0 (pa_cons (pv 3) (pa_cons (pv 4) (pa_cons (pv 2) pa_nil))))) pa_nil))), ?_⟩
    have lrs : (rs.map V.ref).length = ds.length := by rw [List.length_map, awLen hd]
    have lcs : (cs.map V.int).length = ds.length := by rw [List.length_map, hcl]
    refine ⟨.ref R, rfl, R, _, 1, .ref D, rfl, rfl, SqT.of eR, rfl, .ref C, rfl, D, C, _, _, rfl, .inr ⟨SqT.of eD, SqT.of eC, fun L hL => ?_⟩⟩
    refine lc_it (walk_zipT (K := K) (a := D) (b := C) (xs := rs.map V.ref) (ys := cs.map V.int) (lrs.trans lcs.symm)) (fun i H4 => H4 L = some (.lst (((nxt ds cs told).take i).map V.int)) ∧ Same H H4) ⟨upd_same, same_new hL⟩ (fun i H4 _ hp => ⟨SqT.of (hp.2 _ _ eD), SqT.of (hp.2 _ _ eC)⟩) (fun i x H4 H5 hi hp hy => ?_) (fun H4 hp => ?_)
    · obtain ⟨eL, sm⟩ := hp
      obtain ⟨U, x1, x2, rfl, hU, rfl, g1, g2⟩ := hy
      have hi2 : i < rs.length := by rwa [List.length_map] at hi
      have hx' : x1 = .ref rs[i] := by
        have g1' : (rs.map V.ref)[i]? = some x1 := g1
        rw [List.getElem?_map, List.getElem?_eq_getElem hi2] at g1'
        exact (Option.some.inj g1').symm
      subst hx'
      obtain ⟨d, hd1, hd2⟩ := awGet hd (List.getElem?_eq_getElem hi2)
      obtain ⟨c, hc, rfl⟩ : ∃ c, cs[i]? = some c ∧ x2 = .int c := by
        have g2' : (cs.map V.int)[i]? = some x2 := g2
        rw [List.getElem?_map] at g2'
        cases e : cs[i]? with
        | none => rw [e] at g2'; cases g2'
        | some c => rw [e] at g2'; exact ⟨c, rfl, (Option.some.inj g2').symm⟩
      have h2 : i < ds.length := by
        rw [← awLen hd]
        exact hi2
      have okd : DeedOk told.length d := okd_more (hok.each i d hd1) (by omega)
      have sU := same_new (o := .tup [.ref rs[i], .int c]) hU
      refine ⟨U, [.ref rs[i], .int c], rfl, .inl (.inl upd_same), rfl, .ref rs[i], [.int c], rfl, .int c, [], rfl, rfl, rfl, ?_⟩
      refine ⟨.ref rs[i], rfl, .int c, rfl, .ref T, rfl, rs[i], T, d, _, c, rfl, sU _ _ (sm _ _ hd2), sU _ _ (sm _ _ eT), okd, _, sU _ _ eL, ?_, ?_, ?_⟩
      · rw [List.length_map, List.length_take, nxt_len hcl.symm]
        exact small1000 (by omega)
      · rw [upd_same, nxt_next hd1 hc, List.map_append]
        rfl
      · intro b u e
        rw [upd_ne (ne_of_none e hL)]
        exact sU b u (sm b u e)
    · obtain ⟨eL, sm⟩ := hp
      rw [lrs, ← nxt_len (t := told) hcl.symm, List.take_length] at eL
      refine ⟨L, _, rfl, .inl ⟨.inl (.inl eL), fun p hp => ?_⟩⟩
      exact q _ p (sm.trans (same_new hp)) (sm.free hp) upd_same
/-- the steps of a carry: for all bits the bit of out and the next carry -/
def stp (m : Nat) (ds : List Deed) (o : Int) (cs : List Int) : List (Int × List Int) := (allB m).map fun bs => ((bts ds cs bs).getD o.toNat 0, nxt ds cs (bts ds cs bs))
theorem stp_len (m : Nat) (ds : List Deed) (o : Int) (cs : List Int) : (stp m ds o cs).length = 2 ^ m := by
  unfold stp
  rw [List.length_map, allB_len]
abbrev StAt (H : Hp) : List Addr → List (Int × List Int) → Prop := Paired fun q e => ∃ c, H q = some (.tup [.int e.1, .ref c]) ∧ H c = some (.tup (e.2.map V.int))
theorem stat_stay {H H' : Hp} (t : TupsStay H H') {ps : List Addr} {l : List (Int × List Int)} (h : StAt H ps l) : StAt H' ps l := awMap (fun q e z => z.elim fun c y => ⟨c, t _ _ y.1, t _ _ y.2⟩) h
def spSt : Sp := fun vs H Q _ => ∃ (R C : Addr) (m : Nat) (o : Int) (ds : List Deed) (cs : List Int), vs = [.ref R, .ref C] ∧ RowAt H R m ds o ∧ RowOk m ds o ∧ H C = some (.tup (cs.map V.int)) ∧ cs.length = ds.length ∧
  ∀ H' p ps, Same H H' → H p = none → H' p = some (.lst (ps.map V.ref)) → StAt H' ps (stp m ds o cs) → Q (.ref p) H'
theorem ok_st {f fA fB fC : Addr} {fd fdA fdB fdC : FuncData} {k : Nat} (F : Fun K "steps" "steps" s_steps f fd)
    (GA : FnOk P w K mg base CX0 (k + 1) fA fdA ["many"] spAll) (kA : PySem.W.keepIn K (.ref fA) = true) (bA : Binds K fdA ["many"] []) (gA : mg "all_bits" = some (.ref fA))
    (GB : FnOk P w K mg base CX0 (k + 2) fB fdB ["row", "carry", "bits"] spBo) (kB : PySem.W.keepIn K (.ref fB) = true) (bB : Binds K fdB ["row", "carry", "bits"] []) (gB : mg "bits_of" = some (.ref fB))
    (GC : FnOk P w K mg base CX0 (k + 3) fC fdC ["row", "carry", "told"] spCb) (kC : PySem.W.keepIn K (.ref fC) = true) (bC : Binds K fdC ["row", "carry", "told"] []) (gC : mg "carry_behind" = some (.ref fC)) : FnOk P w K mg base CX0 (k + 4) f fd ["row", "carry"] spSt := by
  refine F.ok sc_steps (fun vs H Q E h => ?_) (fun cdv A outer s H vs Q E hr h => ?_)
  · obtain ⟨R, C, m, o, ds, cs, rfl, _⟩ := h
    rfl
  · obtain ⟨R, C, m, o, ds, cs, rfl, hrow, hok, eC, hcl, q⟩ := h
    obtain ⟨D, rs, eR, eD, hd⟩ := id hrow
    have r1 := hr.mono (show k + 1 ≤ k + 3 by omega)
    have r2 := hr.mono (show k + 2 ≤ k + 3 by omega)
    refine ⟨_, pss_cons (ps_set (i := 2) sc_steps.nd rfl (.inl rfl) (pe_lst pa_nil))
      (pss_cons (ps_for PassesOwn.never rfl (pi_list (pe_call GA r1 (by rfl) gA kA bA .nil pass0 (pa_cons (pe_ix ix_tup (pv 0) pe_int (fun _ _ => rfl)) pa_nil))) (pg_name (i := 3) sc_steps.nd rfl (.inl rfl))
        (pss_cons (ps_set (i := 4) sc_steps.nd rfl (.inl rfl) (pe_call GB r2 (by rfl) gB kB bB .nil pass0 (pa_cons (pv 0) (pa_cons (pv 1) (pa_cons (pv 3) pa_nil)))))
        (pss_one (ps_expr (pe_bm PySem.F.plainAttrs_list PySem.F.slot_list_append PySem.F.type_list_append mt_append (pv 2) (pa_cons (pe_tup (pa_cons (pe_ix ix_tup (pv 4) (pe_ix ix_tup (pv 0) pe_int (fun _ _ => rfl)) (fun _ _ => rfl)) (pa_cons (pe_call GC hr (by rfl) gC kC bC .nil pass0 (pa_cons (pv 0) (pa_cons (pv 1) (pa_cons (pv 4) pa_nil)))) pa_nil))) pa_nil))))))
      (pss_one (ps_ret (pv 2)))), ?_⟩
    have m1 := hok.m1
    have m3 := hok.m3
    have l8 := hok.len
    refine ⟨Nat.zero_le _, fun L hL => ?_⟩
    have sL := same_new (o := .lst []) hL
    refine ⟨.ref R, rfl, R, _, 0, .int m, rfl, rfl, SqT.of (sL _ _ eR), rfl, m, rfl, by omega, fun H1 B fs s1 nB eB hf => ?_⟩
    have nLB : B ≠ L := fun z => by rw [z, upd_same] at nB; cases nB
    have fl : fs.length = 2 ^ m := by rw [awLen hf, allB_len]
    have f8 : fs.length ≤ 8 := by
      rw [fl]
      exact Nat.le_trans (Nat.pow_le_pow_right (by decide) (show m ≤ 3 by omega)) (by decide)
    have old : ∀ H5 o, Same H H5 → Same H (upd H5 L o) := fun H5 o s5 b u e => by
      rw [upd_ne (ne_of_none e hL)]
      exact s5 b u e
    refine ⟨B, rfl, ⟨_, .inl (.inl eB)⟩, for_list (K := K) (a := B) (xs := fs.map V.ref) (fun i σ H3 => ∃ y3 y4 ps, σ = [some (.ref R), some (.ref C), some (.ref L), y3, y4] ∧ H3 L = some (.lst (ps.map V.ref)) ∧ StAt H3 ps ((stp m ds o cs).take i) ∧ H3 B = some (.lst (fs.map V.ref)) ∧ TAt H3 fs (allB m) ∧ Same H H3)
      ⟨none, none, [], rfl, s1 _ _ upd_same, .nil, eB, hf, sL.trans s1⟩ (fun i σ H3 _ hp => ?_) (fun i x σ H3 hx hp => ?_) (fun σ H3 hp => ?_)⟩
    · obtain ⟨_, _, _, _, _, _, e, _⟩ := hp
      exact .inl (.inl e)
    · obtain ⟨y3, y4, ps, rfl, eL, hs, eB3, hf3, s3⟩ := hp
      have hi : i < fs.length := by
        have := (List.getElem?_eq_some_iff.mp hx).1
        rwa [List.length_map] at this
      have hx' : x = .ref fs[i] := by
        rw [List.getElem?_map, List.getElem?_eq_getElem hi] at hx
        exact (Option.some.inj hx).symm
      subst hx'
      obtain ⟨bs, hb1, hb2⟩ := awGet hf3 (List.getElem?_eq_getElem hi)
      obtain ⟨bl, bb⟩ := allB_ok m bs (List.mem_of_getElem? hb1)
      refine ⟨.ref R, rfl, .ref C, rfl, .ref fs[i], rfl, R, C, fs[i], m, o, ds, cs, bs, rfl, (Same.tups s3).row hrow, hok.deeds, by omega, s3 _ _ eC, hcl, hb2, by rw [bl], by omega, fun H4 T s4 nT eT => ?_⟩
      have tl : (bts ds cs bs).length = m + ds.length := by rw [bts_len hcl.symm, bl]
      have o0 := hok.o0
      have o1 := hok.o1
      refine ⟨.ref L, rfl, .inl ⟨rfl, _, .inl (.inl (s4 _ _ eL))⟩, .ref T, rfl, .ref R, rfl, R, _, 2, .int o, rfl, rfl, SqT.of (s4 _ _ (s3 _ _ eR)), rfl, T, _, o, _, rfl, rfl, SqT.of eT, atI_ints o0 (by omega), ?_⟩
      refine ⟨.ref R, rfl, .ref C, rfl, .ref T, rfl, R, C, T, m, o, ds, cs, _, rfl, (Same.tups (s3.trans s4)).row hrow, hok.deeds, by omega, s4 _ _ (s3 _ _ eC), hcl, eT, by rw [tl]; omega, fun H5 N s5 nN eN => ?_⟩
      refine ⟨by show 2 ≤ sizeLine; decide, fun p hp => ?_⟩
      have sp := same_new (o := .tup [.int ((bts ds cs bs).getD o.toNat 0), .ref N]) hp
      have s46 := (s4.trans s5).trans sp
      have eL6 := s46 _ _ eL
      have e1 : (stp m ds o cs)[i]? = some ((bts ds cs bs).getD o.toNat 0, nxt ds cs (bts ds cs bs)) := by
        unfold stp
        rw [List.getElem?_map, hb1]
        rfl
      have pl := awLen hs
      rw [List.length_take] at pl
      have tp := tups_put (o := .lst (ps.map V.ref ++ [V.ref p])) eL6
      refine ⟨L, _, _, rfl, rfl, eL6, ?_, some (.ref fs[i]), some (.ref T), ps ++ [p], rfl, ?_, ?_, ?_, ?_, ?_⟩
      · rw [List.length_map]
        exact small1000 (by omega)
      · rw [upd_same, List.map_append]
        rfl
      · rw [List.take_add_one, e1]
        exact stat_stay tp (awSnoc (F := fun (q : Addr) (e : Int × List Int) => ∃ c, (upd H5 p (.tup [.int ((bts ds cs bs).getD o.toNat 0), .ref N])) q = some (.tup [.int e.1, .ref c]) ∧ (upd H5 p (.tup [.int ((bts ds cs bs).getD o.toNat 0), .ref N])) c = some (.tup (e.2.map V.int))) ⟨N, upd_same, sp _ _ eN⟩ (stat_stay (Same.tups s46) hs))
      · rw [upd_ne nLB]
        exact s46 _ _ eB3
      · exact tat_stay tp (tat_stay (Same.tups s46) hf3)
      · exact old _ _ (s3.trans s46)
    · obtain ⟨y3, y4, ps, rfl, eL, hs, eB3, hf3, s3⟩ := hp
      rw [List.length_map, fl, ← stp_len m ds o cs, List.take_length] at hs
      exact ⟨.ref L, rfl, q _ L ps s3 hL eL hs⟩
/-! ### dicts by lists of ints -/
abbrev kI (c : List Int) : List Key := c.map Sum.inl
theorem kI_V (c : List Int) : (kI c).map kV = c.map V.int := by
  rw [List.map_map]
  rfl
theorem ints_inj : ∀ {a b : List Int}, a.map V.int = b.map V.int → a = b
  | [], [], _ => rfl
  | [], _ :: _, h => nomatch h
  | _ :: _, [], h => nomatch h
  | x :: a, y :: b, h => by
    rw [List.map_cons, List.map_cons, List.cons.injEq] at h
    rw [V.int.inj h.1, ints_inj h.2]
theorem kI_inj {a b : List Int} (h : kI a = kI b) : a = b := by
  have e := congrArg (List.map kV) h
  rw [kI_V, kI_V] at e
  exact ints_inj e
section tab
variable {α : Type}
def emb (f : α → V) (es : List (List Int × α)) : List (List Key × V) := es.map fun e => (kI e.1, f e.2)
def getA (es : List (List Int × α)) (c : List Int) : Option α := (es.find? fun e => decide (e.1 = c)).map (·.2)
def putA (es : List (List Int × α)) (c : List Int) (v : α) : List (List Int × α) := if c ∈ es.map (·.1) then es.map (fun e => if e.1 = c then (e.1, v) else e) else es ++ [(c, v)]
theorem emb_get (f : α → V) (c : List Int) : ∀ es : List (List Int × α), valV (emb f es) (kI c) = (getA es c).map f
  | [] => rfl
  | e :: es => by
    have ih := emb_get f c es
    unfold emb getA at *
    rw [List.map_cons, List.find?_cons]
    by_cases h : e.1 = c
    · rw [valV_pos (show (kI e.1, f e.2).1 = kI c by rw [h]), decide_eq_true h]
      rfl
    · rw [valV_neg (fun z => h (kI_inj z)), decide_eq_false h]
      exact ih
theorem getA_none {c : List Int} : ∀ {es : List (List Int × α)}, getA es c = none ↔ c ∉ es.map (·.1)
  | [] => by simp [getA]
  | e :: es => by
    have ih := getA_none (c := c) (es := es)
    unfold getA at *
    rw [List.find?_cons, List.map_cons, List.mem_cons, not_or]
    by_cases h : e.1 = c
    · simp [h]
    · rw [decide_eq_false h]
      exact ⟨fun z => ⟨fun y => h y.symm, ih.mp z⟩, fun z => ih.mpr z.2⟩
theorem getA_some {c : List Int} {v : α} {es : List (List Int × α)} (h : getA es c = some v) : (c, v) ∈ es := by
  unfold getA at h
  cases e : es.find? fun e => decide (e.1 = c) with
  | none => rw [e] at h; cases h
  | some p =>
    rw [e] at h
    have h1 := List.mem_of_find?_eq_some e
    have h2 : p.1 = c := of_decide_eq_true (List.find?_some (p := fun e : List Int × α => decide (e.1 = c)) e)
    obtain rfl : p.2 = v := Option.some.inj h
    rw [← h2]
    exact h1
theorem getA_of {c : List Int} {v : α} : ∀ {es : List (List Int × α)}, (es.map (·.1)).Nodup → (c, v) ∈ es → getA es c = some v
  | [], _, h => nomatch h
  | e :: es, nd, h => by
    rw [List.map_cons, List.nodup_cons] at nd
    unfold getA
    rw [List.find?_cons]
    rcases List.mem_cons.mp h with h | h
    · rw [← h]
      simp
    · have hne : ¬ e.1 = c := fun z => nd.1 (z ▸ List.mem_map.mpr ⟨_, h, rfl⟩)
      rw [decide_eq_false hne]
      exact getA_of nd.2 h
theorem emb_put (f : α → V) (es : List (List Int × α)) (c : List Int) (v : α) : putK (emb f es) (kI c) (f v) = emb f (putA es c v) := by
  unfold putK putA
  by_cases h : c ∈ es.map (·.1)
  · rw [if_pos h, if_pos]
    · unfold emb
      rw [List.map_map, List.map_map]
      apply List.map_congr_left
      intro e _
      show (if kI e.1 = kI c then (kI e.1, f v) else (kI e.1, f e.2)) = _
      by_cases he : e.1 = c
      · rw [if_pos (congrArg kI he)]
        simp [he]
      · rw [if_neg (fun z => he (kI_inj z))]
        simp [he]
    · rw [List.any_eq_true]
      obtain ⟨e, h1, h2⟩ := List.mem_map.mp h
      exact ⟨(kI e.1, f e.2), List.mem_map.mpr ⟨e, h1, rfl⟩, by simp [h2]⟩
  · rw [if_neg h, if_neg]
    · unfold emb
      rw [List.map_append]
      rfl
    · intro z
      rw [List.any_eq_true] at z
      obtain ⟨p, h1, h2⟩ := z
      obtain ⟨e, h3, rfl⟩ := List.mem_map.mp h1
      exact h (List.mem_map.mpr ⟨e, h3, kI_inj (of_decide_eq_true h2)⟩)
theorem putA_keys {es : List (List Int × α)} {c : List Int} {v : α} : (putA es c v).map (·.1) = if c ∈ es.map (·.1) then es.map (·.1) else es.map (·.1) ++ [c] := by
  unfold putA
  split
  · rw [List.map_map]
    apply List.map_congr_left
    intro e _
    show (if e.1 = c then (e.1, v) else e).1 = e.1
    split <;> rfl
  · rw [List.map_append]
    rfl
theorem putA_nodup {es : List (List Int × α)} {c : List Int} {v : α} (h : (es.map (·.1)).Nodup) : ((putA es c v).map (·.1)).Nodup := by
  rw [putA_keys]
  split
  · exact h
  · rename_i hn
    rw [List.nodup_append]
    refine ⟨h, by simp, fun a ha b hb => ?_⟩
    rw [List.mem_singleton.mp hb]
    exact fun z => hn (z ▸ ha)
theorem mem_putA {es : List (List Int × α)} {c : List Int} {v : α} {e : List Int × α} : e ∈ putA es c v ↔ e = (c, v) ∨ (e ∈ es ∧ e.1 ≠ c) := by
  unfold putA
  by_cases h : c ∈ es.map (·.1)
  · rw [if_pos h, List.mem_map]
    constructor
    · rintro ⟨a, h1, rfl⟩
      by_cases ha : a.1 = c
      · rw [if_pos ha, ha]
        exact .inl rfl
      · rw [if_neg ha]
        exact .inr ⟨h1, ha⟩
    · rintro (rfl | ⟨h1, h2⟩)
      · obtain ⟨a, h1, h2⟩ := List.mem_map.mp h
        exact ⟨a, h1, by rw [if_pos h2, h2]⟩
      · exact ⟨e, h1, if_neg h2⟩
  · rw [if_neg h, List.mem_append, List.mem_singleton]
    constructor
    · rintro (h1 | h1)
      · exact .inr ⟨h1, fun z => h (z ▸ List.mem_map.mpr ⟨e, h1, rfl⟩)⟩
      · exact .inl h1
    · rintro (h1 | h1)
      · exact .inr h1
      · exact .inl h1.1
end tab
/-- few: all keys are bits, as many as there are deeds -/
theorem few_keys {α : Type} {n : Nat} {es : List (List Int × α)} (nd : (es.map (·.1)).Nodup) (hb : ∀ e ∈ es, e.1.length = n ∧ ∀ x ∈ e.1, Bit x) (hn : n ≤ 8) : es.length ≤ 256 := by
  have h := pigeon (es.map (·.1)) (allB n) nd fun c hc => by
    obtain ⟨e, he, rfl⟩ := List.mem_map.mp hc
    exact allB_all n _ (hb e he).1 (hb e he).2
  rw [List.length_map, allB_len] at h
  exact Nat.le_trans h (Nat.le_trans (Nat.pow_le_pow_right (by decide) hn) (by decide))
/-! ### kept_steps -/
/-- the kept steps of some carries -/
structure Kept (H : Hp) (m : Nat) (ds : List Deed) (o : Int) (es : List (List Int × Addr)) : Prop where
  nd : (es.map (·.1)).Nodup
  bits : ∀ e ∈ es, e.1.length = ds.length ∧ ∀ x ∈ e.1, Bit x
  each : ∀ e ∈ es, ∃ ps, H e.2 = some (.lst (ps.map V.ref)) ∧ StAt H ps (stp m ds o e.1)
def spKs : Sp := fun vs H Q _ => ∃ (D R C : Addr) (m : Nat) (o : Int) (ds : List Deed) (cs : List Int) (es : List (List Int × Addr)), vs = [.ref D, .ref R, .ref C] ∧ H D = some (.dT (emb V.ref es)) ∧ Kept H m ds o es ∧ RowAt H R m ds o ∧ RowOk m ds o ∧ H C = some (.tup (cs.map V.int)) ∧ cs.length = ds.length ∧ (∀ x ∈ cs, Bit x) ∧
  ∀ H' p ps es', But D H H' → H' D = some (.dT (emb V.ref es')) → Kept H' m ds o es' → (∀ e ∈ es, e ∈ es') → (∀ e ∈ es', e ∈ es ∨ H e.2 = none) → (cs, p) ∈ es' → H' p = some (.lst (ps.map V.ref)) → StAt H' ps (stp m ds o cs) → Q (.ref p) H'
theorem ok_ks {f fS : Addr} {fd fdS : FuncData} {k : Nat} (F : Fun K "kept_steps" "kept_steps" s_kept_steps f fd)
    (GS : FnOk P w K mg base CX0 (k + 4) fS fdS ["row", "carry"] spSt) (kS : PySem.W.keepIn K (.ref fS) = true) (bS : Binds K fdS ["row", "carry"] []) (gS : mg "steps" = some (.ref fS)) : FnOk P w K mg base CX0 (k + 5) f fd ["kept", "row", "carry"] spKs := by
  refine F.ok sc_kept_steps (fun vs H Q E h => ?_) (fun cdv A outer s H vs Q E hr h => ?_)
  · obtain ⟨D, R, C, m, o, ds, cs, es, rfl, _⟩ := h
    rfl
  · obtain ⟨D, R, C, m, o, ds, cs, es, rfl, eD, kp, hrow, hok, eC, hcl, hcb, q⟩ := h
    have hu := hu_of hr
    refine ⟨_, pss_mid (ps_if (pt_cmp (pc_dnotin hu (pv 2) (pv 0))) (pss_one (ps_dput hu (pv 0) (pv 2) (pe_call GS hr (by rfl) gS kS bS .nil pass0 (pa_cons (pv 1) (pa_cons (pv 2) pa_nil))) rfl)) pss_nil)
      (pss_one (ps_ret (pe_dget hu (pv 0) (pv 2) (fun _ _ => rfl)))), ?_⟩
    have key : ∀ {H' : Hp}, H' C = some (.tup (cs.map V.int)) → H' C = some (.tup ((kI cs).map kV)) := fun e => by rw [kI_V]; exact e
    have l8 := hok.len
    refine ⟨fun σ2 H2 => ∃ es', σ2 = [some (.ref D), some (.ref R), some (.ref C)] ∧ But D H H2 ∧ H2 C = some (.tup (cs.map V.int)) ∧ H2 D = some (.dT (emb V.ref es')) ∧ Kept H2 m ds o es' ∧ (∀ e ∈ es, e ∈ es') ∧ (∀ e ∈ es', e ∈ es ∨ H e.2 = none) ∧ ∃ p, (cs, p) ∈ es', ?_, ?_⟩
    · refine ⟨.ref C, rfl, .ref D, rfl, D, _, rfl, DGet.t eD (key eC), _, rfl, ?_⟩
      rw [emb_get]
      cases eg : getA es cs with
      | some p =>
        exact ⟨es, rfl, But.refl D H, eC, eD, kp, fun e h => h, fun e h => .inl h, p, getA_some eg⟩
      | none =>
        refine ⟨.ref R, rfl, .ref C, rfl, R, C, m, o, ds, cs, rfl, hrow, hok, eC, hcl, fun H1 p ps s1 np ep hs => ?_⟩
        have eD1 := s1 _ _ eD
        have npD : p ≠ D := fun z => by rw [z, eD] at np; cases np
        refine ⟨.ref D, rfl, .ref C, rfl, D, _, rfl, DPut.t eD1 (key (s1 _ _ eC)) ?_, putA es cs p, rfl, ?_, ?_, ?_, ?_, ?_, ?_, ?_⟩
        · unfold emb
          rw [List.length_map]
          have := few_keys kp.nd kp.bits l8
          exact small1000 (by omega)
        · intro b u nb e
          rw [upd_ne nb]
          exact s1 b u e
        · rw [upd_ne (ne_of eC eD (fun z => nomatch z))]
          exact s1 _ _ eC
        · rw [upd_same, emb_put]
        · have ts : TupsStay H1 (upd H1 D (.dT (putK (emb V.ref es) (kI cs) (.ref p)))) := fun b xs e => by
            rw [upd_ne (ne_of e eD1 (fun z => nomatch z))]
            exact e
          refine ⟨putA_nodup kp.nd, fun e he => ?_, fun e he => ?_⟩
          · rcases mem_putA.mp he with rfl | ⟨h1, _⟩
            · exact ⟨hcl, hcb⟩
            · exact kp.bits e h1
          · rcases mem_putA.mp he with rfl | ⟨h1, _⟩
            · refine ⟨ps, ?_, stat_stay ts hs⟩
              rw [upd_ne npD]
              exact ep
            · obtain ⟨ps2, h2, h3⟩ := kp.each e h1
              refine ⟨ps2, ?_, stat_stay ts (stat_stay (Same.tups s1) h3)⟩
              rw [upd_ne (ne_of (s1 _ _ h2) eD1 (fun z => nomatch z))]
              exact s1 _ _ h2
        · intro e he
          refine mem_putA.mpr (.inr ⟨he, fun z => ?_⟩)
          exact getA_none.mp eg (List.mem_map.mpr ⟨e, he, z⟩)
        · intro e he
          rcases mem_putA.mp he with rfl | ⟨h1, _⟩
          · exact .inr np
          · exact .inl h1
        · exact ⟨p, mem_putA.mpr (.inl rfl)⟩
    · rintro σ2 H2 ⟨es', rfl, b2, eC2, eD2, kp2, hsub, hnew, p, hp⟩
      obtain ⟨ps, e1, e2⟩ := kp2.each _ hp
      refine ⟨.ref D, rfl, .ref C, rfl, D, .ref p, rfl, ?_, q H2 p ps es' b2 eD2 kp2 hsub hnew hp e1 e2⟩
      have g := DGet.t eD2 (key eC2)
      rw [emb_get, getA_of kp2.nd hp] at g
      exact g
/-! ### carries as keys -/
def kC (c : List Int) : NestedKey := .tup (c.map .num)
theorem nums_inj : ∀ {a b : List Int}, a.map NestedKey.num = b.map NestedKey.num → a = b
  | [], [], _ => rfl
  | [], _ :: _, h => nomatch h
  | _ :: _, [], h => nomatch h
  | x :: a, y :: b, h => by
    rw [List.map_cons, List.map_cons, List.cons.injEq] at h
    rw [NestedKey.num.inj h.1, nums_inj h.2]
theorem kC_inj {a b : List Int} (h : kC a = kC b) : a = b := nums_inj (NestedKey.tup.inj h)
theorem nums_depth : ∀ c : List Int, NestedKey.depthAll (c.map .num) = 0
  | [] => by simp [NestedKey.depthAll]
  | x :: c => by simp [NestedKey.depthAll, NestedKey.depth, nums_depth c]
theorem kC_depth (c : List Int) : (kC c).depth ≤ 8 := by
  unfold kC
  simp [NestedKey.depth, nums_depth c]
theorem nks_ints (H : Hp) : ∀ c : List Int, NkAll H (c.map .num) (c.map V.int)
  | [] => .nil
  | x :: c => .cons (.num x) (nks_ints H c)
theorem nks_eq {H : Hp} : ∀ {c : List Int} {xs : List V}, NkAll H (c.map .num) xs → xs = c.map V.int
  | [], _, h => by
    cases h
    rfl
  | x :: c, _, h => by
    cases h with
    | cons h1 h2 =>
      cases h1
      rw [nks_eq h2]
      rfl
theorem keyC {H : Hp} {b : Addr} {c : List Int} (h : H b = some (.tup (c.map V.int))) : KeyN H (.ref b) (kC c) := ⟨.tup h (nks_ints H c), kC_depth c, b, rfl⟩
/-! ### rows, as numbers -/
structure Rw where
  m : Int
  ds : List Deed
  o : Int
abbrev RwAt (H : Hp) (a : Addr) (r : Rw) : Prop := RowAt H a r.m r.ds r.o
abbrev RwsAt (H : Hp) : List Addr → List Rw → Prop := Paired (RwAt H)
abbrev RwOk (r : Rw) : Prop := RowOk r.m r.ds r.o
theorem stayRws {H H' : Hp} (t : TupsStay H H') {as : List Addr} {rws : List Rw} (h : RwsAt H as rws) : RwsAt H' as rws := awMap (fun _ _ e => t.row e) h
theorem awAt0 {as : List Addr} {a : Addr} {l : List Addr} (h : as = a :: l) : atI (as.map V.ref) 0 = some (.ref a) := by
  subst h
  exact atI_nat (j := 0) rfl
theorem row0 {m o : Int} {D : Addr} : atI [V.int m, .ref D, .int o] 0 = some (.int m) := atI_nat (j := 0) rfl
def rLen (K : PySem.W.Frag) : List V → Hp → VK → Prop := fun xs H Q => ∃ p ys, xs = [.ref p] ∧ (SqL K H p ys ∨ SqT K H p ys) ∧ Q (.int ys.length) H
/-! ### refusals raised -/
theorem app_len (x y : Str) : (x ++ y).length = x.length + y.length := by
  rw [TL.len_tl, TL.tl_append, List.length_append, ← TL.len_tl, ← TL.len_tl]
theorem js_len {acc y : Str} {a b : Nat} (h1 : acc.length ≤ a) (h2 : y.length ≤ b) (h : a + b ≤ 1000) : (acc ++ y).length ≤ sizeLine ∧ (acc ++ y).length ≤ a + b := by
  rw [app_len, sizeLine_eq]
  omega
theorem iX_len {i : Int} (h : i.natAbs < 10 ^ 3) : (Str.ofString (toString i)).length ≤ 4 := by
  rw [PySem.ofString_length]
  exact int_text_length_le10 (k := 3) (by decide) h
theorem log_small {i : Int} (h : i.natAbs < 1000) : i.natAbs.log2 < 1920 := by
  by_cases e : i.natAbs = 0
  · rw [e]; decide
  · have := (Nat.log2_lt (k := 10) e).mpr (Nat.lt_trans h (by decide))
    omega
theorem neT {x y : Int} (h : (!decide (V.int x = V.int y)) = true) : ¬ x = y := fun e => by
  rw [decide_eq_true (congrArg V.int e)] at h
  cases h
theorem neF {x y : Int} (h : ¬ (!decide (V.int x = V.int y)) = true) : x = y := by
  by_cases e : x = y
  · exact e
  · exfalso
    apply h
    rw [decide_eq_false (fun z => e (V.int.inj z))]
    rfl
/-- a class of the program whose instances are raised -/
structure Rai (K : PySem.W.Frag) (mg : Str → Option Value) (x : Str) (C : Addr) : Prop where
  q : PySem.W.excIn K C [.type "ValueError", .type "Exception", .type "BaseException", .type "object"] "ValueError.__new__" = true
  g : mg x = some (.ref C)
  k : PySem.W.keepIn K (.ref C) = true
  s : PySem.W.subIn K (.ref C) (.type "BaseException") = some true
  t : PySem.W.typeIn K (.ref C) = some (.type "type")
/-! ### all words -/
def ob (ds : List Deed) (o : Int) (c bs : List Int) : Int := (bts ds c bs).getD o.toNat 0
def nc (ds : List Deed) (c bs : List Int) : List Int := nxt ds c (bts ds c bs)
def wsum (t : Nat) : Nat → (List Int → Nat) → Nat
  | 0, f => f []
  | m + 1, f => ((List.range t).map fun (x : Nat) => wsum t m fun r => f ((x : Int) :: r)).sum
def comb (bs ys : List Int) : List Int := List.zipWith (fun b y => b + 2 * y) bs ys
theorem wsum_congr {t : Nat} : ∀ {m : Nat} {f g : List Int → Nat}, (∀ xs, xs.length = m → (∀ x ∈ xs, 0 ≤ x ∧ x < (t : Int)) → f xs = g xs) → wsum t m f = wsum t m g
  | 0, f, g, h => h [] rfl (fun _ z => nomatch z)
  | m + 1, f, g, h => by
    unfold wsum
    congr 1
    refine List.map_congr_left fun x hx => wsum_congr fun xs hl hb => h _ (by rw [List.length_cons, hl]) fun y hy => ?_
    rcases List.mem_cons.mp hy with rfl | hy
    · have := List.mem_range.mp hx
      omega
    · exact hb y hy
theorem sum_add {α : Type} (f g : α → Nat) : ∀ l : List α, (l.map fun x => f x + g x).sum = (l.map f).sum + (l.map g).sum
  | [] => rfl
  | x :: l => by
    rw [List.map_cons, List.map_cons, List.map_cons, List.sum_cons, List.sum_cons, List.sum_cons, sum_add f g l]
    omega
theorem sum_swap {α β : Type} (f : α → β → Nat) : ∀ (l : List α) (k : List β), (l.map fun x => (k.map fun y => f x y).sum).sum = (k.map fun y => (l.map fun x => f x y).sum).sum
  | [], k => by
    rw [List.map_nil, List.sum_nil]
    induction k with
    | nil => rfl
    | cons y k ih => rw [List.map_cons, List.sum_cons, ← ih]; rfl
  | x :: l, k => by
    rw [List.map_cons, List.sum_cons, sum_swap f l k, ← sum_add]
    rfl
theorem wsum_sum {α : Type} (t : Nat) (L : List α) : ∀ (m : Nat) (f : α → List Int → Nat), wsum t m (fun xs => (L.map fun a => f a xs).sum) = (L.map fun a => wsum t m (f a)).sum
  | 0, _ => rfl
  | m + 1, f => by
    show ((List.range t).map fun (x : Nat) => wsum t m fun r => (L.map fun a => f a ((x : Int) :: r)).sum).sum = _
    have : (fun (x : Nat) => wsum t m fun r => (L.map fun a => f a ((x : Int) :: r)).sum) = fun (x : Nat) => (L.map fun a => wsum t m fun r => f a ((x : Int) :: r)).sum := funext fun x => wsum_sum t L m fun a r => f a ((x : Int) :: r)
    rw [this, sum_swap]
    rfl
theorem range_two (g : Nat → Nat) : ∀ t : Nat, ((List.range (2 * t)).map g).sum = ((List.range t).map fun y => g (2 * y) + g (2 * y + 1)).sum
  | 0 => rfl
  | t + 1 => by
    have e : 2 * (t + 1) = 2 * t + 1 + 1 := by omega
    rw [e, List.range_succ, List.range_succ, List.range_succ, List.map_append, List.map_append, List.map_append, List.sum_append, List.sum_append, List.sum_append, range_two g t]
    simp
    omega
theorem ext2_sum (g : List Int → Nat) : ∀ l : List (List Int), ((ext2 l).map g).sum = (l.map fun b => g (b ++ [0]) + g (b ++ [1])).sum
  | [] => rfl
  | b :: l => by
    show ((([b ++ [0], b ++ [1]] : List (List Int)) ++ ext2 l).map g).sum = _
    rw [List.map_append, List.sum_append, ext2_sum g l, List.map_cons, List.sum_cons]
    simp
theorem allB_front : ∀ (m : Nat) (g : List Int → Nat), ((allB (m + 1)).map g).sum = ((allB m).map fun bs => g (0 :: bs) + g (1 :: bs)).sum
  | 0, g => by
    show ((ext2 [[]]).map g).sum = _
    rw [ext2_sum]
    rfl
  | m + 1, g => by
    have e : allB (m + 1 + 1) = ext2 (allB (m + 1)) := rfl
    rw [e, ext2_sum, allB_front m, show allB (m + 1) = ext2 (allB m) from rfl, ext2_sum]
    congr 1
    refine List.map_congr_left fun bs _ => ?_
    show g (0 :: (bs ++ [0])) + g (0 :: (bs ++ [1])) + (g (1 :: (bs ++ [0])) + g (1 :: (bs ++ [1]))) = g (0 :: (bs ++ [0])) + g (1 :: (bs ++ [0])) + (g (0 :: (bs ++ [1])) + g (1 :: (bs ++ [1])))
    omega
theorem wsum_two (t : Nat) : ∀ (m : Nat) (f : List Int → Nat), wsum (2 * t) m f = ((allB m).map fun bs => wsum t m fun ys => f (comb bs ys)).sum
  | 0, f => by
    show f [] = ([[]].map fun bs => wsum t 0 fun ys => f (comb bs ys)).sum
    simp [wsum, comb]
  | m + 1, f => by
    rw [allB_front]
    show ((List.range (2 * t)).map fun (x : Nat) => wsum (2 * t) m fun r => f ((x : Int) :: r)).sum = _
    rw [range_two]
    have e1 : ∀ x : Nat, wsum (2 * t) m (fun r => f ((x : Int) :: r)) = ((allB m).map fun bs => wsum t m fun ys => f ((x : Int) :: comb bs ys)).sum := fun x => wsum_two t m fun r => f ((x : Int) :: r)
    have e2 : (fun (y : Nat) => wsum (2 * t) m (fun r => f (((2 * y : Nat) : Int) :: r)) + wsum (2 * t) m (fun r => f (((2 * y + 1 : Nat) : Int) :: r))) = fun (y : Nat) => ((allB m).map fun bs => (wsum t m fun ys => f (((2 * y : Nat) : Int) :: comb bs ys)) + wsum t m fun ys => f (((2 * y + 1 : Nat) : Int) :: comb bs ys)).sum := funext fun y => by
      rw [e1, e1, ← sum_add]
    rw [e2, sum_swap]
    congr 1
    refine List.map_congr_left fun bs _ => ?_
    show _ = ((List.range t).map fun (y : Nat) => wsum t m fun r => f (comb (0 :: bs) ((y : Int) :: r))).sum + ((List.range t).map fun (y : Nat) => wsum t m fun r => f (comb (1 :: bs) ((y : Int) :: r))).sum
    rw [← sum_add]
    congr 1
    refine List.map_congr_left fun y _ => ?_
    have a0 : ((2 * y : Nat) : Int) = 0 + 2 * (y : Int) := by omega
    have a1 : ((2 * y + 1 : Nat) : Int) = 1 + 2 * (y : Int) := by omega
    rw [a0, a1]
    rfl
theorem wsum_one : ∀ m : Nat, wsum 1 m (fun _ => 1) = 1
  | 0 => rfl
  | m + 1 => by
    show ((List.range 1).map fun (_ : Nat) => wsum 1 m fun _ => 1).sum = 1
    rw [wsum_one m]
    rfl
theorem wsum_zero (t : Nat) : ∀ m : Nat, wsum t m (fun _ => 0) = 0
  | 0 => rfl
  | m + 1 => by
    show ((List.range t).map fun (_ : Nat) => wsum t m fun _ => 0).sum = 0
    rw [wsum_zero t m, List.map_const', List.sum_replicate_nat, Nat.mul_zero]
theorem comb_mod : ∀ {bs ys : List Int}, bs.length = ys.length → (∀ x ∈ bs, Bit x) → (comb bs ys).map (· % 2) = bs ∧ (comb bs ys).map (· / 2) = ys
  | [], [], _, _ => ⟨rfl, rfl⟩
  | [], _ :: _, h, _ => by simp at h
  | _ :: _, [], h, _ => by simp at h
  | b :: bs, y :: ys, h, hb => by
    obtain ⟨h1, h2⟩ := comb_mod (bs := bs) (ys := ys) (by simpa using h) fun x hx => hb x (List.mem_cons_of_mem _ hx)
    have hbb := hb b List.mem_cons_self
    have e1 : (b + 2 * y) % 2 = b := by rcases hbb with rfl | rfl <;> omega
    have e2 : (b + 2 * y) / 2 = y := by rcases hbb with rfl | rfl <;> omega
    refine ⟨?_, ?_⟩
    · show (b + 2 * y) % 2 :: (comb bs ys).map (· % 2) = _
      rw [h1, e1]
    · show (b + 2 * y) / 2 :: (comb bs ys).map (· / 2) = _
      rw [h2, e2]
theorem bits_eq {v u : Int} : ∀ (w : Nat), (∀ s, s < w → bitA s v = bitA s u) → v % 2 ^ w = u % 2 ^ w
  | 0, _ => by
    rw [Int.pow_zero, Int.emod_one, Int.emod_one]
  | w + 1, h => by
    have ih := bits_eq w fun s hs => h s (by omega)
    have hb := h w (by omega)
    have e1 := low_next v (pw_pos w)
    have e2 := low_next u (pw_pos w)
    rw [Int.mul_comm 2, ← Int.pow_succ] at e1 e2
    unfold bitA at hb
    rw [e1, e2, ih, hb]
/-! ### xs[::-1] -/
section revs
variable {X : Cx} {e st : Expr} {te ts : TE} {pos p2 : Pos}
theorem range_get {α : Type} : ∀ l : List α, (List.range l.length).filterMap (l[·]?) = l
  | [] => rfl
  | x :: l => by
    rw [List.length_cons, List.range_succ_eq_map, List.filterMap_cons]
    show x :: ((List.range l.length).map Nat.succ).filterMap _ = _
    rw [List.filterMap_map]
    congr 1
    exact range_get l
theorem fm_congr {α β : Type} {f g : α → Option β} : ∀ l : List α, (∀ x ∈ l, f x = g x) → l.filterMap f = l.filterMap g
  | [], _ => rfl
  | x :: l, h => by
    rw [List.filterMap_cons, List.filterMap_cons, h x List.mem_cons_self, fm_congr l fun y hy => h y (List.mem_cons_of_mem _ hy)]
theorem slicePick_rev (its : List Value) : slicePick its.toArray none none (some (-1)) = its.reverse.toArray := by
  unfold slicePick
  congr 1
  have hb : sliceBounds none none (some (-1)) its.toArray.size = ((its.length : Int) - 1, -1, -1) := by
    simp [sliceBounds]
  rw [hb]
  unfold sliceRange
  have hc : (if (-1 : Int) > 0 then (if ((its.length : Int) - 1) < -1 then (-1 - ((its.length : Int) - 1) + -1 - 1) / -1 else 0) else (if ((its.length : Int) - 1) > -1 then (((its.length : Int) - 1) - -1 - -1 - 1) / (- -1) else 0)) = (its.length : Int) := by
    rw [if_neg (by decide)]
    by_cases h : ((its.length : Int) - 1) > -1
    · rw [if_pos h, show (- -1 : Int) = 1 by decide, Int.ediv_one]
      omega
    · rw [if_neg h]
      omega
  show ((List.range (if (-1 : Int) > 0 then (if ((its.length : Int) - 1) < -1 then (-1 - ((its.length : Int) - 1) + -1 - 1) / -1 else 0) else (if ((its.length : Int) - 1) > -1 then (((its.length : Int) - 1) - -1 - -1 - 1) / (- -1) else 0)).toNat).map fun (k : Nat) => ((its.length : Int) - 1 + -1 * (k : Int)).toNat).filterMap (its.toArray[·]?) = its.reverse
  rw [hc, Int.toNat_natCast, List.filterMap_map]
  have e := range_get its.reverse
  rw [List.length_reverse] at e
  refine Eq.trans (fm_congr _ fun k hk => ?_) e
  have hk' := List.mem_range.mp hk
  show its.toArray[((its.length : Int) - 1 + -1 * (k : Int)).toNat]? = its.reverse[k]?
  rw [List.getElem?_toArray, List.getElem?_reverse hk']
  congr 1
  omega
def tRev (K : PySem.W.Frag) (te ts : TE) : TE := fun σ H Q => te σ H fun x H1 => ts σ H1 fun y H2 => ∃ a xs, y = .int (-1) ∧ x = .ref a ∧ SqL K H2 a xs ∧ ∀ p, H2 p = none → Q (.ref p) (upd H2 p (.lst xs.reverse))
theorem pe_rev (he : PE X e te) (hs : PE X st ts) : PE X (.Subscript e (.Slice none none (some st) p2) pos) (tRev X.K te ts) := by
  refine ⟨fun pins s σ H Q I h => ?_⟩
  refine Subscript_ (thn (he.run pins s σ H _ I h) ?_)
  rintro v s1 ⟨x, H1, I1, r1, q1⟩
  apply wpAny_Slice
  rw [evalPart_none]
  refine wpAny_pure ?_
  refine wpAny_pure ?_
  rw [evalPart_some]
  refine thn (hs.run pins s1 σ H1 _ I1 q1) ?_
  rintro vs s3 ⟨y, H3, I3, ry, a, xs, rfl, rfl, hx, q3⟩
  obtain ⟨tk, rfl⟩ := ry
  cases r1
  have I4 : Inv X pins σ H3 { s3 with heap := s3.heap.push { cls := .type "slice", data := .fields #[.none, .none, .int (-1) tk] } } := I3.kept (t' := s3.toks) fun b ob q => Heap.get?_push_of_some _ q
  obtain ⟨its, r, ht, hz⟩ := I4.list hx
  have hlen := r.length
  show wpAny (model X.prog X.w) X.A (subscriptTail e (.Slice none none (some st) p2) (.ref a) (.ref s3.heap.objs.size)) (EP X pins σ Q) X.xe { s3 with heap := s3.heap.push { cls := .type "slice", data := .fields #[.none, .none, .int (-1) tk] } }
  refine tail_any (ops := [.ref a, .ref s3.heap.objs.size]) ht.isList.typeIs slot_list_getitem.lookup ?_ (by with_unfolding_all rfl)
  refine wpAny_getItem_list_slice ht.isList (Heap.IsSliceOf.new ..) .none .none (.int (-1) tk) (by decide) ?_ (by rw [List.size_toArray] <;> omega)
  rw [slicePick_rev]
  refine ⟨.ref _, _, I4.laid (t' := s3.toks) (o := .lst xs.reverse) (fun b ob q => Heap.get?_push_of_some _ q) (Nat.le_refl _) ?_, rfl, q3 _ ?_⟩
  · exact ⟨by rw [List.length_reverse]; exact hz, _, 0, r.reverse, Heap.get?_push_size _ rfl⟩
  · exact I4.hok.fresh (Nat.le_refl _)
end revs
/-! ### Walk.bits_to -/
abbrev sWalk_bits_to : Stmt := inClass c_Walk 2
theorem scWb : FnScope ["self", "number", "told", "bits"] ["self", "number"] (defScope sWalk_bits_to) := ⟨rfl, rfl, rfl, by decide +kernel, rfl, by decide +kernel, by decide +kernel⟩
/-- the bits on the way to a number: each way's own ahead is less -/
def pth (wy : List (Int × List Int)) : Nat → Nat → List (List Int)
  | 0, _ => []
  | f + 1, i => if i = 0 then [] else match wy[i]? with | some e => pth wy f e.1.toNat ++ [e.2] | none => []
def WayOk (wy : List (Int × List Int)) : Prop := ∀ (j : Nat) e, wy[j]? = some e → 0 < j → 0 ≤ e.1 ∧ e.1 < (j : Int)
theorem pth_fuel {wy : List (Int × List Int)} (h : WayOk wy) : ∀ (f g i : Nat), i ≤ f → i ≤ g → pth wy f i = pth wy g i
  | 0, 0, _, _, _ => rfl
  | 0, g + 1, i, h1, _ => by
    obtain rfl : i = 0 := by omega
    show [] = if (0 : Nat) = 0 then [] else _
    rw [if_pos rfl]
  | f + 1, 0, i, _, h1 => by
    obtain rfl : i = 0 := by omega
    show (if (0 : Nat) = 0 then [] else _) = []
    rw [if_pos rfl]
  | f + 1, g + 1, i, h1, h2 => by
    show (if i = 0 then [] else _) = (if i = 0 then [] else _)
    by_cases hi : i = 0
    · rw [if_pos hi, if_pos hi]
    · rw [if_neg hi, if_neg hi]
      cases e : wy[i]? with
      | none => rfl
      | some x =>
        have := h i x e (by omega)
        dsimp only
        rw [pth_fuel h f g x.1.toNat (by omega) (by omega)]
def path (wy : List (Int × List Int)) (i : Nat) : List (List Int) := pth wy i i
theorem path_zero (wy : List (Int × List Int)) : path wy 0 = [] := rfl
theorem path_next {wy : List (Int × List Int)} (h : WayOk wy) {i : Nat} {e : Int × List Int} (hi : 0 < i) (he : wy[i]? = some e) : path wy i = path wy e.1.toNat ++ [e.2] := by
  obtain ⟨k, rfl⟩ : ∃ k, i = k + 1 := ⟨i - 1, by omega⟩
  have := h _ e he hi
  show (if k + 1 = 0 then [] else match wy[k + 1]? with | some e => pth wy k e.1.toNat ++ [e.2] | none => []) = _
  rw [if_neg (by omega), he]
  show pth wy k e.1.toNat ++ [e.2] = _
  rw [pth_fuel h k e.1.toNat e.1.toNat (by omega) (Nat.le_refl _)]
  rfl
theorem awRev {α β : Type} {F : α → β → Prop} : ∀ {l : List α} {l2 : List β}, Paired F l l2 → Paired F l.reverse l2.reverse
  | _, _, .nil => .nil
  | _, _, .cons r t => by
    rw [List.reverse_cons, List.reverse_cons]
    exact awSnoc r (awRev t)
def spBt (P : Program) (w : World) (C : Addr) : Sp := fun vs H Q _ => ∃ (p M N W : Addr) (ts : List WT) (wy : List (Int × List Int)) (i : Nat), vs = [.ref p, .int (i : Int)] ∧ WalkAt P w C H p M N W ts wy ∧ i < wy.length ∧ wy.length ≤ 1000000 ∧ WayOk wy ∧
  ∀ H' L bl, Same H H' → H L = none → H' L = some (.lst (bl.map V.ref)) → TAt H' bl (path wy i) → Q (.ref L) H'
set_option maxHeartbeats 1000000 in
theorem ok_bt {f C : Addr} {fd : FuncData} {k : Nat} (F : Fun K "bits_to" "Walk.bits_to" sWalk_bits_to f fd) (T : WCls K mg C) : FnOk P w K mg base CX0 (k + 1) f fd ["self", "number"] (spBt P w C) := by
  refine F.ok scWb (fun vs H Q E h => ?_) (fun cdv A outer s H vs Q E hr h => ?_)
  · obtain ⟨p, M, N, W, ts, wy, i, rfl, _⟩ := h
    rfl
  · obtain ⟨p, M, N, W, ts, wy, i, rfl, hw, hi, hl, wok, q⟩ := h
    refine ⟨_, pss_cons (ps_set (i := 2) scWb.nd rfl (.inl rfl) (pe_lst pa_nil))
      (pss_cons (ps_while PassesOwn.never (pt_cmpR op_gt (pv 1) pe_int (nomark _))
        (pss_cons (ps_asg (pe_ix ix_list (pe_fld (pv 0) rfl) (pv 1) (fun _ _ => rfl)) (pg_tup rfl (pgs_cons (pg_name (i := 1) scWb.nd rfl (.inl rfl)) (pgs_cons (pg_name (i := 3) scWb.nd rfl (.inl rfl)) pgs_nil))))
        (pss_one (ps_expr (pe_bm PySem.F.plainAttrs_list PySem.F.slot_list_append PySem.F.type_list_append mt_append (pv 2) (pa_cons (pv 3) pa_nil))))))
      (pss_one (ps_ret (pe_rev (pv 2) (pe_un un_neg pe_int))))), ?_⟩
    refine ⟨Nat.zero_le _, fun L hL => ?_⟩
    have sL := same_new (o := .lst []) hL
    refine ⟨fun n σ H3 => ∃ (y3 : Option V) (j : Nat) (acc : List (List Int)) (bl : List Addr), n = j ∧ σ = [some (.ref p), some (.int (j : Int)), some (.ref L), y3] ∧ j < wy.length ∧ path wy i = path wy j ++ acc.reverse ∧ acc.length + j ≤ i ∧ H3 L = some (.lst (bl.map V.ref)) ∧ TAt H3 bl acc ∧ Same H H3, ⟨i, none, i, [], [], rfl, rfl, hi, (by rw [List.reverse_nil, List.append_nil]), by simp, upd_same, .nil, sL⟩, fun n σ H3 hp => ?_⟩
    obtain ⟨y3, j, acc, bl, hnj, rfl, hj, hpth, hacc, eL, hbl, s3⟩ := hp
    refine ⟨.int (j : Int), rfl, _, 0, rfl, rfl, _, rfl, ite2 (fun e => ?_) (fun e => ?_)⟩
    · have hj0 : 0 < j := by
        have := of_decide_eq_true e
        omega
      have hw3 := hw.same s3
      obtain ⟨dxw, ob3⟩ := hw3.ob
      obtain ⟨ws, eW, hws⟩ := hw3.ways
      obtain ⟨x, hx, bb, hx2, hx3⟩ := awGet2 hws (List.getElem?_eq_getElem hj)
      have wk := wok j wy[j] (List.getElem?_eq_getElem hj) hj0
      have hat : atI (ws.map V.ref) (j : Int) = some (.ref x) := atI_nat (by rw [List.getElem?_map, hx]; rfl)
      refine ⟨fun σ' H' => ∃ m', m' < n ∧ ∃ (y3 : Option V) (j : Nat) (acc : List (List Int)) (bl : List Addr), m' = j ∧ σ' = [some (.ref p), some (.int (j : Int)), some (.ref L), y3] ∧ j < wy.length ∧ path wy i = path wy j ++ acc.reverse ∧ acc.length + j ≤ i ∧ H' L = some (.lst (bl.map V.ref)) ∧ TAt H' bl acc ∧ Same H H', fun σ' H' h => h, ?_⟩
      refine ⟨.ref p, rfl, p, C, dxw, _, _, rfl, ob3, T.cl, T.nW, wF_ways _ _ _, .int (j : Int), rfl, W, _, (j : Int), .ref x, rfl, rfl, .inl (.inl eW), hat, x, [.int wy[j].1, .ref bb], rfl, .inl (.inl hx2), rfl, .int wy[j].1, [.ref bb], rfl, .ref bb, [], rfl, rfl, ?_⟩
      have lb := awLen hbl
      refine ⟨.ref L, rfl, .inl ⟨rfl, _, .inl (.inl eL)⟩, .ref bb, rfl, L, _, _, rfl, rfl, eL, ?_, wy[j].1.toNat, by omega, some (.ref bb), wy[j].1.toNat, acc ++ [wy[j].2], bl ++ [bb], rfl, ?_, by omega, ?_, ?_, ?_, ?_, ?_⟩
      · rw [List.length_map, sizeLine_eq]
        omega
      · have : ((wy[j].1.toNat : Nat) : Int) = wy[j].1 := by omega
        rw [this]
        rfl
      · rw [hpth, path_next wok hj0 (List.getElem?_eq_getElem hj), List.reverse_append, List.append_assoc]
        rfl
      · rw [List.length_append]
        show acc.length + 1 + _ ≤ i
        omega
      · rw [upd_same, List.map_append]
        rfl
      · exact tat_stay (tups_put eL) (awSnoc (F := fun (f : Addr) (b : List Int) => H3 f = some (.tup (b.map V.int))) hx3 hbl)
      · intro b u z
        rw [upd_ne (ne_of_none z hL)]
        exact s3 _ _ z
    · have hj0 : j = 0 := by
        have : ¬ ((j : Int) > 0) := fun z => e (decide_eq_true z)
        omega
      subst hj0
      rw [path_zero, List.nil_append] at hpth
      refine ⟨.ref L, rfl, _, rfl, L, _, rfl, rfl, .inl (.inl eL), fun Z hZ => ?_⟩
      have sZ := same_new (o := .lst (bl.map V.ref).reverse) hZ
      refine q _ Z bl.reverse (s3.trans sZ) (s3.free hZ) ?_ ?_
      · rw [upd_same, List.map_reverse]
      · rw [hpth]
        exact tat_stay (Same.tups sZ) (awRev hbl)
/-! ### enumerate of a tuple -/
section enumt
set_option maxHeartbeats 1000000 in
theorem meets_enum1 {v : Value} {o : Obj} {H : Heap → Prop} (B : Begins v o H) :
    Meets (Builtin.«enumerate.__new__» ⟨[.type "enumerate", v], []⟩) (fun _ R s => H s.heap ∧
      R (.ok (.ret (.ref (s.heap.push o).objs.size))) { s with heap := (s.heap.push o).push { cls := .type "enumerate", data := .fields #[.none, .bool false, .ref s.heap.objs.size, rawInt 0, .none, .none] } }) :=
  .of_wp fun prog w A R s h => by
    obtain ⟨hp, g, d, tk, os⟩ := s; obtain ⟨h1, h⟩ := h
    have hsub := sub_enumerate
    have q1 : ∀ {A' : Around} {E : Value → Shared → Prop} {Q : Value → Shared → Prop}, Q (.ref hp.objs.size) ⟨hp.push o, g, d, tk, os⟩ → wpAny (model prog w) A' (pyIter v) Q E ⟨hp, g, d, tk, os⟩ :=
      fun q => B.iter prog w _ _ ⟨hp, g, d, tk, os⟩ _ h1 q
    wp_walk using q1
    refine wpAny_stack_any fun st => wpAny_pure ?_
    split
    · rename_i c _ _ _ _ _
      cases (c == Value.type "enumerate")
      · wp_walk using q1
        exact ⟨_, rfl, h⟩
      · wp_walk using q1
        exact ⟨_, rfl, h⟩
    · wp_walk using q1
      exact ⟨_, rfl, h⟩
theorem enum1 {prog : Program} {w : World} {A : Around} {E : Value → Shared → Prop} {s : Shared} {v : Value} {o : Obj} {H : Heap → Prop} {Q : Value → Shared → Prop} (B : Begins v o H) (h1 : H s.heap)
    (h : ∀ h', IsEnum h' (s.heap.objs.size + 1) s.heap.objs.size 0 .none → h'.get? s.heap.objs.size = some o → h'.objs.size = s.heap.objs.size + 2 →
      (∀ b o, s.heap.get? b = some o → h'.get? b = some o) → Q (.ref (s.heap.objs.size + 1)) { s with heap := h' }) :
    wpAny (model prog w) A (call (.type "enumerate") [v]) Q E s := by
  refine callType_new F.called_enumerate (by decide) (F.typeCall_enumerate_1 _) (F.newCall_enumerate_1 _) (fun obj => F.args_object_init_2 obj _) F.entry_enumerate_new
    (meets_enum1 B) ⟨h1, ?_⟩
  have hz : (s.heap.push o).objs.size = s.heap.objs.size + 1 := Heap.size_push ..
  show _ ∧ _
  rw [hz]
  have he : IsEnum ((s.heap.push o).push { cls := .type "enumerate", data := .fields #[.none, .bool false, .ref s.heap.objs.size, rawInt 0, .none, .none] }) (s.heap.objs.size + 1) s.heap.objs.size 0 .none := by
    have := Heap.get?_push_size (s.heap.push o) (o := { cls := .type "enumerate", data := .fields #[.none, .bool false, .ref s.heap.objs.size, rawInt 0, .none, .none] }) rfl
    rw [hz] at this; exact this
  refine ⟨⟨_, he, rfl⟩, h _ he (Heap.get?_push_of_some _ (Heap.get?_push_size _ B.free)) (by rw [Heap.size_push, hz]) fun b o x => Heap.get?_push_of_some _ (Heap.get?_push_of_some _ x)⟩
def IteT (K : PySem.W.Frag) (a : Addr) : It :=
  ⟨fun i H => ∃ (xs : List V) (x : V), SqT K H a xs ∧ xs[i]? = some x, fun i H v H' => ∃ T x, v = .ref T ∧ H T = none ∧ H' = upd H T (.tup [.int (i : Nat), x]) ∧ ∀ xs, SqT K H a xs → xs[i]? = some x, fun i H => ∃ xs : List V, SqT K H a xs ∧ xs.length = i⟩
theorem turn_enumT {elts : List Expr} {kk : Nat} {tpos : Pos} (a e it : Addr) (na : a ≠ it) (ne : e ≠ a) :
    Turn P w K (.Tuple elts kk tpos) (IteT K a) [e, it] e (fun i h => (∃ old, IsEnum h e it ((i : Nat) : Int) old) ∧ h.IsTupleIter it a i ∧ e ≠ it) where
  mem := by simp
  obj := fun i h st b hb => by
    obtain ⟨⟨old, he⟩, ⟨o, ho, hc, hd⟩, _⟩ := st
    have e' : b = e ∨ b = it := by simpa using hb
    rcases e' with z | z
    · rw [z]; exact ⟨_, he, fun v q => nomatch q⟩
    · rw [z]; exact ⟨o, ho, fun v q => by rw [hd] at q; cases q⟩
  keep := fun i h h' st k => let ⟨⟨old, he⟩, hi, hne⟩ := st; ⟨⟨old, k e (by simp) _ he⟩, hi.at fun o q => k it (by simp) o q, hne⟩
  item := by
    intro X hP hw hK hc i pins s σ H E I hf st hg
    subst hP hw hK
    obtain ⟨⟨old, he⟩, hit, hne⟩ := st
    obtain ⟨xs, x, hq, hx⟩ := hg
    obtain ⟨its, rv, p, hz⟩ := I.tuple hq
    obtain ⟨u, hu, ru⟩ := rv.get hx
    have hel : e < s.heap.objs.size := Heap.lt_size he
    have hil : it < s.heap.objs.size := by obtain ⟨_, q, _⟩ := hit; exact Heap.lt_size q
    have hh : X.A.in1.handled = none := I.ok.hd hc
    have l1 : i < its.toArray.size := by
      have := (List.getElem?_eq_some_iff.mp hu).1
      simpa using this
    refine wpAny_pyNext_enum_itemD (Draws.tuple hh it a na its.toArray) he ⟨hit, p⟩ l1 hne (by simp [hne, ne]) fun v h' tk g ho hit' hT hsz hk => ?_
    have ev : v = u := by
      have g1' : its.toArray[i]? = some v := g
      have e : its[i]? = some v := by simpa using g1'
      rw [hu] at e
      exact (Option.some.inj e).symm
    subst ev
    refine ⟨_, rfl, wpAny_letOwnedTupleGo_enum (s := { s with heap := h', toks := tk + 1 }) ho fun h'' he' sb => ?_⟩
    have hT2 : h''.get? s.heap.objs.size = some { cls := .type "tuple", data := .seq #[.int i tk, v] } := (sb.2 _ (Nat.ne_of_gt hel)).trans hT
    have new : ObjOk X.prog X.w (upd H s.heap.objs.size (.tup [.int (i : Nat), x])) h'' s.heap.objs.size (.tup [.int (i : Nat), x]) :=
      ⟨by show 2 ≤ sizeLine; decide, [.int i tk, v], .cons ⟨_, rfl⟩ (.cons ru .nil), ⟨_, hT2, rfl, _, rfl⟩⟩
    have I1 : Inv X pins σ (upd H s.heap.objs.size (.tup [.int (i : Nat), x])) { s with heap := h'', toks := tk + 1 } :=
      I.turnedNew (ch := [e, it]) (fun b ob hb q => (sb.2 b (fun z => hb (by simp [z]))).trans (hk b ob (fun z => hb (by simp [z])) (fun z => hb (by simp [z])) q)) hf (Nat.le_refl _) new
    refine ⟨.ref s.heap.objs.size, _, I1, rfl, ⟨_, x, rfl, I.hok.fresh (Nat.le_refl _), rfl, fun ys hy => by rw [I.tuple_inj hy hq]; exact hx⟩, ⟨⟨v, ?_⟩, hit'.1.at fun o q => (sb.2 it (Ne.symm hne)).trans q, hne⟩, fun b hb => ?_⟩
    · have e1 : ((i + 1 : Nat) : Int) = (i : Int) + 1 := by omega
      rw [e1]; exact he'
    · have hb' : b < s.heap.objs.size := by
        have e' : b = e ∨ b = it := by simpa using hb
        rcases e' with z | z
        · rw [z]; exact hel
        · rw [z]; exact hil
      rw [upd_ne (Nat.ne_of_lt hb')]
      exact (hf b hb).1
  done := by
    intro X hP hw hK hc i pins s σ H E I hf st hg
    subst hP hw hK
    obtain ⟨⟨old, he⟩, hit, hne⟩ := st
    obtain ⟨xs, hq, hx⟩ := hg
    obtain ⟨its, rv, p, hz⟩ := I.tuple hq
    obtain ⟨f0, f1, f2, f3, f4, f5⟩ := hf it (by simp)
    have hl := rv.length
    have hh : X.A.in1.handled = none := I.ok.hd hc
    have ei : i = its.toArray.size := by rw [List.size_toArray]; omega
    exact wpAny_pyNext_enum_endD (Draws.tuple hh it a na its.toArray) he ⟨by rw [← ei]; exact hit, p⟩ fun h' eb => ⟨rfl, I.turned (t' := s.toks) (fun b o hb q => eb b o hb q) f0 f1 f3 f4 f5⟩
  self := fun A i s Q E st h => let ⟨⟨_, he⟩, _⟩ := st; wpAny_pyIter_enum he h
def iEnumT (K : PySem.W.Frag) (ta : TA) : TI := fun σ H R => ta σ H fun vs H1 => ∃ a xs, vs = [.ref a] ∧ SqT K H1 a xs ∧ R (IteT K a) H1
theorem pi_enumT {X : Cx} {e : Expr} {ta : TA} {p pos tpos : Pos} {elts : List Expr} {kk : Nat} (hg : Gl X "enumerate") (hm : X.mg "enumerate" = none) (ha : PA X [e] ta) (hs : starEach [e] X.env = [(false, eval e X.env)] := by rfl) :
    PI X (.Tuple elts kk tpos) (.Call (.Name "enumerate" p) [e] [] pos) (iEnumT X.K ta) := by
  refine ⟨fun pins s σ H R I h => ?_⟩
  refine Call_ (ld_blt I hg hm boot_enumerate (PyProof.Rows.callWith_type1 (thn (ha.run pos pins s σ H _ I h) fun us s1 ⟨vs, H1, I1, r1, q1⟩ => ?_) hs rfl))
  obtain ⟨a, xs, ex, hq, q⟩ := q1
  subst ex
  cases r1 with
  | cons r rr =>
    cases rr
    cases r
    obtain ⟨its, rv, p', hz⟩ := I1.tuple hq
    have lb : a < s1.heap.objs.size := by
      obtain ⟨o2, e2, _⟩ := id p'
      exact Heap.lt_size e2
    refine enum1 (begins_tuple a its.toArray) p' fun h' he hit hsz hk => wpAny_pyIter_enum he ?_
    have I2 : Inv X pins σ H1 { s1 with heap := h' } := I1.kept (t' := s1.toks) hk
    refine ⟨s1.heap.objs.size + 1, [s1.heap.objs.size + 1, s1.heap.objs.size], _, _, H1, rfl, I2, turn_enumT a (s1.heap.objs.size + 1) s1.heap.objs.size (Nat.ne_of_lt lb) (Nat.ne_of_gt (Nat.lt_succ_of_lt lb)), ⟨⟨.none, he⟩, ⟨_, hit, rfl, rfl⟩, Nat.succ_ne_self _⟩, fun b hb => ?_, q⟩
    have e' : b = s1.heap.objs.size + 1 ∨ b = s1.heap.objs.size := by simpa using hb
    have hle : s1.heap.objs.size ≤ b := by
      rcases e' with z | z
      · rw [z]; exact Nat.le_succ _
      · rw [z]; exact Nat.le_refl _
    exact I1.fpOk hle (I1.hok.fresh hle)
theorem walk_enumT {a : Addr} {xs : List V} : Walk (IteT K a) xs.length (fun H => SqT K H a xs) (YPair (fun i => some (.int (i : Nat))) (fun i => xs[i]?)) where
  goes := fun i H hi q => ⟨xs, xs[i], q, List.getElem?_eq_getElem hi⟩
  stops := fun H q => ⟨xs, q, rfl⟩
  yields := fun i H v H2 hi q y => by
    obtain ⟨T, x, h1, h2, h3, h4⟩ := y
    exact ⟨T, .int (i : Nat), x, h1, h2, h3, rfl, h4 xs q⟩
end enumt
/-! ### words_of -/
def colW : List (List Int) → Nat → Int
  | [], _ => 0
  | c :: cs, j => c.getD j 0 + 2 * colW cs j
theorem colW_snoc (c : List Int) (j : Nat) : ∀ cs : List (List Int), colW (cs ++ [c]) j = colW cs j + c.getD j 0 * 2 ^ cs.length
  | [] => by
    show c.getD j 0 + 2 * 0 = 0 + c.getD j 0 * 1
    omega
  | d :: cs => by
    show d.getD j 0 + 2 * colW (cs ++ [c]) j = d.getD j 0 + 2 * colW cs j + c.getD j 0 * 2 ^ (cs.length + 1)
    have e : c.getD j 0 * 2 ^ (cs.length + 1) = 2 * (c.getD j 0 * 2 ^ cs.length) := by rw [Int.pow_succ, ← Int.mul_assoc, Int.mul_comm]
    rw [colW_snoc c j cs, e]
    omega
/-- the words whose bits are told by columns -/
def wofL (m : Nat) (cs : List (List Int)) : List Int := (List.range m).map (colW cs)
theorem wofL_len (m : Nat) (cs : List (List Int)) : (wofL m cs).length = m := by
  unfold wofL
  rw [List.length_map, List.length_range]
/-- the first so many words have taken in a further column -/
def wofP (m : Nat) (cs : List (List Int)) (c : List Int) (k : Nat) : List Int := (List.range m).map fun j => if j < k then colW (cs ++ [c]) j else colW cs j
theorem wofP_zero (m : Nat) (cs : List (List Int)) (c : List Int) : wofP m cs c 0 = wofL m cs := by
  unfold wofP wofL
  exact List.map_congr_left fun j _ => if_neg (Nat.not_lt_zero _)
theorem wofP_all (m : Nat) (cs : List (List Int)) (c : List Int) : wofP m cs c m = wofL m (cs ++ [c]) := by
  unfold wofP wofL
  exact List.map_congr_left fun j hj => if_pos (List.mem_range.mp hj)
theorem wofP_next {m : Nat} {cs : List (List Int)} {c : List Int} {k : Nat} (hk : k < m) : wofP m cs c (k + 1) = (wofP m cs c k).set k (colW cs k + c.getD k 0 * 2 ^ cs.length) := by
  have l : ∀ n, (wofP m cs c n).length = m := fun n => by
    unfold wofP
    rw [List.length_map, List.length_range]
  refine List.ext_getElem? fun i => ?_
  by_cases hi : i < m
  · by_cases e : i = k
    · subst e
      rw [List.getElem?_set_self (by rw [l]; exact hi)]
      unfold wofP
      rw [List.getElem?_map, List.getElem?_range hi]
      show some (if i < i + 1 then _ else _) = _
      rw [if_pos (by omega), colW_snoc]
    · rw [List.getElem?_set_ne (by omega)]
      unfold wofP
      rw [List.getElem?_map, List.getElem?_map, List.getElem?_range hi]
      show some (if i < k + 1 then _ else _) = some (if i < k then _ else _)
      by_cases h2 : i < k
      · rw [if_pos (by omega), if_pos h2]
      · rw [if_neg (by omega), if_neg h2]
  · rw [List.getElem?_eq_none (by rw [l]; omega), List.getElem?_eq_none (by rw [List.length_set, l]; omega)]
def rIxN (K : PySem.W.Frag) : V → V → Hp → VK → Prop := fun x y H Q => ∃ p xs i v, x = .ref p ∧ y = .int i ∧ 0 ≤ i ∧ SqL K H p xs ∧ atI xs i = some v ∧ Q v H
theorem get_listN {X : Cx} : PGet X (rIxN X.K) := by
  intro pins s σ H o i ov iv Q I ro ri h
  obtain ⟨p, xs, i, z, rfl, rfl, h0, hq, he, q⟩ := h
  cases ro
  obtain ⟨t, rfl⟩ := ri
  obtain ⟨its, r, pl, hz⟩ := I.list hq
  obtain ⟨j, h1, h2, h3, h4, h5⟩ := atI_get he
  obtain ⟨w, ew, rw'⟩ := r.get h2
  have hl := r.length
  have hn := line63
  have fin : EP X pins σ Q w s := ⟨z, H, I, rw', q⟩
  have hj : i.toNat = j := by
    rw [seqIndex_of h0 h5] at h1
    exact Option.some.inj h1
  exact wpAny_getItem_list pl.isList h0 (by omega) (by rw [hj]; simpa using ew) fin
def spWf : Sp := fun vs H Q _ => ∃ (m : Nat) (L : Addr) (bl : List Addr) (cols : List (List Int)), vs = [.int (m : Int), .ref L] ∧ m ≤ 3 ∧ H L = some (.lst (bl.map V.ref)) ∧ TAt H bl cols ∧ cols.length ≤ 1000000 ∧ (∀ c ∈ cols, c.length = m ∧ ∀ x ∈ c, Bit x) ∧
  ∀ H' p, Same H H' → H p = none → H' p = some (.lst ((wofL m cols).map V.int)) → Q (.ref p) H'
set_option maxHeartbeats 1000000 in
theorem ok_wf {f : Addr} {fd : FuncData} {k : Nat} (F : Fun K "words_of" "words_of" s_words_of f fd) (me : mg "enumerate" = none) : FnOk P w K mg base CX0 (k + 1) f fd ["many", "columns"] spWf := by
  refine F.ok sc_words_of (fun vs H Q E h => ?_) (fun cdv A outer s H vs Q E hr h => ?_)
  · obtain ⟨m, L, bl, cols, rfl, _⟩ := h
    rfl
  · obtain ⟨m, L, bl, cols, rfl, m3, eL, hbl, hcl, hco, q⟩ := h
    refine ⟨_, pss_cons (ps_set (i := 2) sc_words_of.nd rfl (.inl rfl) (pe_op op_rep (pe_lst (pa_cons pe_int pa_nil)) (pv 0)))
      (pss_cons (ps_for PassesOwn.never rfl (pi_enum (by rfl) me (pa_cons (pv 1) pa_nil)) (pg_tup rfl (pgs_cons (pg_name (i := 3) sc_words_of.nd rfl (.inl rfl)) (pgs_cons (pg_name (i := 4) sc_words_of.nd rfl (.inl rfl)) pgs_nil)))
        (pss_one (ps_for PassesOwn.never rfl (pi_enumT (by rfl) me (pa_cons (pv 4) pa_nil)) (pg_tup rfl (pgs_cons (pg_name (i := 5) sc_words_of.nd rfl (.inl rfl)) (pgs_cons (pg_name (i := 6) sc_words_of.nd rfl (.inl rfl)) pgs_nil)))
          (pss_one (ps_augS (pv 2) (pv 5) get_listN (pe_op op_shl (pv 6) (pv 3)) ip_add set_list)))))
      (pss_one (ps_ret (pv 2)))), ?_⟩
    refine ⟨(by show 1 ≤ sizeLine; decide), fun Z hZ => ?_⟩
    have sZ := same_new (o := .lst [.int 0]) hZ
    refine ⟨.int (m : Int), rfl, Z, (m : Int), _, rfl, rfl, upd_same, by omega, by omega, ?_, fun Wl hWl => ?_⟩
    · show 1 * (m : Int).toNat ≤ sizeLine
      rw [sizeLine_eq]
      omega
    have e0 : (List.replicate (m : Int).toNat [V.int 0]).flatten = (wofL m []).map V.int := by
      rw [Int.toNat_natCast]
      have hm : m = 0 ∨ m = 1 ∨ m = 2 ∨ m = 3 := by omega
      rcases hm with rfl | rfl | rfl | rfl <;> rfl
    rw [e0]
    have sW := sZ.trans (same_new (o := .lst ((wofL m []).map V.int)) hWl)
    have nW : H Wl = none := sZ.free hWl
    have bll := awLen hbl
    have nLW : L ≠ Wl := ne_of_none eL nW
    refine ⟨.ref L, rfl, L, _, rfl, .inl (.inl (sW _ _ eL)), for_it (walk_enum (K := K) (a := L) (xs := bl.map V.ref)) (fun t σ H3 => ∃ y3 y4 y5 y6, σ = [some (.int (m : Int)), some (.ref L), some (.ref Wl), y3, y4, y5, y6] ∧ H3 Wl = some (.lst ((wofL m (cols.take t)).map V.int)) ∧ Same H H3)
      ⟨none, none, none, none, rfl, upd_same, sW⟩ (fun t σ H3 _ hp => ?_) (fun t x σ H3 H4 ht hp hy => ?_) (fun σ H3 hp => ?_)⟩
    · obtain ⟨_, _, _, _, _, _, s3⟩ := hp
      exact .inl (.inl (s3 _ _ eL))
    · obtain ⟨y3, y4, y5, y6, rfl, eW, s3⟩ := hp
      obtain ⟨U, x1, x2, rfl, hU, rfl, g1, g2⟩ := hy
      obtain rfl : V.int (t : Nat) = x1 := Option.some.inj g1
      have ht2 : t < bl.length := by rwa [List.length_map] at ht
      have hx2 : x2 = .ref bl[t] := by
        have g2' : (bl.map V.ref)[t]? = some x2 := g2
        rw [List.getElem?_map, List.getElem?_eq_getElem ht2] at g2'
        exact (Option.some.inj g2').symm
      subst hx2
      obtain ⟨c, hc1, hc2⟩ := awGet hbl (List.getElem?_eq_getElem ht2)
      have hc2' : H bl[t] = some (.tup (c.map V.int)) := hc2
      obtain ⟨cl, cb⟩ := hco c (List.mem_of_getElem? hc1)
      have tl : (cols.take t).length = t := by rw [List.length_take]; omega
      have sU := same_new (o := .tup [.int (t : Nat), .ref bl[t]]) hU
      have eB := sU _ _ (s3 _ _ hc2')
      have eW4 := sU _ _ eW
      obtain ⟨r, hr'⟩ : ∃ r, r = bl[t] := ⟨_, rfl⟩
      have eU : upd H3 U (.tup [.int (t : Nat), .ref r]) U = some (.tup [.int (t : Nat), .ref r]) := upd_same
      rw [← hr'] at eB eW4 sU ⊢
      obtain ⟨H4, hH4⟩ : ∃ H4, H4 = upd H3 U (.tup [.int (t : Nat), .ref r]) := ⟨_, rfl⟩
      rw [← hH4] at eB eW4 sU eU ⊢
      refine ⟨U, [.int (t : Nat), .ref r], rfl, .inl (.inl eU), rfl, .int (t : Nat), [.ref r], rfl, .ref r, [], rfl, rfl, ?_⟩
      refine ⟨.ref r, rfl, r, _, rfl, SqT.of eB, for_it (walk_enumT (K := K) (a := r) (xs := c.map V.int)) (fun j σ H5 => ∃ y5 y6, σ = [some (.int (m : Int)), some (.ref L), some (.ref Wl), some (.int (t : Nat)), some (.ref r), y5, y6] ∧ H5 Wl = some (.lst ((wofP m (cols.take t) c j).map V.int)) ∧ ∀ b u, b ≠ Wl → H4 b = some u → H5 b = some u)
        ⟨y5, y6, rfl, by rw [wofP_zero]; exact eW4, fun _ _ _ e => e⟩ (fun j σ H5 _ hp => ?_) (fun j x σ H5 H6 hj hp hy => ?_) (fun σ H5 hp => ?_)⟩
      · obtain ⟨_, _, _, _, st⟩ := hp
        exact SqT.of (st _ _ (ne_of eB eW4 (fun z => nomatch z)) eB)
      · obtain ⟨y5, y6, rfl, eW5, st⟩ := hp
        obtain ⟨V1, x1, x2, rfl, hV, rfl, g1, g2⟩ := hy
        obtain rfl : V.int (j : Nat) = x1 := Option.some.inj g1
        have hj2 : j < c.length := by rwa [List.length_map] at hj
        have hjm : j < m := by omega
        have hx2 : x2 = .int c[j] := by
          have g2' : (c.map V.int)[j]? = some x2 := g2
          rw [List.getElem?_map, List.getElem?_eq_getElem hj2] at g2'
          exact (Option.some.inj g2').symm
        subst hx2
        have cj : c.getD j 0 = c[j] := by rw [List.getD_eq_getElem?_getD, List.getElem?_eq_getElem hj2]; rfl
        have bj := cb _ (List.getElem_mem hj2)
        have sV := same_new (o := .tup [.int (j : Nat), .int c[j]]) hV
        have eW6 := sV _ _ eW5
        have wl : (wofP m (cols.take t) c j).length = m := by
          unfold wofP
          rw [List.length_map, List.length_range]
        have wj : (wofP m (cols.take t) c j).getD j 0 = colW (cols.take t) j := by
          unfold wofP
          rw [List.getD_eq_getElem?_getD, List.getElem?_map, List.getElem?_range hjm]
          show (if j < j then _ else _) = _
          rw [if_neg (Nat.lt_irrefl _)]
        have hat := atI_ints (l := wofP m (cols.take t) c j) (o := (j : Int)) (by omega) (by omega)
        rw [Int.toNat_natCast, wj] at hat
        refine ⟨V1, [.int (j : Nat), .int c[j]], rfl, .inl (.inl upd_same), rfl, .int (j : Nat), [.int c[j]], rfl, .int c[j], [], rfl, rfl, ?_⟩
        refine ⟨.ref Wl, rfl, .int (j : Nat), rfl, Wl, _, (j : Int), _, rfl, rfl, by omega, .inl (.inl eW6), hat, .int c[j], rfl, .int (t : Nat), rfl, _, _, rfl, rfl, ⟨by omega, by omega, ?_⟩, _, _, rfl, rfl, Wl, _, (j : Int), j, rfl, rfl, eW6, ?_, some (.int (j : Nat)), some (.int c[j]), rfl, ?_, fun b u nb e => ?_⟩
        · rcases bj with e | e <;> rw [e] <;> decide
        · unfold ixN
          rw [List.length_map, wl, if_pos (by omega), if_pos (by omega)]
          rfl
        · rw [upd_same, wofP_next hjm, tl, cj, List.map_set]
          rfl
        · rw [upd_ne nb]
          exact sV _ _ (st b u nb e)
      · obtain ⟨y5', y6', rfl, eW5, st⟩ := hp
        rw [List.length_map, cl, wofP_all] at eW5
        refine ⟨_, _, _, _, rfl, ?_, fun b u e => st _ _ (ne_of_none e nW) (sU _ _ (s3 _ _ e))⟩
        rw [List.take_add_one, hc1]
        exact eW5
    · obtain ⟨y3, y4, y5, y6, rfl, eW, s3⟩ := hp
      rw [List.length_map, bll, List.take_length] at eW
      exact ⟨.ref Wl, rfl, q _ Wl s3 nW eW⟩
/-! ### words told by columns: their bits, the carries on the way -/
theorem colW_range {j : Nat} : ∀ {cs : List (List Int)}, (∀ c ∈ cs, Bit (c.getD j 0)) → 0 ≤ colW cs j ∧ colW cs j < 2 ^ cs.length
  | [], _ => ⟨Int.le_refl _, by show (0 : Int) < 1; decide⟩
  | c :: cs, h => by
    obtain ⟨a, b⟩ := colW_range (cs := cs) fun x hx => h x (List.mem_cons_of_mem _ hx)
    have hb := h c List.mem_cons_self
    have e : (2 : Int) ^ (c :: cs).length = 2 * 2 ^ cs.length := by rw [List.length_cons, Int.pow_succ, Int.mul_comm]
    rw [e]
    show 0 ≤ c.getD j 0 + 2 * colW cs j ∧ c.getD j 0 + 2 * colW cs j < 2 * 2 ^ cs.length
    rcases hb with z | z <;> rw [z] <;> omega
theorem colW_bit {j : Nat} : ∀ {cs : List (List Int)} {t : Nat} {c : List Int}, (∀ c ∈ cs, Bit (c.getD j 0)) → cs[t]? = some c → bitA t (colW cs j) = c.getD j 0
  | [], _, _, _, e => by simp at e
  | c :: cs, 0, d, h, e => by
    obtain rfl : c = d := Option.some.inj e
    have hb := h c List.mem_cons_self
    show (c.getD j 0 + 2 * colW cs j) / 1 % 2 = c.getD j 0
    rcases hb with z | z <;> rw [z] <;> omega
  | c :: cs, t + 1, d, h, e => by
    have ih := colW_bit (cs := cs) (t := t) (c := d) (j := j) (fun x hx => h x (List.mem_cons_of_mem _ hx)) (by simpa using e)
    have hb := h c List.mem_cons_self
    rw [← ih]
    unfold bitA
    show (c.getD j 0 + 2 * colW cs j) / 2 ^ (t + 1) % 2 = colW cs j / 2 ^ t % 2
    have e2 : (2 : Int) ^ (t + 1) = 2 * 2 ^ t := by rw [Int.pow_succ, Int.mul_comm]
    rw [e2, ← Int.ediv_ediv_of_nonneg (by decide)]
    have e3 : (c.getD j 0 + 2 * colW cs j) / 2 = colW cs j := by rcases hb with z | z <;> rw [z] <;> omega
    rw [e3]
theorem wofL_bits {m t : Nat} {cs : List (List Int)} {c : List Int} (h : ∀ c ∈ cs, c.length = m ∧ ∀ x ∈ c, Bit x) (e : cs[t]? = some c) : (wofL m cs).map (bitA t) = c := by
  have bt : ∀ (j : Nat) c, c ∈ cs → Bit (c.getD j 0) := fun j c hc => by
    rw [List.getD_eq_getElem?_getD]
    cases e : c[j]? with
    | none => exact bit0
    | some y => exact (h c hc).2 y (List.mem_of_getElem? e)
  obtain ⟨cl, _⟩ := h c (List.mem_of_getElem? e)
  refine List.ext_getElem? fun i => ?_
  unfold wofL
  rw [List.map_map, List.getElem?_map]
  by_cases hi : i < m
  · rw [List.getElem?_range hi]
    show some (bitA t (colW cs i)) = c[i]?
    rw [colW_bit (fun c hc => bt i c hc) e, List.getElem?_eq_getElem (by omega), List.getD_eq_getElem?_getD, List.getElem?_eq_getElem (by omega)]
    rfl
  · rw [List.getElem?_eq_none (by rw [List.length_range]; omega), List.getElem?_eq_none (by omega)]
    rfl
theorem wofL_range {m : Nat} {cs : List (List Int)} (h : ∀ c ∈ cs, c.length = m ∧ ∀ x ∈ c, Bit x) : ∀ x ∈ wofL m cs, 0 ≤ x ∧ x < 2 ^ cs.length := by
  intro x hx
  obtain ⟨j, _, rfl⟩ := List.mem_map.mp hx
  refine colW_range fun c hc => ?_
  rw [List.getD_eq_getElem?_getD]
  cases e : c[j]? with
  | none => exact bit0
  | some y => exact (h c hc).2 y (List.mem_of_getElem? e)
/-- the carry behind some columns -/
def runC (ds : List Deed) : List Int → List (List Int) → List Int
  | c, [] => c
  | c, b :: bs => runC ds (nc ds c b) bs
theorem runC_snoc (ds : List Deed) (b : List Int) : ∀ (bs : List (List Int)) (c : List Int), runC ds c (bs ++ [b]) = nc ds (runC ds c bs) b
  | [], _ => rfl
  | x :: bs, c => runC_snoc ds b bs (nc ds c x)
theorem crry_run {m : Nat} {ds : List Deed} {cs : List (List Int)} (h : ∀ c ∈ cs, c.length = m ∧ ∀ x ∈ c, Bit x) : ∀ t, t ≤ cs.length → crry ds (wofL m cs) t = runC ds (ds.map fcD) (cs.take t)
  | 0, _ => rfl
  | t + 1, ht => by
    have e : cs[t]? = some cs[t] := List.getElem?_eq_getElem (by omega)
    rw [List.take_add_one, e]
    show nxt ds (crry ds (wofL m cs) t) (bts ds (crry ds (wofL m cs) t) ((wofL m cs).map (bitA t))) = runC ds (ds.map fcD) (cs.take t ++ [cs[t]])
    rw [runC_snoc, crry_run h t (by omega), wofL_bits h e]
    rfl
/-! ### pairs of carries walked through by breadth: what it shows -/
abbrev PC := List Int × List Int
def dep (wy : List (Int × List Int)) (i : Nat) : Nat := (path wy i).length
/-- the pair behind a pair -/
def nx2 (ds1 ds2 : List Deed) (q : PC) (bs : List Int) : PC := (nc ds1 q.1 bs, nc ds2 q.2 bs)
structure Bfs (m : Nat) (ds1 : List Deed) (o1 : Int) (ds2 : List Deed) (o2 : Int) (ps : List PC) (wy : List (Int × List Int)) (cu : Nat) : Prop where
  first : ps[0]? = some (ds1.map fcD, ds2.map fcD)
  ways : WayOk wy
  len : wy.length = ps.length
  link : ∀ (j : Nat) e, wy[j]? = some e → 0 < j → e.2 ∈ allB m ∧ ∃ q, ps[e.1.toNat]? = some q ∧ ps[j]? = some (nx2 ds1 ds2 q e.2)
  done : ∀ (i : Nat) q, i < cu → ps[i]? = some q → ∀ bs ∈ allB m, ob ds1 o1 q.1 bs = ob ds2 o2 q.2 bs ∧ ∃ i' : Nat, ps[i']? = some (nx2 ds1 ds2 q bs) ∧ dep wy i' ≤ dep wy i + 1
  mono : ∀ i j : Nat, i ≤ j → j < ps.length → dep wy i ≤ dep wy j
theorem bfs_path {m : Nat} {ds1 ds2 : List Deed} {o1 o2 : Int} {ps : List PC} {wy : List (Int × List Int)} {cu : Nat} (h : Bfs m ds1 o1 ds2 o2 ps wy cu) : ∀ (n i : Nat) q, i ≤ n → ps[i]? = some q → (∀ b ∈ path wy i, b ∈ allB m) ∧ q = (runC ds1 (ds1.map fcD) (path wy i), runC ds2 (ds2.map fcD) (path wy i))
  | n, 0, q, _, hq => by
    rw [h.first] at hq
    obtain rfl := Option.some.inj hq
    exact ⟨(fun _ z => nomatch z), rfl⟩
  | 0, i + 1, q, hi, _ => by omega
  | n + 1, i + 1, q, hi, hq => by
    have hl : i + 1 < wy.length := by
      rw [h.len]
      exact (List.getElem?_eq_some_iff.mp hq).1
    have he : wy[i + 1]? = some wy[i + 1] := List.getElem?_eq_getElem hl
    obtain ⟨hb, q0, hq0, hq1⟩ := h.link _ _ he (by omega)
    have wk := h.ways _ _ he (by omega)
    obtain ⟨ih1, ih2⟩ := bfs_path h n wy[i + 1].1.toNat q0 (by omega) hq0
    rw [hq] at hq1
    obtain rfl := Option.some.inj hq1
    rw [path_next h.ways (by omega) he]
    refine ⟨fun b hb' => ?_, ?_⟩
    · rcases List.mem_append.mp hb' with z | z
      · exact ih1 b z
      · rw [List.mem_singleton.mp z]
        exact hb
    · rw [runC_snoc, runC_snoc, ih2]
      rfl
/-- whoever is reached in fewer steps than the current one has been looked at -/
theorem bfs_below {m : Nat} {ds1 ds2 : List Deed} {o1 o2 : Int} {ps : List PC} {wy : List (Int × List Int)} {cu : Nat} (h : Bfs m ds1 o1 ds2 o2 ps wy cu) (hc : cu < ps.length) (cols : Nat → List Int) (hcols : ∀ t, cols t ∈ allB m) {pc : Nat → PC} (h0 : pc 0 = (ds1.map fcD, ds2.map fcD)) (hs : ∀ t, pc (t + 1) = nx2 ds1 ds2 (pc t) (cols t)) :
    ∀ t, t ≤ dep wy cu → ∃ i : Nat, ps[i]? = some (pc t) ∧ dep wy i ≤ t
  | 0, _ => ⟨0, by rw [h0]; exact h.first, Nat.le_refl _⟩
  | t + 1, ht => by
    obtain ⟨i, hi, hd⟩ := bfs_below h hc cols hcols h0 hs t (by omega)
    have lt : i < cu := by
      by_cases hh : i < cu
      · exact hh
      · have := h.mono cu i (by omega) (List.getElem?_eq_some_iff.mp hi).1
        omega
    obtain ⟨_, i', hi', hd'⟩ := h.done i _ lt hi (cols t) (hcols t)
    exact ⟨i', by rw [hs]; exact hi', by omega⟩
theorem bfs_agree {m : Nat} {ds1 ds2 : List Deed} {o1 o2 : Int} {ps : List PC} {wy : List (Int × List Int)} {cu : Nat} (h : Bfs m ds1 o1 ds2 o2 ps wy cu) (hc : cu < ps.length) (cols : Nat → List Int) (hcols : ∀ t, cols t ∈ allB m) {pc : Nat → PC} (h0 : pc 0 = (ds1.map fcD, ds2.map fcD)) (hs : ∀ t, pc (t + 1) = nx2 ds1 ds2 (pc t) (cols t)) {t : Nat} (ht : t < dep wy cu) :
    ob ds1 o1 (pc t).1 (cols t) = ob ds2 o2 (pc t).2 (cols t) := by
  obtain ⟨i, hi, hd⟩ := bfs_below h hc cols hcols h0 hs t (by omega)
  have lt : i < cu := by
    by_cases hh : i < cu
    · exact hh
    · have := h.mono cu i (by omega) (List.getElem?_eq_some_iff.mp hi).1
      omega
  exact (h.done i _ lt hi (cols t) (hcols t)).1
/-! ### what a walk by breadth shows of worths -/
theorem ob_bit {m n t : Nat} {ds : List Deed} {o : Int} {xs : List Int} (ok : RowOk m ds o) (hm : xs.length = m) (hx : ∀ x ∈ xs, 0 ≤ x ∧ x < 2 ^ n) (ht : t < n) : ob ds o (crry ds xs t) (xs.map (bitA t)) = bitA t ((vals (2 ^ n) ds xs).getD o.toNat 0) := by
  have vl := vals_len (size := 2 ^ n) ds xs
  have o0 := ok.o0
  have o1 := ok.o1
  have m1 := ok.m1
  have ol : o.toNat < (vals (2 ^ n) ds xs).length := by
    rw [vl, hm]
    omega
  unfold ob
  rw [crry_bits ok.deeds hm (by omega) hx ht, List.getD_eq_getElem?_getD, List.getD_eq_getElem?_getD, List.getElem?_map, List.getElem?_eq_getElem ol]
  rfl
theorem wr_range {m n : Nat} {ds : List Deed} {o : Int} {xs : List Int} (ok : RowOk m ds o) (hm : xs.length = m) (hx : ∀ x ∈ xs, 0 ≤ x ∧ x < 2 ^ n) : (vals (2 ^ n) ds xs).getD o.toNat 0 % 2 ^ n = (vals (2 ^ n) ds xs).getD o.toNat 0 := by
  have vl := vals_len (size := 2 ^ n) ds xs
  have o0 := ok.o0
  have o1 := ok.o1
  have ol : o.toNat < (vals (2 ^ n) ds xs).length := by
    rw [vl, hm]
    omega
  rw [List.getD_eq_getElem?_getD, List.getElem?_eq_getElem ol]
  obtain ⟨a, b⟩ := vals_range (pw_pos n) ds xs hx _ (List.getElem_mem ol)
  exact Int.emod_eq_of_lt a b
theorem cols_in {m : Nat} {xs : List Int} (hm : xs.length = m) (t : Nat) : xs.map (bitA t) ∈ allB m := allB_all m _ (by rw [List.length_map, hm]) fun x hx => by
  obtain ⟨y, _, rfl⟩ := List.mem_map.mp hx
  exact bitA_bit t y
/-- at no lesser width do the rows part -/
theorem bfs_least {m : Nat} {ds1 ds2 : List Deed} {o1 o2 : Int} {ps : List PC} {wy : List (Int × List Int)} {cu : Nat} (h : Bfs m ds1 o1 ds2 o2 ps wy cu) (hc : cu < ps.length) (ok1 : RowOk m ds1 o1) (ok2 : RowOk m ds2 o2) {n : Nat} (hn : n ≤ dep wy cu) {xs : List Int} (hm : xs.length = m) (hx : ∀ x ∈ xs, 0 ≤ x ∧ x < 2 ^ n) :
    (vals (2 ^ n) ds1 xs).getD o1.toNat 0 = (vals (2 ^ n) ds2 xs).getD o2.toNat 0 := by
  have e := bits_eq (v := (vals (2 ^ n) ds1 xs).getD o1.toNat 0) (u := (vals (2 ^ n) ds2 xs).getD o2.toNat 0) n fun t ht => by
    rw [← ob_bit ok1 hm hx ht, ← ob_bit ok2 hm hx ht]
    exact bfs_agree h hc (fun t => xs.map (bitA t)) (cols_in hm) (pc := fun t => (crry ds1 xs t, crry ds2 xs t)) rfl (fun _ => rfl) (by omega)
  rwa [wr_range ok1 hm hx, wr_range ok2 hm hx] at e
/-- where the bits are unlike, the words told part the rows -/
theorem bfs_apart {m : Nat} {ds1 ds2 : List Deed} {o1 o2 : Int} {ps : List PC} {wy : List (Int × List Int)} {cu : Nat} {q : PC} {bs : List Int} (h : Bfs m ds1 o1 ds2 o2 ps wy cu) (hq : ps[cu]? = some q) (ok1 : RowOk m ds1 o1) (ok2 : RowOk m ds2 o2) (hb : bs ∈ allB m) (hne : ¬ ob ds1 o1 q.1 bs = ob ds2 o2 q.2 bs) :
    (∀ c ∈ path wy cu ++ [bs], c.length = m ∧ ∀ x ∈ c, Bit x) ∧ ¬ (vals (2 ^ (path wy cu ++ [bs]).length) ds1 (wofL m (path wy cu ++ [bs]))).getD o1.toNat 0 = (vals (2 ^ (path wy cu ++ [bs]).length) ds2 (wofL m (path wy cu ++ [bs]))).getD o2.toNat 0 := by
  obtain ⟨p1, p2⟩ := bfs_path h cu cu q (Nat.le_refl _) hq
  have hall : ∀ c ∈ path wy cu ++ [bs], c.length = m ∧ ∀ x ∈ c, Bit x := fun c hc => by
    rcases List.mem_append.mp hc with z | z
    · exact allB_ok m c (p1 c z)
    · rw [List.mem_singleton.mp z]
      exact allB_ok m bs hb
  refine ⟨hall, fun e => hne ?_⟩
  have hl : (path wy cu ++ [bs]).length = (path wy cu).length + 1 := by rw [List.length_append]; rfl
  have hx := wofL_range hall
  have hm := wofL_len m (path wy cu ++ [bs])
  have hg : (path wy cu ++ [bs])[(path wy cu).length]? = some bs := by rw [List.getElem?_append_right (Nat.le_refl _), Nat.sub_self]; rfl
  have b1 := ob_bit (t := (path wy cu).length) ok1 hm hx (by omega)
  have b2 := ob_bit (t := (path wy cu).length) ok2 hm hx (by omega)
  rw [crry_run hall _ (by omega), wofL_bits hall hg, List.take_left] at b1 b2
  rw [p2, b1, b2, e]
/-! ### a walk by breadth, step by step -/
theorem pth_app {wy : List (Int × List Int)} (h : WayOk wy) (e : Int × List Int) : ∀ (f i : Nat), i < wy.length → pth (wy ++ [e]) f i = pth wy f i
  | 0, _, _ => rfl
  | f + 1, i, hi => by
    show (if i = 0 then [] else _) = (if i = 0 then [] else _)
    by_cases h0 : i = 0
    · rw [if_pos h0, if_pos h0]
    · rw [if_neg h0, if_neg h0, List.getElem?_append_left hi]
      have he : wy[i]? = some wy[i] := List.getElem?_eq_getElem hi
      have := h i _ he (by omega)
      rw [he]
      have hh := pth_app h e f wy[i].1.toNat (by omega)
      dsimp only
      rw [hh]
theorem path_app {wy : List (Int × List Int)} (h : WayOk wy) (e : Int × List Int) {i : Nat} (hi : i < wy.length) : path (wy ++ [e]) i = path wy i := pth_app h e i i hi
theorem dep_app {wy : List (Int × List Int)} (h : WayOk wy) (e : Int × List Int) {i : Nat} (hi : i < wy.length) : dep (wy ++ [e]) i = dep wy i := congrArg List.length (path_app h e hi)
/-- the current one is being looked at, by the first so many bits -/
structure BfsP (m : Nat) (ds1 : List Deed) (o1 : Int) (ds2 : List Deed) (o2 : Int) (ps : List PC) (wy : List (Int × List Int)) (cu k : Nat) (q : PC) : Prop where
  bfs : Bfs m ds1 o1 ds2 o2 ps wy cu
  here : ps[cu]? = some q
  near : ∀ j : Nat, j < ps.length → dep wy j ≤ dep wy cu + 1
  some : ∀ bs ∈ (allB m).take k, ob ds1 o1 q.1 bs = ob ds2 o2 q.2 bs ∧ ∃ i' : Nat, ps[i']? = some (nx2 ds1 ds2 q bs) ∧ dep wy i' ≤ dep wy cu + 1
theorem bfsp_old {m : Nat} {ds1 ds2 : List Deed} {o1 o2 : Int} {ps : List PC} {wy : List (Int × List Int)} {cu k : Nat} {q : PC} {bs : List Int} (h : BfsP m ds1 o1 ds2 o2 ps wy cu k q) (hb : (allB m)[k]? = some bs) (he : ob ds1 o1 q.1 bs = ob ds2 o2 q.2 bs) {i : Nat} (hi : ps[i]? = some (nx2 ds1 ds2 q bs)) : BfsP m ds1 o1 ds2 o2 ps wy cu (k + 1) q := by
  refine ⟨h.bfs, h.here, h.near, fun b hb' => ?_⟩
  rw [List.take_add_one, hb] at hb'
  rcases List.mem_append.mp hb' with z | z
  · exact h.some b z
  · obtain rfl : b = bs := by simpa using z
    exact ⟨he, i, hi, h.near i (List.getElem?_eq_some_iff.mp hi).1⟩
theorem bfsp_new {m : Nat} {ds1 ds2 : List Deed} {o1 o2 : Int} {ps : List PC} {wy : List (Int × List Int)} {cu k : Nat} {q : PC} {bs : List Int} (h : BfsP m ds1 o1 ds2 o2 ps wy cu k q) (hb : (allB m)[k]? = some bs) (he : ob ds1 o1 q.1 bs = ob ds2 o2 q.2 bs) : BfsP m ds1 o1 ds2 o2 (ps ++ [nx2 ds1 ds2 q bs]) (wy ++ [((cu : Int), bs)]) cu (k + 1) q := by
  have hB := h.bfs
  have hc := (List.getElem?_eq_some_iff.mp h.here).1
  have hl := hB.len
  have old : ∀ {j : Nat}, j < ps.length → dep (wy ++ [((cu : Int), bs)]) j = dep wy j := fun {j} hj => dep_app hB.ways _ (by omega)
  have wok : WayOk (wy ++ [((cu : Int), bs)]) := fun j e hj h0 => by
    by_cases hlt : j < wy.length
    · rw [List.getElem?_append_left hlt] at hj
      exact hB.ways j e hj h0
    · rw [List.getElem?_append_right (by omega)] at hj
      have hj1 := (List.getElem?_eq_some_iff.mp hj).1
      have e0 : j - wy.length = 0 := by simp only [List.length_cons, List.length_nil] at hj1; omega
      rw [e0] at hj
      obtain rfl : ((cu : Int), bs) = e := Option.some.inj hj
      show (0 : Int) ≤ (cu : Int) ∧ (cu : Int) < (j : Int)
      omega
  have last : (wy ++ [((cu : Int), bs)])[ps.length]? = some ((cu : Int), bs) := by
    rw [List.getElem?_append_right (by omega), hl, Nat.sub_self]
    rfl
  have dnew : dep (wy ++ [((cu : Int), bs)]) ps.length = dep wy cu + 1 := by
    unfold dep
    rw [path_next wok (by omega) last, List.length_append]
    show (path (wy ++ [((cu : Int), bs)]) (cu : Int).toNat).length + 1 = _
    rw [Int.toNat_natCast, path_app hB.ways _ (by omega)]
  have lift : ∀ {j : Nat} {r : PC}, ps[j]? = some r → (ps ++ [nx2 ds1 ds2 q bs])[j]? = some r := fun {j r} hj => by
    rw [List.getElem?_append_left (List.getElem?_eq_some_iff.mp hj).1]
    exact hj
  have back : ∀ {j : Nat} {r : PC}, j < ps.length → (ps ++ [nx2 ds1 ds2 q bs])[j]? = some r → ps[j]? = some r := fun {j r} hj hr => by
    rwa [List.getElem?_append_left hj] at hr
  have pl : (ps ++ [nx2 ds1 ds2 q bs]).length = ps.length + 1 := by rw [List.length_append]; rfl
  have cases' : ∀ {j : Nat}, j < (ps ++ [nx2 ds1 ds2 q bs]).length → j < ps.length ∨ j = ps.length := fun {j} hj => by omega
  have near' : ∀ j : Nat, j < (ps ++ [nx2 ds1 ds2 q bs]).length → dep (wy ++ [((cu : Int), bs)]) j ≤ dep wy cu + 1 := fun j hj => by
    rcases cases' hj with z | rfl
    · rw [old z]
      exact h.near j z
    · rw [dnew]
      exact Nat.le_refl _
  refine ⟨⟨lift hB.first, wok, by rw [List.length_append, pl, hl]; rfl, fun j e hj h0 => ?_, fun i r hi hr b hb' => ?_, fun i j hij hj => ?_⟩, lift h.here, fun j hj => by rw [old hc]; exact near' j hj, fun b hb' => ?_⟩
  · by_cases hlt : j < wy.length
    · rw [List.getElem?_append_left hlt] at hj
      obtain ⟨a1, r, a2, a3⟩ := hB.link j e hj h0
      exact ⟨a1, r, lift a2, lift a3⟩
    · have hj1 := (List.getElem?_eq_some_iff.mp hj).1
      rw [List.length_append] at hj1
      obtain rfl : j = ps.length := by
        have : j < wy.length + 1 := hj1
        omega
      rw [last] at hj
      obtain rfl : ((cu : Int), bs) = e := Option.some.inj hj
      refine ⟨List.mem_of_getElem? hb, q, ?_, ?_⟩
      · show (ps ++ [nx2 ds1 ds2 q bs])[(cu : Int).toNat]? = _
        rw [Int.toNat_natCast]
        exact lift h.here
      · rw [List.getElem?_append_right (Nat.le_refl _), Nat.sub_self]
        rfl
  · have hi' : i < ps.length := by omega
    obtain ⟨a1, i', a2, a3⟩ := hB.done i r hi (back hi' hr) b hb'
    refine ⟨a1, i', lift a2, ?_⟩
    rw [old hi', old (List.getElem?_eq_some_iff.mp a2).1]
    exact a3
  · rcases cases' hj with z | rfl
    · rw [old z, old (by omega)]
      exact hB.mono i j hij z
    · rw [dnew]
      exact near' i (by omega)
  · rw [List.take_add_one, hb] at hb'
    rw [old hc]
    rcases List.mem_append.mp hb' with z | z
    · obtain ⟨a1, i', a2, a3⟩ := h.some b z
      refine ⟨a1, i', lift a2, ?_⟩
      rw [old (List.getElem?_eq_some_iff.mp a2).1]
      exact a3
    · obtain rfl : b = bs := by simpa using z
      refine ⟨he, ps.length, ?_, by rw [dnew]; exact Nat.le_refl _⟩
      rw [List.getElem?_append_right (Nat.le_refl _), Nat.sub_self]
      rfl
theorem bfsp_done {m : Nat} {ds1 ds2 : List Deed} {o1 o2 : Int} {ps : List PC} {wy : List (Int × List Int)} {cu : Nat} {q : PC} (h : BfsP m ds1 o1 ds2 o2 ps wy cu (allB m).length q) : Bfs m ds1 o1 ds2 o2 ps wy (cu + 1) ∧ ∀ j : Nat, cu + 1 < ps.length → j < ps.length → dep wy j ≤ dep wy (cu + 1) + 1 := by
  refine ⟨⟨h.bfs.first, h.bfs.ways, h.bfs.len, h.bfs.link, fun i r hi hr bs hbs => ?_, h.bfs.mono⟩, fun j hc hj => ?_⟩
  · by_cases hlt : i < cu
    · exact h.bfs.done i r hlt hr bs hbs
    · obtain rfl : i = cu := by omega
      rw [h.here] at hr
      obtain rfl := Option.some.inj hr
      exact h.some bs (by rw [List.take_length]; exact hbs)
  · have a := h.near j hj
    have b := h.bfs.mono cu (cu + 1) (by omega) hc
    omega
theorem bfs_first (m : Nat) (ds1 : List Deed) (o1 : Int) (ds2 : List Deed) (o2 : Int) : Bfs m ds1 o1 ds2 o2 [(ds1.map fcD, ds2.map fcD)] [(0, [])] 0 := by
  refine ⟨rfl, fun j e hj h0 => ?_, rfl, fun j e hj h0 => ?_, fun i r hi => absurd hi (Nat.not_lt_zero _), fun i j hij hj => ?_⟩
  · have := (List.getElem?_eq_some_iff.mp hj).1
    simp only [List.length_cons, List.length_nil] at this
    omega
  · have := (List.getElem?_eq_some_iff.mp hj).1
    simp only [List.length_cons, List.length_nil] at this
    omega
  · simp only [List.length_cons, List.length_nil] at hj
    obtain rfl : j = 0 := by omega
    obtain rfl : i = 0 := by omega
    exact Nat.le_refl _
/-! ### pairs of carries in the heap -/
def kP (c1 c2 : List Int) : NestedKey := .tup [kC c1, kC c2]
theorem kP_inj {a b c d : List Int} (h : kP a b = kP c d) : a = c ∧ b = d := by
  have h1 := NestedKey.tup.inj h
  rw [List.cons.injEq, List.cons.injEq] at h1
  exact ⟨kC_inj h1.1, kC_inj h1.2.1⟩
def PrC (H : Hp) (p : Addr) (q : PC) : Prop := ∃ A B, H p = some (.tup [.ref A, .ref B]) ∧ H A = some (.tup (q.1.map V.int)) ∧ H B = some (.tup (q.2.map V.int))
theorem PrC.stay {H H' : Hp} {p : Addr} {q : PC} (h : PrC H p q) (t : TupsStay H H') : PrC H' p q := by
  obtain ⟨A, B, e1, e2, e3⟩ := h
  exact ⟨A, B, t _ _ e1, t _ _ e2, t _ _ e3⟩
theorem keyP {H : Hp} {T : Addr} {q : PC} (h : PrC H T q) : KeyN H (.ref T) (kP q.1 q.2) := by
  obtain ⟨A, B, e1, e2, e3⟩ := h
  refine ⟨.tup e1 (.cons (keyC e2).1 (.cons (keyC e3).1 .nil)), ?_, T, rfl⟩
  unfold kP kC
  simp [NestedKey.depth, NestedKey.depthAll, nums_depth]
theorem kC_at {H : Hp} {v : V} {c : List Int} (h : NkAt H (kC c) v) : ∃ A, v = .ref A ∧ H A = some (.tup (c.map V.int)) := by
  unfold kC at h
  cases h with
  | tup e hs => exact ⟨_, rfl, by rw [← nks_eq hs]; exact e⟩
theorem prC_of {H : Hp} {T : Addr} {q : PC} (h : NkAt H (kP q.1 q.2) (.ref T)) : PrC H T q := by
  unfold kP at h
  cases h with
  | tup e hs =>
    cases hs with
    | cons h1 h2 =>
      cases h2 with
      | cons h3 h4 =>
        cases h4
        obtain ⟨A, rfl, eA⟩ := kC_at h1
        obtain ⟨B, rfl, eB⟩ := kC_at h3
        exact ⟨A, B, e, eA, eB⟩
abbrev PtAt (H : Hp) : List Addr → List PC → Prop := Paired (PrC H)
theorem ptat_stay {H H' : Hp} (t : TupsStay H H') {qs : List Addr} {l : List PC} (h : PtAt H qs l) : PtAt H' qs l := awMap (fun _ _ e => e.stay t) h
structure PcOk (ds1 ds2 : List Deed) (q : PC) : Prop where
  l1 : q.1.length = ds1.length
  b1 : ∀ x ∈ q.1, Bit x
  l2 : q.2.length = ds2.length
  b2 : ∀ x ∈ q.2, Bit x
theorem nx2_ok {m : Nat} {ds1 ds2 : List Deed} {q : PC} {bs : List Int} (h : PcOk ds1 ds2 q) (hb : bs ∈ allB m) : PcOk ds1 ds2 (nx2 ds1 ds2 q bs) := by
  have h3 := (allB_ok m bs hb).2
  exact ⟨nxt_len h.l1.symm, nxt_bits (bts_bits h3 h.b1) h.b1, nxt_len h.l2.symm, nxt_bits (bts_bits h3 h.b2) h.b2⟩
theorem pc_first (ds1 ds2 : List Deed) : PcOk ds1 ds2 (ds1.map fcD, ds2.map fcD) := ⟨(rch_shp (crry_rch ds1 [] 0)).len, (rch_shp (crry_rch ds1 [] 0)).bits, (rch_shp (crry_rch ds2 [] 0)).len, (rch_shp (crry_rch ds2 [] 0)).bits⟩
/-- as many pairs as there can be -/
theorem few_pairs {ds1 ds2 : List Deed} {ps : List PC} (nd : ps.Nodup) (h : ∀ q ∈ ps, PcOk ds1 ds2 q) (l1 : ds1.length ≤ 8) (l2 : ds2.length ≤ 8) : ps.length ≤ 65536 := by
  have bn : ∀ n : Nat, ∀ c : List Int, c.length = n → (∀ x ∈ c, Bit x) → c ∈ allB n := fun n c hc hb => allB_all n c hc hb
  have sub : ∀ q ∈ ps, q ∈ (allB ds1.length).flatMap fun a => (allB ds2.length).map fun b => (a, b) := fun q hq => by
    have k := h q hq
    exact List.mem_flatMap.mpr ⟨q.1, bn _ _ k.l1 k.b1, List.mem_map.mpr ⟨q.2, bn _ _ k.l2 k.b2, rfl⟩⟩
  have le := pigeon ps _ nd sub
  have key : ∀ L : List (List Int), (L.flatMap fun a => (allB ds2.length).map fun b => (a, b)).length = L.length * 2 ^ ds2.length := by
    intro L
    induction L with
    | nil => simp
    | cons a L ih =>
      rw [List.flatMap_cons, List.length_append, ih, List.length_map, allB_len, List.length_cons, Nat.succ_mul]
      omega
  rw [key, allB_len] at le
  have p1 : 2 ^ ds1.length ≤ 256 := Nat.le_trans (Nat.pow_le_pow_right (by decide) l1) (by decide)
  have p2 : 2 ^ ds2.length ≤ 256 := Nat.le_trans (Nat.pow_le_pow_right (by decide) l2) (by decide)
  have := Nat.mul_le_mul p1 p2
  omega
/-! ### walks by breadth, of any kind -/
structure BfsG {S : Type} (m : Nat) (nx : S → List Int → S) (gd : S → List Int → Prop) (s0 : S) (ps : List S) (wy : List (Int × List Int)) (cu : Nat) : Prop where
  first : ps[0]? = some s0
  ways : WayOk wy
  len : wy.length = ps.length
  link : ∀ (j : Nat) e, wy[j]? = some e → 0 < j → e.2 ∈ allB m ∧ ∃ q, ps[e.1.toNat]? = some q ∧ ps[j]? = some (nx q e.2)
  done : ∀ (i : Nat) q, i < cu → ps[i]? = some q → ∀ bs ∈ allB m, gd q bs ∧ ∃ i' : Nat, ps[i']? = some (nx q bs) ∧ dep wy i' ≤ dep wy i + 1
  mono : ∀ i j : Nat, i ≤ j → j < ps.length → dep wy i ≤ dep wy j
theorem bfs_pathG {m : Nat} {S : Type} {nx : S → List Int → S} {gd : S → List Int → Prop} {s0 : S} {ps : List S} {wy : List (Int × List Int)} {cu : Nat} (h : BfsG m nx gd s0 ps wy cu) : ∀ (n i : Nat) q, i ≤ n → ps[i]? = some q → (∀ b ∈ path wy i, b ∈ allB m) ∧ q = (path wy i).foldl nx s0
  | n, 0, q, _, hq => by
    rw [h.first] at hq
    obtain rfl := Option.some.inj hq
    exact ⟨(fun _ z => nomatch z), rfl⟩
  | 0, i + 1, q, hi, _ => by omega
  | n + 1, i + 1, q, hi, hq => by
    have hl : i + 1 < wy.length := by
      rw [h.len]
      exact (List.getElem?_eq_some_iff.mp hq).1
    have he : wy[i + 1]? = some wy[i + 1] := List.getElem?_eq_getElem hl
    obtain ⟨hb, q0, hq0, hq1⟩ := h.link _ _ he (by omega)
    have wk := h.ways _ _ he (by omega)
    obtain ⟨ih1, ih2⟩ := bfs_pathG h n wy[i + 1].1.toNat q0 (by omega) hq0
    rw [hq] at hq1
    obtain rfl := Option.some.inj hq1
    rw [path_next h.ways (by omega) he]
    refine ⟨fun b hb' => ?_, ?_⟩
    · rcases List.mem_append.mp hb' with z | z
      · exact ih1 b z
      · rw [List.mem_singleton.mp z]
        exact hb
    · rw [List.foldl_append, ← ih2]
      rfl
/-- the current one is being looked at, by the first so many bits -/
structure BfsPG {S : Type} (m : Nat) (nx : S → List Int → S) (gd : S → List Int → Prop) (s0 : S) (ps : List S) (wy : List (Int × List Int)) (cu k : Nat) (q : S) : Prop where
  bfs : BfsG m nx gd s0 ps wy cu
  here : ps[cu]? = some q
  near : ∀ j : Nat, j < ps.length → dep wy j ≤ dep wy cu + 1
  some : ∀ bs ∈ (allB m).take k, gd q bs ∧ ∃ i' : Nat, ps[i']? = some (nx q bs) ∧ dep wy i' ≤ dep wy cu + 1
theorem bfsp_oldG {m : Nat} {S : Type} {nx : S → List Int → S} {gd : S → List Int → Prop} {s0 : S} {ps : List S} {wy : List (Int × List Int)} {cu k : Nat} {q : S} {bs : List Int} (h : BfsPG m nx gd s0 ps wy cu k q) (hb : (allB m)[k]? = some bs) (he : gd q bs) {i : Nat} (hi : ps[i]? = some (nx q bs)) : BfsPG m nx gd s0 ps wy cu (k + 1) q := by
  refine ⟨h.bfs, h.here, h.near, fun b hb' => ?_⟩
  rw [List.take_add_one, hb] at hb'
  rcases List.mem_append.mp hb' with z | z
  · exact h.some b z
  · obtain rfl : b = bs := by simpa using z
    exact ⟨he, i, hi, h.near i (List.getElem?_eq_some_iff.mp hi).1⟩
theorem bfsp_newG {m : Nat} {S : Type} {nx : S → List Int → S} {gd : S → List Int → Prop} {s0 : S} {ps : List S} {wy : List (Int × List Int)} {cu k : Nat} {q : S} {bs : List Int} (h : BfsPG m nx gd s0 ps wy cu k q) (hb : (allB m)[k]? = some bs) (he : gd q bs) : BfsPG m nx gd s0 (ps ++ [nx q bs]) (wy ++ [((cu : Int), bs)]) cu (k + 1) q := by
  have hB := h.bfs
  have hc := (List.getElem?_eq_some_iff.mp h.here).1
  have hl := hB.len
  have old : ∀ {j : Nat}, j < ps.length → dep (wy ++ [((cu : Int), bs)]) j = dep wy j := fun {j} hj => dep_app hB.ways _ (by omega)
  have wok : WayOk (wy ++ [((cu : Int), bs)]) := fun j e hj h0 => by
    by_cases hlt : j < wy.length
    · rw [List.getElem?_append_left hlt] at hj
      exact hB.ways j e hj h0
    · rw [List.getElem?_append_right (by omega)] at hj
      have hj1 := (List.getElem?_eq_some_iff.mp hj).1
      have e0 : j - wy.length = 0 := by simp only [List.length_cons, List.length_nil] at hj1; omega
      rw [e0] at hj
      obtain rfl : ((cu : Int), bs) = e := Option.some.inj hj
      show (0 : Int) ≤ (cu : Int) ∧ (cu : Int) < (j : Int)
      omega
  have last : (wy ++ [((cu : Int), bs)])[ps.length]? = some ((cu : Int), bs) := by
    rw [List.getElem?_append_right (by omega), hl, Nat.sub_self]
    rfl
  have dnew : dep (wy ++ [((cu : Int), bs)]) ps.length = dep wy cu + 1 := by
    unfold dep
    rw [path_next wok (by omega) last, List.length_append]
    show (path (wy ++ [((cu : Int), bs)]) (cu : Int).toNat).length + 1 = _
    rw [Int.toNat_natCast, path_app hB.ways _ (by omega)]
  have lift : ∀ {j : Nat} {r : S}, ps[j]? = some r → (ps ++ [nx q bs])[j]? = some r := fun {j r} hj => by
    rw [List.getElem?_append_left (List.getElem?_eq_some_iff.mp hj).1]
    exact hj
  have back : ∀ {j : Nat} {r : S}, j < ps.length → (ps ++ [nx q bs])[j]? = some r → ps[j]? = some r := fun {j r} hj hr => by
    rwa [List.getElem?_append_left hj] at hr
  have pl : (ps ++ [nx q bs]).length = ps.length + 1 := by rw [List.length_append]; rfl
  have cases' : ∀ {j : Nat}, j < (ps ++ [nx q bs]).length → j < ps.length ∨ j = ps.length := fun {j} hj => by omega
  have near' : ∀ j : Nat, j < (ps ++ [nx q bs]).length → dep (wy ++ [((cu : Int), bs)]) j ≤ dep wy cu + 1 := fun j hj => by
    rcases cases' hj with z | rfl
    · rw [old z]
      exact h.near j z
    · rw [dnew]
      exact Nat.le_refl _
  refine ⟨⟨lift hB.first, wok, by rw [List.length_append, pl, hl]; rfl, fun j e hj h0 => ?_, fun i r hi hr b hb' => ?_, fun i j hij hj => ?_⟩, lift h.here, fun j hj => by rw [old hc]; exact near' j hj, fun b hb' => ?_⟩
  · by_cases hlt : j < wy.length
    · rw [List.getElem?_append_left hlt] at hj
      obtain ⟨a1, r, a2, a3⟩ := hB.link j e hj h0
      exact ⟨a1, r, lift a2, lift a3⟩
    · have hj1 := (List.getElem?_eq_some_iff.mp hj).1
      rw [List.length_append] at hj1
      obtain rfl : j = ps.length := by
        have : j < wy.length + 1 := hj1
        omega
      rw [last] at hj
      obtain rfl : ((cu : Int), bs) = e := Option.some.inj hj
      refine ⟨List.mem_of_getElem? hb, q, ?_, ?_⟩
      · show (ps ++ [nx q bs])[(cu : Int).toNat]? = _
        rw [Int.toNat_natCast]
        exact lift h.here
      · rw [List.getElem?_append_right (Nat.le_refl _), Nat.sub_self]
        rfl
  · have hi' : i < ps.length := by omega
    obtain ⟨a1, i', a2, a3⟩ := hB.done i r hi (back hi' hr) b hb'
    refine ⟨a1, i', lift a2, ?_⟩
    rw [old hi', old (List.getElem?_eq_some_iff.mp a2).1]
    exact a3
  · rcases cases' hj with z | rfl
    · rw [old z, old (by omega)]
      exact hB.mono i j hij z
    · rw [dnew]
      exact near' i (by omega)
  · rw [List.take_add_one, hb] at hb'
    rw [old hc]
    rcases List.mem_append.mp hb' with z | z
    · obtain ⟨a1, i', a2, a3⟩ := h.some b z
      refine ⟨a1, i', lift a2, ?_⟩
      rw [old (List.getElem?_eq_some_iff.mp a2).1]
      exact a3
    · obtain rfl : b = bs := by simpa using z
      refine ⟨he, ps.length, ?_, by rw [dnew]; exact Nat.le_refl _⟩
      rw [List.getElem?_append_right (Nat.le_refl _), Nat.sub_self]
      rfl
theorem bfsp_doneG {m : Nat} {S : Type} {nx : S → List Int → S} {gd : S → List Int → Prop} {s0 : S} {ps : List S} {wy : List (Int × List Int)} {cu : Nat} {q : S} (h : BfsPG m nx gd s0 ps wy cu (allB m).length q) : BfsG m nx gd s0 ps wy (cu + 1) ∧ ∀ j : Nat, cu + 1 < ps.length → j < ps.length → dep wy j ≤ dep wy (cu + 1) + 1 := by
  refine ⟨⟨h.bfs.first, h.bfs.ways, h.bfs.len, h.bfs.link, fun i r hi hr bs hbs => ?_, h.bfs.mono⟩, fun j hc hj => ?_⟩
  · by_cases hlt : i < cu
    · exact h.bfs.done i r hlt hr bs hbs
    · obtain rfl : i = cu := by omega
      rw [h.here] at hr
      obtain rfl := Option.some.inj hr
      exact h.some bs (by rw [List.take_length]; exact hbs)
  · have a := h.near j hj
    have b := h.bfs.mono cu (cu + 1) (by omega) hc
    omega
theorem bfs_firstG {S : Type} (m : Nat) (nx : S → List Int → S) (gd : S → List Int → Prop) (s0 : S) : BfsG m nx gd s0 [s0] [(0, [])] 0 := by
  refine ⟨rfl, fun j e hj h0 => ?_, rfl, fun j e hj h0 => ?_, fun i r hi => absurd hi (Nat.not_lt_zero _), fun i j hij hj => ?_⟩
  · have := (List.getElem?_eq_some_iff.mp hj).1
    simp only [List.length_cons, List.length_nil] at this
    omega
  · have := (List.getElem?_eq_some_iff.mp hj).1
    simp only [List.length_cons, List.length_nil] at this
    omega
  · simp only [List.length_cons, List.length_nil] at hj
    obtain rfl : j = 0 := by omega
    obtain rfl : i = 0 := by omega
    exact Nat.le_refl _
/-! ### pairs that come in so many steps -/
def RtG {S : Type} (m : Nat) (nx : S → List Int → S) (s0 : S) : Nat → S → Prop
  | 0, q => q = s0
  | t + 1, q => ∃ q0 bs, RtG m nx s0 t q0 ∧ bs ∈ allB m ∧ q = nx q0 bs
/-- some pair that comes in so many steps parts the outs -/
def PrtSG {S : Type} (m : Nat) (nx : S → List Int → S) (gd : S → List Int → Prop) (s0 : S) (t : Nat) : Prop := ∃ q bs, RtG m nx s0 t q ∧ bs ∈ allB m ∧ ¬ gd q bs
/-- the least width at which two rows part, or 0 -/
def LeastWG {S : Type} (m : Nat) (nx : S → List Int → S) (gd : S → List Int → Prop) (s0 : S) (n : Nat) : Prop := (n = 0 ∧ ∀ t, ¬ PrtSG m nx gd s0 t) ∨ ∃ t, n = t + 1 ∧ PrtSG m nx gd s0 t ∧ ∀ s, s < t → ¬ PrtSG m nx gd s0 s
theorem rt_pathG {m : Nat} {S : Type} {nx : S → List Int → S} {s0 : S} : ∀ {cs : List (List Int)}, (∀ c ∈ cs, c ∈ allB m) → RtG m nx s0 cs.length (cs.foldl nx s0) := by
  intro cs
  suffices hh : ∀ (n : Nat) (cs : List (List Int)), cs.length = n → (∀ c ∈ cs, c ∈ allB m) → RtG m nx s0 n (cs.foldl nx s0) from hh cs.length cs rfl
  intro n
  induction n with
  | zero =>
    intro cs hl _
    rw [List.length_eq_zero_iff.mp hl]
    exact rfl
  | succ n ih =>
    intro cs hl hc
    have hne : cs ≠ [] := fun z => by rw [z] at hl; cases hl
    have e := List.dropLast_concat_getLast hne
    rw [← e, List.foldl_append]
    refine ⟨_, cs.getLast hne, ih cs.dropLast (by rw [List.length_dropLast, hl]; rfl) (fun c hc' => hc c (List.dropLast_subset _ hc')), hc _ (List.getLast_mem hne), rfl⟩
theorem bfs_neverG {m : Nat} {S : Type} {nx : S → List Int → S} {gd : S → List Int → Prop} {s0 : S} {ps : List S} {wy : List (Int × List Int)} (h : BfsG m nx gd s0 ps wy ps.length) (t : Nat) : ¬ PrtSG m nx gd s0 t := by
  have all : ∀ (t : Nat) q, RtG m nx s0 t q → q ∈ ps := by
    intro t
    induction t with
    | zero =>
      intro q hq
      have hq' : q = _ := hq
      rw [hq']
      exact List.mem_of_getElem? h.first
    | succ t ih =>
      rintro q ⟨q0, bs, h0, hb, rfl⟩
      obtain ⟨i, hi⟩ := List.mem_iff_getElem?.mp (ih q0 h0)
      obtain ⟨_, i', hi', _⟩ := h.done i q0 (List.getElem?_eq_some_iff.mp hi).1 hi bs hb
      exact List.mem_of_getElem? hi'
  rintro ⟨q, bs, hq, hb, hne⟩
  obtain ⟨i, hi⟩ := List.mem_iff_getElem?.mp (all t q hq)
  exact hne (h.done i q (List.getElem?_eq_some_iff.mp hi).1 hi bs hb).1
theorem bfs_firstwG {m : Nat} {S : Type} {nx : S → List Int → S} {gd : S → List Int → Prop} {s0 : S} {ps : List S} {wy : List (Int × List Int)} {cu : Nat} {q : S} {bs : List Int} (h : BfsG m nx gd s0 ps wy cu) (hq : ps[cu]? = some q) (hb : bs ∈ allB m) (hne : ¬ gd q bs) :
    LeastWG m nx gd s0 (path wy cu ++ [bs]).length := by
  have hc := (List.getElem?_eq_some_iff.mp hq).1
  have below : ∀ (t : Nat) q, t ≤ dep wy cu → RtG m nx s0 t q → ∃ i : Nat, ps[i]? = some q ∧ dep wy i ≤ t := by
    intro t
    induction t with
    | zero =>
      intro q _ hq
      have hq' : q = _ := hq
      exact ⟨0, by rw [hq']; exact h.first, Nat.le_refl _⟩
    | succ t ih =>
      rintro q ht ⟨q0, bs, h0, hb, rfl⟩
      obtain ⟨i, hi, hd⟩ := ih q0 (by omega) h0
      have lt : i < cu := by
        by_cases hh : i < cu
        · exact hh
        · have := h.mono cu i (by omega) (List.getElem?_eq_some_iff.mp hi).1
          omega
      obtain ⟨_, i', hi', hd'⟩ := h.done i q0 lt hi bs hb
      exact ⟨i', hi', by omega⟩
  obtain ⟨p1, p2⟩ := bfs_pathG h cu cu q (Nat.le_refl _) hq
  refine .inr ⟨(path wy cu).length, by rw [List.length_append]; rfl, ⟨q, bs, ?_, hb, hne⟩, fun s hs => ?_⟩
  · rw [p2]
    exact rt_pathG p1
  · rintro ⟨q', bs', hq', hb', hne'⟩
    have hs' : s < dep wy cu := hs
    obtain ⟨i, hi, hd⟩ := below s q' (by omega) hq'
    have lt : i < cu := by
      by_cases hh : i < cu
      · exact hh
      · have := h.mono cu i (by omega) (List.getElem?_eq_some_iff.mp hi).1
        omega
    exact hne' (h.done i q' lt hi bs' hb').1
theorem least_uniqG {m : Nat} {S : Type} {nx : S → List Int → S} {gd : S → List Int → Prop} {s0 : S} {n n' : Nat} (h : LeastWG m nx gd s0 n) (h' : LeastWG m nx gd s0 n') : n = n' := by
  rcases h with ⟨rfl, h1⟩ | ⟨t, rfl, h1, h2⟩
  · rcases h' with ⟨rfl, _⟩ | ⟨t', rfl, h1', _⟩
    · rfl
    · exact absurd h1' (h1 t')
  · rcases h' with ⟨rfl, h1'⟩ | ⟨t', rfl, h1', h2'⟩
    · exact absurd h1 (h1' t)
    · have : t = t' := by
        rcases Nat.lt_trichotomy t t' with z | z | z
        · exact absurd h1 (h2' t z)
        · exact z
        · exact absurd h1' (h2 t' z)
      rw [this]
/-- a layer of the law's own walk: all that come in so many steps are met; those met are looked at, or in the layer -/
structure LayG {S : Type} (m : Nat) (nx : S → List Int → S) (gd : S → List Int → Prop) (s0 : S) (met layer : List S) (t : Nat) : Prop where
  nd : met.Nodup
  ok : ∀ q ∈ met, ∃ t, RtG m nx s0 t q
  lay : ∀ q ∈ layer, q ∈ met ∧ RtG m nx s0 t q
  all : ∀ q, RtG m nx s0 t q → q ∈ met
  seen : ∀ s q, s < t → RtG m nx s0 s q → ∀ bs ∈ allB m, gd q bs
  done : ∀ q ∈ met, q ∉ layer → ∀ bs ∈ allB m, gd q bs ∧ nx q bs ∈ met
/-- the same while the layer is gone through: the first so many are looked at; later ones are new -/
structure LayPG {S : Type} (m : Nat) (nx : S → List Int → S) (gd : S → List Int → Prop) (s0 : S) (old layer : List S) (t : Nat) (met later : List S) (k : Nat) : Prop where
  lay : LayG m nx gd s0 old layer t
  nd : met.Nodup
  ok : ∀ q ∈ met, ∃ t, RtG m nx s0 t q
  split : ∀ q, q ∈ met ↔ q ∈ old ∨ q ∈ later
  len : met.length = old.length + later.length
  news : ∀ q ∈ later, RtG m nx s0 (t + 1) q
  fore : ∀ q ∈ layer.take k, ∀ bs ∈ allB m, gd q bs ∧ nx q bs ∈ met
theorem lay_firstG {S : Type} (m : Nat) (nx : S → List Int → S) (gd : S → List Int → Prop) (s0 : S) : LayG m nx gd s0 [s0] [s0] 0 :=
  ⟨by simp, fun q hq => by rw [List.mem_singleton.mp hq]; exact ⟨0, rfl⟩, fun q hq => ⟨hq, List.mem_singleton.mp hq⟩, fun q hq => List.mem_singleton.mpr hq, fun s q hs => absurd hs (Nat.not_lt_zero _), fun q hq hn => absurd hq hn⟩
theorem layp_firstG {m : Nat} {S : Type} {nx : S → List Int → S} {gd : S → List Int → Prop} {s0 : S} {met layer : List S} {t : Nat} (h : LayG m nx gd s0 met layer t) : LayPG m nx gd s0 met layer t met [] 0 :=
  ⟨h, h.nd, h.ok, fun q => ⟨.inl, fun z => z.elim id fun y => nomatch y⟩, rfl, (fun _ z => nomatch z), (fun _ z => by rw [List.take_zero] at z; cases z)⟩
theorem layp_doneG {m : Nat} {S : Type} {nx : S → List Int → S} {gd : S → List Int → Prop} {s0 : S} {old layer met later : List S} {t : Nat} (h : LayPG m nx gd s0 old layer t met later layer.length) : LayG m nx gd s0 met later (t + 1) := by
  have step : ∀ q ∈ old, ∀ bs ∈ allB m, gd q bs ∧ nx q bs ∈ met := fun q hq bs hb => by
    by_cases hl : q ∈ layer
    · exact h.fore q (by rw [List.take_length]; exact hl) bs hb
    · obtain ⟨a, b⟩ := h.lay.done q hq hl bs hb
      exact ⟨a, (h.split _).mpr (.inl b)⟩
  refine ⟨h.nd, h.ok, fun q hq => ⟨(h.split q).mpr (.inr hq), h.news q hq⟩, fun q hq => ?_, fun s q hs hq => ?_, fun q hq hn bs hb => ?_⟩
  · obtain ⟨q0, bs, h0, hb, rfl⟩ := hq
    exact (step q0 (h.lay.all q0 h0) bs hb).2
  · intro bs hb
    by_cases e : s = t
    · subst e
      exact (step q (h.lay.all q hq) bs hb).1
    · exact h.lay.seen s q (by omega) hq bs hb
  · rcases (h.split q).mp hq with z | z
    · exact step q z bs hb
    · exact absurd z hn
theorem lay_endG {m : Nat} {S : Type} {nx : S → List Int → S} {gd : S → List Int → Prop} {s0 : S} {met : List S} {t : Nat} (h : LayG m nx gd s0 met [] t) : LeastWG m nx gd s0 0 := by
  refine .inl ⟨rfl, fun s => ?_⟩
  have cl : ∀ q ∈ met, ∀ bs ∈ allB m, gd q bs ∧ nx q bs ∈ met := fun q hq => h.done q hq (fun z => nomatch z)
  have all : ∀ (d : Nat) q, RtG m nx s0 (t + d) q → q ∈ met := by
    intro d
    induction d with
    | zero => exact fun q hq => h.all q hq
    | succ d ih =>
      rintro q ⟨q0, bs, h0, hb, rfl⟩
      exact (cl q0 (ih q0 h0) bs hb).2
  rintro ⟨q, bs, hq, hb, hne⟩
  by_cases hs : s < t
  · exact hne (h.seen s q hs hq bs hb)
  · have e : s = t + (s - t) := by omega
    rw [e] at hq
    exact hne (cl q (all _ q hq) bs hb).1
theorem layp_partG {m : Nat} {S : Type} {nx : S → List Int → S} {gd : S → List Int → Prop} {s0 : S} {old layer met later : List S} {t k : Nat} (h : LayPG m nx gd s0 old layer t met later k) {q : S} (hq : q ∈ layer) {bs : List Int} (hb : bs ∈ allB m) (hne : ¬ gd q bs) : LeastWG m nx gd s0 (t + 1) :=
  .inr ⟨t, rfl, ⟨q, bs, (h.lay.lay q hq).2, hb, hne⟩, fun s hs => fun ⟨q', bs', hq', hb', hne'⟩ => hne' (h.lay.seen s q' hs hq' bs' hb')⟩
/-- one pair of the layer is looked at, by the first so many bits -/
structure LayBG {S : Type} (m : Nat) (nx : S → List Int → S) (gd : S → List Int → Prop) (s0 : S) (old layer : List S) (t : Nat) (met later : List S) (k j : Nat) (q : S) : Prop where
  p : LayPG m nx gd s0 old layer t met later k
  here : layer[k]? = some q
  bits : ∀ bs ∈ (allB m).take j, gd q bs ∧ nx q bs ∈ met
theorem layb_firstG {m : Nat} {S : Type} {nx : S → List Int → S} {gd : S → List Int → Prop} {s0 : S} {old layer met later : List S} {t k : Nat} {q : S} (h : LayPG m nx gd s0 old layer t met later k) (hq : layer[k]? = some q) : LayBG m nx gd s0 old layer t met later k 0 q :=
  ⟨h, hq, (fun _ z => by rw [List.take_zero] at z; cases z)⟩
theorem layb_oldG {m : Nat} {S : Type} {nx : S → List Int → S} {gd : S → List Int → Prop} {s0 : S} {old layer met later : List S} {t k j : Nat} {q : S} {bs : List Int} (h : LayBG m nx gd s0 old layer t met later k j q) (hb : (allB m)[j]? = some bs) (he : gd q bs) (hi : nx q bs ∈ met) : LayBG m nx gd s0 old layer t met later k (j + 1) q := by
  refine ⟨h.p, h.here, fun b hb' => ?_⟩
  rw [List.take_add_one, hb] at hb'
  rcases List.mem_append.mp hb' with z | z
  · exact h.bits b z
  · obtain rfl : b = bs := by simpa using z
    exact ⟨he, hi⟩
theorem layb_newG {m : Nat} {S : Type} {nx : S → List Int → S} {gd : S → List Int → Prop} {s0 : S} {old layer met later : List S} {t k j : Nat} {q : S} {bs : List Int} (h : LayBG m nx gd s0 old layer t met later k j q) (hb : (allB m)[j]? = some bs) (he : gd q bs) (hi : nx q bs ∉ met) : LayBG m nx gd s0 old layer t (met ++ [nx q bs]) (later ++ [nx q bs]) k (j + 1) q := by
  have hbm := List.mem_of_getElem? hb
  have hql := List.mem_of_getElem? h.here
  have hqm := h.p.lay.lay q hql
  refine ⟨⟨h.p.lay, ?_, fun x hx => ?_, fun x => ?_, ?_, fun x hx => ?_, fun x hx b hb' => ?_⟩, h.here, fun b hb' => ?_⟩
  · refine List.nodup_append.mpr ⟨h.p.nd, by simp, fun a ha b hb z => ?_⟩
    rw [List.mem_singleton.mp hb] at z
    rw [z] at ha
    exact hi ha
  · rcases List.mem_append.mp hx with z | z
    · exact h.p.ok x z
    · rw [List.mem_singleton.mp z]
      exact ⟨t + 1, q, bs, hqm.2, hbm, rfl⟩
  · rw [List.mem_append, List.mem_append, h.p.split x, or_assoc]
  · rw [List.length_append, List.length_append, h.p.len, Nat.add_assoc]
  · rcases List.mem_append.mp hx with z | z
    · exact h.p.news x z
    · rw [List.mem_singleton.mp z]
      exact ⟨q, bs, hqm.2, hbm, rfl⟩
  · obtain ⟨a, c⟩ := h.p.fore x hx b hb'
    exact ⟨a, List.mem_append_left _ c⟩
  · rw [List.take_add_one, hb] at hb'
    rcases List.mem_append.mp hb' with z | z
    · obtain ⟨a, c⟩ := h.bits b z
      exact ⟨a, List.mem_append_left _ c⟩
    · obtain rfl : b = bs := by simpa using z
      exact ⟨he, List.mem_append_right _ List.mem_cons_self⟩
theorem layb_doneG {m : Nat} {S : Type} {nx : S → List Int → S} {gd : S → List Int → Prop} {s0 : S} {old layer met later : List S} {t k : Nat} {q : S} (h : LayBG m nx gd s0 old layer t met later k (allB m).length q) : LayPG m nx gd s0 old layer t met later (k + 1) := by
  refine ⟨h.p.lay, h.p.nd, h.p.ok, h.p.split, h.p.len, h.p.news, fun x hx => ?_⟩
  rw [List.take_add_one, h.here] at hx
  rcases List.mem_append.mp hx with z | z
  · exact h.p.fore x z
  · obtain rfl : x = q := by simpa using z
    intro bs hb
    exact h.bits bs (by rw [List.take_length]; exact hb)
/-! ### defs in which data is shown: the guards are known -/
structure FnG (P : Program) (w : World) (K : PySem.W.Frag) (mg : Str → Option Value) (base : Heap) (k : Nat) (f : Addr) (fd : FuncData) (ps : List Str) (sp : Sp) : Prop where
  len : ∀ vs H Q E, sp vs H Q E → vs.length = ps.length
  run : ∀ (A : Around) (outer : List Env) (s : Shared) (H : Hp) (args : Args) (us : List Value) (vs : List V) (Q : VK) (E : XK), Room k A → A.guards = some [] → Env0 P w K mg base A outer s H → BindsTo s fd args (ps.zip us) → Vals vs us → sp vs H Q E →
    codeAny (model P w) A (.call (.ref f) args) (CR CX0 outer P w H s Q E) s
theorem fun_okG {x qual : Str} {st : Stmt} {f : Addr} {fd : FuncData} {N ps : List Str} {k : Nat} {sp : Sp} (F : Fun K x qual st f fd) (S : FnScope N ps (defScope st)) (len : ∀ vs H Q E, sp vs H Q E → vs.length = ps.length)
    (hbody : ∀ (cdv : Value) (A : Around) (outer : List Env) (s : Shared) (H : Hp) (vs : List V) (Q : VK) (E : XK), Room k (A.deeper (envOfC qual (defScope st) s.heap.objs.size f cdv)) → (A.deeper (envOfC qual (defScope st) s.heap.objs.size f cdv)).guards = some [] → sp vs H Q E →
      ∃ t, PSs (cxOf CX0 P w K mg base N qual (defScope st) f cdv A outer s H E).nox (defBody st) t ∧ t { nx := fun _ H' => Q .non H', rt := Q } (start N vs) H) : FnG P w K mg base (k + 1) f fd ps sp :=
  ⟨len, fun A outer s H args us vs Q E hr hg e0 hb r hs => fn_at F S hr e0 hb r (len _ _ _ _ hs) fun cdv => hbody cdv A outer s H vs Q E (Room.deeper hr _) hg hs⟩
section
variable {X : Cx} {k : Nat} {f : Addr} {fd : FuncData} {ps : List Str} {sp : Sp} {x : Str} {p pos : Pos} {e : Expr} {es : List Expr} {t : TA}
theorem run_fnG {pins : List (Addr × Obj)} {σ : L2.St} {H : Hp} {s : Shared} {Q : VK} {us : List Value} {vs : List V} (F : FnG X.prog X.w X.K X.mg X.base k f fd ps sp) (hr : Room k X.A) (hgd : X.A.guards = some []) (hb : Binds X.K fd ps [])
    (I : Inv X pins σ H s) (r : Vals vs us) (h : sp vs H Q E0) : wpAny (model X.prog X.w) X.A (call (.ref f) us) (EP X pins σ Q) X.xe s := by
  have hl : us.length = ps.length := by rw [← r.length]; exact F.len _ _ _ _ h
  have b := hb s us I.kIn (by rw [List.append_nil]; exact hl)
  rw [List.append_nil] at b
  refine wpAny_call (codeAny_mono (F.run X.A X.stack s H ⟨us, []⟩ us vs Q E0 hr hgd I.env0 b r h) fun r s' hq => ?_)
  cases r with
  | error e => exact False.elim hq
  | ok fl =>
    cases fl with
    | ret u => exact I.after hq
    | next => exact False.elim hq
    | brk => exact False.elim hq
    | cont => exact False.elim hq
theorem pe_callG (F : FnG X.prog X.w X.K X.mg X.base k f fd ps sp) (hr : Room k X.A) (hgd : X.A.guards = some []) (hg : Gl X x) (hm : X.mg x = some (.ref f)) (hk : PySem.W.keepIn X.K (.ref f) = true) (hb : Binds X.K fd ps [])
    (ha : PA X (e :: es) t) (hdb : (x == ("__debug__" : Str)) = false := by decide) (he : starEach (e :: es) X.env = (false, eval e X.env) :: starEach es X.env := by rfl) (hpl : (backTo pos (starEach es X.env)).any (·.1) = false := by rfl) :
    PE X (.Call (.Name x p) (e :: es) [] pos) (tCallS sp (fun _ => E0) t) := by
  refine ⟨fun pins s σ H Q I h => ?_⟩
  refine wpAny_Call_Name_kw (ld_glob I hg hm ?_ hdb)
  refine PySem.W.callWith_K (h₀ := X.base) I.ok.mod.kin hk (thn (ha.run pos pins s σ H _ I h) fun us s1 ⟨vs, H1, I1, r, q⟩ => ⟨I1.kIn, ?_⟩) he hpl
  exact run_fnG F hr hgd hb I1 r q
end
/-- a statement that is never reached -/
theorem pss_never {X : Cx} {l : List Stmt} : PSs X l (fun _ _ _ => False) := ⟨fun _ _ _ _ _ _ h => h.elim⟩
theorem fn_or {CX : CXT} {k : Nat} {f : Addr} {fd : FuncData} {ps : List Str} {sp sp2 : Sp} (a : FnOk P w K mg base CX k f fd ps sp) (b : FnOk P w K mg base CX k f fd ps sp2) : FnOk P w K mg base CX k f fd ps (fun vs H Q E => sp vs H Q E ∨ sp2 vs H Q E) :=
  ⟨fun vs H Q E h => h.elim (a.len vs H Q E) (b.len vs H Q E), fun A outer s H args us vs Q E hr e0 hb r h => h.elim (a.run A outer s H args us vs Q E hr e0 hb r) (b.run A outer s H args us vs Q E hr e0 hb r)⟩
/-! ### the law's own bits and carries -/
def spLb (K : PySem.W.Frag) : Sp := fun vs H Q _ => ∃ (r L : Addr) (d : Deed) (told : List Int) (c : Int), vs = [.ref r, .int c, .ref L] ∧ H r = some (.tup (dV d)) ∧ SqL K H L (told.map V.int) ∧ DeedOk told.length d ∧ (∀ x ∈ told, Bit x) ∧ Bit c ∧ ∀ H', Same H H' → Q (.int (dbitAt d c told)) H'
theorem ok_lb {f : Addr} {fd : FuncData} {k : Nat} (F : Fun K "_law_bit" "_law_bit" s_law_bit f fd) (mi : mg "int" = none) (mx : mg "max" = none) : FnOk P w K mg base CX0 (k + 1) f fd ["deed", "carry", "bits"] (spLb K) := by
  refine F.ok sc_law_bit (fun vs H Q E h => ?_) (fun cdv A outer s H vs Q E hr h => ?_)
  · obtain ⟨r, L, d, told, c, rfl, _⟩ := h
    rfl
  · obtain ⟨r, L, d, told, c, rfl, er, eL, ok, tb, hc, q⟩ := h
    refine ⟨_, pss_cons (ps_set (i := 3) sc_law_bit.nd rfl (.inl rfl) (pe_ix ix_tup (pv 0) pe_int (fun _ _ => rfl)))
      (pss_cons (ps_if (pt_cmpR op_in_seq (pv 3) (pe_tup (pa_cons pe_str (pa_cons pe_str (pa_cons pe_str (pa_cons pe_str pa_nil))))) (by rfl)) (pss_one (ps_ret (pe_dget (hu_of hr) (pe_disp (pps_cons pe_str pe_int (pps_cons pe_str (pv 1) (pps_cons pe_str pe_int (pps_cons pe_str (pv 1) pps_nil)))) (by rfl) (by rfl) (fun z => by cases z) (by decide)) (pv 3) (fun _ _ => rfl)))) pss_nil)
      (pss_cons (ps_set (i := 4) sc_law_bit.nd rfl (.inl rfl) (pe_ix ix_list (pv 2) (pe_ix ix_tup (pv 0) pe_int (fun _ _ => rfl)) (fun _ _ => rfl)))
      (pss_cons (ps_if (pt_cmpR op_in_seq (pv 3) (pe_tup (pa_cons pe_str (pa_cons pe_str pa_nil))) (by rfl)) (pss_one (ps_ret (pe_ifExp (pt_cmpR op_eq (pv 3) pe_str (nomark _)) (pe_callTy call_int1 (by rfl) mi (by decide +kernel) (pa_cons (pe_cmpR op_eq (pv 4) pe_int (nomark _)) pa_nil)) (pe_callTy call_int1 (by rfl) mi (by decide +kernel) (pa_cons (pe_cmpR op_ne (pe_cmpR op_eq (pv 4) pe_int (nomark _)) (pe_cmpR op_eq (pv 1) pe_int (nomark _)) (nomark _)) pa_nil))))) pss_nil)
      (pss_cons (ps_set (i := 5) sc_law_bit.nd rfl (.inl rfl) (pe_ix ix_list (pv 2) (pe_ix ix_tup (pv 0) pe_int (fun _ _ => rfl)) (fun _ _ => rfl)))
      (pss_cons (ps_if (pt_cmpR op_in_seq (pv 3) (pe_tup (pa_cons pe_str (pa_cons pe_str (pa_cons pe_str pa_nil)))) (by rfl)) (pss_one (ps_ret (pe_dget (hu_of hr) (pe_disp (pps_cons pe_str (pe_op op_mul (pv 4) (pv 5)) (pps_cons pe_str (pe_callB (call_max2 rfl) (by rfl) mx (by decide +kernel) (pa_cons (pv 4) (pa_cons (pv 5) pa_nil))) (pps_cons pe_str (pe_callTy call_int1 (by rfl) mi (by decide +kernel) (pa_cons (pe_cmpR op_ne (pv 4) (pv 5) (nomark _)) pa_nil)) pps_nil))) (by rfl) (by rfl) (fun z => by cases z) (by decide)) (pv 3) (fun _ _ => rfl)))) pss_nil)
      (pss_one (ps_ret (pe_op op_mod (pe_op op_add (pe_op op_add (pv 4) (pv 5)) (pv 1)) pe_int)))))))), ?_⟩
    refine ⟨.ref r, rfl, r, _, 0, .str d.1, rfl, rfl, SqT.of er, dv0 d, ?_⟩
    have bA := argAt_bit tb d 0
    have bB := argAt_bit tb d 1
    unfold dbitAt at q
    refine ⟨.str d.1, rfl, by show 4 ≤ sizeLine; decide, fun T hT => ?_⟩
    have sT := same_new (o := .tup [.str "none", .str "one", .str "all", .str "twice"]) hT
    refine ⟨T, _, rfl, .inr (SqT.of upd_same), rfl, rfl, _, rfl, ite2 (fun e => ?_) (fun e => ?_)⟩
    · have hm : d.1 ∈ (["none", "one", "all", "twice"] : List Str) := of_decide_eq_true ((inS d.1 ["none", "one", "all", "twice"]).symm.trans e)
      intro p hp
      refine ⟨.int c, rfl, .int c, rfl, upd_same, [(Sum.inr "none", .int 0), (Sum.inr "one", .int c), (Sum.inr "all", .int 1), (Sum.inr "twice", .int c)], rfl, (by show 4 ≤ 15; decide), .str d.1, rfl, p, ?_⟩
      rw [upd_upd]
      have q1 := q _ (sT.trans (same_new (o := .dK (mergeK [] [(Sum.inr "none", .int 0), (Sum.inr "one", .int c), (Sum.inr "all", .int 1), (Sum.inr "twice", .int c)])) hp))
      simp only [List.mem_cons, List.not_mem_nil, or_false] at hm
      rcases hm with hm | hm | hm | hm <;> rw [hm] at q1 ⊢
      · exact ⟨.int 0, rfl, dget_at (k := Sum.inr "none") upd_same rfl, q1⟩
      · exact ⟨.int c, rfl, dget_at (k := Sum.inr "one") upd_same rfl, q1⟩
      · exact ⟨.int 1, rfl, dget_at (k := Sum.inr "all") upd_same rfl, q1⟩
      · exact ⟨.int c, rfl, dget_at (k := Sum.inr "twice") upd_same rfl, q1⟩
    have hn : ¬ d.1 ∈ (["none", "one", "all", "twice"] : List Str) := fun z => e ((inS d.1 ["none", "one", "all", "twice"]).trans (decide_eq_true z))
    simp only [List.mem_cons, List.not_mem_nil, or_false, not_or] at hn
    obtain ⟨n1, n2, n3, n4⟩ := hn
    obtain ⟨i, hi, ai, ei⟩ := arg1 ok n1 n2 n3
    have er2 := sT _ _ er
    have eL2 := sT.seq eL
    refine ⟨.ref L, rfl, .ref r, rfl, r, _, 1, .int i, rfl, rfl, SqT.of er2, dvN (k := 0) hi, L, _, i, .int (argAt d told 0), rfl, rfl, eL2, ei, ?_⟩
    refine ⟨.str d.1, rfl, by show 2 ≤ sizeLine; decide, fun U hU => ?_⟩
    have sU := sT.trans (same_new (o := .tup [.str "not", .str "neg"]) hU)
    refine ⟨U, _, rfl, .inr (SqT.of upd_same), rfl, rfl, _, rfl, ite2 (fun e => ?_) (fun e => ?_)⟩
    · have hm : d.1 ∈ (["not", "neg"] : List Str) := of_decide_eq_true ((inS d.1 ["not", "neg"]).symm.trans e)
      have q1 := q _ sU
      generalize argAt d told 0 = a at q1 bA
      generalize argAt d told 1 = b at q1 bB
      simp only [List.mem_cons, List.not_mem_nil, or_false] at hm
      rcases hm with hm | hm <;> rw [hm] at q1 ⊢
      · refine ⟨.str "not", rfl, rfl, _, rfl, .int a, rfl, rfl, .inr ⟨_, rfl, ?_⟩⟩
        rcases bA with rfl | rfl
        · exact q1
        · exact q1
      · refine ⟨.str "neg", rfl, rfl, _, rfl, .int a, rfl, rfl, .int c, rfl, rfl, rfl, .inr ⟨_, rfl, ?_⟩⟩
        rcases bA with rfl | rfl <;> rcases hc with rfl | rfl <;> exact q1
    have hn2 : ¬ d.1 ∈ (["not", "neg"] : List Str) := fun z => e ((inS d.1 ["not", "neg"]).trans (decide_eq_true z))
    simp only [List.mem_cons, List.not_mem_nil, or_false, not_or] at hn2
    obtain ⟨n5, n6⟩ := hn2
    obtain ⟨j, hj, aj, ej⟩ := arg2 ok n1 n2 n3 n5 n6 n4
    have er3 := sU _ _ er
    have eL3 := sU.seq eL
    refine ⟨.ref L, rfl, .ref r, rfl, r, _, 2, .int j, rfl, rfl, SqT.of er3, dvN (k := 1) hj, L, _, j, .int (argAt d told 1), rfl, rfl, eL3, ej, ?_⟩
    refine ⟨.str d.1, rfl, by show 3 ≤ sizeLine; decide, fun W hW => ?_⟩
    have sW := sU.trans (same_new (o := .tup [.str "and", .str "or", .str "xor"]) hW)
    have qa := fun H' s' => q H' s'
    generalize argAt d told 0 = a at qa bA
    generalize argAt d told 1 = b at qa bB
    refine ⟨W, _, rfl, .inr (SqT.of upd_same), rfl, rfl, _, rfl, ite2 (fun e => ?_) (fun e => ?_)⟩
    · have hm : d.1 ∈ (["and", "or", "xor"] : List Str) := of_decide_eq_true ((inS d.1 ["and", "or", "xor"]).symm.trans e)
      intro p hp
      have hab : CMul a b := .inl (by rcases bA with rfl | rfl <;> exact ⟨by decide, by decide⟩)
      refine ⟨.int a, rfl, .int b, rfl, a, b, rfl, rfl, hab, .int a, rfl, .int b, rfl, a, b, rfl, .int a, rfl, .int b, rfl, rfl, .inr ⟨_, rfl, upd_same, [(Sum.inr "and", .int (a * b)), (Sum.inr "or", .int (if b > a then b else a)), (Sum.inr "xor", _)], rfl, (by show 3 ≤ 15; decide), .str d.1, rfl, p, ?_⟩⟩
      rw [upd_upd]
      have q1 := fun o => qa _ (sW.trans (same_new (o := o) hp))
      simp only [List.mem_cons, List.not_mem_nil, or_false] at hm
      rcases hm with hm | hm | hm <;> rw [hm] at q1 ⊢
      · refine ⟨.int (a * b), rfl, dget_at (k := Sum.inr "and") upd_same rfl, ?_⟩
        rcases bA with rfl | rfl <;> rcases bB with rfl | rfl <;> exact q1 _
      · refine ⟨.int (if b > a then b else a), rfl, dget_at (k := Sum.inr "or") upd_same rfl, ?_⟩
        rcases bA with rfl | rfl <;> rcases bB with rfl | rfl <;> exact q1 _
      · refine ⟨_, rfl, dget_at (k := Sum.inr "xor") upd_same rfl, ?_⟩
        rcases bA with rfl | rfl <;> rcases bB with rfl | rfl <;> exact q1 _
    · have hn3 : ¬ d.1 ∈ (["and", "or", "xor"] : List Str) := fun z => e ((inS d.1 ["and", "or", "xor"]).trans (decide_eq_true z))
      simp only [List.mem_cons, List.not_mem_nil, or_false, not_or] at hn3
      obtain ⟨n7, n8, n9⟩ := hn3
      refine ⟨.int a, rfl, .int b, rfl, a, b, rfl, rfl, .int c, rfl, _, c, rfl, rfl, _, 2, rfl, rfl, (by show (0 : Int) < 2; decide), ?_⟩
      have q1 := qa _ sW
      unfold dbit at q1
      rw [if_neg n1, if_neg n3, if_neg n2, if_neg n4, if_neg n5, if_neg n6, if_neg n7, if_neg n8, if_neg n9] at q1
      rcases bA with rfl | rfl <;> rcases bB with rfl | rfl <;> rcases hc with rfl | rfl <;> exact q1
def spLc (K : PySem.W.Frag) : Sp := fun vs H Q _ => ∃ (r L : Addr) (d : Deed) (told : List Int) (c : Int), vs = [.ref r, .int c, .ref L] ∧ H r = some (.tup (dV d)) ∧ SqL K H L (told.map V.int) ∧ DeedOk told.length d ∧ (∀ x ∈ told, Bit x) ∧ Bit c ∧ Q (.int (dcarAt d c told)) H
theorem ok_lc {f : Addr} {fd : FuncData} {k : Nat} (F : Fun K "_law_carry" "_law_carry" s_law_carry f fd) (mi : mg "int" = none) : FnOk P w K mg base CX0 (k + 1) f fd ["deed", "carry", "bits"] (spLc K) := by
  refine F.ok sc_law_carry (fun vs H Q E h => ?_) (fun cdv A outer s H vs Q E hr h => ?_)
  · obtain ⟨r, L, d, told, c, rfl, _⟩ := h
    rfl
  · obtain ⟨r, L, d, told, c, rfl, er, eL, ok, tb, hc, q⟩ := h
    refine ⟨_, pss_cons (ps_set (i := 3) sc_law_carry.nd rfl (.inl rfl) (pe_ix ix_tup (pv 0) pe_int (fun _ _ => rfl)))
      (pss_cons (ps_if (pt_cmpR op_eq (pv 3) pe_str (nomark _)) (pss_one (ps_ret (pe_callTy call_int1 (by rfl) mi (by decide +kernel) (pa_cons (pe_and (pe_cmpR op_eq (pe_ix ix_list (pv 2) (pe_ix ix_tup (pv 0) pe_int (fun _ _ => rfl)) (fun _ _ => rfl)) pe_int (nomark _)) (pe_one (pe_cmpR op_eq (pv 1) pe_int (nomark _)))) pa_nil)))) pss_nil)
      (pss_cons (ps_if (pt_cmpR op_eq (pv 3) pe_str (nomark _)) (pss_one (ps_ret (pe_ix ix_list (pv 2) (pe_ix ix_tup (pv 0) pe_int (fun _ _ => rfl)) (fun _ _ => rfl)))) pss_nil)
      (pss_cons (ps_if (pt_cmpR op_eq (pv 3) pe_str (nomark _)) (pss_one (ps_ret (pe_op op_fdiv (pe_op op_add (pe_op op_add (pe_ix ix_list (pv 2) (pe_ix ix_tup (pv 0) pe_int (fun _ _ => rfl)) (fun _ _ => rfl)) (pe_ix ix_list (pv 2) (pe_ix ix_tup (pv 0) pe_int (fun _ _ => rfl)) (fun _ _ => rfl))) (pv 1)) pe_int))) pss_nil)
      (pss_cons (ps_if (pt_cmpR op_eq (pv 3) pe_str (nomark _)) (pss_one (ps_ret (pe_op op_fdiv (pe_op op_add (pe_op op_add (pe_op op_sub pe_int (pe_ix ix_list (pv 2) (pe_ix ix_tup (pv 0) pe_int (fun _ _ => rfl)) (fun _ _ => rfl))) (pe_ix ix_list (pv 2) (pe_ix ix_tup (pv 0) pe_int (fun _ _ => rfl)) (fun _ _ => rfl))) (pv 1)) pe_int))) pss_nil)
      (pss_one (ps_ret pe_int)))))), ?_⟩
    unfold dcarAt dcar at q
    have bA := argAt_bit tb d 0
    refine ⟨.ref r, rfl, r, _, 0, .str d.1, rfl, rfl, SqT.of er, dv0 d, ?_⟩
    refine ⟨.str d.1, rfl, rfl, _, rfl, ite2 (fun e => ?_) (fun n1 => ?_)⟩
    · rw [if_pos (strEq e)] at q
      have e2 := strEq e
      obtain ⟨i, hi, ai, ei⟩ := arg1 ok (by rw [e2]; decide +kernel) (by rw [e2]; decide +kernel) (by rw [e2]; decide +kernel)
      refine ⟨.ref L, rfl, .ref r, rfl, r, _, 1, .int i, rfl, rfl, SqT.of er, dvN (k := 0) hi, L, _, i, .int (argAt d told 0), rfl, rfl, eL, ei, rfl, _, rfl, ?_⟩
      generalize argAt d told 0 = a at q bA
      rcases bA with rfl | rfl
      · refine ⟨.int c, rfl, rfl, .inr ⟨_, rfl, ?_⟩⟩
        rcases hc with rfl | rfl
        · exact q
        · exact q
      · refine .inr ⟨_, rfl, ?_⟩
        rcases hc with rfl | rfl
        · exact q
        · exact q
    rw [if_neg (strNe n1)] at q
    refine ⟨.str d.1, rfl, rfl, _, rfl, ite2 (fun e => ?_) (fun n2 => ?_)⟩
    · rw [if_pos (strEq e)] at q
      have e2 := strEq e
      obtain ⟨i, hi, ai, ei⟩ := arg1 ok (by rw [e2]; decide +kernel) (by rw [e2]; decide +kernel) (by rw [e2]; decide +kernel)
      exact ⟨.ref L, rfl, .ref r, rfl, r, _, 1, .int i, rfl, rfl, SqT.of er, dvN (k := 0) hi, L, _, i, _, rfl, rfl, eL, ei, q⟩
    rw [if_neg (strNe n2)] at q
    refine ⟨.str d.1, rfl, rfl, _, rfl, ite2 (fun e => ?_) (fun n3 => ?_)⟩
    · rw [if_pos (strEq e)] at q
      have e2 := strEq e
      obtain ⟨i, hi, ai, ei⟩ := arg1 ok (by rw [e2]; decide +kernel) (by rw [e2]; decide +kernel) (by rw [e2]; decide +kernel)
      obtain ⟨j, hj, aj, ej⟩ := arg2 ok (by rw [e2]; decide +kernel) (by rw [e2]; decide +kernel) (by rw [e2]; decide +kernel) (by rw [e2]; decide +kernel) (by rw [e2]; decide +kernel) (by rw [e2]; decide +kernel)
      exact ⟨.ref L, rfl, .ref r, rfl, r, _, 1, .int i, rfl, rfl, SqT.of er, dvN (k := 0) hi, L, _, i, _, rfl, rfl, eL, ei, .ref L, rfl, .ref r, rfl, r, _, 2, .int j, rfl, rfl, SqT.of er, dvN (k := 1) hj, L, _, j, _, rfl, rfl, eL, ej, _, _, rfl, rfl, .int c, rfl, _, _, rfl, rfl, _, 2, rfl, rfl, ⟨by decide, by decide⟩, q⟩
    rw [if_neg (strNe n3)] at q
    refine ⟨.str d.1, rfl, rfl, _, rfl, ite2 (fun e => ?_) (fun n4 => ?_)⟩
    · rw [if_pos (strEq e)] at q
      have e2 := strEq e
      obtain ⟨i, hi, ai, ei⟩ := arg1 ok (by rw [e2]; decide +kernel) (by rw [e2]; decide +kernel) (by rw [e2]; decide +kernel)
      obtain ⟨j, hj, aj, ej⟩ := arg2 ok (by rw [e2]; decide +kernel) (by rw [e2]; decide +kernel) (by rw [e2]; decide +kernel) (by rw [e2]; decide +kernel) (by rw [e2]; decide +kernel) (by rw [e2]; decide +kernel)
      exact ⟨.ref L, rfl, .ref r, rfl, r, _, 1, .int i, rfl, rfl, SqT.of er, dvN (k := 0) hi, L, _, i, _, rfl, rfl, eL, ei, 1, _, rfl, rfl, .ref L, rfl, .ref r, rfl, r, _, 2, .int j, rfl, rfl, SqT.of er, dvN (k := 1) hj, L, _, j, _, rfl, rfl, eL, ej, _, _, rfl, rfl, .int c, rfl, _, _, rfl, rfl, _, 2, rfl, rfl, ⟨by decide, by decide⟩, q⟩
    rw [if_neg (strNe n4)] at q
    exact q
/-! ### the law's step -/
def spLs : Sp := fun vs H Q _ => ∃ (R C B : Addr) (m o : Int) (ds : List Deed) (cs bs : List Int), vs = [.ref R, .ref C, .ref B] ∧ RowAt H R m ds o ∧ DsOk m ds ∧ ds.length ≤ 100 ∧ H C = some (.tup (cs.map V.int)) ∧ cs.length = ds.length ∧ H B = some (.tup (bs.map V.int)) ∧ (bs.length : Int) = m ∧ bs.length ≤ 100 ∧
  (∀ x ∈ cs, Bit x) ∧ (∀ x ∈ bs, Bit x) ∧ ∀ H' p A2 B2, Same H H' → H' p = some (.tup [.ref A2, .ref B2]) → H' A2 = some (.tup ((bts ds cs bs).map V.int)) → H' B2 = some (.tup ((nxt ds cs (bts ds cs bs)).map V.int)) → Q (.ref p) H'
theorem ok_ls {f fB fC : Addr} {fd fdB fdC : FuncData} {k : Nat} (F : Fun K "_law_step" "_law_step" s_law_step f fd) (GB : FnOk P w K mg base CX0 (k + 1) fB fdB ["deed", "carry", "bits"] (spLb K)) (kB : PySem.W.keepIn K (.ref fB) = true) (bB : Binds K fdB ["deed", "carry", "bits"] []) (gB : mg "_law_bit" = some (.ref fB))
    (GC : FnOk P w K mg base CX0 (k + 1) fC fdC ["deed", "carry", "bits"] (spLc K)) (kC : PySem.W.keepIn K (.ref fC) = true) (bC : Binds K fdC ["deed", "carry", "bits"] []) (gC : mg "_law_carry" = some (.ref fC)) (ml : mg "list" = none) (mt : mg "tuple" = none) (mz : mg "zip" = none) : FnOk P w K mg base CX0 (k + 2) f fd ["row", "carry", "bits"] spLs := by
  refine F.ok sc_law_step (fun vs H Q E h => ?_) (fun cdv A outer s H vs Q E hr h => ?_)
  · obtain ⟨R, C, B, m, o, ds, cs, bs, rfl, _⟩ := h
    rfl
  · obtain ⟨R, C, B, m, o, ds, cs, bs, rfl, hrow, hok, hds, eC, hcl, eB, hm, hbl, cb, bb, q⟩ := h
    obtain ⟨D, rs, eR, eD, hd⟩ := id hrow
    refine ⟨_, pss_cons (ps_set (i := 3) sc_law_step.nd rfl (.inr rfl) (pe_callTy call_list_of (by rfl) ml (by decide +kernel) (pa_cons (pv 2) pa_nil)))
      (pss_cons (ps_for PassesOwn.never rfl (RZ.pi_zipA (by rfl) mz (pa_cons (pe_ix ix_tup (pv 0) pe_int (fun _ _ => rfl)) (pa_cons (pv 1) pa_nil))) (pg_tup rfl (pgs_cons (pg_name (i := 4) sc_law_step.nd rfl (.inl rfl)) (pgs_cons (pg_name (i := 5) sc_law_step.nd rfl (.inl rfl)) pgs_nil)))
        (pss_one (ps_expr (pe_bm PySem.F.plainAttrs_list PySem.F.slot_list_append PySem.F.type_list_append mt_append (pv 3) (pa_cons (pe_call GB hr (by rfl) gB kB bB .nil pass0 (pa_cons (pv 4) (pa_cons (pv 5) (pa_cons (pv 3) pa_nil)))) pa_nil)))))
      (pss_one (ps_ret (pe_tup (pa_cons (pe_callTy call_tuple_of (by rfl) mt (by decide +kernel) (pa_cons (pv 3) pa_nil)) (pa_cons (pe_callTy call_tuple_of (by rfl) mt (by decide +kernel) (pa_cons
        (pe_lc (own := [("deed", 4), ("one", 5)]) (g := gTup K 2 (gCons (gName 4) (gCons (gName 5) gNil))) (by rfl) sc_law_step.nd (RZ.pi_zipA (by rfl) mz (pa_cons (pe_ix ix_tup (pv 0) pe_int (fun _ _ => rfl)) (pa_cons (pv 1) pa_nil))) (blkOk_by (own := [("deed", 4), ("one", 5)]) (N := N_law_step) (sc := defScope s_law_step) (by decide +kernel))
          (fun _ _ _ _ _ => pg_tup rfl (pgs_cons (pg_name (i := 4) sc_law_step.nd rfl (.inl rfl)) (pgs_cons (pg_name (i := 5) sc_law_step.nd rfl (.inl rfl)) pgs_nil))) (fun _ _ _ _ _ => pts_nil)
          (fun _ _ _ _ _ => pe_call GC hr (by rfl) gC kC bC .nil pass0 (pa_cons (pv 4) (pa_cons (pv 5) (pa_cons (pv 3) pa_nil))))) pa_nil)) pa_nil)))))), ?_⟩
    refine ⟨.ref B, rfl, B, _, rfl, .inr (SqT.of eB), fun L hL => ?_⟩
    have sL := same_new (o := .lst (bs.map V.int)) hL
    have lrs : (rs.map V.ref).length = ds.length := by rw [List.length_map, awLen hd]
    have lcs : (cs.map V.int).length = ds.length := by rw [List.length_map, hcl]
    have tl : (bts ds cs bs).length = bs.length + ds.length := bts_len hcl.symm
    have allbits : ∀ x ∈ bts ds cs bs, Bit x := bts_bits bb cb
    refine ⟨.ref R, rfl, R, _, 1, .ref D, rfl, rfl, SqT.of (sL _ _ eR), rfl, .ref C, rfl, D, C, _, _, rfl, .inr ⟨SqT.of (sL _ _ eD), SqT.of (sL _ _ eC), RZ.for_zipT (K := K) (xs := rs.map V.ref) (ys := cs.map V.int) (lrs.trans lcs.symm) (fun i σ H3 => ∃ y4 y5, σ = [some (.ref R), some (.ref C), some (.ref B), some (.ref L), y4, y5] ∧ H3 L = some (.lst ((bts (ds.take i) (cs.take i) bs).map V.int)) ∧ Same H H3) ⟨none, none, rfl, by rw [upd_same]; cases ds <;> rfl, sL⟩ (fun i σ H3 hp => ?_) (fun i x y T σ H3 hx hy hp hT => ?_) (fun σ H3 hp => ?_)⟩⟩
    · obtain ⟨_, _, _, _, sm⟩ := hp
      exact ⟨SqT.of (sm _ _ eD), SqT.of (sm _ _ eC)⟩
    · obtain ⟨y4, y5, rfl, e3, sm⟩ := hp
      have hi : i < rs.length := by
        have := (List.getElem?_eq_some_iff.mp hx).1
        rwa [List.length_map] at this
      have hx' : x = .ref rs[i] := by
        rw [List.getElem?_map, List.getElem?_eq_getElem hi] at hx
        exact (Option.some.inj hx).symm
      subst hx'
      obtain ⟨d, hd1, hd2⟩ := awGet hd (List.getElem?_eq_getElem hi)
      obtain ⟨c, hc, rfl⟩ : ∃ c, cs[i]? = some c ∧ y = .int c := by
        rw [List.getElem?_map] at hy
        cases e : cs[i]? with
        | none => rw [e] at hy; cases hy
        | some c => rw [e] at hy; exact ⟨c, rfl, (Option.some.inj hy).symm⟩
      have h2 : i < ds.length := by
        rw [← awLen hd]
        exact hi
      have hlen : (bts (ds.take i) (cs.take i) bs).length = bs.length + i := by
        rw [bts_len (by rw [List.length_take, List.length_take, hcl]), List.length_take, Nat.min_eq_left (Nat.le_of_lt h2)]
      have okd : DeedOk (bts (ds.take i) (cs.take i) bs).length d := by
        rw [hlen]
        have := hok.each i d hd1
        rw [← hm] at this
        exact this
      have sT := same_new (o := .tup [.ref rs[i], .int c]) hT
      have e4 := sT _ _ e3
      refine ⟨T, [.ref rs[i], .int c], rfl, .inl (.inl upd_same), rfl, .ref rs[i], [.int c], rfl, .int c, [], rfl, rfl, ?_⟩
      refine ⟨.ref L, rfl, .inl ⟨rfl, _, .inl (.inl e4)⟩, .ref rs[i], rfl, .int c, rfl, .ref L, rfl, rs[i], L, d, _, c, rfl, sT _ _ (sm _ _ hd2), .inl (.inl e4), okd, bts_bits bb (fun x hx => cb x (List.mem_of_mem_take hx)), cb c (List.mem_of_getElem? hc), fun H5 s5 => ?_⟩
      refine ⟨L, _, _, rfl, rfl, s5 _ _ e4, ?_, some (.ref rs[i]), some (.int c), rfl, ?_, ?_⟩
      · rw [List.length_map, hlen]
        exact small1000 (by omega)
      · rw [upd_same, bts_next hd1 hc, List.map_append]
        rfl
      · intro b u e
        rw [upd_ne (ne_of_none e hL)]
        exact s5 b u (sT b u (sm b u e))
    · obtain ⟨y4, y5, rfl, e3, sm⟩ := hp
      rw [lrs, List.take_length, ← hcl, List.take_length] at e3
      refine ⟨.ref L, rfl, L, _, rfl, .inl ⟨.inl (.inl e3), fun A2 hA2 => ?_⟩⟩
      have s2 := sm.trans (same_new (o := .tup ((bts ds cs bs).map V.int)) hA2)
      have eA2 : upd H3 A2 (.tup ((bts ds cs bs).map V.int)) A2 = some (.tup ((bts ds cs bs).map V.int)) := upd_same
      have eL2 : upd H3 A2 (.tup ((bts ds cs bs).map V.int)) L = some (.lst ((bts ds cs bs).map V.int)) := same_new hA2 _ _ e3
      generalize upd H3 A2 (.tup ((bts ds cs bs).map V.int)) = H4 at s2 eA2 eL2
      refine ⟨.ref R, rfl, R, _, 1, .ref D, rfl, rfl, SqT.of (s2 _ _ eR), rfl, .ref C, rfl, D, C, _, _, rfl, .inr ⟨SqT.of (s2 _ _ eD), SqT.of (s2 _ _ eC), fun M hM => ?_⟩⟩
      refine lc_it (walk_zipT (K := K) (a := D) (b := C) (xs := rs.map V.ref) (ys := cs.map V.int) (lrs.trans lcs.symm)) (fun i H5 => H5 M = some (.lst (((nxt ds cs (bts ds cs bs)).take i).map V.int)) ∧ Same H4 H5) ⟨upd_same, same_new hM⟩ (fun i H5 _ hp => ⟨SqT.of (hp.2 _ _ (s2 _ _ eD)), SqT.of (hp.2 _ _ (s2 _ _ eC))⟩) (fun i x H5 H6 hi hp hy => ?_) (fun H5 hp => ?_)
      · obtain ⟨eM, sm5⟩ := hp
        obtain ⟨U, x1, x2, rfl, hU, rfl, g1, g2⟩ := hy
        have hi2 : i < rs.length := by rwa [List.length_map] at hi
        have hx' : x1 = .ref rs[i] := by
          have g1' : (rs.map V.ref)[i]? = some x1 := g1
          rw [List.getElem?_map, List.getElem?_eq_getElem hi2] at g1'
          exact (Option.some.inj g1').symm
        subst hx'
        obtain ⟨d, hd1, hd2⟩ := awGet hd (List.getElem?_eq_getElem hi2)
        obtain ⟨c, hc, rfl⟩ : ∃ c, cs[i]? = some c ∧ x2 = .int c := by
          have g2' : (cs.map V.int)[i]? = some x2 := g2
          rw [List.getElem?_map] at g2'
          cases e : cs[i]? with
          | none => rw [e] at g2'; cases g2'
          | some c => rw [e] at g2'; exact ⟨c, rfl, (Option.some.inj g2').symm⟩
        have h2 : i < ds.length := by
          rw [← awLen hd]
          exact hi2
        have okd : DeedOk (bts ds cs bs).length d := okd_more (hok.each i d hd1) (by omega)
        have sU := same_new (o := .tup [.ref rs[i], .int c]) hU
        refine ⟨U, [.ref rs[i], .int c], rfl, .inl (.inl upd_same), rfl, .ref rs[i], [.int c], rfl, .int c, [], rfl, rfl, rfl, ?_⟩
        refine ⟨.ref rs[i], rfl, .int c, rfl, .ref L, rfl, rs[i], L, d, _, c, rfl, sU _ _ (sm5 _ _ (s2 _ _ hd2)), .inl (.inl (sU _ _ (sm5 _ _ eL2))), okd, allbits, cb c (List.mem_of_getElem? hc), _, sU _ _ eM, ?_, ?_, ?_⟩
        · rw [List.length_map, List.length_take, nxt_len hcl.symm]
          exact small1000 (by omega)
        · rw [upd_same, nxt_next hd1 hc, List.map_append]
          rfl
        · intro b u e
          rw [upd_ne (ne_of_none e hM)]
          exact sU b u (sm5 b u e)
      · obtain ⟨eM, sm5⟩ := hp
        rw [lrs, ← nxt_len (t := bts ds cs bs) hcl.symm, List.take_length] at eM
        refine ⟨M, _, rfl, .inl ⟨.inl (.inl eM), fun B2 hB2 => ?_⟩⟩
        refine ⟨by show 2 ≤ sizeLine; decide, fun p hp => ?_⟩
        have sB := sm5.trans (same_new (o := .tup ((nxt ds cs (bts ds cs bs)).map V.int)) hB2)
        have sp := same_new (o := .tup [.ref A2, .ref B2]) hp
        exact q _ p A2 B2 ((s2.trans sB).trans sp) upd_same (sp _ _ (sB _ _ eA2)) (sp _ _ upd_same)
/-! ### the law's first carry -/
theorem ok_lf {f : Addr} {fd : FuncData} {k : Nat} (F : Fun K "_law_first" "_law_first" s_law_first f fd) (mt : mg "tuple" = none) (mi : mg "int" = none) : FnOk P w K mg base CX0 (k + 1) f fd ["row"] spFc := by
  refine F.ok sc_law_first (fun vs H Q E h => ?_) (fun cdv A outer s H vs Q E hr h => ?_)
  · obtain ⟨R, m, o, ds, rfl, _⟩ := h
    rfl
  · obtain ⟨R, m, o, ds, rfl, hrow, hl, q⟩ := h
    obtain ⟨D, rs, eR, eD, hd⟩ := id hrow
    refine ⟨_, pss_one (ps_ret (pe_callTy call_tuple_of (by rfl) mt (by decide +kernel) (pa_cons
      (pe_lc (own := [("deed", 1)]) (g := gName 1) (by rfl) sc_law_first.nd (pi_tup (pe_ix ix_tup (pv 0) pe_int (fun _ _ => rfl))) (blkOk_by (own := [("deed", 1)]) (N := N_law_first) (sc := defScope s_law_first) (by decide +kernel))
        (fun _ _ _ _ _ => pg_name (i := 1) sc_law_first.nd rfl (Or.inl rfl)) (fun _ _ _ _ _ => pts_nil)
        (fun _ _ _ _ _ => pe_callTy call_int1 (by rfl) mi (by decide +kernel) (pa_cons (pe_cmpR (r := rIn K false) op_in_seq (pe_ix (r := rIxT K) ix_tup (pv 1) pe_int (fun _ _ => rfl)) (pe_tup (pa_cons pe_str (pa_cons pe_str pa_nil))) (by rfl)) pa_nil))) pa_nil))), ?_⟩
    refine ⟨.ref R, rfl, R, _, 1, .ref D, rfl, rfl, SqT.of eR, rfl, D, rfl, ⟨_, SqT.of eD⟩, fun L hL => ?_⟩
    refine lc_tup (K := K) (a := D) (xs := rs.map V.ref) (fun i H4 => H4 L = some (.lst (((ds.take i).map fcD).map V.int)) ∧ Same H H4) ⟨upd_same, same_new hL⟩ (fun i H4 _ hp => SqT.of (hp.2 _ _ eD)) (fun i x H4 hx hp => ?_) (fun H4 hp => ?_)
    · obtain ⟨eL, sm⟩ := hp
      have hi : i < rs.length := by
        have := (List.getElem?_eq_some_iff.mp hx).1
        rwa [List.length_map] at this
      have hx' : x = .ref rs[i] := by
        rw [List.getElem?_map, List.getElem?_eq_getElem hi] at hx
        exact (Option.some.inj hx).symm
      subst hx'
      obtain ⟨d, hd1, hd2⟩ := awGet hd (List.getElem?_eq_getElem hi)
      refine ⟨rfl, .ref rs[i], rfl, rs[i], _, 0, .str d.1, rfl, rfl, SqT.of (sm _ _ hd2), dv0 d, by show 2 ≤ sizeLine; decide, fun T hT => ?_⟩
      have sT := same_new (o := .tup [.str "neg", .str "one"]) hT
      have eL2 := sT _ _ eL
      have old : ∀ o, Same H (upd (upd H4 T (.tup [.str "neg", .str "one"])) L o) := fun o b u e => by
        rw [upd_ne (ne_of_none e hL)]
        exact sT b u (sm b u e)
      have small : (((ds.take i).map fcD).map V.int).length < sizeLine := by
        rw [List.length_map, List.length_map, List.length_take]
        exact small1000 (by omega)
      have hin : inV (.str d.1) [.str "neg", .str "one"] = decide (d.1 ∈ (["neg", "one"] : List Str)) := inS d.1 ["neg", "one"]
      refine ⟨T, _, rfl, .inr (SqT.of upd_same), rfl, rfl, .inr ⟨_, rfl, _, eL2, small, ?_, old _⟩⟩
      rw [upd_same, List.take_add_one, hd1]
      have e1 : fcD d = if inV (.str d.1) [.str "neg", .str "one"] = true then 1 else 0 := by
        rw [hin]
        unfold fcD
        by_cases hm : d.1 ∈ (["neg", "one"] : List Str)
        · rw [if_pos hm, if_pos (decide_eq_true hm)]
        · rw [if_neg hm, if_neg (by simpa using hm)]
      simp only [Option.toList_some, List.map_append, List.map_cons, List.map_nil, e1]
      rfl
    · obtain ⟨eL, sm⟩ := hp
      rw [List.length_map, awLen hd, List.take_length] at eL
      refine ⟨L, _, rfl, .inl ⟨.inl (.inl eL), fun p hp => ?_⟩⟩
      exact q _ p (sm.trans (same_new hp)) (sm.free hp) upd_same
/-! ### all bits -/
/-- tuples of so many bits -/
def BitsAt (H : Hp) (n : Nat) (f : Addr) : Prop := ∃ bs : List Int, H f = some (.tup (bs.map V.int)) ∧ bs.length = n ∧ ∀ x ∈ bs, Bit x
theorem BitsAt.stay {H H' : Hp} {n : Nat} {f : Addr} (h : BitsAt H n f) (t : TupsStay H H') : BitsAt H' n f := by
  obtain ⟨bs, e, r⟩ := h
  exact ⟨bs, t _ _ e, r⟩
theorem refs_of {fs : List Addr} : ∀ ys : List V, (∀ y ∈ ys, ∃ g, g ∈ fs ∧ y = .ref g) → ∃ fs2 : List Addr, ys = fs2.map V.ref ∧ ∀ g ∈ fs2, g ∈ fs
  | [], _ => ⟨[], rfl, (fun _ z => nomatch z)⟩
  | y :: ys, all => by
    obtain ⟨g, hg, rfl⟩ := all y List.mem_cons_self
    obtain ⟨fs2, rfl, h2⟩ := refs_of ys fun z hz => all z (List.mem_cons_of_mem _ hz)
    refine ⟨g :: fs2, rfl, fun z hz => ?_⟩
    rcases List.mem_cons.mp hz with rfl | hz
    · exact hg
    · exact h2 z hz
def spAb : Sp := fun vs H Q _ => ∃ m : Nat, vs = [.int (m : Int)] ∧ 1 ≤ m ∧ m ≤ 3 ∧ ∀ H' p (fs : List Addr), Same H H' → H' p = some (.lst (fs.map V.ref)) → fs.length = 2 ^ m → (∀ f ∈ fs, BitsAt H' m f) → Q (.ref p) H'
theorem ok_ab {f : Addr} {fd : FuncData} {k : Nat} (F : Fun K "_law_bits" "_law_bits" s_law_bits f fd) (mr : mg "range" = none) (ms : mg "sorted" = none) : FnOk P w K mg base CX0 (k + 1) f fd ["many"] spAb := by
  refine F.ok sc_law_bits (fun vs H Q E h => ?_) (fun cdv A outer s H vs Q E hr h => ?_)
  · obtain ⟨m, rfl, _⟩ := h
    rfl
  · obtain ⟨m, rfl, m1, m3, q⟩ := h
    refine ⟨_, pss_cons (ps_set (i := 1) sc_law_bits.nd rfl (.inl rfl) (pe_lst (pa_cons (pe_tup pa_nil) pa_nil)))
      (pss_cons (ps_for PassesOwn.never rfl (pi_range1 (by rfl) mr (pa_cons (pv 0) pa_nil)) (pg_name (i := 2) sc_law_bits.nd rfl (.inl rfl))
        (pss_one (ps_set (i := 1) sc_law_bits.nd rfl (.inl rfl) (pe_op op_cat
          (pe_lc (own := [("some", 3)]) (g := gName 3) (by rfl) sc_law_bits.nd (pi_list (pv 1)) (blkOk_by (own := [("some", 3)]) (N := N_law_bits) (sc := defScope s_law_bits) (by decide +kernel)) (fun _ _ _ _ _ => pg_name (i := 3) sc_law_bits.nd rfl (Or.inl rfl)) (fun _ _ _ _ _ => pts_nil) (fun _ _ _ _ _ => pe_op op_catZ (pv 3) (pe_tup (pa_cons pe_int pa_nil))))
          (pe_lc (own := [("some", 3)]) (g := gName 3) (by rfl) sc_law_bits.nd (pi_list (pv 1)) (blkOk_by (own := [("some", 3)]) (N := N_law_bits) (sc := defScope s_law_bits) (by decide +kernel)) (fun _ _ _ _ _ => pg_name (i := 3) sc_law_bits.nd rfl (Or.inl rfl)) (fun _ _ _ _ _ => pts_nil) (fun _ _ _ _ _ => pe_op op_catZ (pv 3) (pe_tup (pa_cons pe_int pa_nil))))))))
      (pss_one (ps_ret (pe_callB (cr_sortT (d := m) (B := 2) m1) (by rfl) ms (by decide +kernel) (pa_cons (pv 1) pa_nil))))), ?_⟩
    refine ⟨by show 0 ≤ sizeLine; decide, fun T hT => ?_⟩
    refine ⟨by show 1 ≤ sizeLine; decide, fun L hL => ?_⟩
    have s1 := same_new (o := .tup []) hT
    have s2 := same_new (o := .lst [.ref T]) hL
    refine ⟨.int m, rfl, m, rfl, by omega, by omega, for_range (lo := 0) (n := m) (fun i σ H3 => ∃ y2 F1 fs, σ = [some (.int (m : Int)), some (.ref F1), y2, none] ∧ H3 F1 = some (.lst (fs.map V.ref)) ∧ fs.length = 2 ^ i ∧ (∀ f ∈ fs, BitsAt H3 i f) ∧ Same H H3) ⟨none, L, [T], rfl, upd_same, rfl, fun f hf => ?_, s1.trans s2⟩ (fun i σ H3 hi hp => ?_) (fun σ H3 hp => ?_)⟩
    · rw [List.mem_singleton.mp hf]
      exact ⟨[], s2 _ _ upd_same, rfl, (fun _ z => nomatch z)⟩
    · obtain ⟨y2, F1, fs, rfl, eF, hfl, hfb, sm⟩ := hp
      have fs8 : fs.length ≤ 8 := by
        rw [hfl]
        exact Nat.le_trans (Nat.pow_le_pow_right (by decide) (show i ≤ 3 by omega)) (by decide)
      -- one of the two lists
      have one : ∀ (b : Int) (H4 : Hp), Bit b → Same H3 H4 → ∀ j x H5, (∃ gs : List Addr, gs.length = j ∧ (∃ M, H5 M = some (.lst (gs.map V.ref))) ∧ (∀ g ∈ gs, BitsAt H5 (i + 1) g) ∧ Same H4 H5) → (fs.map V.ref)[j]? = some x → ∃ (f : Addr) (bs : List Int), x = .ref f ∧ H5 f = some (.tup (bs.map V.int)) ∧ bs.length = i ∧ ∀ y ∈ bs, Bit y := by
        rintro b H4 hb s4 j x H5 ⟨gs, _, _, _, s5⟩ hx
        rw [List.getElem?_map] at hx
        cases e : fs[j]? with
        | none => rw [e] at hx; cases hx
        | some f =>
          rw [e] at hx
          obtain ⟨bs, e1, e2, e3⟩ := hfb f (List.mem_of_getElem? e)
          exact ⟨f, bs, (Option.some.inj hx).symm, s5 _ _ (s4 _ _ e1), e2, e3⟩
      refine ⟨.ref F1, rfl, F1, rfl, ⟨_, .inl (.inl eF)⟩, fun M hM => ?_⟩
      refine lc_list (K := K) (a := F1) (xs := fs.map V.ref) (fun j H4 => ∃ gs : List Addr, gs.length = j ∧ H4 M = some (.lst (gs.map V.ref)) ∧ (∀ g ∈ gs, BitsAt H4 (i + 1) g) ∧ Same H3 H4) ⟨[], rfl, upd_same, (fun _ z => nomatch z), same_new hM⟩ (fun j H4 _ hp => ?_) (fun j x H4 hx hp => ?_) (fun H4 hp => ?_)
      · obtain ⟨_, _, _, _, s4⟩ := hp
        exact .inl (.inl (s4 _ _ eF))
      · obtain ⟨gs, hgl, eM, hgb, s4⟩ := hp
        obtain ⟨g0, bs, rfl, eg0, hbl, hbb⟩ := one 0 H3 bit0 (Same.refl H3) j x H4 ⟨gs, hgl, ⟨M, eM⟩, hgb, s4⟩ hx
        have hj : j < fs.length := by
          have := (List.getElem?_eq_some_iff.mp hx).1
          rwa [List.length_map] at this
        refine ⟨rfl, .ref g0, rfl, by show 1 ≤ sizeLine; decide, fun U hU => ?_⟩
        have sU := same_new (o := .tup [.int 0]) hU
        refine ⟨g0, U, _, _, rfl, rfl, sU _ _ eg0, upd_same, by rw [List.length_map]; exact Nat.le_of_lt (small1000 (by show bs.length + 1 ≤ 1000; omega)), fun p H5 s5 ep => ?_⟩
        have s45 := sU.trans s5
        have eM5 := s45 _ _ eM
        refine ⟨_, eM5, by rw [List.length_map]; exact small1000 (by omega), gs ++ [p], by rw [List.length_append, hgl]; rfl, ?_, ?_, ?_⟩
        · rw [upd_same, List.map_append]
          rfl
        · intro g hg
          have tp := tups_put (o := .lst (gs.map V.ref ++ [V.ref p])) eM5
          rcases List.mem_append.mp hg with hg | hg
          · exact (hgb g hg).stay ((Same.tups s45).trans tp)
          · rw [List.mem_singleton.mp hg]
            refine ⟨bs ++ [0], tp _ _ (by rw [ep, List.map_append]; rfl), by rw [List.length_append, hbl]; rfl, fun y hy => ?_⟩
            rcases List.mem_append.mp hy with hy | hy
            · exact hbb y hy
            · rw [List.mem_singleton.mp hy]
              exact bit0
        · intro b u e
          rw [upd_ne (ne_of_none e hM)]
          exact s45 b u (s4 b u e)
      · obtain ⟨gs, hgl, eM, hgb, s4⟩ := hp
        refine ⟨.ref F1, rfl, F1, rfl, ⟨_, .inl (.inl (s4 _ _ eF))⟩, fun M2 hM2 => ?_⟩
        refine lc_list (K := K) (a := F1) (xs := fs.map V.ref) (fun j H5 => ∃ hs : List Addr, hs.length = j ∧ H5 M2 = some (.lst (hs.map V.ref)) ∧ (∀ g ∈ hs, BitsAt H5 (i + 1) g) ∧ Same H4 H5) ⟨[], rfl, upd_same, (fun _ z => nomatch z), same_new hM2⟩ (fun j H5 _ hp => ?_) (fun j x H5 hx hp => ?_) (fun H5 hp => ?_)
        · obtain ⟨_, _, _, _, s5⟩ := hp
          exact .inl (.inl (s5 _ _ (s4 _ _ eF)))
        · obtain ⟨hs, hhl, eM2, hhb, s5⟩ := hp
          obtain ⟨g0, bs, rfl, eg0, hbl, hbb⟩ := one 1 H4 bit1 s4 j x H5 ⟨hs, hhl, ⟨M2, eM2⟩, hhb, s5⟩ hx
          have hj : j < fs.length := by
            have := (List.getElem?_eq_some_iff.mp hx).1
            rwa [List.length_map] at this
          refine ⟨rfl, .ref g0, rfl, by show 1 ≤ sizeLine; decide, fun U hU => ?_⟩
          have sU := same_new (o := .tup [.int 1]) hU
          refine ⟨g0, U, _, _, rfl, rfl, sU _ _ eg0, upd_same, by rw [List.length_map]; exact Nat.le_of_lt (small1000 (by show bs.length + 1 ≤ 1000; omega)), fun p H6 s6 ep => ?_⟩
          have s56 := sU.trans s6
          have eM6 := s56 _ _ eM2
          refine ⟨_, eM6, by rw [List.length_map]; exact small1000 (by omega), hs ++ [p], by rw [List.length_append, hhl]; rfl, ?_, ?_, ?_⟩
          · rw [upd_same, List.map_append]
            rfl
          · intro g hg
            have tp := tups_put (o := .lst (hs.map V.ref ++ [V.ref p])) eM6
            rcases List.mem_append.mp hg with hg | hg
            · exact (hhb g hg).stay ((Same.tups s56).trans tp)
            · rw [List.mem_singleton.mp hg]
              refine ⟨bs ++ [1], tp _ _ (by rw [ep, List.map_append]; rfl), by rw [List.length_append, hbl]; rfl, fun y hy => ?_⟩
              rcases List.mem_append.mp hy with hy | hy
              · exact hbb y hy
              · rw [List.mem_singleton.mp hy]
                exact bit1
          · intro b u e
            rw [upd_ne (ne_of_none e hM2)]
            exact s56 b u (s5 b u e)
        · obtain ⟨hs, hhl, eM2, hhb, s5⟩ := hp
          have lg : gs.length = fs.length := by rw [hgl, List.length_map]
          have lh : hs.length = fs.length := by rw [hhl, List.length_map]
          refine ⟨M, M2, _, _, rfl, rfl, s5 _ _ eM, eM2, by rw [List.length_map, List.length_map]; exact Nat.le_of_lt (small1000 (by omega)), fun p hp => ?_⟩
          have sp := same_new (o := .lst (gs.map V.ref ++ hs.map V.ref)) hp
          refine ⟨some (.int (0 + i)), p, gs ++ hs, rfl, ?_, ?_, fun g hg => ?_, ((sm.trans s4).trans s5).trans sp⟩
          · rw [upd_same, List.map_append]
          · rw [List.length_append, lg, lh, hfl, Nat.pow_succ]
            omega
          · rcases List.mem_append.mp hg with hg | hg
            · exact (hgb g hg).stay (Same.tups (s5.trans sp))
            · exact (hhb g hg).stay (Same.tups sp)
    · obtain ⟨y2, F1, fs, rfl, eF, hfl, hfb, sm⟩ := hp
      have fs8 : fs.length ≤ 8 := by
        rw [hfl]
        exact Nat.le_trans (Nat.pow_le_pow_right (by decide) m3) (by decide)
      refine ⟨.ref F1, rfl, F1, _, rfl, .inl (.inl eF), by rw [List.length_map]; omega, fun x hx => ?_, fun ys p perm _ hp => ?_⟩
      · obtain ⟨g, hg, rfl⟩ := List.mem_map.mp hx
        obtain ⟨bs, e1, e2, e3⟩ := hfb g hg
        refine ⟨bs, ⟨g, rfl, SqT.of e1⟩, e2, fun y hy => ?_⟩
        rcases e3 y hy with rfl | rfl
        · exact ⟨by decide, by decide⟩
        · exact ⟨by decide, by decide⟩
      · obtain ⟨fs2, rfl, perm2⟩ : ∃ fs2 : List Addr, ys = fs2.map V.ref ∧ ∀ g ∈ fs2, g ∈ fs := by
          have all : ∀ y ∈ ys, ∃ g, g ∈ fs ∧ y = .ref g := fun y hy => by
            obtain ⟨g, hg, e⟩ := List.mem_map.mp (perm.mem_iff.mp hy)
            exact ⟨g, hg, e.symm⟩
          exact refs_of ys all
        have sp := same_new (o := .lst (fs2.map V.ref)) hp
        refine q _ p fs2 (sm.trans sp) upd_same ?_ fun g hg => (hfb g (perm2 g hg)).stay (Same.tups sp)
        have := perm.length_eq
        rw [List.length_map, List.length_map] at this
        rw [this, hfl]
/-! ### the law's values -/
theorem arg_range {told : List Int} {N : Int} (hN : 0 < N) (h : ∀ x ∈ told, 0 ≤ x ∧ x < N) (d : Deed) (j : Nat) : 0 ≤ argAt d told j ∧ argAt d told j < N := by
  unfold argAt
  rw [List.getD_eq_getElem?_getD]
  cases e : told[(d.2.getD j 0).toNat]? with
  | none => exact ⟨Int.le_refl _, hN⟩
  | some y => exact h y (List.mem_of_getElem? e)
def spLw (K : PySem.W.Frag) : Sp := fun vs H Q _ => ∃ (r L : Addr) (d : Deed) (told : List Int) (n : Nat), vs = [.ref r, .ref L, .int (2 ^ n)] ∧ H r = some (.tup (dV d)) ∧ SqL K H L (told.map V.int) ∧ DeedOk told.length d ∧ (∀ x ∈ told, 0 ≤ x ∧ x < 2 ^ n) ∧ 1 ≤ n ∧
  ∀ H', Same H H' → Q (.int (dval (2 ^ n) d told)) H'
theorem ok_lw {f : Addr} {fd : FuncData} {k : Nat} (F : Fun K "_law_value" "_law_value" s_law_value f fd) : FnOk P w K mg base CX0 (k + 1) f fd ["deed", "told", "full"] (spLw K) := by
  refine F.ok sc_law_value (fun vs H Q E h => ?_) (fun cdv A outer s H vs Q E hr h => ?_)
  · obtain ⟨r, L, d, told, n, rfl, _⟩ := h
    rfl
  · obtain ⟨r, L, d, told, n, rfl, er, eL, ok, tb, hn, q⟩ := h
    refine ⟨_, pss_cons (ps_set (i := 3) sc_law_value.nd rfl (.inl rfl) (pe_ix ix_tup (pv 0) pe_int (fun _ _ => rfl)))
      (pss_cons (ps_if (pt_cmpR op_in_seq (pv 3) (pe_tup (pa_cons pe_str (pa_cons pe_str (pa_cons pe_str pa_nil)))) (by rfl)) (pss_one (ps_ret (pe_dget (hu_of hr) (pe_disp (pps_cons pe_str pe_int (pps_cons pe_str pe_int (pps_cons pe_str (pe_op op_sub (pv 2) pe_int) pps_nil))) (by rfl) (by rfl) (fun z => by cases z) (by decide)) (pv 3) (fun _ _ => rfl)))) pss_nil)
      (pss_cons (ps_set (i := 4) sc_law_value.nd rfl (.inl rfl) (pe_ix ix_list (pv 1) (pe_ix ix_tup (pv 0) pe_int (fun _ _ => rfl)) (fun _ _ => rfl)))
      (pss_cons (ps_if (pt_cmpR op_in_seq (pv 3) (pe_tup (pa_cons pe_str (pa_cons pe_str (pa_cons pe_str pa_nil)))) (by rfl)) (pss_one (ps_ret (pe_op op_mod (pe_dget (hu_of hr) (pe_disp (pps_cons pe_str (pe_op op_sub (pe_op op_sub (pv 2) pe_int) (pv 4)) (pps_cons pe_str (pe_op op_sub pe_int (pv 4)) (pps_cons pe_str (pe_op op_mul pe_int (pv 4)) pps_nil))) (by rfl) (by rfl) (fun z => by cases z) (by decide)) (pv 3) (fun _ _ => rfl)) (pv 2)))) pss_nil)
      (pss_cons (ps_set (i := 5) sc_law_value.nd rfl (.inl rfl) (pe_ix ix_list (pv 1) (pe_ix ix_tup (pv 0) pe_int (fun _ _ => rfl)) (fun _ _ => rfl)))
      (pss_cons (ps_if (pt_cmpR op_in_seq (pv 3) (pe_tup (pa_cons pe_str (pa_cons pe_str (pa_cons pe_str pa_nil)))) (by rfl)) (pss_one (ps_ret (pe_dget (hu_of hr) (pe_disp (pps_cons pe_str (pe_op op_and (pv 4) (pv 5)) (pps_cons pe_str (pe_op op_or (pv 4) (pv 5)) (pps_cons pe_str (pe_op op_xor (pv 4) (pv 5)) pps_nil))) (by rfl) (by rfl) (fun z => by cases z) (by decide)) (pv 3) (fun _ _ => rfl)))) pss_nil)
      (pss_one (ps_ret (pe_op op_mod (pe_dget (hu_of hr) (pe_disp (pps_cons pe_str (pe_op op_add (pv 4) (pv 5)) (pps_cons pe_str (pe_op op_sub (pv 4) (pv 5)) pps_nil)) (by rfl) (by rfl) (fun z => by cases z) (by decide)) (pv 3) (fun _ _ => rfl)) (pv 2))))))))), ?_⟩
    have npos := pw_pos n
    have p2 : (2 : Int) ≤ 2 ^ n := by
      have := pw_le hn
      simpa using this
    obtain ⟨a0, a1⟩ := arg_range npos tb d 0
    obtain ⟨b0, b1⟩ := arg_range npos tb d 1
    unfold dval at q
    refine ⟨.ref r, rfl, r, _, 0, .str d.1, rfl, rfl, SqT.of er, dv0 d, ?_⟩
    refine ⟨.str d.1, rfl, by show 3 ≤ sizeLine; decide, fun T hT => ?_⟩
    have sT := same_new (o := .tup [.str "none", .str "one", .str "all"]) hT
    refine ⟨T, _, rfl, .inr (SqT.of upd_same), rfl, rfl, _, rfl, ite2 (fun e => ?_) (fun e => ?_)⟩
    · have hm : d.1 ∈ (["none", "one", "all"] : List Str) := of_decide_eq_true ((inS d.1 ["none", "one", "all"]).symm.trans e)
      intro p hp
      refine ⟨.int (2 ^ n), rfl, 2 ^ n, 1, rfl, rfl, upd_same, [(Sum.inr "none", .int 0), (Sum.inr "one", .int 1), (Sum.inr "all", .int (2 ^ n - 1))], rfl, (by show 3 ≤ 15; decide), .str d.1, rfl, p, ?_⟩
      rw [upd_upd]
      have q1 := q _ (sT.trans (same_new (o := .dK (mergeK [] [(Sum.inr "none", .int 0), (Sum.inr "one", .int 1), (Sum.inr "all", .int (2 ^ n - 1))])) hp))
      simp only [List.mem_cons, List.not_mem_nil, or_false] at hm
      rcases hm with hm | hm | hm <;> rw [hm] at q1 ⊢
      · rw [show dvalue "none" (argAt d told 0) (argAt d told 1) (2 ^ n) = 0 from rfl, Int.zero_emod] at q1
        exact ⟨.int 0, rfl, dget_at (k := Sum.inr "none") upd_same rfl, q1⟩
      · rw [show dvalue "one" (argAt d told 0) (argAt d told 1) (2 ^ n) = 1 from rfl, Int.emod_eq_of_lt (by decide) (by omega)] at q1
        exact ⟨.int 1, rfl, dget_at (k := Sum.inr "one") upd_same rfl, q1⟩
      · rw [show dvalue "all" (argAt d told 0) (argAt d told 1) (2 ^ n) = 2 ^ n - 1 from rfl, Int.emod_eq_of_lt (by omega) (by omega)] at q1
        exact ⟨.int (2 ^ n - 1), rfl, dget_at (k := Sum.inr "all") upd_same rfl, q1⟩
    have hn1 : ¬ d.1 ∈ (["none", "one", "all"] : List Str) := fun z => e ((inS d.1 ["none", "one", "all"]).trans (decide_eq_true z))
    simp only [List.mem_cons, List.not_mem_nil, or_false, not_or] at hn1
    obtain ⟨n1, n2, n3⟩ := hn1
    obtain ⟨i, hi, ai, ei⟩ := arg1 ok n1 n2 n3
    refine ⟨.ref L, rfl, .ref r, rfl, r, _, 1, .int i, rfl, rfl, SqT.of (sT _ _ er), dvN (k := 0) hi, L, _, i, .int (argAt d told 0), rfl, rfl, sT.seq eL, ei, ?_⟩
    refine ⟨.str d.1, rfl, by show 3 ≤ sizeLine; decide, fun U hU => ?_⟩
    have sU := sT.trans (same_new (o := .tup [.str "not", .str "neg", .str "twice"]) hU)
    refine ⟨U, _, rfl, .inr (SqT.of upd_same), rfl, rfl, _, rfl, ite2 (fun e => ?_) (fun e => ?_)⟩
    · have hm : d.1 ∈ (["not", "neg", "twice"] : List Str) := of_decide_eq_true ((inS d.1 ["not", "neg", "twice"]).symm.trans e)
      have qa := fun H' s' => q H' s'
      generalize argAt d told 0 = y at qa a0 a1
      generalize argAt d told 1 = z at qa b0 b1
      intro p hp
      have hmul : CMul 2 y := .inl ⟨by decide, by decide⟩
      refine ⟨.int (2 ^ n), rfl, 2 ^ n, 1, rfl, rfl, .int y, rfl, _, y, rfl, rfl, .int y, rfl, 0, y, rfl, rfl, .int y, rfl, 2, y, rfl, rfl, hmul, upd_same, [(Sum.inr "not", .int (2 ^ n - 1 - y)), (Sum.inr "neg", .int (0 - y)), (Sum.inr "twice", .int (2 * y))], rfl, (by show 3 ≤ 15; decide), .str d.1, rfl, p, ?_⟩
      rw [upd_upd]
      have q1 := qa _ (sU.trans (same_new (o := .dK (mergeK [] [(Sum.inr "not", .int (2 ^ n - 1 - y)), (Sum.inr "neg", .int (0 - y)), (Sum.inr "twice", .int (2 * y))])) hp))
      simp only [List.mem_cons, List.not_mem_nil, or_false] at hm
      rcases hm with hm | hm | hm <;> rw [hm] at q1 ⊢
      · exact ⟨.int (2 ^ n - 1 - y), rfl, dget_at (k := Sum.inr "not") upd_same rfl, .int (2 ^ n), rfl, _, _, rfl, rfl, npos, q1⟩
      · rw [show dvalue "neg" y z (2 ^ n) = 0 - y from (Int.zero_sub y).symm] at q1
        exact ⟨.int (0 - y), rfl, dget_at (k := Sum.inr "neg") upd_same rfl, .int (2 ^ n), rfl, _, _, rfl, rfl, npos, q1⟩
      · rw [show dvalue "twice" y z (2 ^ n) = 2 * y from (Int.two_mul y).symm] at q1
        exact ⟨.int (2 * y), rfl, dget_at (k := Sum.inr "twice") upd_same rfl, .int (2 ^ n), rfl, _, _, rfl, rfl, npos, q1⟩
    have hn2 : ¬ d.1 ∈ (["not", "neg", "twice"] : List Str) := fun z => e ((inS d.1 ["not", "neg", "twice"]).trans (decide_eq_true z))
    simp only [List.mem_cons, List.not_mem_nil, or_false, not_or] at hn2
    obtain ⟨n4, n5, n6⟩ := hn2
    obtain ⟨j, hj, aj, ej⟩ := arg2 ok n1 n2 n3 n4 n5 n6
    refine ⟨.ref L, rfl, .ref r, rfl, r, _, 2, .int j, rfl, rfl, SqT.of (sU _ _ er), dvN (k := 1) hj, L, _, j, .int (argAt d told 1), rfl, rfl, sU.seq eL, ej, ?_⟩
    refine ⟨.str d.1, rfl, by show 3 ≤ sizeLine; decide, fun W hW => ?_⟩
    have sW := sU.trans (same_new (o := .tup [.str "and", .str "or", .str "xor"]) hW)
    have hw := ok.word
    have qa := fun H' s' => q H' s'
    generalize argAt d told 0 = y at qa a0 a1
    generalize argAt d told 1 = z at qa b0 b1
    refine ⟨W, _, rfl, .inr (SqT.of upd_same), rfl, rfl, _, rfl, ite2 (fun e => ?_) (fun e => ?_)⟩
    · have hm : d.1 ∈ (["and", "or", "xor"] : List Str) := of_decide_eq_true ((inS d.1 ["and", "or", "xor"]).symm.trans e)
      intro p hp
      refine ⟨.int y, rfl, .int z, rfl, y, z, rfl, rfl, .int y, rfl, .int z, rfl, y, z, rfl, rfl, .int y, rfl, .int z, rfl, y, z, rfl, rfl, upd_same, [(Sum.inr "and", .int (Builtin.bitAnd y z)), (Sum.inr "or", .int (Builtin.bitOr y z)), (Sum.inr "xor", .int (Builtin.bitXor y z))], rfl, (by show 3 ≤ 15; decide), .str d.1, rfl, p, ?_⟩
      rw [upd_upd]
      have q1 := qa _ (sW.trans (same_new (o := .dK (mergeK [] [(Sum.inr "and", .int (Builtin.bitAnd y z)), (Sum.inr "or", .int (Builtin.bitOr y z)), (Sum.inr "xor", .int (Builtin.bitXor y z))])) hp))
      simp only [List.mem_cons, List.not_mem_nil, or_false] at hm
      rcases hm with hm | hm | hm <;> rw [hm] at q1 ⊢
      · rw [show dvalue "and" y z (2 ^ n) = Builtin.bitAnd y z from rfl, and_lt a0 a1 b0] at q1
        exact ⟨_, rfl, dget_at (k := Sum.inr "and") upd_same rfl, q1⟩
      · rw [show dvalue "or" y z (2 ^ n) = Builtin.bitOr y z from rfl, or_lt a0 a1 b0 b1] at q1
        exact ⟨_, rfl, dget_at (k := Sum.inr "or") upd_same rfl, q1⟩
      · rw [show dvalue "xor" y z (2 ^ n) = Builtin.bitXor y z from rfl, xor_lt a0 a1 b0 b1] at q1
        exact ⟨_, rfl, dget_at (k := Sum.inr "xor") upd_same rfl, q1⟩
    · have hn3 : ¬ d.1 ∈ (["and", "or", "xor"] : List Str) := fun z => e ((inS d.1 ["and", "or", "xor"]).trans (decide_eq_true z))
      simp only [List.mem_cons, List.not_mem_nil, or_false, not_or] at hn3
      obtain ⟨n7, n8, n9⟩ := hn3
      have hm : d.1 = "add" ∨ d.1 = "sub" := by
        rcases fw_cases hw with ⟨_, h⟩ | ⟨_, h⟩ | ⟨_, h⟩
        · rcases h with h | h | h
          · exact absurd h n1
          · exact absurd h n2
          · exact absurd h n3
        · rcases h with h | h | h
          · exact absurd h n4
          · exact absurd h n5
          · exact absurd h n6
        · rcases h with h | h | h | h | h
          · exact absurd h n7
          · exact absurd h n8
          · exact absurd h n9
          · exact .inl h
          · exact .inr h
      intro p hp
      refine ⟨.int y, rfl, .int z, rfl, y, z, rfl, rfl, .int y, rfl, .int z, rfl, y, z, rfl, rfl, upd_same, [(Sum.inr "add", .int (y + z)), (Sum.inr "sub", .int (y - z))], rfl, (by show 2 ≤ 15; decide), .str d.1, rfl, p, ?_⟩
      rw [upd_upd]
      have q1 := qa _ (sW.trans (same_new (o := .dK (mergeK [] [(Sum.inr "add", .int (y + z)), (Sum.inr "sub", .int (y - z))])) hp))
      rcases hm with hm | hm <;> rw [hm] at q1 ⊢
      · exact ⟨.int (y + z), rfl, dget_at (k := Sum.inr "add") upd_same rfl, .int (2 ^ n), rfl, _, _, rfl, rfl, npos, q1⟩
      · exact ⟨.int (y - z), rfl, dget_at (k := Sum.inr "sub") upd_same rfl, .int (2 ^ n), rfl, _, _, rfl, rfl, npos, q1⟩
theorem shl1W {n : Nat} (h : n ≤ 1000000) : CShl 1 (n : Int) := ⟨by omega, by
  have e : Builtin.Int.intBits 1 = 1 := by decide +kernel
  rw [e]
  have : (2 : Int) ^ 27 = 134217728 := by decide
  omega⟩
def spLvs (K : PySem.W.Frag) : Sp := fun vs H Q _ => ∃ (R W : Addr) (m o : Int) (ds : List Deed) (xs : List Int) (n : Nat), vs = [.ref R, .int (n : Int), .ref W] ∧ RowAt H R m ds o ∧ DsOk m ds ∧ ds.length ≤ 100 ∧ SqL K H W (xs.map V.int) ∧ (xs.length : Int) = m ∧ xs.length ≤ 100 ∧ 1 ≤ n ∧ n ≤ 1000000 ∧ (∀ x ∈ xs, 0 ≤ x ∧ x < 2 ^ n) ∧
  ∀ H' L, Same H H' → H L = none → H' L = some (.lst ((vals (2 ^ n) ds xs).map V.int)) → Q (.ref L) H'
theorem ok_lvs {f fV : Addr} {fd fdV : FuncData} {k : Nat} (F : Fun K "_law_values" "_law_values" s_law_values f fd) (GV : FnOk P w K mg base CX0 (k + 1) fV fdV ["deed", "told", "full"] (spLw K)) (kV : PySem.W.keepIn K (.ref fV) = true) (bV : Binds K fdV ["deed", "told", "full"] [])
    (gV : mg "_law_value" = some (.ref fV)) (ml : mg "list" = none) : FnOk P w K mg base CX0 (k + 2) f fd ["row", "width", "words"] (spLvs K) := by
  refine F.ok sc_law_values (fun vs H Q E h => ?_) (fun cdv A outer s H vs Q E hr h => ?_)
  · obtain ⟨R, W, m, o, ds, xs, n, rfl, _⟩ := h
    rfl
  · obtain ⟨R, W, m, o, ds, xs, n, rfl, hrow, hok, hds, eW, hm, hxs, hn1, hn, hxr, q⟩ := h
    obtain ⟨D, rs, eR, eD, hd⟩ := id hrow
    refine ⟨_, pss_cons (ps_set (i := 3) sc_law_values.nd rfl (.inl rfl) (pe_callTy call_list_of (by rfl) ml (by decide +kernel) (pa_cons (pv 2) pa_nil)))
      (pss_cons (ps_for PassesOwn.never rfl (pi_tup (pe_ix ix_tup (pv 0) pe_int (fun _ _ => rfl))) (pg_name (i := 4) sc_law_values.nd rfl (.inl rfl))
        (pss_one (ps_expr (pe_bm PySem.F.plainAttrs_list PySem.F.slot_list_append PySem.F.type_list_append mt_append (pv 3) (pa_cons (pe_call GV hr (by rfl) gV kV bV .nil pass0 (pa_cons (pv 4) (pa_cons (pv 3) (pa_cons (pe_op op_shlW pe_int (pv 1)) pa_nil)))) pa_nil)))))
      (pss_one (ps_ret (pv 3)))), ?_⟩
    have hpos : (0 : Int) < 2 ^ n := Int.pow_pos (by decide)
    have esz : (1 : Int) * 2 ^ ((n : Int).toNat) = 2 ^ n := by rw [Int.one_mul, Int.toNat_natCast]
    refine ⟨.ref W, rfl, W, _, rfl, .inl eW, fun L hL => ?_⟩
    have sL := same_new (o := .lst (xs.map V.int)) hL
    refine ⟨.ref R, rfl, R, _, 1, .ref D, rfl, rfl, SqT.of (sL _ _ eR), rfl, D, rfl, ⟨_, SqT.of (sL _ _ eD)⟩, for_tup (K := K) (a := D) (xs := rs.map V.ref) (fun i σ H3 => ∃ y, σ = [some (.ref R), some (.int n), some (.ref W), some (.ref L), y] ∧ H3 L = some (.lst ((vals (2 ^ n) (ds.take i) xs).map V.int)) ∧ Same H H3) ⟨none, rfl, upd_same, sL⟩ (fun i σ H3 _ hp => ?_) (fun i x σ H3 hx hp => ?_) (fun σ H3 hp => ?_)⟩
    · obtain ⟨_, _, _, sm⟩ := hp
      exact SqT.of (sm _ _ eD)
    · obtain ⟨y, rfl, e3, sm⟩ := hp
      have hi : i < rs.length := by
        have := (List.getElem?_eq_some_iff.mp hx).1
        rwa [List.length_map] at this
      have hx' : x = .ref rs[i] := by
        rw [List.getElem?_map, List.getElem?_eq_getElem hi] at hx
        exact (Option.some.inj hx).symm
      subst hx'
      obtain ⟨d, hd1, hd2⟩ := awGet hd (List.getElem?_eq_getElem hi)
      have hlen : (vals (2 ^ n) (ds.take i) xs).length = xs.length + i := by
        have h2 : i < ds.length := by
          rw [← awLen hd]
          exact hi
        rw [vals_len, List.length_take, Nat.min_eq_left (Nat.le_of_lt h2)]
      have okd : DeedOk (vals (2 ^ n) (ds.take i) xs).length d := by
        rw [hlen]
        have := hok.each i d hd1
        rw [← hm] at this
        exact this
      refine ⟨.ref L, rfl, .inl ⟨rfl, _, .inl (.inl e3)⟩, .ref rs[i], rfl, .ref L, rfl, .int n, rfl, 1, n, rfl, rfl, shl1W hn, rs[i], L, d, _, n, congrArg (fun z => [V.ref rs[i], V.ref L, V.int z]) esz, sm _ _ hd2, .inl (.inl e3), okd, vals_range hpos _ _ hxr, hn1, fun H4 s4 => ?_⟩
      refine ⟨L, _, _, rfl, rfl, s4 _ _ e3, ?_, some (.ref rs[i]), rfl, ?_, ?_⟩
      · rw [List.length_map, hlen]
        exact small1000 (by rw [awLen hd] at hi; omega)
      · rw [upd_same, vals_next hd1, List.map_append]
        rfl
      · intro b u e
        rw [upd_ne (ne_of_none e hL)]
        exact s4 b u (sm b u e)
    · obtain ⟨y, rfl, e3, sm⟩ := hp
      rw [List.length_map, awLen hd, List.take_length] at e3
      exact ⟨.ref L, rfl, q H3 L sm hL e3⟩
/-! ### slices of tuples; rows bent -/
section slz
variable {X : Cx}
def rSlZ : V → Option Int → Option Int → Hp → VK → Prop := fun x lo hi H Q => ∃ a xs, x = .ref a ∧ H a = some (.tup xs) ∧ ∀ p H2, Same H H2 → H2 p = some (.tup (cutV xs lo hi)) → Q (.ref p) H2
theorem sl_tupZ : SlR X rSlZ := by
  intro pins s σ H x v vl vu lo hi sl Q I rx hs hl hh h
  obtain ⟨a, xs, rfl, ha, q⟩ := h
  refine sl_tupA pins s σ H _ v vl vu lo hi sl Q I rx hs hl hh ⟨a, xs, rfl, SqT.of ha, fun z => ?_, fun _ p hp => q p _ (same_new hp) upd_same⟩
  refine q a H (Same.refl H) ?_
  have e : cutV xs lo hi = xs := by
    unfold cutV
    rw [z.1, z.2, List.drop_zero, Nat.sub_zero, List.take_length]
  rw [e]
  exact ha
end slz
theorem cut_take (xs : List V) (k : Nat) : cutV xs none (some (k : Int)) = xs.take k := by
  unfold cutV
  rw [HT.sIx_none, HT.sIx_nat, List.drop_zero, Nat.sub_zero]
  by_cases h : k ≤ xs.length
  · rw [Nat.min_eq_left h]
  · rw [Nat.min_eq_right (by omega), List.take_length, List.take_of_length_le (by omega)]
theorem cut_drop (xs : List V) (k : Nat) : cutV xs (some (k : Int)) none = xs.drop k := by
  unfold cutV
  rw [HT.sIx_none, HT.sIx_nat]
  by_cases h : k ≤ xs.length
  · rw [Nat.min_eq_left h, List.take_of_length_le (by rw [List.length_drop]; omega)]
  · rw [Nat.min_eq_right (by omega), Nat.sub_self, List.take_zero, List.drop_of_length_le (by omega)]
theorem set_cut {α : Type} {l : List α} {i : Nat} (h : i < l.length) (x : α) : l.take i ++ [x] ++ l.drop (i + 1) = l.set i x := by
  rw [List.set_eq_take_append_cons_drop, if_pos h, List.append_assoc]
  rfl
theorem lay_deed {m : Int} {d : Deed} (h : DeedOk m d) : PyData.canLay0 (deedD d) = true ∧ PyData.depth (deedD d) = 1 := by
  obtain ⟨h1, h2⟩ := lay_ints d.2
  have h3 : PyData.strOk d.1 = true := fw_ok _ (List.mem_map.mpr ⟨_, h.word, rfl⟩)
  unfold deedD
  exact ⟨by simp only [PyData.canLay0, PyData.canLayAll0, h1, h3, Bool.and_self], by simp only [PyData.depth, PyData.depthAll, h2, Nat.max_self]⟩
theorem lay_deeds : ∀ {ds : List Deed}, (∀ d ∈ ds, ∃ m, DeedOk m d) → PyData.canLayAll0 (ds.map deedD) = true ∧ PyData.depthAll (ds.map deedD) ≤ 1
  | [], _ => ⟨by simp only [List.map_nil, PyData.canLayAll0], by simp only [List.map_nil, PyData.depthAll]; decide⟩
  | d :: ds, h => by
    obtain ⟨h1, h2⟩ := lay_deeds fun e he => h e (List.mem_cons_of_mem _ he)
    obtain ⟨m, hm⟩ := h d List.mem_cons_self
    obtain ⟨g1, g2⟩ := lay_deed hm
    exact ⟨by simp only [List.map_cons, PyData.canLayAll0, h1, g1, Bool.and_self], by simp only [List.map_cons, PyData.depthAll, g2]; omega⟩
theorem deeds_shaped {ds : List Deed} (h : ∀ d ∈ ds, ∃ m, DeedOk m d) : SeqAt.shaped (.tuple (ds.map deedD)) = true := by
  obtain ⟨h1, h2⟩ := lay_deeds h
  have h3 : PyData.depthAll (ds.map deedD) = 0 ∨ PyData.depthAll (ds.map deedD) = 1 := by omega
  rcases h3 with h3 | h3
  · simp only [SeqAt.shaped, PyData.canLay0, PyData.depth, h1, h3, Bool.true_and]
    decide
  · simp only [SeqAt.shaped, PyData.canLay0, PyData.depth, h1, h3, Bool.true_and]
    decide
theorem dsOk_mems {m : Int} {ds : List Deed} (h : DsOk m ds) : ∀ d ∈ ds, ∃ m, DeedOk m d := fun d hd => by
  obtain ⟨k, hk⟩ := List.mem_iff_getElem?.mp hd
  exact ⟨_, h.each k d hk⟩
theorem dp_deeds {H : Hp} : ∀ {rs : List Addr} {ds : List Deed}, DsAt H rs ds → DpAll K H (rs.map V.ref) (ds.map deedD)
  | _, _, .nil => .nil
  | _, _, .cons h t => .cons (.tup (SqT.of h) (.cons (.str _) (dp_ints _))) (dp_deeds t)
theorem eqv_nilT (l : List PyData) : PyData.eqv (.tuple l) (.tuple []) = l.isEmpty := by
  cases l <;> simp only [PyData.eqv, PyData.eqvAll, List.isEmpty_nil, List.isEmpty_cons]
theorem awSet {α β : Type} {F : α → β → Prop} {x : α} {y : β} (h : F x y) : ∀ {l : List α} {l2 : List β} (i : Nat), Paired F l l2 → Paired F (l.set i x) (l2.set i y)
  | _, _, _, .nil => .nil
  | _, _, 0, .cons _ t => .cons h t
  | _, _, i + 1, .cons r t => .cons r (awSet h i t)
theorem dsOk_set {m : Int} {ds : List Deed} {d : Deed} {i : Nat} (h : DsOk m ds) (k : DeedOk (m + i) d) : DsOk m (ds.set i d) := by
  constructor
  intro j e hj
  rw [List.getElem?_set] at hj
  split at hj
  · rename_i hij
    subst hij
    split at hj
    · obtain rfl := Option.some.inj hj
      exact k
    · cases hj
  · exact h.each j e hj
theorem carN_set (d : Deed) : ∀ (ds : List Deed) (i : Nat), carN (ds.set i d) ≤ carN ds + 1
  | [], _ => Nat.le_succ _
  | e :: ds, 0 => by
    show carN ds + _ ≤ carN ds + _ + 1
    split <;> split <;> omega
  | e :: ds, i + 1 => by
    show carN (ds.set i d) + _ ≤ carN ds + _ + 1
    have := carN_set d ds i
    omega
theorem bent_words0 : ∀ x ∈ (["none", "all"] : List Str), (x, (0 : Int)) ∈ fwL := by decide +kernel
theorem bent_words1 : ∀ x ∈ (["not", "twice"] : List Str), (x, (1 : Int)) ∈ fwL := by decide +kernel
theorem bent_words2 : ∀ x ∈ (["and", "or", "xor"] : List Str), (x, (2 : Int)) ∈ fwL := by decide +kernel
def spBe : Sp := fun vs H Q _ => ∃ (a R : Addr) (m o : Int) (ds : List Deed), vs = [.ref a, .ref R] ∧ TP H a ∧ RowAt H R m ds o ∧ RowOk m ds o ∧
  ∀ H' R' ds' o', RowAt H' R' m ds' o' → RowOk m ds' o' → ds'.length = ds.length → carN ds' ≤ carN ds + 1 → TP H' a → But a H H' → Q (.ref R') H'
theorem ok_be {f fD fE : Addr} {fd fdD fdE : FuncData} {k : Nat} (F : Fun K "_law_bent" "_law_bent" s_law_bent f fd) (GD : FnOk P w K mg base CX0 (k + 1) fD fdD ["tape", "many"] spDigit) (kD : PySem.W.keepIn K (.ref fD) = true)
    (GE : FnOk P w K mg base CX0 (k + 2) fE fdE ["tape", "ahead", "left"] spTd) (kE : PySem.W.keepIn K (.ref fE) = true) (bD : Binds K fdD ["tape", "many"] []) (bE : Binds K fdE ["tape", "ahead", "left"] []) (gD : mg "_law_digit" = some (.ref fD)) (gE : mg "_law_deed" = some (.ref fE))
    (mn : mg "len" = none) : FnOk P w K mg base CX0 (k + 3) f fd ["tape", "row"] spBe := by
  refine F.ok sc_law_bent (fun vs H Q E h => ?_) (fun cdv A outer s H vs Q E hr h => ?_)
  · obtain ⟨a, R, m, o, ds, rfl, _⟩ := h
    rfl
  · obtain ⟨a, R, m, o, ds, rfl, ht, hrow, hok, q⟩ := h
    obtain ⟨D, rs, eR, eD, hd⟩ := id hrow
    have r1 := hr.mono (show k + 1 ≤ k + 2 by omega)
    refine ⟨_, pss_cons (ps_asg (pv 1) (pg_tup rfl (pgs_cons (pg_name (i := 2) sc_law_bent.nd rfl (.inl rfl)) (pgs_cons (pg_name (i := 3) sc_law_bent.nd rfl (.inl rfl)) (pgs_cons (pg_name (i := 4) sc_law_bent.nd rfl (.inl rfl)) pgs_nil)))))
      (pss_cons (ps_set (i := 5) sc_law_bent.nd rfl (.inl rfl) (pe_call GD r1 (by rfl) gD kD bD .nil pass0 (pa_cons (pv 0) (pa_cons pe_int pa_nil))))
      (pss_cons (ps_if (PW.pt (pw_or (pt_cmpR (op_eqD hr.units) (pv 3) (pe_tup pa_nil) (nomark _)) (pw_or1 (pt_cmpR op_eq (pv 5) pe_int (nomark _)))))
        (pss_one (ps_ret (pe_tup (pa_cons (pv 2) (pa_cons (pv 3) (pa_cons (pe_call GD r1 (by rfl) gD kD bD .nil pass0 (pa_cons (pv 0) (pa_cons (pe_op op_add (pv 2) (pe_callB call_len_seq (by rfl) mn PySem.boot_len (pa_cons (pv 3) pa_nil))) pa_nil))) pa_nil)))))) pss_nil)
      (pss_cons (ps_set (i := 6) sc_law_bent.nd rfl (.inl rfl) (pe_call GD r1 (by rfl) gD kD bD .nil pass0 (pa_cons (pv 0) (pa_cons (pe_callB call_len_seq (by rfl) mn PySem.boot_len (pa_cons (pv 3) pa_nil)) pa_nil))))
      (pss_cons (ps_set (i := 7) sc_law_bent.nd rfl (.inl rfl) (pe_ix ix_tup (pv 3) (pv 6) (fun _ _ => rfl)))
      (pss_mid (ps_if (PW.pt (pw_and (pt_cmpR op_eq (pv 5) pe_int (nomark _)) (pw_and1 (pt_cmpR op_gt (pe_callB call_len_seq (by rfl) mn PySem.boot_len (pa_cons (pv 7) pa_nil)) pe_int (nomark _)))))
        (pss_cons (ps_set (i := 8) sc_law_bent.nd rfl (.inl rfl) (pe_op op_add pe_int (pe_call GD r1 (by rfl) gD kD bD .nil pass0 (pa_cons (pv 0) (pa_cons (pe_op op_sub (pe_callB call_len_seq (by rfl) mn PySem.boot_len (pa_cons (pv 7) pa_nil)) pe_int) pa_nil)))))
        (pss_one (ps_set (i := 7) sc_law_bent.nd rfl (.inl rfl) (pe_op op_catZ (pe_op op_catZ (pe_slice sl_tupZ (pv 7) po_none (po_some (pv 8))) (pe_tup (pa_cons (pe_call GD r1 (by rfl) gD kD bD .nil pass0 (pa_cons (pv 0) (pa_cons (pe_op op_add (pv 2) (pv 6)) pa_nil))) pa_nil))) (pe_slice sl_tupZ (pv 7) (po_some (pe_op op_add (pv 8) pe_int)) po_none)))))
        (pss_one (ps_if (pt_cmpR op_eq (pv 5) pe_int (nomark _))
          (pss_cons (ps_set (i := 9) sc_law_bent.nd rfl (.inl rfl) (pe_ix ix_list (pe_lst (pa_cons (pe_lst (pa_cons pe_str (pa_cons pe_str pa_nil))) (pa_cons (pe_lst (pa_cons pe_str (pa_cons pe_str pa_nil))) (pa_cons (pe_lst (pa_cons pe_str (pa_cons pe_str (pa_cons pe_str pa_nil)))) pa_nil)))) (pe_op op_sub (pe_callB call_len_seq (by rfl) mn PySem.boot_len (pa_cons (pv 7) pa_nil)) pe_int) (fun _ _ => rfl)))
          (pss_one (ps_set (i := 7) sc_law_bent.nd rfl (.inl rfl) (pe_op op_catZ (pe_tup (pa_cons (pe_ix ix_list (pv 9) (pe_call GD r1 (by rfl) gD kD bD .nil pass0 (pa_cons (pv 0) (pa_cons (pe_callB call_len_seq (by rfl) mn PySem.boot_len (pa_cons (pv 9) pa_nil)) pa_nil))) (fun _ _ => rfl)) pa_nil)) (pe_slice sl_tupZ (pv 7) (po_some pe_int) po_none)))))
          (pss_one (ps_set (i := 7) sc_law_bent.nd rfl (.inl rfl) (pe_call GE hr (by rfl) gE kE bE .nil pass0 (pa_cons (pv 0) (pa_cons (pe_op op_add (pv 2) (pv 6)) (pa_cons pe_int pa_nil)))))))))
      (pss_one (ps_ret (pe_tup (pa_cons (pv 2) (pa_cons (pe_op op_catZ (pe_op op_catZ (pe_slice sl_tupZ (pv 3) po_none (po_some (pv 6))) (pe_tup (pa_cons (pv 7) pa_nil))) (pe_slice sl_tupZ (pv 3) (po_some (pe_op op_add (pv 6) pe_int)) po_none)) (pa_cons (pv 4) pa_nil))))))))))), ?_⟩
    have m1 := hok.m1
    have m3 := hok.m3
    have l8 := hok.len
    have o0 := hok.o0
    have o1 := hok.o1
    have rl := awLen hd
    have rlI : ((rs.map V.ref).length : Int) = ds.length := by rw [List.length_map, rl]
    refine ⟨.ref R, rfl, R, [.int m, .ref D, .int o], rfl, SqT.of eR, rfl, .int m, [.ref D, .int o], rfl, .ref D, [.int o], rfl, .int o, [], rfl, rfl, ?_⟩
    refine ⟨.ref a, rfl, a, 4, rfl, by decide, by decide, ht, fun H1 wy wy0 wy1 t1 b1 => ?_⟩
    have eD1 := b1.tape ht _ _ eD
    have hd1 := (b1.tape ht).ds hd
    have hm := dsOk_mems hok.deeds
    refine ⟨.ref D, rfl, by show 0 ≤ sizeLine; decide, fun Z hZ => ?_⟩
    have sZ := same_new (o := .tup []) hZ
    have tZ := t1.same sZ
    have bZ : But a H (upd H1 Z (.tup [])) := b1.trans (But.same sZ)
    have hdZ := (Same.tups sZ).ds hd1
    have eDZ := sZ _ _ eD1
    -- out bent
    have outWay : ∀ H2 : Hp, TP H2 a → But a H H2 → H2 D = some (.tup (rs.map V.ref)) → DsAt H2 rs ds →
        ∀ z, 0 ≤ z → z < m + ((rs.map V.ref).length : Int) → ∀ H3, TP H3 a → But a H2 H3 → ∀ T, H3 T = none → Q (.ref T) (upd H3 T (.tup [.int m, .ref D, .int z])) := by
      intro H2 t2 b2 e2 d2 z z0 z1 H3 t3 b3 T hT
      have sT := same_new (o := .tup [.int m, .ref D, .int z]) hT
      refine q _ T ds z ⟨D, rs, upd_same, sT _ _ (b3.tape t2 _ _ e2), (Same.tups sT).ds ((b3.tape t2).ds d2)⟩ ⟨m1, m3, l8, hok.deeds, z0, by omega⟩ rfl (Nat.le_succ _) (t3.same sT) ((b2.trans b3).trans (But.same sT))
    refine ⟨.tuple (ds.map deedD), .tuple [], .tup (SqT.of eDZ) (dp_deeds hdZ), .tup (SqT.of upd_same) .nil, deeds_shaped hm, deeds_shaped (ds := []) (fun _ z => nomatch z), _, rfl, ?_⟩
    rw [eqv_nilT]
    refine ite2 (fun e => ?_) (fun e => ?_)
    · refine ⟨.int m, rfl, .ref D, rfl, .ref a, rfl, .int m, rfl, .ref D, rfl, D, _, rfl, .inr (SqT.of eDZ), m, _, rfl, rfl, a, _, rfl, by omega, by omega, tZ, fun H3 z z0 z1 t3 b3 => ?_⟩
      exact ⟨by show 3 ≤ sizeLine; decide, fun T hT => outWay _ tZ bZ eDZ hdZ z z0 z1 H3 t3 b3 T hT⟩
    refine ⟨.int wy, rfl, rfl, _, rfl, ite2 (fun e2 => ?_) (fun e2 => ?_)⟩
    · refine ⟨.int m, rfl, .ref D, rfl, .ref a, rfl, .int m, rfl, .ref D, rfl, D, _, rfl, .inr (SqT.of eDZ), m, _, rfl, rfl, a, _, rfl, by omega, by omega, tZ, fun H3 z z0 z1 t3 b3 => ?_⟩
      exact ⟨by show 3 ≤ sizeLine; decide, fun T hT => outWay _ tZ bZ eDZ hdZ z z0 z1 H3 t3 b3 T hT⟩
    have dpos : 0 < ds.length := by
      cases ds with
      | nil => exact absurd rfl e
      | cons _ _ => exact Nat.succ_pos _
    refine ⟨.ref a, rfl, .ref D, rfl, D, _, rfl, .inr (SqT.of eDZ), a, _, rfl, by omega, by omega, tZ, fun H3 at0 a0 a1 t3 b3 => ?_⟩
    obtain ⟨i, rfl⟩ := Int.eq_ofNat_of_zero_le a0
    have hi : i < ds.length := by omega
    have hir : i < rs.length := by omega
    have eD3 := b3.tape tZ _ _ eDZ
    have hd3 := (b3.tape tZ).ds hdZ
    have bH3 := bZ.trans b3
    obtain ⟨d, hd1', hd2⟩ := awGet hd3 (List.getElem?_eq_getElem hir)
    have okd := hok.deeds.each i d hd1'
    have eat : atI (rs.map V.ref) (i : Int) = some (.ref rs[i]) := atI_nat (by rw [List.getElem?_map, List.getElem?_eq_getElem hir]; rfl)
    refine ⟨.ref D, rfl, .int (i : Int), rfl, D, _, (i : Int), .ref rs[i], rfl, rfl, SqT.of eD3, eat, ?_⟩
    have dl : ((dV d).length : Int) = d.2.length + 1 := by
      unfold dV
      rw [List.length_cons, List.length_map]
      omega
    have d2 : d.2.length ≤ 2 := by
      rcases fw_cases okd.word with ⟨h, _⟩ | ⟨h, _⟩ | ⟨h, _⟩ <;> omega
    refine ⟨fun σ2 H2 => ∃ y8 y9 r' d', σ2 = [some (.ref a), some (.ref R), some (.int m), some (.ref D), some (.int o), some (.int wy), some (.int (i : Int)), some (.ref r'), y8, y9] ∧ H2 r' = some (.tup (dV d')) ∧ DeedOk (m + i) d' ∧ TP H2 a ∧ But a H3 H2, ?_, ?_⟩
    · refine ⟨.int wy, rfl, rfl, _, rfl, ite2 (fun e3 => ⟨.ref rs[i], rfl, rs[i], _, rfl, .inr (SqT.of hd2), _, 1, rfl, rfl, _, rfl, ite2 (fun e4 => ?_) (fun e4 => ?_)⟩) (fun e3 => ?_)⟩
      · have big := of_decide_eq_true e4
        refine ⟨.ref a, rfl, .ref rs[i], rfl, rs[i], _, rfl, .inr (SqT.of hd2), _, 1, rfl, rfl, a, _, rfl, by omega, by omega, t3, fun H4 z z0 z1 t4 b4 => ⟨1, z, rfl, rfl, ?_⟩⟩
        obtain ⟨j, rfl⟩ := Int.eq_ofNat_of_zero_le z0
        have hj : j < d.2.length := by omega
        have ed4 := b4.tape t3 _ _ hd2
        refine ⟨.ref rs[i], rfl, .int (1 + (j : Int)), rfl, 1 + (j : Int), rfl, rs[i], _, rfl, ed4, fun p5 H5 s5 e5 => ?_⟩
        refine ⟨.ref a, rfl, .int m, rfl, .int (i : Int), rfl, m, (i : Int), rfl, rfl, a, _, rfl, by omega, by omega, t4.same s5, fun H6 x x0 x1 t6 b6 => ?_⟩
        refine ⟨by show 1 ≤ sizeLine; decide, fun U hU => ?_⟩
        have sU := same_new (o := .tup [.int x]) hU
        have e5' := sU _ _ (b6.tape (t4.same s5) _ _ e5)
        have c1 : cutV (dV d) none (some (1 + (j : Int))) = (dV d).take (j + 1) := by
          rw [show (1 : Int) + (j : Int) = ((j + 1 : Nat) : Int) by omega, cut_take]
        have c2 : cutV (dV d) (some (1 + (j : Int) + 1)) none = (dV d).drop (j + 1 + 1) := by
          rw [show (1 : Int) + (j : Int) + 1 = ((j + 1 + 1 : Nat) : Int) by omega, cut_drop]
        rw [c1] at e5'
        have dVl : (dV d).length = d.2.length + 1 := by omega
        refine ⟨p5, U, _, _, rfl, rfl, e5', upd_same, ?_, fun p7 H7 s7 e7 => ?_⟩
        · rw [List.length_take]
          exact Nat.le_of_lt (small1000 (by show min (j + 1) (dV d).length + 1 ≤ 1000; omega))
        have t7 := (t6.same sU).same s7
        have b7 : But a H3 H7 := ((((b4.trans (But.same s5)).trans b6).trans (But.same sU)).trans (But.same s7))
        have ed7 := b7.tape t3 _ _ hd2
        refine ⟨.ref rs[i], rfl, .int (1 + (j : Int)), rfl, 1 + (j : Int), 1, rfl, rfl, 1 + (j : Int) + 1, rfl, rs[i], _, rfl, ed7, fun p8 H8 s8 e8 => ?_⟩
        rw [c2] at e8
        refine ⟨p7, p8, _, _, rfl, rfl, s8 _ _ e7, e8, ?_, fun p9 H9 s9 e9 => ?_⟩
        · rw [List.length_append, List.length_take, List.length_drop]
          exact Nat.le_of_lt (small1000 (by show min (j + 1) (dV d).length + 1 + ((dV d).length - (j + 1 + 1)) ≤ 1000; omega))
        rw [set_cut (by omega)] at e9
        refine ⟨_, _, p9, (d.1, d.2.set j x), rfl, ?_, ⟨?_, fun y hy => ?_⟩, (t7.same s8).same s9, (b7.trans (But.same s8)).trans (But.same s9)⟩
        · rw [e9]
          unfold dV
          rw [List.set_cons_succ, List.map_set]
        · show (d.1, ((d.2.set j x).length : Int)) ∈ fwL
          rw [List.length_set]
          exact okd.word
        · rcases List.mem_or_eq_of_mem_set hy with h | h
          · exact okd.ahead y h
          · rw [h]
            exact ⟨x0, x1⟩
      all_goals
        refine ⟨.int wy, rfl, rfl, _, rfl, ite2 (fun e5 => ?_) (fun e5 => ?_)⟩
        · refine ⟨by show 2 ≤ sizeLine; decide, fun S0 h0 => ⟨by show 2 ≤ sizeLine; decide, fun S1 h1 => ⟨by show 3 ≤ sizeLine; decide, fun S2 h2 => ⟨by show 3 ≤ sizeLine; decide, fun S3 h3 => ?_⟩⟩⟩⟩
          have s0 := same_new (o := .lst ((["none", "all"] : List Str).map V.str)) h0
          have s1 := same_new (o := .lst ((["not", "twice"] : List Str).map V.str)) h1
          have s2 := same_new (o := .lst ((["and", "or", "xor"] : List Str).map V.str)) h2
          have s3 := same_new (o := .lst [.ref S0, .ref S1, .ref S2]) h3
          have sA := ((s0.trans s1).trans s2).trans s3
          have pick : ∃ (Sx : Addr) (ws : List Str), atI [V.ref S0, V.ref S1, V.ref S2] (((dV d).length : Int) - 1) = some (.ref Sx) ∧ (∀ x ∈ ws, (x, (d.2.length : Int)) ∈ fwL) ∧ 0 < ws.length ∧ ws.length ≤ 3 ∧
              upd (upd (upd (upd H3 S0 (.lst [.str "none", .str "all"])) S1 (.lst [.str "not", .str "twice"])) S2 (.lst [.str "and", .str "or", .str "xor"])) S3 (.lst [.ref S0, .ref S1, .ref S2]) Sx = some (.lst (ws.map V.str)) := by
            have hl : d.2.length = 0 ∨ d.2.length = 1 ∨ d.2.length = 2 := by omega
            rcases hl with hl | hl | hl <;> rw [dl, hl]
            · exact ⟨S0, ["none", "all"], rfl, bent_words0, by decide, by decide, s3 _ _ (s2 _ _ (s1 _ _ upd_same))⟩
            · exact ⟨S1, ["not", "twice"], rfl, bent_words1, by decide, by decide, s3 _ _ (s2 _ _ upd_same)⟩
            · exact ⟨S2, ["and", "or", "xor"], rfl, bent_words2, by decide, by decide, s3 _ _ upd_same⟩
          obtain ⟨Sx, ws, pk, hws, w0, w3, eSx⟩ := pick
          refine ⟨.ref rs[i], rfl, rs[i], _, rfl, .inr (SqT.of (sA _ _ hd2)), _, 1, rfl, rfl, S3, _, _, .ref Sx, rfl, rfl, .inl (.inl upd_same), pk, ?_⟩
          have t4 := t3.same sA
          have nSx : Sx ≠ a := fun z => by
            obtain ⟨x, y, ea⟩ := t4
            rw [z] at eSx
            have := eSx.symm.trans ea
            obtain ⟨w, ws, rfl⟩ : ∃ w ws', ws = w :: ws' := by
              cases ws with
              | nil => exact absurd w0 (Nat.lt_irrefl _)
              | cons w ws => exact ⟨w, ws, rfl⟩
            simp at this
          have wl : ((ws.map V.str).length : Int) = ws.length := by rw [List.length_map]
          refine ⟨.ref Sx, rfl, .ref a, rfl, .ref Sx, rfl, Sx, _, rfl, .inl (.inl (.inl eSx)), a, _, rfl, by omega, by omega, t4, fun H5 z z0 z1 t5 b5 => ?_⟩
          have eSx5 := b5 _ _ nSx eSx
          obtain ⟨v, hv, hvm⟩ := atI_in (l := ws.map V.str) z0 z1
          obtain ⟨x, hx, rfl⟩ := mem_strs hvm
          refine ⟨Sx, _, z, .str x, rfl, rfl, .inl (.inl eSx5), hv, by show 1 ≤ sizeLine; decide, fun U hU => ?_⟩
          have sU := same_new (o := .tup [.str x]) hU
          have b6 : But a H3 (upd H5 U (.tup [.str x])) := ((But.same sA).trans b5).trans (But.same sU)
          have ed6 := b6.tape t3 _ _ hd2
          refine ⟨.ref rs[i], rfl, 1, rfl, rs[i], _, rfl, ed6, fun p8 H8 s8 e8 => ?_⟩
          have c2 : cutV (dV d) (some 1) none = (dV d).drop 1 := cut_drop (dV d) 1
          rw [c2] at e8
          refine ⟨U, p8, _, _, rfl, rfl, s8 _ _ upd_same, e8, ?_, fun p9 H9 s9 e9 => ?_⟩
          · rw [List.length_drop]
            exact Nat.le_of_lt (small1000 (by show 1 + ((dV d).length - 1) ≤ 1000; omega))
          refine ⟨_, _, p9, (x, d.2), rfl, e9, ⟨hws x hx, okd.ahead⟩, ((t5.same sU).same s8).same s9, (b6.trans (But.same s8)).trans (But.same s9)⟩
        · refine ⟨.ref a, rfl, .int m, rfl, .int (i : Int), rfl, m, (i : Int), rfl, rfl, a, _, 1, rfl, by omega, by omega, t3, fun H4 r' d' hok' _ er t4 b4 => ?_⟩
          exact ⟨_, _, r', d', rfl, er, hok', t4, b4⟩
    · rintro σ2 H2 ⟨y8, y9, r', d', rfl, er, ok', t2, b2⟩
      have eD2 := b2.tape t3 _ _ eD3
      have c1 : cutV (rs.map V.ref) none (some (i : Int)) = (rs.map V.ref).take i := cut_take _ _
      have c2 : cutV (rs.map V.ref) (some ((i : Int) + 1)) none = (rs.map V.ref).drop (i + 1) := by
        rw [show (i : Int) + 1 = ((i + 1 : Nat) : Int) by omega, cut_drop]
      have rml : (rs.map V.ref).length = ds.length := by omega
      refine ⟨.int m, rfl, .ref D, rfl, .int (i : Int), rfl, (i : Int), rfl, D, _, rfl, eD2, fun p4 H4 s4 e4 => ?_⟩
      rw [c1] at e4
      refine ⟨.ref r', rfl, by show 1 ≤ sizeLine; decide, fun U hU => ?_⟩
      have sU := same_new (o := .tup [.ref r']) hU
      refine ⟨p4, U, _, _, rfl, rfl, sU _ _ e4, upd_same, ?_, fun p5 H5 s5 e5 => ?_⟩
      · rw [List.length_take]
        exact Nat.le_of_lt (small1000 (by show min i (rs.map V.ref).length + 1 ≤ 1000; omega))
      have s25 := (s4.trans sU).trans s5
      refine ⟨.ref D, rfl, .int (i : Int), rfl, (i : Int), 1, rfl, rfl, (i : Int) + 1, rfl, D, _, rfl, s25 _ _ eD2, fun p6 H6 s6 e6 => ?_⟩
      rw [c2] at e6
      refine ⟨p5, p6, _, _, rfl, rfl, s6 _ _ e5, e6, ?_, fun p7 H7 s7 e7 => ?_⟩
      · rw [List.length_append, List.length_take, List.length_drop]
        exact Nat.le_of_lt (small1000 (by show min i (rs.map V.ref).length + 1 + ((rs.map V.ref).length - (i + 1)) ≤ 1000; omega))
      rw [set_cut (by omega), ← List.map_set] at e7
      refine ⟨.int o, rfl, by show 3 ≤ sizeLine; decide, fun T hT => ?_⟩
      have sT := same_new (o := .tup [.int m, .ref p7, .int o]) hT
      have s2T := ((s25.trans s6).trans s7).trans sT
      refine q _ T (ds.set i d') o ⟨p7, rs.set i r', upd_same, sT _ _ e7, awSet (F := fun r d => (upd H7 T (.tup [.int m, .ref p7, .int o])) r = some (.tup (dV d))) (s2T _ _ er) i ((Same.tups s2T).ds ((b2.tape t3).ds hd3))⟩ ⟨m1, m3, by rw [List.length_set]; exact l8, dsOk_set hok.deeds ok', o0, by rw [List.length_set]; exact o1⟩ (List.length_set ..) (carN_set d' ds i) (t2.same s2T) ((bH3.trans b2).trans (But.same s2T))
/-! ### rows that are one to one, off the tape -/
def oG0 (n : Int) : List (List Deed) := [[("not", [n])], [("neg", [n])], [("one", []), ("add", [n, 1 + n])], [("twice", [n]), ("add", [n, 1 + n])]]
def oG1 (n : Int) : List (List Deed) := [[("all", []), ("xor", [n, 1 + n])], [("twice", [n]), ("xor", [n, 1 + n])]]
def oG2 (n : Int) : List (List Deed) := [[("twice", [n]), ("and", [n, 1 + n]), ("twice", [1 + n + 1]), ("add", [n, 1 + n + 2])]]
def opts (n : Int) : List (List Deed) := oG0 n ++ oG1 n ++ oG2 n
theorem dOk1 {m : Int} {x : Str} {l : List Int} (h : (x, (l.length : Int)) ∈ fwL) (k : ∀ i ∈ l, 0 ≤ i ∧ i < m) : DeedOk m (x, l) := ⟨h, k⟩
theorem mem1 {m a : Int} (h : 0 ≤ a ∧ a < m) : ∀ i ∈ [a], 0 ≤ i ∧ i < m := fun i hi => by rw [List.mem_singleton.mp hi]; exact h
theorem mem2 {m a b : Int} (h : 0 ≤ a ∧ a < m) (k : 0 ≤ b ∧ b < m) : ∀ i ∈ [a, b], 0 ≤ i ∧ i < m := fun i hi => by
  simp only [List.mem_cons, List.not_mem_nil, or_false] at hi
  rcases hi with rfl | rfl
  · exact h
  · exact k
theorem dsOk_nil (m : Int) : DsOk m [] := ⟨fun k d e => by simp at e⟩
theorem dsOk_cons {m : Int} {d : Deed} {ds : List Deed} (h : DeedOk m d) (k : DsOk (m + 1) ds) : DsOk m (d :: ds) := by
  have e := dsOk_append (m := m) (ds := [d]) (es := ds) (t := m + 1) ⟨fun j e hj => ?_⟩ k rfl
  · exact e
  · match j with
    | 0 =>
      obtain rfl := Option.some.inj hj
      have : m + ((0 : Nat) : Int) = m := by omega
      rw [this]
      exact h
    | j + 1 => simp at hj
theorem opts_ok {n : Int} (h : 0 ≤ n) : ∀ es ∈ opts n, DsOk (1 + n) es ∧ es.length ≤ 4 := by
  intro es he
  simp only [opts, oG0, oG1, oG2, List.cons_append, List.nil_append, List.mem_cons, List.not_mem_nil, or_false] at he
  rcases he with rfl | rfl | rfl | rfl | rfl | rfl | rfl
  · exact ⟨dsOk_cons (dOk1 (by show (_, ((1 : Nat) : Int)) ∈ fwL; decide +kernel) (mem1 ⟨by omega, by omega⟩)) (dsOk_nil _), by simp⟩
  · exact ⟨dsOk_cons (dOk1 (by show (_, ((1 : Nat) : Int)) ∈ fwL; decide +kernel) (mem1 ⟨by omega, by omega⟩)) (dsOk_nil _), by simp⟩
  · exact ⟨dsOk_cons (dOk1 (by show (_, ((0 : Nat) : Int)) ∈ fwL; decide +kernel) (fun _ z => nomatch z)) (dsOk_cons (dOk1 (by show (_, ((2 : Nat) : Int)) ∈ fwL; decide +kernel) (mem2 ⟨by omega, by omega⟩ ⟨by omega, by omega⟩)) (dsOk_nil _)), by simp⟩
  · exact ⟨dsOk_cons (dOk1 (by show (_, ((1 : Nat) : Int)) ∈ fwL; decide +kernel) (mem1 ⟨by omega, by omega⟩)) (dsOk_cons (dOk1 (by show (_, ((2 : Nat) : Int)) ∈ fwL; decide +kernel) (mem2 ⟨by omega, by omega⟩ ⟨by omega, by omega⟩)) (dsOk_nil _)), by simp⟩
  · exact ⟨dsOk_cons (dOk1 (by show (_, ((0 : Nat) : Int)) ∈ fwL; decide +kernel) (fun _ z => nomatch z)) (dsOk_cons (dOk1 (by show (_, ((2 : Nat) : Int)) ∈ fwL; decide +kernel) (mem2 ⟨by omega, by omega⟩ ⟨by omega, by omega⟩)) (dsOk_nil _)), by simp⟩
  · exact ⟨dsOk_cons (dOk1 (by show (_, ((1 : Nat) : Int)) ∈ fwL; decide +kernel) (mem1 ⟨by omega, by omega⟩)) (dsOk_cons (dOk1 (by show (_, ((2 : Nat) : Int)) ∈ fwL; decide +kernel) (mem2 ⟨by omega, by omega⟩ ⟨by omega, by omega⟩)) (dsOk_nil _)), by simp⟩
  · exact ⟨dsOk_cons (dOk1 (by show (_, ((1 : Nat) : Int)) ∈ fwL; decide +kernel) (mem1 ⟨by omega, by omega⟩)) (dsOk_cons (dOk1 (by show (_, ((2 : Nat) : Int)) ∈ fwL; decide +kernel) (mem2 ⟨by omega, by omega⟩ ⟨by omega, by omega⟩)) (dsOk_cons (dOk1 (by show (_, ((1 : Nat) : Int)) ∈ fwL; decide +kernel) (mem1 ⟨by omega, by omega⟩)) (dsOk_cons (dOk1 (by show (_, ((2 : Nat) : Int)) ∈ fwL; decide +kernel) (mem2 ⟨by omega, by omega⟩ ⟨by omega, by omega⟩)) (dsOk_nil _)))), by simp⟩
/-- a list of deeds at an address -/
def LdAt (H : Hp) (l : Addr) (es : List Deed) : Prop := ∃ rs, H l = some (.lst (rs.map V.ref)) ∧ DsAt H rs es
theorem ldat_same {H H2 : Hp} (s : Same H H2) {ls : List Addr} {l : List (List Deed)} (h : Paired (LdAt H) ls l) : Paired (LdAt H2) ls l := awMap (fun a es z => z.elim fun rs y => ⟨rs, s _ _ y.1, (Same.tups s).ds y.2⟩) h
theorem ldat_but {a : Addr} {H H2 : Hp} (t : TP H a) (s : But a H H2) {ls : List Addr} {l : List (List Deed)} (ha : ∀ b ∈ ls, b ≠ a) (h : Paired (LdAt H) ls l) : Paired (LdAt H2) ls l := by
  induction h with
  | nil => exact .nil
  | cons r _ ih =>
    obtain ⟨rs, h1, h2⟩ := r
    exact .cons ⟨rs, s _ _ (ha _ List.mem_cons_self) h1, (s.tape t).ds h2⟩ (ih fun b hb => ha b (List.mem_cons_of_mem _ hb))
theorem ldat_ne {a : Addr} {H : Hp} (t : TP H a) {ls : List Addr} {l : List (List Deed)} (h : Paired (LdAt H) ls l) : ∀ b ∈ ls, b ≠ a := by
  intro b hb z
  obtain ⟨x, y, ea⟩ := t
  induction h with
  | nil => cases hb
  | cons r _ ih =>
    rcases List.mem_cons.mp hb with rfl | hb
    · obtain ⟨rs, h1, _⟩ := r
      rw [z] at h1
      have e := h1.symm.trans ea
      cases rs <;> simp at e
    · exact ih hb
/-! group 0 -/
/-! group 1 -/
/-! group 2 -/
theorem awTake {α β : Type} {F : α → β → Prop} : ∀ {l : List α} {l2 : List β} (n : Nat), Paired F l l2 → Paired F (l.take n) (l2.take n)
  | _, _, 0, _ => .nil
  | _, _, _ + 1, .nil => .nil
  | _, _, n + 1, .cons r t => .cons r (awTake n t)
theorem dsOk_take {m : Int} {ds : List Deed} (n : Nat) (h : DsOk m ds) : DsOk m (ds.take n) := by
  constructor
  intro k d e
  rw [List.getElem?_take] at e
  split at e
  · exact h.each k d e
  · cases e
def spTn : Sp := fun vs H Q _ => ∃ a : Addr, vs = [.ref a] ∧ TP H a ∧ ∀ H' R ds o, RowAt H' R (1 : Nat) ds o → RowOk (1 : Nat) ds o → TP H' a → But a H H' → Q (.ref R) H'
theorem ok_tn {f fD fR fB : Addr} {fd fdD fdR fdB : FuncData} {k : Nat} (F : Fun K "_law_turning_row" "_law_turning_row" s_law_turning_row f fd) (GD : FnOk P w K mg base CX0 (k + 1) fD fdD ["tape", "many"] spDigit) (kD : PySem.W.keepIn K (.ref fD) = true) (bD : Binds K fdD ["tape", "many"] []) (gD : mg "_law_digit" = some (.ref fD))
    (GR : FnOk P w K mg base CX0 (k + 3) fR fdR ["tape", "many", "most", "left"] spTr) (kR : PySem.W.keepIn K (.ref fR) = true) (bR : Binds K fdR ["tape", "many", "most", "left"] []) (gR : mg "_law_row" = some (.ref fR))
    (GB : FnOk P w K mg base CX0 (k + 3) fB fdB ["tape", "row"] spBe) (kB : PySem.W.keepIn K (.ref fB) = true) (bB : Binds K fdB ["tape", "row"] []) (gB : mg "_law_bent" = some (.ref fB))
    (mr : mg "range" = none) (mn : mg "len" = none) (mt : mg "tuple" = none) : FnOk P w K mg base CX0 (k + 4) f fd ["tape"] spTn := by
  refine F.ok sc_law_turning_row (fun vs H Q E h => ?_) (fun cdv A outer s H vs Q E hr h => ?_)
  · obtain ⟨a, rfl, _⟩ := h
    rfl
  · obtain ⟨a, rfl, ht, q⟩ := h
    have r1 := hr.mono (show k + 1 ≤ k + 3 by omega)
    refine ⟨_, pss_cons (ps_if (pt_cmpR op_eq (pe_call GD r1 (by rfl) gD kD bD .nil pass0 (pa_cons (pv 0) (pa_cons pe_int pa_nil))) pe_int (nomark _)) (pss_one (ps_ret (pe_call GR hr (by rfl) gR kR bR .nil pass0 (pa_cons (pv 0) (pa_cons pe_int (pa_cons pe_int (pa_cons pe_int pa_nil))))))) pss_nil)
      (pss_cons (ps_set (i := 1) sc_law_turning_row.nd rfl (.inl rfl) (pe_lst pa_nil))
      (pss_cons (ps_set (i := 2) sc_law_turning_row.nd rfl (.inl rfl) pe_int)
      (pss_cons (ps_for PassesOwn.never rfl (pi_range1 (by rfl) mr (pa_cons (pe_op op_add pe_int (pe_call GD r1 (by rfl) gD kD bD .nil pass0 (pa_cons (pv 0) (pa_cons pe_int pa_nil)))) pa_nil)) (pg_name (i := 3) sc_law_turning_row.nd rfl (.inl rfl))
        (pss_cons (ps_set (i := 4) sc_law_turning_row.nd rfl (.inl rfl) (pe_op op_add pe_int (pe_callB call_len_seq (by rfl) mn PySem.boot_len (pa_cons (pv 1) pa_nil))))
        (pss_mid (ps_set (i := 5) sc_law_turning_row.nd rfl (.inl rfl) (pe_lst (pa_cons (pe_lst (pa_cons (pe_tup (pa_cons pe_str (pa_cons (pv 2) pa_nil))) pa_nil)) (pa_cons (pe_lst (pa_cons (pe_tup (pa_cons pe_str (pa_cons (pv 2) pa_nil))) pa_nil)) (pa_cons (pe_lst (pa_cons (pe_tup (pa_cons pe_str pa_nil)) (pa_cons (pe_tup (pa_cons pe_str (pa_cons (pv 2) (pa_cons (pv 4) pa_nil)))) pa_nil))) (pa_cons (pe_lst (pa_cons (pe_tup (pa_cons pe_str (pa_cons (pv 2) pa_nil))) (pa_cons (pe_tup (pa_cons pe_str (pa_cons (pv 2) (pa_cons (pv 4) pa_nil)))) pa_nil))) pa_nil))))))
        (pss_mid (ps_set (i := 5) sc_law_turning_row.nd rfl (.inl rfl) (pe_op op_cat (pv 5) (pe_lst (pa_cons (pe_lst (pa_cons (pe_tup (pa_cons pe_str pa_nil)) (pa_cons (pe_tup (pa_cons pe_str (pa_cons (pv 2) (pa_cons (pv 4) pa_nil)))) pa_nil))) (pa_cons (pe_lst (pa_cons (pe_tup (pa_cons pe_str (pa_cons (pv 2) pa_nil))) (pa_cons (pe_tup (pa_cons pe_str (pa_cons (pv 2) (pa_cons (pv 4) pa_nil)))) pa_nil))) pa_nil)))))
        (pss_mid (ps_set (i := 5) sc_law_turning_row.nd rfl (.inl rfl) (pe_op op_cat (pv 5) (pe_lst (pa_cons (pe_lst (pa_cons (pe_tup (pa_cons pe_str (pa_cons (pv 2) pa_nil))) (pa_cons (pe_tup (pa_cons pe_str (pa_cons (pv 2) (pa_cons (pv 4) pa_nil)))) (pa_cons (pe_tup (pa_cons pe_str (pa_cons (pe_op op_add (pv 4) pe_int) pa_nil))) (pa_cons (pe_tup (pa_cons pe_str (pa_cons (pv 2) (pa_cons (pe_op op_add (pv 4) pe_int) pa_nil)))) pa_nil))))) pa_nil))))
        (pss_cons (ps_set (i := 1) sc_law_turning_row.nd rfl (.inl rfl) (pe_slice sl_list (pe_op op_cat (pv 1) (pe_ix ix_list (pv 5) (pe_call GD r1 (by rfl) gD kD bD .nil pass0 (pa_cons (pv 0) (pa_cons pe_int pa_nil))) (fun _ _ => rfl))) po_none (po_some pe_int)))
        (pss_one (ps_set (i := 2) sc_law_turning_row.nd rfl (.inl rfl) (pe_callB call_len_seq (by rfl) mn PySem.boot_len (pa_cons (pv 1) pa_nil))))))))))
      (pss_cons (ps_set (i := 6) sc_law_turning_row.nd rfl (.inl rfl) (pe_tup (pa_cons pe_int (pa_cons (pe_callTy call_tuple_of (by rfl) mt (by decide +kernel) (pa_cons (pv 1) pa_nil)) (pa_cons (pv 2) pa_nil)))))
      (pss_cons (ps_if (pt_cmpR op_eq (pe_call GD r1 (by rfl) gD kD bD .nil pass0 (pa_cons (pv 0) (pa_cons pe_int pa_nil))) pe_int (nomark _)) (pss_one (ps_ret (pe_call GB hr (by rfl) gB kB bB .nil pass0 (pa_cons (pv 0) (pa_cons (pv 6) pa_nil))))) pss_nil)
      (pss_one (ps_ret (pv 6)))))))), ?_⟩
    refine ⟨.ref a, rfl, a, 2, rfl, by decide, by decide, ht, fun H1 z z0 z1 t1 b1 => ⟨rfl, _, rfl, ite2 (fun e => ?_) (fun e => ?_)⟩⟩
    · refine ⟨.ref a, rfl, a, 1, 6, 3, rfl, by decide, by decide, by decide, by decide, t1, fun H2 R ds o hrow hok _ _ t2 b2 => ?_⟩
      exact q H2 R ds o hrow hok t2 (b1.trans b2)
    refine ⟨Nat.zero_le _, fun D0 hD0 => ?_⟩
    have sD0 := same_new (o := .lst []) hD0
    refine ⟨.ref a, rfl, a, 3, rfl, by decide, by decide, t1.same sD0, fun H2 y y0 y1 t2 b2 => ⟨1, y, rfl, rfl, ?_⟩⟩
    have nD0 := t1.ne_new hD0
    have nH0 : H D0 ≠ some (.lst []) ∨ True := .inr trivial
    refine ⟨1 + y, rfl, by omega, by omega, for_range (lo := 0) (n := (1 + y).toNat) (fun i σ H3 => ∃ y3 y4 y5 D rs ds, σ = [some (.ref a), some (.ref D), some (.int (ds.length : Int)), y3, y4, y5, none] ∧ H3 D = some (.lst (rs.map V.ref)) ∧ D ≠ a ∧ DsAt H3 rs ds ∧ DsOk (1 : Nat) ds ∧ ds.length ≤ 8 ∧ TP H3 a ∧ But a H H3)
      ⟨none, none, none, D0, [], [], rfl, b2 _ _ nD0 upd_same, nD0, .nil, dsOk_nil _, Nat.zero_le _, t2, (b1.trans (But.same sD0)).trans b2⟩ (fun i σ H3 hi hp => ?_) (fun σ H3 hp => ?_)⟩
    · obtain ⟨y3, y4, y5, D, rs, ds, rfl, eD, nDa, hd, ok, l8, t3, b3⟩ := hp
      have rl := awLen hd
      have n0 : (0 : Int) ≤ (ds.length : Int) := Int.natCast_nonneg _
      refine ⟨.ref D, rfl, D, _, rfl, .inl (.inl (.inl eD)), 1, _, rfl, rfl, ?_⟩
      have elen : ((rs.map V.ref).length : Int) = (ds.length : Int) := by rw [List.length_map, rl]
      rw [elen]
      have hds : ∃ n : Int, n = (ds.length : Int) := ⟨_, rfl⟩
      obtain ⟨n, hn⟩ := hds
      rw [← hn] at n0

      rw [← hn]
      refine ⟨fun σ4 H4 => ∃ S ls, σ4 = [some (.ref a), some (.ref D), some (.int n), some (.int (0 + (i : Int))), some (.int (1 + n)), some (.ref S), none] ∧ H4 S = some (.lst (ls.map V.ref)) ∧ Paired (LdAt H4) ls (oG0 n) ∧ Same H3 H4, ?_, ?_⟩
      · refine ⟨.int n, rfl, by show 2 ≤ sizeLine; decide, fun t0 ht0 => ?_⟩
        have st0 := same_new (o := .tup [.str "not", .int (n)]) ht0
        refine ⟨by show 1 ≤ sizeLine; decide, fun t1 ht1 => ?_⟩
        have st1 := same_new (o := .lst [.ref t0]) ht1
        refine ⟨.int n, rfl, by show 2 ≤ sizeLine; decide, fun t2 ht2 => ?_⟩
        have st2 := same_new (o := .tup [.str "neg", .int (n)]) ht2
        refine ⟨by show 1 ≤ sizeLine; decide, fun t3 ht3 => ?_⟩
        have st3 := same_new (o := .lst [.ref t2]) ht3
        refine ⟨by show 1 ≤ sizeLine; decide, fun t4 ht4 => ?_⟩
        have st4 := same_new (o := .tup [.str "one"]) ht4
        refine ⟨.int n, rfl, .int (1 + n), rfl, by show 3 ≤ sizeLine; decide, fun t5 ht5 => ?_⟩
        have st5 := same_new (o := .tup [.str "add", .int (n), .int (1 + n)]) ht5
        refine ⟨by show 2 ≤ sizeLine; decide, fun t6 ht6 => ?_⟩
        have st6 := same_new (o := .lst [.ref t4, .ref t5]) ht6
        refine ⟨.int n, rfl, by show 2 ≤ sizeLine; decide, fun t7 ht7 => ?_⟩
        have st7 := same_new (o := .tup [.str "twice", .int (n)]) ht7
        refine ⟨.int n, rfl, .int (1 + n), rfl, by show 3 ≤ sizeLine; decide, fun t8 ht8 => ?_⟩
        have st8 := same_new (o := .tup [.str "add", .int (n), .int (1 + n)]) ht8
        refine ⟨by show 2 ≤ sizeLine; decide, fun t9 ht9 => ?_⟩
        have st9 := same_new (o := .lst [.ref t7, .ref t8]) ht9
        refine ⟨by show 4 ≤ sizeLine; decide, fun t10 ht10 => ?_⟩
        have st10 := same_new (o := .lst [.ref t1, .ref t3, .ref t6, .ref t9]) ht10
        exact ⟨t10, [t1, t3, t6, t9], rfl, upd_same, (.cons ⟨[t0], (st10 _ _ (st9 _ _ (st8 _ _ (st7 _ _ (st6 _ _ (st5 _ _ (st4 _ _ (st3 _ _ (st2 _ _ upd_same))))))))), (.cons (st10 _ _ (st9 _ _ (st8 _ _ (st7 _ _ (st6 _ _ (st5 _ _ (st4 _ _ (st3 _ _ (st2 _ _ (st1 _ _ upd_same)))))))))) .nil)⟩ (.cons ⟨[t2], (st10 _ _ (st9 _ _ (st8 _ _ (st7 _ _ (st6 _ _ (st5 _ _ (st4 _ _ upd_same))))))), (.cons (st10 _ _ (st9 _ _ (st8 _ _ (st7 _ _ (st6 _ _ (st5 _ _ (st4 _ _ (st3 _ _ upd_same)))))))) .nil)⟩ (.cons ⟨[t4, t5], (st10 _ _ (st9 _ _ (st8 _ _ (st7 _ _ upd_same)))), (.cons (st10 _ _ (st9 _ _ (st8 _ _ (st7 _ _ (st6 _ _ (st5 _ _ upd_same)))))) (.cons (st10 _ _ (st9 _ _ (st8 _ _ (st7 _ _ (st6 _ _ upd_same))))) .nil))⟩ (.cons ⟨[t7, t8], (st10 _ _ upd_same), (.cons (st10 _ _ (st9 _ _ (st8 _ _ upd_same))) (.cons (st10 _ _ (st9 _ _ upd_same)) .nil))⟩ .nil)))), ((((((((((st0.trans st1).trans st2).trans st3).trans st4).trans st5).trans st6).trans st7).trans st8).trans st9).trans st10)⟩
      rintro σ4 H4 ⟨S, ls, rfl, eS, hl, s4⟩
      refine ⟨fun σ4 H4 => ∃ S ls, σ4 = [some (.ref a), some (.ref D), some (.int n), some (.int (0 + (i : Int))), some (.int (1 + n)), some (.ref S), none] ∧ H4 S = some (.lst (ls.map V.ref)) ∧ Paired (LdAt H4) ls (oG0 n ++ oG1 n) ∧ Same H3 H4, ?_, ?_⟩
      · refine ⟨.ref S, rfl, ?_⟩
        refine ⟨by show 1 ≤ sizeLine; decide, fun t0 ht0 => ?_⟩
        have st0 := same_new (o := .tup [.str "all"]) ht0
        refine ⟨.int n, rfl, .int (1 + n), rfl, by show 3 ≤ sizeLine; decide, fun t1 ht1 => ?_⟩
        have st1 := same_new (o := .tup [.str "xor", .int (n), .int (1 + n)]) ht1
        refine ⟨by show 2 ≤ sizeLine; decide, fun t2 ht2 => ?_⟩
        have st2 := same_new (o := .lst [.ref t0, .ref t1]) ht2
        refine ⟨.int n, rfl, by show 2 ≤ sizeLine; decide, fun t3 ht3 => ?_⟩
        have st3 := same_new (o := .tup [.str "twice", .int (n)]) ht3
        refine ⟨.int n, rfl, .int (1 + n), rfl, by show 3 ≤ sizeLine; decide, fun t4 ht4 => ?_⟩
        have st4 := same_new (o := .tup [.str "xor", .int (n), .int (1 + n)]) ht4
        refine ⟨by show 2 ≤ sizeLine; decide, fun t5 ht5 => ?_⟩
        have st5 := same_new (o := .lst [.ref t3, .ref t4]) ht5
        refine ⟨by show 2 ≤ sizeLine; decide, fun t6 ht6 => ?_⟩
        have st6 := same_new (o := .lst [.ref t2, .ref t5]) ht6
        have sG := ((((((st0.trans st1).trans st2).trans st3).trans st4).trans st5).trans st6)
        have ll := awLen hl
        refine ⟨S, t6, _, _, rfl, rfl, sG _ _ eS, upd_same, ?_, fun N hN => ?_⟩
        · rw [List.length_map, ll]
          show 4 + 2 ≤ sizeLine
          decide
        have sN := same_new (o := .lst (ls.map V.ref ++ [V.ref t2, V.ref t5])) hN
        refine ⟨N, ls ++ [t2, t5], rfl, by rw [upd_same, List.map_append]; rfl, ?_, (s4.trans sG).trans sN⟩
        exact ldat_same sN (awAppend (ldat_same sG hl) (.cons ⟨[t0, t1], (st6 _ _ (st5 _ _ (st4 _ _ (st3 _ _ upd_same)))), (.cons (st6 _ _ (st5 _ _ (st4 _ _ (st3 _ _ (st2 _ _ (st1 _ _ upd_same)))))) (.cons (st6 _ _ (st5 _ _ (st4 _ _ (st3 _ _ (st2 _ _ upd_same))))) .nil))⟩ (.cons ⟨[t3, t4], (st6 _ _ upd_same), (.cons (st6 _ _ (st5 _ _ (st4 _ _ upd_same))) (.cons (st6 _ _ (st5 _ _ upd_same)) .nil))⟩ .nil)))
      rintro σ4 H4 ⟨S, ls, rfl, eS, hl, s4⟩
      refine ⟨fun σ4 H4 => ∃ S ls, σ4 = [some (.ref a), some (.ref D), some (.int n), some (.int (0 + (i : Int))), some (.int (1 + n)), some (.ref S), none] ∧ H4 S = some (.lst (ls.map V.ref)) ∧ Paired (LdAt H4) ls (opts n) ∧ Same H3 H4, ?_, ?_⟩
      · refine ⟨.ref S, rfl, ?_⟩
        refine ⟨.int n, rfl, by show 2 ≤ sizeLine; decide, fun t0 ht0 => ?_⟩
        have st0 := same_new (o := .tup [.str "twice", .int (n)]) ht0
        refine ⟨.int n, rfl, .int (1 + n), rfl, by show 3 ≤ sizeLine; decide, fun t1 ht1 => ?_⟩
        have st1 := same_new (o := .tup [.str "and", .int (n), .int (1 + n)]) ht1
        refine ⟨.int (1 + n), rfl, 1 + n, 1, rfl, rfl, by show 2 ≤ sizeLine; decide, fun t2 ht2 => ?_⟩
        have st2 := same_new (o := .tup [.str "twice", .int (1 + n + 1)]) ht2
        refine ⟨.int n, rfl, .int (1 + n), rfl, 1 + n, 2, rfl, rfl, by show 3 ≤ sizeLine; decide, fun t3 ht3 => ?_⟩
        have st3 := same_new (o := .tup [.str "add", .int (n), .int (1 + n + 2)]) ht3
        refine ⟨by show 4 ≤ sizeLine; decide, fun t4 ht4 => ?_⟩
        have st4 := same_new (o := .lst [.ref t0, .ref t1, .ref t2, .ref t3]) ht4
        refine ⟨by show 1 ≤ sizeLine; decide, fun t5 ht5 => ?_⟩
        have st5 := same_new (o := .lst [.ref t4]) ht5
        have sG := (((((st0.trans st1).trans st2).trans st3).trans st4).trans st5)
        have ll := awLen hl
        refine ⟨S, t5, _, _, rfl, rfl, sG _ _ eS, upd_same, ?_, fun N hN => ?_⟩
        · rw [List.length_map, ll]
          show 6 + 1 ≤ sizeLine
          decide
        have sN := same_new (o := .lst (ls.map V.ref ++ [V.ref t4])) hN
        refine ⟨N, ls ++ [t4], rfl, by rw [upd_same, List.map_append]; rfl, ?_, (s4.trans sG).trans sN⟩
        exact ldat_same sN (awAppend (ldat_same sG hl) (.cons ⟨[t0, t1, t2, t3], (st5 _ _ upd_same), (.cons (st5 _ _ (st4 _ _ (st3 _ _ (st2 _ _ (st1 _ _ upd_same))))) (.cons (st5 _ _ (st4 _ _ (st3 _ _ (st2 _ _ upd_same)))) (.cons (st5 _ _ (st4 _ _ (st3 _ _ upd_same))) (.cons (st5 _ _ (st4 _ _ upd_same)) .nil))))⟩ .nil))
      rintro σ4 H4 ⟨S, ls, rfl, eS, hl, s4⟩
      have t4 := t3.same s4
      have eD4 := s4 _ _ eD
      have ll := awLen hl
      have nS : S ≠ a := fun z => by
        obtain ⟨x, y, ea⟩ := t4
        rw [z] at eS
        have e := eS.symm.trans ea
        have h7 : ls.length = 7 := ll
        match ls, h7 with
        | _ :: _ :: _ :: _, _ => simp at e
      refine ⟨.ref D, rfl, .ref S, rfl, .ref a, rfl, a, 7, rfl, by decide, by decide, t4, fun H5 c c0 c1 t5 b5 => ?_⟩
      have eS5 := b5 _ _ nS eS
      have hl5 := ldat_but t4 b5 (ldat_ne t4 hl) hl
      obtain ⟨j, rfl⟩ := Int.eq_ofNat_of_zero_le c0
      have hj : j < ls.length := by
        rw [ll]
        show j < 7
        omega
      obtain ⟨es, he1, rs2, e2, hd2⟩ := awGet hl5 (List.getElem?_eq_getElem hj)
      obtain ⟨oke, le4⟩ := opts_ok n0 es (List.mem_of_getElem? he1)
      have r2l := awLen hd2
      have eD5 := b5 _ _ nDa eD4
      refine ⟨S, _, (j : Int), .ref ls[j], rfl, rfl, .inl (.inl eS5), atI_nat (by rw [List.getElem?_map, List.getElem?_eq_getElem hj]; rfl), D, ls[j], _, _, rfl, rfl, eD5, e2, ?_, fun N hN => ?_⟩
      · rw [List.length_map, List.length_map]
        exact Nat.le_of_lt (small1000 (by omega))
      have sN := same_new (o := .lst (rs.map V.ref ++ rs2.map V.ref)) hN
      refine ⟨8, rfl, N, _, rfl, .inl (.inl upd_same), fun M hM => ?_⟩
      have sM := same_new (o := .lst (cutV (rs.map V.ref ++ rs2.map V.ref) none (some 8))) hM
      have cut : cutV (rs.map V.ref ++ rs2.map V.ref) none (some 8) = ((rs ++ rs2).take 8).map V.ref := by
        rw [show (8 : Int) = ((8 : Nat) : Int) from rfl, cut_take, ← List.map_append, List.map_take]
      have hA : DsAt (upd (upd H5 N (.lst (rs.map V.ref ++ rs2.map V.ref))) M (.lst (cutV (rs.map V.ref ++ rs2.map V.ref) none (some 8)))) (rs ++ rs2) (ds ++ es) :=
        (Same.tups (sN.trans sM)).ds (awAppend ((b5.tape t4).ds ((Same.tups s4).ds hd)) hd2)
      have okA : DsOk (1 : Nat) (ds ++ es) := dsOk_append ok oke (by rw [hn]; rfl)
      have dl : ((ds ++ es).take 8).length ≤ 8 := by
        rw [List.length_take]
        exact Nat.min_le_left _ _
      refine ⟨.ref M, rfl, M, _, rfl, .inl (.inl (.inl upd_same)), some (.int (0 + i)), some (.int (1 + n)), some (.ref S), M, (rs ++ rs2).take 8, (ds ++ es).take 8, ?_, ?_, (t5.same sN).ne_new hM, awTake 8 hA, ?_, dl, (t5.same sN).same sM, ?_⟩
      · have e8 : ((cutV (rs.map V.ref ++ rs2.map V.ref) none (some 8)).length : Int) = (((ds ++ es).take 8).length : Int) := by
          rw [cut, List.length_map, List.length_take, List.length_take, awLen hA]
        show [_, _, some (V.int ((cutV (rs.map V.ref ++ rs2.map V.ref) none (some 8)).length : Int)), _, _, _, _] = _
        rw [e8]
      · rw [upd_same, cut]
      · exact dsOk_take 8 okA
      · exact ((b3.trans (But.same s4)).trans b5).trans (But.same (sN.trans sM))
    · obtain ⟨y3, y4, y5, D, rs, ds, rfl, eD, nDa, hd, ok, l8, t3, b3⟩ := hp
      refine ⟨.ref D, rfl, D, _, rfl, .inl ⟨.inl (.inl eD), fun T hT => ?_⟩⟩
      have sT := same_new (o := .tup (rs.map V.ref)) hT
      refine ⟨.int (ds.length : Int), rfl, by show 3 ≤ sizeLine; decide, fun R hR => ?_⟩
      have sR := same_new (o := .tup [.int 1, .ref T, .int (ds.length : Int)]) hR
      have sA := sT.trans sR
      have hrow : RowAt (upd (upd H3 T (.tup (rs.map V.ref))) R (.tup [.int 1, .ref T, .int (ds.length : Int)])) R (1 : Nat) ds (ds.length : Int) := ⟨T, rs, upd_same, sR _ _ upd_same, (Same.tups sA).ds hd⟩
      have hok : RowOk (1 : Nat) ds (ds.length : Int) := ⟨by decide, by decide, l8, ok, Int.natCast_nonneg _, by omega⟩
      refine ⟨.ref a, rfl, a, 3, rfl, by decide, by decide, t3.same sA, fun H5 c c0 c1 t5 b5 => ⟨rfl, _, rfl, ite2 (fun e2 => ?_) (fun e2 => ?_)⟩⟩
      · refine ⟨.ref a, rfl, .ref R, rfl, a, R, (1 : Nat), (ds.length : Int), ds, rfl, t5, (b5.tape (t3.same sA)).row hrow, hok, fun H6 R2 ds2 o2 hrow2 hok2 _ _ t6 b6 => ?_⟩
        exact q H6 R2 ds2 o2 hrow2 hok2 t6 (((b3.trans (But.same sA)).trans b5).trans b6)
      · exact ⟨.ref R, rfl, q H5 R ds _ ((b5.tape (t3.same sA)).row hrow) hok t5 ((b3.trans (But.same sA)).trans b5)⟩
/-! ### check_single, turned -/
def spCsX (cR : Addr) : Sp := fun vs H Q E => ∃ (R : Addr) (m o : Int) (ds : List Deed), vs = [.ref R] ∧ RowAt H R m ds o ∧ RowOk m ds o ∧ (m = 1 → Q .non H) ∧ (¬ m = 1 → E (.ref cR) none H)
theorem ok_csX {f cR : Addr} {fd : FuncData} {k : Nat} (F : Fun K "check_single" "check_single" s_check_single f fd) (rP : Rai K mg "NoRow" cR) : FnOk P w K mg base (L2.CX P w) (k + 1) f fd ["row"] (spCsX cR) := by
  refine F.okX sc_check_single (fun vs H Q E h => ?_) (fun cdv A outer s H vs Q E hr h => ?_)
  · obtain ⟨R, m, o, ds, rfl, _⟩ := h
    rfl
  · obtain ⟨R1, m1, o1, ds1, rfl, hr1, ok1, q, qE⟩ := h
    obtain ⟨D1, rs1, e1, _, _⟩ := id hr1
    refine ⟨_, pss_one (ps_if (pt_cmpR op_ne (pe_ix ix_tup (pv 0) pe_int (fun _ _ => rfl)) pe_int (nomark _))
        (pss_one (ps_raise rfl (takes_of rfl rfl rfl rfl) (SkE.pmk_own1 PySem.F.excBase_ValueError rP.q rP.g rP.k (raises_own rP.s rP.t) (by rfl) (pe_joined (.cons pe_str (.cons (pe_fmt (pe_ix ix_tup (pv 0) pe_int (fun _ _ => rfl))) (.cons pe_str .nil))))))) pss_nil), ?_⟩
    have a1 := ok1.m1
    have a3 := ok1.m3
    refine ⟨.ref R1, rfl, R1, _, 0, .int m1, rfl, rfl, SqT.of e1, row0, rfl, _, rfl, ite2 (fun hne => ?_) (fun heq => ?_)⟩
    · have l1 : m1.natAbs < 1000 := by omega
      have j0 := js_len (acc := Str.empty) (y := "a row of ") (a := 0) (b := 9) (by decide) (by decide +kernel) (by decide)
      have j1 := js_len j0.2 (b := 4) (iX_len l1) (by decide)
      have j2 := js_len (y := " inputs, where one of a single input is asked for") j1.2 (b := 60) (by decide +kernel) (by decide)
      exact ⟨_, rfl, j0.1, .ref R1, rfl, R1, _, 0, .int m1, rfl, rfl, SqT.of e1, row0, .inr ⟨m1, rfl, log_small l1, _, rfl, j1.1, _, rfl, j2.1, qE (neT hne)⟩⟩
    · exact q (neF heq)
/-! carries that come -/
def gdC (ds : List Deed) (o : Int) (c _bs : List Int) : Prop := ¬ ob ds o c [0] = ob ds o c [1]
def fCc (ds : List Deed) : List Int := ds.map fcD
structure CcOk (ds : List Deed) (c : List Int) : Prop where
  l : c.length = ds.length
  b : ∀ x ∈ c, Bit x
theorem nc_ok {m : Nat} {ds : List Deed} {c bs : List Int} (h : CcOk ds c) (hb : bs ∈ allB m) : CcOk ds (nc ds c bs) := ⟨nxt_len h.l.symm, nxt_bits (bts_bits (allB_ok m bs hb).2 h.b) h.b⟩
theorem cc_first (ds : List Deed) : CcOk ds (fCc ds) := ⟨(rch_shp (crry_rch ds [] 0)).len, (rch_shp (crry_rch ds [] 0)).bits⟩
theorem rtC_ok {m : Nat} {ds : List Deed} : ∀ {t : Nat} {q : List Int}, RtG m (nc ds) (fCc ds) t q → CcOk ds q
  | 0, q, h => by
    have h' : q = _ := h
    rw [h']
    exact cc_first ds
  | t + 1, q, ⟨q0, bs, h, hb, e⟩ => by
    rw [e]
    exact nc_ok (rtC_ok h) hb
theorem few_cc {ds : List Deed} {cs : List (List Int)} (nd : cs.Nodup) (h : ∀ c ∈ cs, CcOk ds c) (l8 : ds.length ≤ 8) : cs.length ≤ 256 := by
  have le := pigeon cs (allB ds.length) nd fun c hc => allB_all _ c (h c hc).l (h c hc).b
  rw [allB_len] at le
  have : 2 ^ ds.length ≤ 256 := Nat.le_trans (Nat.pow_le_pow_right (by decide) l8) (by decide)
  omega
theorem keys_atC {cs : List (List Int)} {ts : List WT} (e : ts.map (·.1) = cs.map kC) {i : Nat} {t : WT} (h : ts[i]? = some t) : ∃ c, cs[i]? = some c ∧ t.1 = kC c := by
  have h1 : (ts.map (·.1))[i]? = some t.1 := by rw [List.getElem?_map, h]; rfl
  rw [e, List.getElem?_map] at h1
  cases hc : cs[i]? with
  | none => rw [hc] at h1; cases h1
  | some c => rw [hc] at h1; exact ⟨c, rfl, (Option.some.inj h1).symm⟩
theorem keys_lenC {cs : List (List Int)} {ts : List WT} (e : ts.map (·.1) = cs.map kC) : ts.length = cs.length := by
  have := congrArg List.length e
  rwa [List.length_map, List.length_map] at this
theorem keys_ndC {cs : List (List Int)} {ts : List WT} (h : (ts.map (·.1)).Nodup) (e : ts.map (·.1) = cs.map kC) : cs.Nodup := by
  rw [e] at h
  exact List.Pairwise.imp (fun {a b} z y => z (congrArg kC y)) (List.pairwise_map.mp h)
theorem keyC_tup' {H : Hp} {b : Addr} {c : List Int} (h : KeyN H (.ref b) (kC c)) : H b = some (.tup (c.map V.int)) := by
  obtain ⟨A, e, h2⟩ := kC_at h.1
  rw [V.ref.inj e]
  exact h2
theorem walk_tc {C p M N W : Addr} {H : Hp} {ts : List WT} {wy : List (Int × List Int)} {cs : List (List Int)} (h : WalkAt P w C H p M N W ts wy) (e : ts.map (·.1) = cs.map kC) : TAt H (ts.map (·.2)) cs := by
  have key : ∀ {l : List WT} {qs : List (List Int)}, (∀ t ∈ l, KeyN H (.ref t.2) t.1) → l.map (·.1) = qs.map kC → TAt H (l.map (·.2)) qs := by
    intro l
    induction l with
    | nil =>
      intro qs _ e
      cases qs with
      | nil => exact .nil
      | cons a b => cases e
    | cons t l ih =>
      intro qs hk e
      cases qs with
      | nil => cases e
      | cons a b =>
        rw [List.map_cons, List.map_cons, List.cons.injEq] at e
        refine .cons ?_ (ih (fun x hx => hk x (List.mem_cons_of_mem _ hx)) e.2)
        have := hk t List.mem_cons_self
        rw [e.1] at this
        exact keyC_tup' this
  exact key h.keys e
theorem runC_fold (ds : List Deed) : ∀ (bs : List (List Int)) (c : List Int), bs.foldl (nc ds) c = runC ds c bs
  | [], _ => rfl
  | x :: bs, c => runC_fold ds bs (nc ds c x)
/-- words that differ in their highest bit only, where out tells one bit for both -/
theorem meet_worth {ds : List Deed} {o : Int} {cs : List (List Int)} (ok : RowOk (1 : Nat) ds o) (hall : ∀ c ∈ cs, c.length = 1 ∧ ∀ x ∈ c, Bit x) (he : ob ds o (runC ds (ds.map fcD) cs) [0] = ob ds o (runC ds (ds.map fcD) cs) [1]) :
    (vals (2 ^ (cs.length + 1)) ds (wofL 1 (cs ++ [[0]]))).getD o.toNat 0 = (vals (2 ^ (cs.length + 1)) ds (wofL 1 (cs ++ [[1]]))).getD o.toNat 0 := by
  have hb : ∀ b : Int, Bit b → ∀ c ∈ cs ++ [[b]], c.length = 1 ∧ ∀ x ∈ c, Bit x := fun b hb c hc => by
    rcases List.mem_append.mp hc with z | z
    · exact hall c z
    · rw [List.mem_singleton.mp z]
      exact ⟨rfl, fun x hx => by rw [List.mem_singleton.mp hx]; exact hb⟩
  have hl : ∀ b : Int, (cs ++ [[b]]).length = cs.length + 1 := fun b => by rw [List.length_append]; rfl
  have hx : ∀ b : Int, Bit b → ∀ x ∈ wofL 1 (cs ++ [[b]]), 0 ≤ x ∧ x < 2 ^ (cs.length + 1) := fun b hb' => by
    have := wofL_range (hb b hb')
    rwa [hl] at this
  have bt : ∀ (b : Int), Bit b → ∀ t, t < cs.length + 1 → bitA t ((vals (2 ^ (cs.length + 1)) ds (wofL 1 (cs ++ [[b]]))).getD o.toNat 0) = ob ds o (runC ds (ds.map fcD) ((cs ++ [[b]]).take t)) ((cs ++ [[b]]).getD t []) := fun b hb' t ht => by
    have h1 := ob_bit (t := t) ok (wofL_len 1 (cs ++ [[b]])) (hx b hb') ht
    have hg : (cs ++ [[b]])[t]? = some ((cs ++ [[b]]).getD t []) := by
      rw [List.getD_eq_getElem?_getD, List.getElem?_eq_getElem (by rw [hl]; exact ht)]
      rfl
    rw [crry_run (hb b hb') _ (by rw [hl]; omega), wofL_bits (hb b hb') hg] at h1
    exact h1.symm
  have e := bits_eq (v := (vals (2 ^ (cs.length + 1)) ds (wofL 1 (cs ++ [[0]]))).getD o.toNat 0) (u := (vals (2 ^ (cs.length + 1)) ds (wofL 1 (cs ++ [[1]]))).getD o.toNat 0) (cs.length + 1) fun t ht => by
    rw [bt 0 bit0 t ht, bt 1 bit1 t ht]
    by_cases h : t < cs.length
    · rw [List.take_append_of_le_length (by omega), List.take_append_of_le_length (by omega), List.getD_eq_getElem?_getD, List.getD_eq_getElem?_getD, List.getElem?_append_left h, List.getElem?_append_left h]
    · obtain rfl : t = cs.length := by omega
      rw [List.take_left, List.take_left, List.getD_eq_getElem?_getD, List.getD_eq_getElem?_getD, List.getElem?_append_right (Nat.le_refl _), List.getElem?_append_right (Nat.le_refl _), Nat.sub_self]
      exact he
  rwa [wr_range ok (wofL_len _ _) (hx 0 bit0), wr_range ok (wofL_len _ _) (hx 1 bit1)] at e
theorem wof_one (cs : List (List Int)) (b : Int) : wofL 1 (cs ++ [[b]]) = [colW cs 0 + b * 2 ^ cs.length] := by
  show [colW (cs ++ [[b]]) 0] = _
  rw [colW_snoc]
  rfl
theorem pth_leT (wy : List (Int × List Int)) : ∀ f i, (pth wy f i).length ≤ f
  | 0, _ => Nat.le_refl _
  | f + 1, i => by
    show (if i = 0 then [] else match wy[i]? with | some e => pth wy f e.1.toNat ++ [e.2] | none => []).length ≤ _
    by_cases h : i = 0
    · rw [if_pos h]; exact Nat.zero_le _
    · rw [if_neg h]
      cases wy[i]? with
      | none => exact Nat.zero_le _
      | some e =>
        dsimp only
        rw [List.length_append]
        have := pth_leT wy f e.1.toNat
        show _ + 1 ≤ _
        omega
def spTu (cR : Addr) : Sp := fun vs H Q E => ∃ (R : Addr) (m : Nat) (o : Int) (ds : List Deed), vs = [.ref R] ∧ RowAt H R m ds o ∧ RowOk m ds o ∧
  (m = 1 → (∀ H' T M as cs wy, Same H H' → H T = none → H M = none → H' T = some (.tup [.str "turned", .ref M]) → H' M = some (.lst (as.map V.ref)) → TAt H' as cs → BfsG 1 (nc ds) (gdC ds o) (fCc ds) cs wy cs.length → cs.Nodup → (∀ c ∈ cs, CcOk ds c) → Q (.ref T) H') ∧
    (∀ H' T cs wy cu c, Same H H' → H T = none → H' T = some (.tup [.str "meet", .int (((path wy cu).length : Nat) + 1), .int (colW (path wy cu) 0), .int (colW (path wy cu) 0 + 2 ^ (path wy cu).length)]) → BfsG 1 (nc ds) (gdC ds o) (fCc ds) cs wy cu → cs[cu]? = some c → ob ds o c [0] = ob ds o c [1] → (path wy cu).length ≤ 256 → Q (.ref T) H')) ∧
  (¬ m = 1 → ∀ H', Same H H' → E (.ref cR) none H')
set_option maxHeartbeats 4000000 in
theorem ok_tu {f fC fF fS fWd C cR : Addr} {fd fdC fdF fdS fdWd fdI fdM fdT : FuncData} {k : Nat} {fI fM fT : Addr} (F : Fun K "turned" "turned" s_turned f fd) (T : WCls K mg C)
    (GC : FnOk P w K mg base (L2.CX P w) (k + 1) fC fdC ["row"] (spCsX cR)) (kC' : PySem.W.keepIn K (.ref fC) = true) (bC : Binds K fdC ["row"] []) (gC : mg "check_single" = some (.ref fC))
    (GF : FnOk P w K mg base CX0 (k + 1) fF fdF ["row"] spFc) (kF : PySem.W.keepIn K (.ref fF) = true) (bF : Binds K fdF ["row"] []) (gF : mg "first_carry" = some (.ref fF))
    (GS : FnOk P w K mg base CX0 (k + 4) fS fdS ["row", "carry"] spSt) (kS : PySem.W.keepIn K (.ref fS) = true) (bS : Binds K fdS ["row", "carry"] []) (gS : mg "steps" = some (.ref fS))
    (GW : FnOk P w K mg base CX0 (k + 1) fWd fdWd ["many", "columns"] spWf) (kW : PySem.W.keepIn K (.ref fWd) = true) (bW : Binds K fdWd ["many", "columns"] []) (gW : mg "words_of" = some (.ref fWd))
    (MK : Mk K C fI) (GI : FnOk P w K mg base CX0 (k + 1) fI fdI ["self", "first"] (spWi P w C)) (bI : Binds K fdI ["self", "first"] [])
    (MM : Meth K C "meet" fM) (GM : FnOk P w K mg base CX0 (k + 1) fM fdM ["self", "thing", "ahead", "bits"] (spWm P w C)) (bM : Binds K fdM ["self", "thing", "ahead", "bits"] [])
    (MT : Meth K C "bits_to" fT) (GT : FnOk P w K mg base CX0 (k + 1) fT fdT ["self", "number"] (spBt P w C)) (bT : Binds K fdT ["self", "number"] [])
    (mn : mg "len" = none) : FnOk P w K mg base (L2.CX P w) (k + 6) f fd ["row"] (spTu cR) := by
  refine F.okX sc_turned (fun vs H Q E h => ?_) (fun cdv A outer s H vs Q E hr h => ?_)
  · obtain ⟨R, m, o, ds, rfl, _⟩ := h
    rfl
  · obtain ⟨R, m, o, ds, rfl, hrow, ok, q, qE⟩ := h
    have r1 := hr.mono (show k + 1 ≤ k + 5 by omega)
    have r2 := hr.mono (show k + 1 + 1 ≤ k + 5 by omega)
    have r4 := hr.mono (show k + 4 ≤ k + 5 by omega)
    refine ⟨_, pss_cons (ps_expr (pe_callS GC r1 (by rfl) gC kC' bC (fun σ => passAt (takes_of rfl rfl rfl rfl) σ) (pa_cons (pv 0) pa_nil)))
      (pss_cons (ps_set (i := 1) sc_turned.nd rfl (.inl rfl) (pe_make MK GI r2 (by rfl) T.mgC bI .nil pass0 (pa_cons (pe_call GF r1 (by rfl) gF kF bF .nil pass0 (pa_cons (pv 0) pa_nil)) pa_nil)))
      (pss_cons (ps_set (i := 2) sc_turned.nd rfl (.inl rfl) pe_int)
      (pss_cons (ps_while (passes_of rfl) (pt_cmpR op_lt (pv 2) (pe_callB call_len_seq (by rfl) mn PySem.boot_len (pa_cons (pe_fld (pv 1) rfl) pa_nil)) (nomark _))
        (pss_cons (ps_asg (pe_call GS r4 (by rfl) gS kS bS .nil pass0 (pa_cons (pv 0) (pa_cons (pe_ix ix_list (pe_fld (pv 1) rfl) (pv 2) (fun _ _ => rfl)) pa_nil))) (pg_lst rfl (pgs_cons (pg_tup rfl (pgs_cons (pg_name (i := 3) sc_turned.nd rfl (.inl rfl)) (pgs_cons (pg_name (i := 4) sc_turned.nd rfl (.inl rfl)) pgs_nil))) (pgs_cons (pg_tup rfl (pgs_cons (pg_name (i := 5) sc_turned.nd rfl (.inl rfl)) (pgs_cons (pg_name (i := 6) sc_turned.nd rfl (.inl rfl)) pgs_nil))) pgs_nil))))
        (pss_cons (ps_if (pt_cmpR op_eq (pv 3) (pv 5) (nomark _))
          (pss_cons (ps_set (i := 7) sc_turned.nd rfl (.inl rfl) (pe_meth (pv 1) T.cl MT GT r1 bT .nil pass0 (pa_cons (pv 2) pa_nil)))
          (pss_cons (ps_set (i := 8) sc_turned.nd rfl (.inl rfl) (pe_ix ix_list (pe_call GW r1 (by rfl) gW kW bW .nil pass0 (pa_cons pe_int (pa_cons (pv 7) pa_nil))) pe_int (fun _ _ => rfl)))
          (pss_one (ps_ret (pe_tup (pa_cons pe_str (pa_cons (pe_op op_add (pe_callB call_len_seq (by rfl) mn PySem.boot_len (pa_cons (pv 7) pa_nil)) pe_int) (pa_cons (pv 8) (pa_cons (pe_op op_add (pv 8) (pe_op op_shlW pe_int (pe_callB call_len_seq (by rfl) mn PySem.boot_len (pa_cons (pv 7) pa_nil)))) pa_nil))))))))) pss_nil)
        (pss_cons (ps_expr (pe_meth (pv 1) T.cl MM GM r1 bM .nil pass0 (pa_cons (pv 4) (pa_cons (pv 2) (pa_cons (pe_tup (pa_cons pe_int pa_nil)) pa_nil)))))
        (pss_cons (ps_expr (pe_meth (pv 1) T.cl MM GM r1 bM .nil pass0 (pa_cons (pv 6) (pa_cons (pv 2) (pa_cons (pe_tup (pa_cons pe_int pa_nil)) pa_nil)))))
        (pss_one (ps_aug (i := 2) sc_turned.nd rfl (.inl rfl) pe_int ip_add)))))))
      (pss_one (ps_ret (pe_tup (pa_cons pe_str (pa_cons (pe_fld (pv 1) rfl) pa_nil)))))))), ?_⟩
    refine ⟨.ref R, rfl, R, m, o, ds, rfl, hrow, ok, fun em => ?_, fun ne => qE (fun z => ne (by rw [z]; rfl)) H (Same.refl H)⟩
    obtain rfl : m = 1 := Int.ofNat.inj em
    obtain ⟨qA, qB⟩ := q rfl
    have l8 := ok.len
    obtain ⟨Dd, rs, eR, eDd, hd⟩ := id hrow
    refine ⟨.ref R, rfl, R, (1 : Nat), o, ds, rfl, hrow, by omega, fun H1 F1 s1 nF1 eF1 => ?_⟩
    intro Wk dx nWk ndx nex
    have kW' : ∀ c u, H1 c = some u → upd (upd H1 dx (.own Wk)) Wk (.ins C dx []) c = some u := fun c u e => by
      rw [upd_ne (ne_of_none e nWk), upd_ne (ne_of_none e ndx)]
      exact e
    refine ⟨Wk, dx, F1, kC (fCc ds), rfl, upd_same, keyC (kW' _ _ eF1), fun H3 M N W hw nM nN nW kp => ⟨rfl, ?_⟩⟩
    have s3 : Same H1 H3 := fun c u e => kp c u (ne_of_none e nWk) (kW' c u e)
    have back : ∀ a : Addr, upd (upd H1 dx (.own Wk)) Wk (.ins C dx []) a = none → H1 a = none := fun a h => by
      cases e : H1 a with
      | none => rfl
      | some u => rw [kW' a u e] at h; cases h
    have hM1 := back _ nM
    have hN1 := back _ nN
    have hW1 := back _ nW
    have hM0 := s1.free hM1
    refine ⟨fun n σ H4 => ∃ y3 y4 y5 y6 y7 y8 cs ts wy cu, σ = [some (.ref R), some (.ref Wk), some (.int ((cu : Nat) : Int)), y3, y4, y5, y6, y7, y8] ∧ WalkAt P w C H4 Wk M N W ts wy ∧ ts.map (·.1) = cs.map kC ∧ BfsG 1 (nc ds) (gdC ds o) (fCc ds) cs wy cu ∧ (∀ j : Nat, cu < cs.length → j < cs.length → dep wy j ≤ dep wy cu + 1) ∧ (∀ c ∈ cs, CcOk ds c) ∧ cu ≤ cs.length ∧ Same H1 H4 ∧ n = 257 - cu,
      ⟨_, none, none, none, none, none, none, [fCc ds], [(kC (fCc ds), F1)], [(0, [])], 0, rfl, hw, rfl, bfs_firstG 1 (nc ds) (gdC ds o) (fCc ds), (fun j _ hj => ?_), (fun x hx => by rw [List.mem_singleton.mp hx]; exact cc_first ds), Nat.zero_le _, s3, rfl⟩, fun n σ H4 hp => ?_⟩
    · have : j < 1 := hj
      obtain rfl : j = 0 := by omega
      exact Nat.le_add_right _ _
    obtain ⟨y3, y4, y5, y6, y7, y8, cs, ts, wy, cu, rfl, hw4, ek, hB, hnear, gd, hcu, s4, rfl⟩ := hp
    obtain ⟨dxw, ob4⟩ := hw4.ob
    have psl := keys_lenC ek
    have fw := few_cc (keys_ndC hw4.nd ek) gd l8
    refine ⟨.int (cu : Int), rfl, .ref Wk, rfl, Wk, C, dxw, _, _, rfl, ob4, T.cl, T.nM, wF_met _ _ _, M, _, rfl, .inl (.inl (.inl hw4.met)), _, _, rfl, rfl, _, rfl, ite2 (fun e => ?_) (fun e => ?_)⟩
    · have lt : cu < cs.length := by
        have := of_decide_eq_true e
        rw [List.length_map] at this
        omega
      refine ⟨fun σ' H' => ∃ m', m' < 257 - cu ∧ (∃ y3 y4 y5 y6 y7 y8 cs ts wy cu, σ' = [some (.ref R), some (.ref Wk), some (.int ((cu : Nat) : Int)), y3, y4, y5, y6, y7, y8] ∧ WalkAt P w C H' Wk M N W ts wy ∧ ts.map (·.1) = cs.map kC ∧ BfsG 1 (nc ds) (gdC ds o) (fCc ds) cs wy cu ∧ (∀ j : Nat, cu < cs.length → j < cs.length → dep wy j ≤ dep wy cu + 1) ∧ (∀ c ∈ cs, CcOk ds c) ∧ cu ≤ cs.length ∧ Same H1 H' ∧ m' = 257 - cu), fun σ' H' z => z, ?_⟩
      have hti : cu < ts.length := by omega
      obtain ⟨c0, hc0, ht1⟩ := keys_atC ek (List.getElem?_eq_getElem hti)
      have hkey := hw4.keys _ (List.getElem_mem hti)
      rw [ht1] at hkey
      have ecb := keyC_tup' hkey
      have pq := gd c0 (List.mem_of_getElem? hc0)
      refine ⟨.ref R, rfl, .ref Wk, rfl, Wk, C, dxw, _, _, rfl, ob4, T.cl, T.nM, wF_met _ _ _, .int _, rfl, M, _, _, .ref (ts[cu]).2, rfl, rfl, .inl (.inl hw4.met), atI_nat (by rw [List.getElem?_map, List.getElem?_eq_getElem hti]; rfl), ?_⟩
      generalize (ts[cu]).2 = cb at ecb
      have rowT : RowAt H4 R (1 : Nat) ds o := (Same.tups (s1.trans s4)).row hrow
      refine ⟨R, cb, 1, o, ds, c0, rfl, rowT, ok, ecb, pq.l, fun H5 p1 ps1 s5 np1 ep1 st1 => ?_⟩
      have est : stp 1 ds o c0 = [(ob ds o c0 [0], nc ds c0 [0]), (ob ds o c0 [1], nc ds c0 [1])] := rfl
      rw [est] at st1
      match ps1, st1 with
      | [a0, a1], .cons h0 (.cons h1 .nil) =>
      obtain ⟨ac0, e00, e01⟩ := h0
      obtain ⟨ac1, e10, e11⟩ := h1
      refine ⟨p1, [.ref a0, .ref a1], rfl, .inl (.inl ep1), rfl, .ref a0, [.ref a1], rfl, a0, [.int (ob ds o c0 [0]), .ref ac0], rfl, .inl (.inl e00), rfl, .int (ob ds o c0 [0]), [.ref ac0], rfl, .ref ac0, [], rfl, rfl, .ref a1, [], rfl, a1, [.int (ob ds o c0 [1]), .ref ac1], rfl, .inl (.inl e10), rfl, .int (ob ds o c0 [1]), [.ref ac1], rfl, .ref ac1, [], rfl, rfl, rfl, ?_⟩
      have hw5 := hw4.same s5
      have s15 := s4.trans s5
      have b0m : ([0] : List Int) ∈ allB 1 := by decide
      have b1m : ([1] : List Int) ∈ allB 1 := by decide
      have hB0 : BfsPG 1 (nc ds) (gdC ds o) (fCc ds) cs wy cu 0 c0 := ⟨hB, hc0, fun j hj => hnear j lt hj, (fun _ z => by rw [List.take_zero] at z; cases z)⟩
      obtain ⟨dx5, ob5⟩ := hw5.ob
      have wl := hB.len
      refine ⟨.int (ob ds o c0 [0]), rfl, .int (ob ds o c0 [1]), rfl, ⟨rfl, _, rfl, ite2 (fun heq => ?_) (fun hne => ?_)⟩⟩
      · have heq' := intEq heq
        obtain ⟨pp1, _⟩ := bfs_pathG hB cu cu c0 (Nat.le_refl _) hc0
        refine ⟨.ref Wk, rfl, Wk, dx5, _, rfl, ob5, wF_no _ _ _ (by decide +kernel) (by decide +kernel) (by decide +kernel), .int (cu : Int), rfl, Wk, M, N, W, ts, wy, cu, rfl, hw5, by omega, by omega, hB.ways, fun Hx L bl sx nL eL hbl => ?_⟩
        have plE : (path wy cu).length ≤ cu := pth_leT wy cu cu
        have bll := awLen hbl
        have hall : ∀ c ∈ path wy cu, c.length = 1 ∧ ∀ x ∈ c, Bit x := fun c hc => allB_ok 1 c (pp1 c hc)
        refine ⟨.ref L, rfl, 1, L, bl, path wy cu, rfl, by decide, eL, hbl, by omega, hall, fun Hy Lw sy nLw eLw => ?_⟩
        have ew : (wofL 1 (path wy cu)).map V.int = [.int (colW (path wy cu) 0)] := rfl
        rw [ew] at eLw
        refine ⟨Lw, _, 0, .int (colW (path wy cu) 0), rfl, rfl, .inl (.inl eLw), rfl, ?_⟩
        have eL' := sy _ _ eL
        have elen : ((bl.map V.ref).length : Int) = ((path wy cu).length : Nat) := by rw [List.length_map, bll]
        refine ⟨.ref L, rfl, L, _, rfl, .inl (.inl (.inl eL')), _, 1, rfl, rfl, .int _, rfl, .int _, rfl, .ref L, rfl, L, _, rfl, .inl (.inl (.inl eL')), 1, _, rfl, rfl, ?_, _, _, rfl, rfl, (by show 4 ≤ sizeLine; decide), fun Tt hTt => ?_⟩
        · rw [elen]
          exact shl1W (by omega)
        have sT := same_new (o := .tup [.str "meet", .int (((bl.map V.ref).length : Int) + 1), .int (colW (path wy cu) 0), .int (colW (path wy cu) 0 + 1 * 2 ^ ((bl.map V.ref).length : Int).toNat)]) hTt
        have s0y : Same H Hy := s1.trans (s15.trans (sx.trans sy))
        refine qB _ Tt cs wy cu c0 (s0y.trans sT) (s0y.free hTt) ?_ hB hc0 heq' (by omega)
        rw [upd_same, elen, Int.toNat_natCast, Int.one_mul]
      · have hgd : gdC ds o c0 [0] := intNe hne
        refine ⟨.ref Wk, rfl, Wk, dx5, _, rfl, ob5, wF_meet _ _ _, .ref ac0, rfl, .int (cu : Int), rfl, (by show 1 ≤ sizeLine; decide), fun U hU => ?_⟩
        have sU := same_new (o := .tup [.int 0]) hU
        refine ⟨Wk, M, N, W, ac0, U, ts, wy, kC (nc ds c0 [0]), (cu : Int), [0], rfl, hw5.same sU, keyC (sU _ _ e01), upd_same, by omega, fun H6 ts6 wy6 i6 hw6 hi6 case6 kp6 => ?_⟩
        obtain ⟨b6, hb6⟩ := hi6
        obtain ⟨cs6, ek6, hB6, gd6⟩ : ∃ cs6, ts6.map (·.1) = cs6.map kC ∧ BfsPG 1 (nc ds) (gdC ds o) (fCc ds) cs6 wy6 cu 1 c0 ∧ (∀ c ∈ cs6, CcOk ds c) := by
          rcases case6 with ⟨rfl, rfl⟩ | ⟨rfl, rfl, rfl, _⟩
          · obtain ⟨c, hc, ec⟩ := keys_atC ek hb6
            rw [← kC_inj ec] at hc
            exact ⟨cs, ek, bfsp_oldG hB0 rfl hgd hc, gd⟩
          · refine ⟨cs ++ [nc ds c0 [0]], by rw [List.map_append, List.map_append, ek]; rfl, bfsp_newG hB0 rfl hgd, fun c hc => ?_⟩
            rcases List.mem_append.mp hc with hc | hc
            · exact gd c hc
            · rw [List.mem_singleton.mp hc]
              exact nc_ok pq b0m
        have st6 : ∀ b u, b ≠ M → b ≠ N → b ≠ W → H5 b = some u → H6 b = some u := fun b u n1 n2 n3 e => kp6 b u n1 n2 n3 (sU _ _ e)
        have tup6 : TupsStay H5 H6 := fun b xs e => st6 b _ (ne_of e hw5.met (fun y => nomatch y)) (ne_of e hw5.num.ob (fun y => nomatch y)) (by obtain ⟨ws, e2, _⟩ := hw5.ways; exact ne_of e e2 (fun y => nomatch y)) e
        obtain ⟨dx6, ob6⟩ := hw6.ob
        have l6 := keys_lenC ek6
        have few6 := few_cc (keys_ndC hw6.nd ek6) gd6 l8
        refine ⟨.ref Wk, rfl, Wk, dx6, _, rfl, ob6, wF_meet _ _ _, .ref ac1, rfl, .int (cu : Int), rfl, (by show 1 ≤ sizeLine; decide), fun U2 hU2 => ?_⟩
        have sU2 := same_new (o := .tup [.int 1]) hU2
        refine ⟨Wk, M, N, W, ac1, U2, ts6, wy6, kC (nc ds c0 [1]), (cu : Int), [1], rfl, hw6.same sU2, keyC (sU2 _ _ (tup6 _ _ e11)), upd_same, by omega, fun H7 ts7 wy7 i7 hw7 hi7 case7 kp7 => ?_⟩
        obtain ⟨b7, hb7⟩ := hi7
        have hgd1 : gdC ds o c0 [1] := hgd
        obtain ⟨cs7, ek7, hB7, gd7⟩ : ∃ cs7, ts7.map (·.1) = cs7.map kC ∧ BfsPG 1 (nc ds) (gdC ds o) (fCc ds) cs7 wy7 cu 2 c0 ∧ (∀ c ∈ cs7, CcOk ds c) := by
          rcases case7 with ⟨rfl, rfl⟩ | ⟨rfl, rfl, rfl, _⟩
          · obtain ⟨c, hc, ec⟩ := keys_atC ek6 hb7
            rw [← kC_inj ec] at hc
            exact ⟨cs6, ek6, bfsp_oldG hB6 rfl hgd1 hc, gd6⟩
          · refine ⟨cs6 ++ [nc ds c0 [1]], by rw [List.map_append, List.map_append, ek6]; rfl, bfsp_newG hB6 rfl hgd1, fun c hc => ?_⟩
            rcases List.mem_append.mp hc with hc | hc
            · exact gd6 c hc
            · rw [List.mem_singleton.mp hc]
              exact nc_ok pq b1m
        have hcl7 := (List.getElem?_eq_some_iff.mp hB7.here).1
        obtain ⟨hB', near'⟩ := bfsp_doneG (m := 1) hB7
        have few7 := few_cc (keys_ndC hw7.nd ek7) gd7 l8
        exact ⟨.int (cu : Int), rfl, _, _, rfl, rfl, 257 - (cu + 1), by omega, _, _, _, _, _, _, cs7, ts7, wy7, cu + 1, rfl, hw7, ek7, hB', fun j h1 h2 => near' j h1 h2, gd7, by omega, fun b u e => kp7 b u (ne_of_none e hM1) (ne_of_none e hN1) (ne_of_none e hW1) (sU2 _ _ (st6 b u (ne_of_none e hM1) (ne_of_none e hN1) (ne_of_none e hW1) (s15 _ _ e))), rfl⟩
    · have nlt : ¬ cu < cs.length := fun z => e (by
        apply decide_eq_true
        rw [List.length_map]
        omega)
      obtain rfl : cu = cs.length := by omega
      refine ⟨.ref Wk, rfl, Wk, C, dxw, _, _, rfl, ob4, T.cl, T.nM, wF_met _ _ _, (by show 2 ≤ sizeLine; decide), fun Tt hTt => ?_⟩
      have sT := same_new (o := .tup [.str "turned", .ref M]) hTt
      have s04 := s1.trans s4
      refine qA _ Tt M (ts.map (·.2)) cs wy (s04.trans sT) (s04.free hTt) hM0 upd_same ?_ (tat_stay (Same.tups sT) (walk_tc hw4 ek)) hB (keys_ndC hw4.nd ek) gd
      have := sT _ _ hw4.met
      rw [this, List.map_map]
      rfl
/-! refusals of the other two -/
def spNoR (cR : Addr) (n : Nat) : Sp := fun vs H _ E => ∃ (R : Addr) (xs : List V) (m : Nat) (o : Int) (ds : List Deed), vs = .ref R :: xs ∧ xs.length = n ∧ RowAt H R m ds o ∧ RowOk m ds o ∧ ¬ m = 1 ∧ ∀ H', Same H H' → E (.ref cR) none H'
theorem ok_itX {f fC cR : Addr} {fd fdC : FuncData} {k : Nat} (F : Fun K "is_turning" "is_turning" s_is_turning f fd)
    (GC : FnOk P w K mg base (L2.CX P w) (k + 1) fC fdC ["row"] (spCsX cR)) (kC' : PySem.W.keepIn K (.ref fC) = true) (bC : Binds K fdC ["row"] []) (gC : mg "check_single" = some (.ref fC)) : FnOk P w K mg base (L2.CX P w) (k + 2) f fd ["row", "carries"] (spNoR cR 1) := by
  refine F.okX sc_is_turning (fun vs H Q E h => ?_) (fun cdv A outer s H vs Q E hr h => ?_)
  · obtain ⟨R, xs, m, o, ds, rfl, hl, _⟩ := h
    rw [List.length_cons, hl]
    rfl
  · obtain ⟨R, xs, m, o, ds, rfl, hl, hr1, ok1, hne, qE⟩ := h
    refine ⟨_, pss_cons (ps_expr (pe_callS GC hr (by rfl) gC kC' bC (fun σ => passAt (takes_of rfl rfl rfl rfl) σ) (pa_cons (pv 0) pa_nil))) pss_never, ?_⟩
    match xs, hl with
    | [x], _ => exact ⟨.ref R, rfl, R, m, o, ds, rfl, hr1, ok1, fun em => absurd (Int.ofNat.inj em) hne, fun _ => qE H (Same.refl H)⟩
theorem ok_gbX {f fC cR : Addr} {fd fdC : FuncData} {k : Nat} (F : Fun K "gone_back" "gone_back" s_gone_back f fd)
    (GC : FnOk P w K mg base (L2.CX P w) (k + 1) fC fdC ["row"] (spCsX cR)) (kC' : PySem.W.keepIn K (.ref fC) = true) (bC : Binds K fdC ["row"] []) (gC : mg "check_single" = some (.ref fC)) : FnOk P w K mg base (L2.CX P w) (k + 2) f fd ["row", "width", "word"] (spNoR cR 2) := by
  refine F.okX sc_gone_back (fun vs H Q E h => ?_) (fun cdv A outer s H vs Q E hr h => ?_)
  · obtain ⟨R, xs, m, o, ds, rfl, hl, _⟩ := h
    rw [List.length_cons, hl]
    rfl
  · obtain ⟨R, xs, m, o, ds, rfl, hl, hr1, ok1, hne, qE⟩ := h
    refine ⟨_, pss_cons (ps_expr (pe_callS GC hr (by rfl) gC kC' bC (fun σ => passAt (takes_of rfl rfl rfl rfl) σ) (pa_cons (pv 0) pa_nil))) pss_never, ?_⟩
    match xs, hl with
    | [x, y], _ => exact ⟨.ref R, rfl, R, m, o, ds, rfl, hr1, ok1, fun em => absurd (Int.ofNat.inj em) hne, fun _ => qE H (Same.refl H)⟩
/-! ### pairs of carries as data -/
def cD (c : List Int) : PyData := .tuple (c.map PyData.int)
def pD (q : PC) : PyData := .tuple [cD q.1, cD q.2]
theorem eqvI' : ∀ {l k : List Int}, PyData.eqvAll (l.map PyData.int) (k.map PyData.int) = true → l = k
  | [], [], _ => rfl
  | [], _ :: _, h => by simp [PyData.eqvAll] at h
  | _ :: _, [], h => by simp [PyData.eqvAll] at h
  | x :: l, y :: k, h => by
    simp only [List.map_cons, PyData.eqvAll, Bool.and_eq_true] at h
    have h1 : x = y := by simpa [PyData.eqv] using h.1
    rw [h1, eqvI' h.2]
theorem lay_cD (c : List Int) : (cD c).canLay0 = true ∧ (cD c).depth = 1 := by
  obtain ⟨h1, h2⟩ := lay_ints c
  unfold cD
  simp only [PyData.canLay0, PyData.depth, h1, h2]
  simp
theorem lay_pD (q : PC) : (pD q).canLay0 = true ∧ (pD q).depth = 2 := by
  obtain ⟨a1, a2⟩ := lay_cD q.1
  obtain ⟨b1, b2⟩ := lay_cD q.2
  unfold pD
  simp only [PyData.canLay0, PyData.canLayAll0, PyData.depth, PyData.depthAll, a1, a2, b1, b2]
  simp
theorem shaped_pD (q : PC) : SeqAt.shaped (pD q) = true := by
  obtain ⟨a1, a2⟩ := lay_pD q
  unfold SeqAt.shaped
  rw [a1, a2]
  rfl
theorem lay_pDs : ∀ l : List PC, PyData.canLayAll0 (l.map pD) = true ∧ PyData.depthAll (l.map pD) ≤ 2
  | [] => ⟨by simp only [List.map_nil, PyData.canLayAll0], by simp only [List.map_nil, PyData.depthAll]; decide⟩
  | q :: l => by
    obtain ⟨a1, a2⟩ := lay_pD q
    obtain ⟨b1, b2⟩ := lay_pDs l
    exact ⟨by simp only [List.map_cons, PyData.canLayAll0, a1, b1, Bool.and_self], by simp only [List.map_cons, PyData.depthAll, a2]; omega⟩
theorem shaped_pDs (l : List PC) : SeqAt.shaped (.list (l.map pD)) = true := by
  obtain ⟨a1, a2⟩ := lay_pDs l
  unfold SeqAt.shaped
  simp only [PyData.canLay0, PyData.depth, a1, Bool.true_and]
  exact decide_eq_true (by omega)
theorem eqv_pD (p q : PC) : PyData.eqv (pD p) (pD q) = decide (p = q) := by
  by_cases h : p = q
  · subst h
    rw [decide_eq_true rfl]
    exact SeqAt.eqv_refl _ (SeqAt.canLay_of_shaped (shaped_pD p))
  · rw [decide_eq_false h]
    cases e : PyData.eqv (pD p) (pD q) with
    | false => rfl
    | true =>
      exfalso
      unfold pD cD at e
      simp only [PyData.eqv, PyData.eqvAll, Bool.and_eq_true] at e
      exact h (Prod.ext (eqvI' e.1) (eqvI' e.2.1))
theorem any_pD (q : PC) : ∀ l : List PC, ((l.map pD).any fun z => PyData.eqv z (pD q)) = decide (q ∈ l)
  | [] => rfl
  | p :: l => by
    rw [List.map_cons, List.any_cons, eqv_pD, any_pD q l]
    by_cases h : p = q
    · subst h
      simp
    · have : ¬ q = p := fun z => h z.symm
      simp [h, this]
theorem dp_cD {H : Hp} {a : Addr} {c : List Int} (h : H a = some (.tup (c.map V.int))) : Dp K H (.ref a) (cD c) := .tup (SqT.of h) (dp_ints c)
theorem dp_pD {H : Hp} {p : Addr} {q : PC} (h : PrC H p q) : Dp K H (.ref p) (pD q) := by
  obtain ⟨A, B, e1, e2, e3⟩ := h
  exact .tup (SqT.of e1) (.cons (dp_cD e2) (.cons (dp_cD e3) .nil))
theorem dp_pDs {H : Hp} : ∀ {as : List Addr} {ps : List PC}, PtAt H as ps → DpAll K H (as.map V.ref) (ps.map pD)
  | _, _, .nil => .nil
  | _, _, .cons h t => .cons (dp_pD h) (dp_pDs t)
/-! ### texts without the sign e -/
def NoE (x : Str) : Prop := ¬ 101 ∈ x.cps.toList
theorem noE_app {x y : Str} (a : NoE x) (b : NoE y) : NoE (x ++ y) := by
  unfold NoE
  rw [Str.cps_append, Array.toList_append, List.mem_append]
  exact fun z => z.elim a b
theorem noE_from : ∀ (ts : List Str) (k : Nat) (acc : Str), NoE acc → (∀ t ∈ ts, NoE t) → NoE (textFrom k acc ts)
  | [], _, _, h, _ => h
  | t :: ts, k, acc, h, hs => by
    refine noE_from ts (k + 1) _ (noE_app (noE_app h ?_) (hs t List.mem_cons_self)) fun x hx => hs x (List.mem_cons_of_mem _ hx)
    by_cases z : k > 0
    · rw [if_pos z]; unfold NoE; decide +kernel
    · rw [if_neg z]; unfold NoE; decide +kernel
theorem noE_list {ts : List Str} (h : ∀ t ∈ ts, NoE t) : NoE (listText ts) := noE_app (noE_from ts 0 _ (by unfold NoE; decide +kernel) h) (by unfold NoE; decide +kernel)
theorem noE_join : ∀ {ts : List Str}, (∀ t ∈ ts, NoE t) → NoE (Str.join ", " ts)
  | [], _ => by unfold NoE; decide +kernel
  | [x], h => h x List.mem_cons_self
  | x :: y :: r, h => noE_app (noE_app (h x List.mem_cons_self) (by unfold NoE; decide +kernel)) (noE_join fun t ht => h t (List.mem_cons_of_mem _ ht))
theorem noE_tuple {ts : List Str} (h : ∀ t ∈ ts, NoE t) : NoE (tupleText ts) := by
  refine noE_app (noE_app (by unfold NoE; decide +kernel) (noE_join h)) ?_
  by_cases z : (ts.length == 1) = true
  · rw [if_pos z]; unfold NoE; decide +kernel
  · rw [if_neg z]; unfold NoE; decide +kernel
theorem shownAll_map : ∀ xs : List PyData, PyData.shownAll xs = xs.map PyData.shown
  | [] => by simp only [PyData.shownAll, List.map_nil]
  | x :: xs => by simp only [PyData.shownAll, List.map_cons, shownAll_map xs]
theorem noE_bit {i : Int} (h : Bit i) : NoE (PyData.shown (.int i)) := by
  simp only [PyData.shown]
  rcases h with rfl | rfl <;> (unfold NoE; decide +kernel)
theorem noE_cD {c : List Int} (h : ∀ x ∈ c, Bit x) : NoE (PyData.shown (cD c)) := by
  unfold cD
  simp only [PyData.shown, shownAll_map]
  refine noE_tuple fun t ht => ?_
  obtain ⟨d, hd, rfl⟩ := List.mem_map.mp ht
  obtain ⟨i, hi, rfl⟩ := List.mem_map.mp hd
  exact noE_bit (h i hi)
theorem noE_pD {q : PC} (h1 : ∀ x ∈ q.1, Bit x) (h2 : ∀ x ∈ q.2, Bit x) : NoE (PyData.shown (pD q)) := by
  unfold pD
  simp only [PyData.shown, PyData.shownAll]
  refine noE_tuple fun t ht => ?_
  simp only [List.mem_cons, List.not_mem_nil, or_false] at ht
  rcases ht with rfl | rfl
  · exact noE_cD h1
  · exact noE_cD h2
theorem noE_pDs {ps : List PC} (h : ∀ q ∈ ps, (∀ x ∈ q.1, Bit x) ∧ ∀ x ∈ q.2, Bit x) : NoE (PyData.shown (.list (ps.map pD))) := by
  simp only [PyData.shown, shownAll_map]
  refine noE_list fun t ht => ?_
  obtain ⟨d, hd, rfl⟩ := List.mem_map.mp ht
  obtain ⟨q, hq, rfl⟩ := List.mem_map.mp hd
  exact noE_pD (h q hq).1 (h q hq).2
/-! ### lists of pairs are shown -/
theorem bit_show {i : Int} (h : Bit i) : PyData.showable (.int i) = true ∧ PyData.leavesShort 8 (.int i) = true := by
  rcases h with rfl | rfl
  · exact ⟨by decide +kernel, by decide +kernel⟩
  · exact ⟨by decide +kernel, by decide +kernel⟩
theorem bits_show : ∀ {c : List Int}, (∀ x ∈ c, Bit x) → PyData.showableAll (c.map PyData.int) = true ∧ PyData.leavesShortAll 8 (c.map PyData.int) = true ∧ PyData.bulkAll (c.map PyData.int) = c.length
  | [], _ => ⟨by simp only [List.map_nil, PyData.showableAll], by simp only [List.map_nil, PyData.leavesShortAll], by simp only [List.map_nil, PyData.bulkAll, List.length_nil]⟩
  | x :: c, h => by
    obtain ⟨a1, a2⟩ := bit_show (h x List.mem_cons_self)
    obtain ⟨b1, b2, b3⟩ := bits_show fun y hy => h y (List.mem_cons_of_mem _ hy)
    refine ⟨by simp only [List.map_cons, PyData.showableAll, a1, b1, Bool.and_self], by simp only [List.map_cons, PyData.leavesShortAll, a2, b2, Bool.and_self], ?_⟩
    simp only [List.map_cons, PyData.bulkAll, PyData.bulk, b3, List.length_cons]
    omega
theorem pD_show {q : PC} (h1 : ∀ x ∈ q.1, Bit x) (h2 : ∀ x ∈ q.2, Bit x) : (pD q).showable = true ∧ (pD q).leavesShort 8 = true ∧ (pD q).bulk = q.1.length + q.2.length + 2 := by
  obtain ⟨a1, a2, a3⟩ := bits_show h1
  obtain ⟨b1, b2, b3⟩ := bits_show h2
  unfold pD cD
  simp only [PyData.showable, PyData.showableAll, PyData.leavesShort, PyData.leavesShortAll, PyData.bulk, PyData.bulkAll, a1, a2, a3, b1, b2, b3, Bool.and_self]
  exact ⟨trivial, trivial, by omega⟩
theorem pDs_show : ∀ {ps : List PC}, (∀ q ∈ ps, (∀ x ∈ q.1, Bit x) ∧ (∀ x ∈ q.2, Bit x) ∧ q.1.length ≤ 8 ∧ q.2.length ≤ 8) → PyData.showableAll (ps.map pD) = true ∧ PyData.leavesShortAll 8 (ps.map pD) = true ∧ PyData.bulkAll (ps.map pD) ≤ 19 * ps.length
  | [], _ => ⟨by simp only [List.map_nil, PyData.showableAll], by simp only [List.map_nil, PyData.leavesShortAll], by simp only [List.map_nil, PyData.bulkAll, List.length_nil]; omega⟩
  | q :: ps, h => by
    obtain ⟨h1, h2, h3, h4⟩ := h q List.mem_cons_self
    obtain ⟨a1, a2, a3⟩ := pD_show h1 h2
    obtain ⟨b1, b2, b3⟩ := pDs_show fun y hy => h y (List.mem_cons_of_mem _ hy)
    refine ⟨by simp only [List.map_cons, PyData.showableAll, a1, b1, Bool.and_self], by simp only [List.map_cons, PyData.leavesShortAll, a2, b2, Bool.and_self], ?_⟩
    simp only [List.map_cons, PyData.bulkAll, a3, List.length_cons]
    omega
theorem pDs_fit {ps : List PC} (h : ∀ q ∈ ps, (∀ x ∈ q.1, Bit x) ∧ (∀ x ∈ q.2, Bit x) ∧ q.1.length ≤ 8 ∧ q.2.length ≤ 8) (hl : ps.length ≤ 65536) : (PyData.list (ps.map pD)).showable = true ∧ (PyData.list (ps.map pD)).depth ≤ 40 ∧ (PyData.list (ps.map pD)).shown.length ≤ sizeLine := by
  obtain ⟨a1, a2, a3⟩ := pDs_show h
  have d := (lay_pDs ps).2
  refine ⟨by simp only [PyData.showable, a1], by simp only [PyData.depth]; omega, ?_⟩
  have := PyData.shown_le_bulk 8 (by decide) (.list (ps.map pD)) (by simp only [PyData.leavesShort, a2])
  simp only [PyData.bulk] at this
  rw [sizeLine_eq]
  omega
theorem pDs_nd : ∀ ps : List PC, (PyData.list (ps.map pD)).hasDict = false := by
  have hi : ∀ c : List Int, PyData.hasDictAll (c.map PyData.int) = false := fun c => by
    induction c with
    | nil => simp only [List.map_nil, PyData.hasDictAll]
    | cons x c ih => simp only [List.map_cons, PyData.hasDictAll, PyData.hasDict, ih, Bool.or_self]
  have hp : ∀ q : PC, (pD q).hasDict = false := fun q => by
    unfold pD cD
    simp only [PyData.hasDict, PyData.hasDictAll, hi, Bool.or_self]
  intro ps
  simp only [PyData.hasDict]
  induction ps with
  | nil => simp only [List.map_nil, PyData.hasDictAll]
  | cons q ps ih => simp only [List.map_cons, PyData.hasDictAll, hp, ih, Bool.or_self]
/-! ### _law_is_carry, _law_right -/
def spIc : Sp := fun vs H Q _ => ∃ (R T : Addr) (m o : Int) (ds : List Deed) (c : List Int), vs = [.ref R, .ref T] ∧ RowAt H R m ds o ∧ ds.length ≤ 100 ∧ H T = some (.tup (c.map V.int)) ∧ c.length = ds.length ∧ (∀ x ∈ c, Bit x) ∧ ∀ H', Same H H' → Q (.bl true) H'
theorem ok_ic {f : Addr} {fd : FuncData} {k : Nat} (F : Fun K "_law_is_carry" "_law_is_carry" s_law_is_carry f fd) (mi : mg "isinstance" = none) (mt : mg "tuple" = none) (mn : mg "len" = none) (mI : mg "int" = none) : FnOk P w K mg base CX0 (k + 1) f fd ["row", "thing"] spIc := by
  refine F.ok sc_law_is_carry (fun vs H Q E h => ?_) (fun cdv A outer s H vs Q E hr h => ?_)
  · obtain ⟨R, T, m, o, ds, c, rfl, _⟩ := h
    rfl
  · obtain ⟨R, T, m, o, ds, c, rfl, hrow, hds, eT, hc, hb, q⟩ := h
    obtain ⟨D, rs, eR, eD, hd⟩ := id hrow
    have rl := awLen hd
    refine ⟨_, pss_cons (ps_if (PW.pt (pw_or (pt_not (pt_val (pe_callB call_isi (by rfl) mi (by decide +kernel) (pa_cons (pv 1) (pa_cons (pe_bltn (v := .ty "tuple") (by rfl) mt (by decide +kernel) rfl) pa_nil)))))
        (pw_or1 (pt_cmpR op_ne (pe_callB call_len_seq (by rfl) mn PySem.boot_len (pa_cons (pv 1) pa_nil)) (pe_callB call_len_seq (by rfl) mn PySem.boot_len (pa_cons (pe_ix ix_tup (pv 0) pe_int (fun _ _ => rfl)) pa_nil)) (nomark _))))) (pss_one (ps_ret pe_bl)) pss_nil)
      (pss_one (ps_ret (pe_cmpR (op_eqD hr.units) (pe_lc (own := [("one", 2)]) (g := gName 2) (by rfl) sc_law_is_carry.nd (pi_tup (pv 1)) (blkOk_by (own := [("one", 2)]) (N := N_law_is_carry) (sc := defScope s_law_is_carry) (by decide +kernel))
        (fun _ _ _ _ _ => pg_name (i := 2) sc_law_is_carry.nd rfl (Or.inl rfl))
        (fun _ _ _ _ _ => pts_one (PW.pt (pw_or (pt_not (pt_val (pe_callB (r := rIsi K) call_isi (by rfl) mi (by decide +kernel) (pa_cons (pv 2) (pa_cons (pe_bltn (v := .ty "int") (by rfl) mI (by decide +kernel) rfl) pa_nil))))) (pw_or1 (pt_cmpR (r := rIn K true) op_notIn_seq (pv 2) (pe_tup (pa_cons pe_int (pa_cons pe_int pa_nil))) (by rfl))))))
        (fun _ _ _ _ _ => pv 2)) (pe_lst pa_nil) (nomark _)))), ?_⟩
    refine ⟨.ref T, rfl, .ref T, .ty "tuple", .type "tuple", .type "tuple", true, rfl, .ty "tuple", .base (.tup eT), kit_ty (by decide +kernel), true, rfl, iteF ?_⟩
    refine ⟨.ref T, rfl, T, _, rfl, .inr (SqT.of eT), .ref R, rfl, R, _, 1, .ref D, rfl, rfl, SqT.of eR, rfl, D, _, rfl, .inr (SqT.of eD), rfl, _, rfl, ite2 (fun e => ?_) (fun _ => ?_)⟩
    · exfalso
      apply neT e
      rw [List.length_map, List.length_map, hc, rl]
    refine ⟨.ref T, rfl, T, rfl, ⟨_, SqT.of eT⟩, fun L hL => ?_⟩
    refine lc_tup (K := K) (a := T) (xs := c.map V.int) (fun i H4 => H4 L = some (.lst []) ∧ Same H H4) ⟨upd_same, same_new hL⟩ (fun i H4 _ hp => SqT.of (hp.2 _ _ eT)) (fun i x H4 hx hp => ?_) (fun H4 hp => ?_)
    · obtain ⟨eL, s4⟩ := hp
      rw [List.getElem?_map] at hx
      obtain ⟨z, hz, rfl⟩ := Option.map_eq_some_iff.mp hx
      have bz := hb z (List.mem_of_getElem? hz)
      refine ⟨rfl, .int z, rfl, .int z, .ty "int", .type "int", .type "int", true, rfl, .ty "int", .base (.int z), kit_ty (by decide +kernel), true, rfl, iteF ?_⟩
      refine ⟨.int z, rfl, (by show 2 ≤ sizeLine; decide), fun U hU => ?_⟩
      have sU := same_new (o := .tup [.int 0, .int 1]) hU
      refine ⟨U, [.int 0, .int 1], rfl, .inr (SqT.of upd_same), ?_⟩
      rcases bz with rfl | rfl
      · exact ⟨rfl, rfl, _, rfl, iteF ⟨sU _ _ eL, s4.trans sU⟩⟩
      · exact ⟨rfl, rfl, _, rfl, iteF ⟨sU _ _ eL, s4.trans sU⟩⟩
    · obtain ⟨eL, s4⟩ := hp
      refine ⟨(by show 0 ≤ sizeLine; decide), fun Z hZ => ?_⟩
      have sZ := same_new (o := .lst []) hZ
      exact ⟨.list [], .list [], .lst (.inl (.inl (sZ _ _ eL))) .nil, .lst (.inl (.inl upd_same)) .nil, (by rfl), (by rfl), q _ (s4.trans sZ)⟩
/-! ### a op1 b op2 c op3 d -/
section ch3
variable {X : Cx} {a b c d : Expr} {ta tb tc td : TE} {pos : Pos}
def tChain3 (r r' r'' : R2) (ta tb tc td : TE) : TT := fun σ H Q => ta σ H fun x H1 => tb σ H1 fun y H2 => r x y H2 fun z H3 => ∃ k, z = .bl k ∧
  (if k = true then tc σ H3 fun w' H4 => r' y w' H4 fun z2 H5 => ∃ k2, z2 = .bl k2 ∧ (if k2 = true then td σ H5 fun u' H6 => r'' w' u' H6 fun z3 H7 => ∃ k3, z3 = .bl k3 ∧ Q k3 H7 else Q false H5) else Q false H3)
theorem pt_chain3 {op op' op'' : CmpOp} {r r' r'' : R2} (ho : OpR X (compareOp op) r) (ho' : OpR X (compareOp op') r') (ho'' : OpR X (compareOp op'') r'') (ha : PE X a ta) (hb : PE X b tb) (hc : PE X c tc) (hd : PE X d td)
    (hm : lastMarks [op, op', op''] [b, c, d] = false := by with_unfolding_all rfl) : PT X (.Compare a [op, op', op''] [b, c, d] pos) (tChain3 r r' r'' ta tb tc td) := by
  refine ⟨fun pins s σ H Q I h => ?_⟩
  refine isTrue_chain (thn (ha.run pins s σ H _ I h) fun v s1 ⟨x, H1, I1, r1, q1⟩ => test_link (thn (hb.run pins s1 σ H1 _ I1 q1) fun u s2 ⟨y, H2, I2, r2, q2⟩ =>
    thn (ho pins s2 σ H2 x y v u _ I2 r1 r2 q2) fun d s3 ⟨z, H3, I3, r3, k, e, q3⟩ => ?_)) hm
  subst e
  cases r3
  refine wpAny_truthy_bool ?_
  cases k with
  | false => exact ite_ff ⟨H3, I3, q3⟩
  | true =>
    refine ite_tt (test_link (thn (hc.run pins s3 σ H3 _ I3 q3) fun w' s4 ⟨z', H4, I4, r4, q4⟩ => thn (ho' pins s4 σ H4 y z' u w' _ I4 r2 r4 q4) fun d' s5 ⟨z2, H5, I5, r5, k2, e2, q5⟩ => ?_))
    subst e2
    cases r5
    refine wpAny_truthy_bool ?_
    cases k2 with
    | false => exact ite_ff ⟨H5, I5, q5⟩
    | true =>
      refine ite_tt (test_last (thn (hd.run pins s5 σ H5 _ I5 q5) fun u' s6 ⟨z6, H6, I6, r6, q6⟩ => thn (ho'' pins s6 σ H6 z' z6 w' u' _ I6 r4 r6 q6) fun d'' s7 ⟨z7, H7, I7, r7, k3, e3, q7⟩ => ?_))
      subst e3
      cases r7
      exact wpAny_truthy_bool ⟨H7, I7, q7⟩
end ch3
/-! ### lists of carries as data -/
theorem shaped_cD (c : List Int) : SeqAt.shaped (cD c) = true := by
  obtain ⟨a1, a2⟩ := lay_cD c
  unfold SeqAt.shaped
  rw [a1, a2]
  rfl
theorem lay_cDs : ∀ l : List (List Int), PyData.canLayAll0 (l.map cD) = true ∧ PyData.depthAll (l.map cD) ≤ 1
  | [] => ⟨by simp only [List.map_nil, PyData.canLayAll0], by simp only [List.map_nil, PyData.depthAll]; decide⟩
  | q :: l => by
    obtain ⟨a1, a2⟩ := lay_cD q
    obtain ⟨b1, b2⟩ := lay_cDs l
    exact ⟨by simp only [List.map_cons, PyData.canLayAll0, a1, b1, Bool.and_self], by simp only [List.map_cons, PyData.depthAll, a2]; omega⟩
theorem shaped_cDs (l : List (List Int)) : SeqAt.shaped (.list (l.map cD)) = true := by
  obtain ⟨a1, a2⟩ := lay_cDs l
  unfold SeqAt.shaped
  simp only [PyData.canLay0, PyData.depth, a1, Bool.true_and]
  exact decide_eq_true (by omega)
theorem eqv_cD (p q : List Int) : PyData.eqv (cD p) (cD q) = decide (p = q) := by
  by_cases h : p = q
  · subst h
    rw [decide_eq_true rfl]
    exact SeqAt.eqv_refl _ (SeqAt.canLay_of_shaped (shaped_cD p))
  · rw [decide_eq_false h]
    cases e : PyData.eqv (cD p) (cD q) with
    | false => rfl
    | true =>
      exfalso
      unfold cD at e
      simp only [PyData.eqv] at e
      exact h (eqvI' e)
theorem any_cD (q : List Int) : ∀ l : List (List Int), ((l.map cD).any fun z => PyData.eqv z (cD q)) = decide (q ∈ l)
  | [] => rfl
  | p :: l => by
    rw [List.map_cons, List.any_cons, eqv_cD, any_cD q l]
    by_cases h : p = q
    · subst h
      simp
    · have : ¬ q = p := fun z => h z.symm
      simp [h, this]
theorem dp_cDs {H : Hp} : ∀ {as : List Addr} {cs : List (List Int)}, TAt H as cs → DpAll K H (as.map V.ref) (cs.map cD)
  | _, _, .nil => .nil
  | _, _, .cons h t => .cons (dp_cD h) (dp_cDs t)
theorem noE_cDs {cs : List (List Int)} (h : ∀ c ∈ cs, ∀ x ∈ c, Bit x) : NoE (PyData.shown (.list (cs.map cD))) := by
  simp only [PyData.shown, shownAll_map]
  refine noE_list fun t ht => ?_
  obtain ⟨d, hd, rfl⟩ := List.mem_map.mp ht
  obtain ⟨c, hc, rfl⟩ := List.mem_map.mp hd
  exact noE_cD (h c hc)
theorem cDs_show : ∀ {cs : List (List Int)}, (∀ c ∈ cs, (∀ x ∈ c, Bit x) ∧ c.length ≤ 8) → PyData.showableAll (cs.map cD) = true ∧ PyData.leavesShortAll 8 (cs.map cD) = true ∧ PyData.bulkAll (cs.map cD) ≤ 9 * cs.length
  | [], _ => ⟨by simp only [List.map_nil, PyData.showableAll], by simp only [List.map_nil, PyData.leavesShortAll], by simp only [List.map_nil, PyData.bulkAll, List.length_nil]; omega⟩
  | c :: cs, h => by
    obtain ⟨h1, h2⟩ := h c List.mem_cons_self
    obtain ⟨a1, a2, a3⟩ := bits_show h1
    obtain ⟨b1, b2, b3⟩ := cDs_show fun y hy => h y (List.mem_cons_of_mem _ hy)
    have e1 : (cD c).showable = true := by unfold cD; simp only [PyData.showable, a1]
    have e2 : (cD c).leavesShort 8 = true := by unfold cD; simp only [PyData.leavesShort, a2]
    have e3 : (cD c).bulk = c.length := by unfold cD; simp only [PyData.bulk, a3]
    refine ⟨by simp only [List.map_cons, PyData.showableAll, e1, b1, Bool.and_self], by simp only [List.map_cons, PyData.leavesShortAll, e2, b2, Bool.and_self], ?_⟩
    simp only [List.map_cons, PyData.bulkAll, e3, List.length_cons]
    omega
theorem cDs_fit {cs : List (List Int)} (h : ∀ c ∈ cs, (∀ x ∈ c, Bit x) ∧ c.length ≤ 8) (hl : cs.length ≤ 256) : (PyData.list (cs.map cD)).showable = true ∧ (PyData.list (cs.map cD)).depth ≤ 40 ∧ (PyData.list (cs.map cD)).shown.length ≤ sizeLine := by
  obtain ⟨a1, a2, a3⟩ := cDs_show h
  have d := (lay_cDs cs).2
  refine ⟨by simp only [PyData.showable, a1], by simp only [PyData.depth]; omega, ?_⟩
  have := PyData.shown_le_bulk 8 (by decide) (.list (cs.map cD)) (by simp only [PyData.leavesShort, a2])
  simp only [PyData.bulk] at this
  rw [sizeLine_eq]
  omega
theorem cDs_nd : ∀ cs : List (List Int), (PyData.list (cs.map cD)).hasDict = false := by
  have hi : ∀ c : List Int, PyData.hasDictAll (c.map PyData.int) = false := fun c => by
    induction c with
    | nil => simp only [List.map_nil, PyData.hasDictAll]
    | cons x c ih => simp only [List.map_cons, PyData.hasDictAll, PyData.hasDict, ih, Bool.or_self]
  have hp : ∀ q : List Int, (cD q).hasDict = false := fun q => by
    unfold cD
    simp only [PyData.hasDict, hi]
  intro ps
  simp only [PyData.hasDict]
  induction ps with
  | nil => simp only [List.map_nil, PyData.hasDictAll]
  | cons q ps ih => simp only [List.map_cons, PyData.hasDictAll, hp, ih, Bool.or_self]
theorem any_true' : ∀ n : Nat, (((List.replicate n true).map PyData.bool).any fun z => PyData.eqv z (.bool false)) = false
  | 0 => rfl
  | n + 1 => by
    rw [List.replicate_succ, List.map_cons, List.any_cons, any_true' n]
    rfl
/-! ### an exception that was caught, held beyond the clause -/
section excs
/-- an exception object of the class cls at a, raised or not -/
def ExR (cls : Value) (a : Addr) : HO := .ext fun h => ∃ (oe : Obj) (vs : Array Value), h.get? a = some oe ∧ Zc cls none oe ∧ oe.data = .fields vs
theorem exR_ok {P : Program} {w : World} {H : Hp} {h : Heap} {a : Addr} {cls : Value} {oe : Obj} {vs : Array Value} (e : h.get? a = some oe) (z : Zc cls none oe) (d : oe.data = .fields vs) : ObjOk P w H h a (ExR cls a) :=
  ⟨⟨oe, vs, e, z, d⟩, ⟨oe, e⟩, fun _ _ ⟨o, v, q, r⟩ k => ⟨o, v, k o q, r⟩⟩
theorem inv_track {X : Cx} {pins : List (Addr × Obj)} {σ : L2.St} {H : Hp} {s : Shared} {a : Addr} {cls : Value} {oe : Obj} {vs : Array Value} (I : Inv X pins σ H s) (na : H a = none) (ha : s.heap.get? a = some oe) (hz : Zc cls none oe) (hd : oe.data = .fields vs)
    (nL : a ≠ X.env.locals) (n0 : ∀ o, X.s_0.heap.get? a = some o → a ∈ X.ex) (np : ∀ p ∈ X.pn ++ pins, p.1 ≠ a) : Inv X pins σ (upd H a (ExR cls a)) s := by
  refine ⟨I.ok, I.os, I.bare, ⟨I.base.keep, I.base.slot, fun b o e n hx => ?_, I.base.there, fun b xs e => ?_, fun b o u e => ?_, fun b ps e => ?_⟩, I.loc, I.cell, ?_, fun x c e => ?_, fun p hp => ?_, fun b u e => ?_, I.len⟩
  · have nb : b ≠ a := fun z => by
      subst z
      exact hx (n0 o e)
    rw [upd_ne nb]
    exact I.base.free b o e n hx
  · have z := I.base.tups b xs e
    rw [upd_ne (ne_of_none z na)]
    exact z
  · have z := I.base.frzs b o u e
    rw [upd_ne (ne_of_none z na)]
    exact z
  · obtain ⟨more, z⟩ := I.base.tbls b ps e
    exact ⟨more, by rw [upd_ne (ne_of_none z na)]; exact z⟩
  · rw [upd_ne nL.symm]
    exact I.free
  · have nc : c ≠ a := fun z => by
      subst z
      obtain ⟨v, o, h1, h2⟩ := I.cell x c e
      rw [ha] at h1
      cases h1
      rw [hd] at h2
      cases h2
    rw [upd_ne nc]
    exact I.freeC x c e
  · obtain ⟨h1, h2, h3⟩ := I.pin p hp
    exact ⟨h1, by rw [upd_ne (np p hp)]; exact h2, h3⟩
  · by_cases hb : b = a
    · subst hb
      rw [upd_same] at e
      cases e
      exact exR_ok ha hz hd
    · rw [upd_ne hb] at e
      exact (I.hok b u e).stay (fun c v _ q => q) (fun c q => by rw [upd_ne (ne_of_none q na)]; exact q) fun c xs q => by rw [upd_ne (ne_of_none q na)]; exact q
def wAsT (K : PySem.W.Frag) (c : Value) (i : Nat) (ts : Addr → Value → Option Addr → TS) (Wout : WX) (D : Ends) : WX := fun cls d σ H =>
  ∃ b, PySem.W.exmOne K cls c = some b ∧ (b = true → d = none ∧ ∀ a, H a = none → ts a cls d { nx := fun σ' H' => D.nx (σ'.set i none) (upd H' a (ExR cls a)), rt := D.rt, bk := fun σ' H' => D.bk (σ'.set i none) H', ct := fun σ' H' => D.ct (σ'.set i none) H' } (σ.set i (some (.ref a))) H) ∧
    (b = false → Wout cls d σ H)
theorem ps_try_asT {X : Cx} {x n : Str} {c : Value} {i : Nat} {body suite : List Stmt} {b₀ : Stmt} {np pos pos' : Pos} {tb : WX → TS} {ts : Addr → Value → Option Addr → TS} {Wout : WX} (hs : X.stack = X.env :: X.outer) (hf : X.env.frame = some X.env.locals) (hN : X.N.Nodup) (hi : X.N[i]? = some n) (hln : X.env.kindOf n = some .local) (hc : Names X x c) (tk : Takes X Wout)
    (hb : ∀ (W : WX) (pn : List (Addr × Obj)) (xe : Value → Shared → Prop), Takes (X.tr pn xe) W → PassesOwn (model X.prog X.w) X.A X.env xe → PSs (X.tr pn xe) body (tb W))
    (hsu : ∀ (a : Addr) (oe : Obj) (cls : Value) (d : Option Addr) (pn : List (Addr × Obj)), Zc cls d oe → (∃ vs, oe.data = .fields vs) → PSs (X.suite a ((a, oe) :: pn)) (b₀ :: suite) (ts a cls d)) :
    PS X (.Try body [.ExceptHandler (some (.Name x np)) (some n) (b₀ :: suite) pos'] [] [] pos) (fun D σ H => tb (wAsT X.K c i ts Wout D) D σ H) := by
  refine ⟨fun pins s σ H D I h => ?_⟩
  have ok := I.ok
  have hfr : X.A.frames = some (X.env :: X.outer) := by rw [ok.frames, hs]
  have hloc : Loc X.env.scope n := .inl hln
  refine wpAny_Try_except ?_
  refine wpAny_mono ((hb (wAsT X.K c i ts Wout D) (X.pn ++ pins) (fun e s₁ => wpAny (model X.prog X.w) X.A (noteFrame e X.env) (fun _ s₂ => wpAny (model X.prog X.w) X.A (setFlight e none) (fun _ s₃ =>
    wpAny (model X.prog X.w) X.A (handleBy e X.env [.ExceptHandler (some (.Name x np)) (some n) (b₀ :: suite) pos']) (SP X pins D) X.xe s₃) X.xe s₂) X.xe s₁) (fun u s' xx => ?_) PassesOwn.looking).run [] s σ H D (I.toTry _) h) (fun f s1 hsp => ?_) (fun e s1 he => he)
  · obtain ⟨a, B, sI, pins', σ', H', cls, d, rfl, J', nb, up, sky, na, os, ag, b, hb1, hyes, hno⟩ := xx
    have J : Inv X pins σ' H' sI := J'.ofTry ok
    have sky' : Sky B (X.env :: X.outer) a (Zc cls d) X.env.locals s'.heap := by rw [← hs]; exact sky
    show wpAny (model X.prog X.w) X.A (noteFrame (.ref a) X.env) _ _ _
    refine Sky.land Zc.steady hfr hf sky' fun h3 fl3 up3 => ?_
    have J3 : Inv X pins σ' H' { s' with heap := h3 } := J.landed nb fl3.1 (up.trans up3) os ag
    obtain ⟨oe3, vs3, he3, hz3, hd3⟩ := fl3.there
    have notFr : ∀ {h : Heap} {o : Obj} {vs : Array Value}, h.FunFrames B (X.env :: X.outer) → h.get? a = some o → o.data = .fields vs → a ∉ frs (X.env :: X.outer) := fun {h o vs} ff e dd hm => by
      obtain ⟨_, o', e', hnf⟩ := ff.mem hm
      rw [e] at e'; cases e'
      exact hnf _ dd
    have nfr := notFr fl3.2.2.1 he3 hd3
    have nL : a ≠ X.env.locals := fun z => nfr (List.mem_filterMap.mpr ⟨X.env, List.mem_cons_self, by rw [hf, z]⟩)
    have nF : a ∉ X.fs := fun hm => by
      obtain ⟨e, he, q⟩ := List.mem_filterMap.mp hm
      exact nfr (List.mem_filterMap.mpr ⟨e, List.mem_cons_of_mem _ he, q⟩)
    have nI : ∀ o, sI.heap.get? a = some o → False := fun o e => by
      have z := nb a o e (by rw [hs]; exact nfr)
      have z2 : B.get? a = none := fl3.2.1
      rw [z2] at z
      cases z
    have n0 : ∀ o, X.s_0.heap.get? a = some o → a ∈ X.ex := fun o e => by
      by_cases hx : a ∈ X.ex
      · exact hx
      · obtain ⟨o', e'⟩ := J.base.there a o e hx
        exact (nI o' e').elim
    have np' : ∀ p ∈ X.pn ++ pins, p.1 ≠ a := fun p hp z => by
      have := (J.pin p hp).1
      rw [z] at this
      exact nI _ this
    have S3 := J3.suite he3 hd3 na nL nF
    refine wpAny_handleBy_cons (codeAny_handlers_test ?_) (by intro q; cases q)
    have LT : PySem.W.Looks (model X.prog X.w) h3 (typeOf (.ref a)) cls := fun A Q E s k q => wpAny_typeOf_ref (k _ _ he3) (by rw [hz3.1]; exact q)
    have LM := PySem.W.exm_one (M := model X.prog X.w) (J3.kIn) LT hb1
    have test : ∀ {Q : Value → Shared → Prop} {E : Value → Shared → Prop}, Q c { s' with heap := h3 } → wpAny (model X.prog X.w) (X.A.mark (some (.ref a))) (eval (.Name x np) X.env) Q E { s' with heap := h3 } := fun {Q E} q => by
      obtain ⟨hg, hdbg, hm | ⟨hm, hv, hnn⟩⟩ := hc
      · exact ld_glob (X := X.suite a ((a, oe3) :: (X.pn ++ pins))) S3 hg hm q hdbg
      · exact ld_blt (X := X.suite a ((a, oe3) :: (X.pn ++ pins))) S3 hg hm hv q hnn hdbg
    refine test (LM.here ?_)
    cases b with
    | true =>
      obtain ⟨dn, hyes⟩ := hyes rfl
      refine codeAny_handlers_suite_as ?_
      refine HandSPX.lands_againZ fl3 fun h4 fl4 up4 => ?_
      have J4 : Inv X pins σ' H' { s' with heap := h4 } := J.landed nb fl4.1 ((up.trans up3).trans up4) os ag
      obtain ⟨oe4, vs4, he4, hz4, hd4⟩ := fl4.there
      have S4 := J4.suite he4 hd4 na nL nF
      refine store_ok (X := X.suite a ((a, oe4) :: (X.pn ++ pins))) (v := .ref a) S4 hN hi hloc rfl (fun s5 S5 => ?_) (.inr hln)
      refine wpAny_mono ((hsu a oe4 cls d (X.pn ++ pins) hz4 ⟨_, hd4⟩).run [] s5 _ H' _ S5 (hyes a na)) (fun f s6 hsp => ?_) (fun _ _ z => False.elim z)
      have end_ : ∀ {σ6 : L2.St} {H6 : Hp} {Q : Shared → Prop}, Inv (X.suite a ((a, oe4) :: (X.pn ++ pins))) [] σ6 H6 s6 → (∀ s7, Inv X pins (σ6.set i none) H6 s7 → Q s7) →
          wpAny (model X.prog X.w) X.A (do bindName X.env n .none; unbindBehindTheSuite X.env n pos') (fun _ s7 => Q s7) X.xe s6 := fun {σ6 H6 Q} S6 hq => gone_ok (S6.unsuite ok) hN hi hln hq
      cases f with
      | next =>
        obtain ⟨σ6, H6, S6, q6⟩ := hsp
        obtain ⟨p1, p2, _⟩ := S6.pin (a, oe4) (List.mem_append_left _ List.mem_cons_self)
        have T6 : Inv X pins σ6 (upd H6 a (ExR cls a)) s6 := inv_track (S6.unsuite ok) p2 p1 (by rw [dn] at hz4; exact hz4) hd4 nL n0 np'
        exact gone_ok T6 hN hi hln fun s7 J7 => ⟨_, _, J7, q6⟩
      | brk =>
        obtain ⟨σ6, H6, S6, q6⟩ := hsp
        exact end_ S6 fun s7 J7 => ⟨_, _, J7, q6⟩
      | cont =>
        obtain ⟨σ6, H6, S6, q6⟩ := hsp
        exact end_ S6 fun s7 J7 => ⟨_, _, J7, q6⟩
      | ret u =>
        obtain ⟨v6, σ6, H6, S6, r6, q6⟩ := hsp
        exact end_ S6 fun s7 J7 => ⟨_, _, _, J7, r6, q6⟩
    | false =>
      show wpAny _ X.A (handleBy (.ref a) X.env []) _ _ _
      refine wpAny_handleBy_nil ?_
      obtain ⟨k1, k2, k3, oe, vs, T, oT, ts', he, hz, hd, h1, hr⟩ := id fl3
      unfold PySem.passOn
      refine wpAny_bind (wpAny_field he hd h1 ?_)
      rw [if_neg (show ¬ ((Value.ref T == Value.none) = true) from by simp)]
      have fin : wpAny (model X.prog X.w) X.A (setFlight (.ref a) X.env.frame) (fun _ s4 => wpAny (model X.prog X.w) X.A (throw (.ref a) : Sem Flow) (SP X pins D) X.xe s4) X.xe { s' with heap := h3 } := by
        rw [hf]
        refine HandSPX.setFlight_upZ fl3 fun h4 hh4 up4 => wpAny_throw (tk _ _ ?_)
        exact ⟨a, B, sI, pins, σ', H', cls, d, rfl, J, nb, (up.trans up3).trans up4, .inr (.inr (by rw [hs]; exact hh4)), na, os, ag, hno rfl⟩
      first
        | exact wpAny_bind (wpAny_pure (wpAny_bind fin))
        | exact wpAny_bind fin
  · cases f with
    | next =>
      obtain ⟨σ', H', J', q⟩ := hsp
      exact wpAny_execs_nil ⟨σ', H', J'.ofTry ok, q⟩
    | brk =>
      obtain ⟨σ', H', J', q⟩ := hsp
      exact ⟨σ', H', J'.ofTry ok, q⟩
    | cont =>
      obtain ⟨σ', H', J', q⟩ := hsp
      exact ⟨σ', H', J'.ofTry ok, q⟩
    | ret u =>
      obtain ⟨v, σ', H', J', r, q⟩ := hsp
      exact ⟨v, σ', H', J'.ofTry ok, r, q⟩
/-- isinstance of a caught exception -/
def rIsR (K : PySem.W.Frag) : List V → Hp → VK → Prop := fun xs H Q => ∃ (a D : Addr) (c : V) (cv : Value) (b : Bool), xs = [.ref a, c] ∧ H a = some (ExR (.ref D) a) ∧ ExcC K D ∧ ClsV c cv ∧ PySem.W.kitOne K (.ref D) cv = some b ∧ Q (.bl b) H
theorem inst_at {X : Cx} {pins : List (Addr × Obj)} {σ : L2.St} {H : Hp} {s : Shared} {a D : Addr} (I : Inv X pins σ H s) (ha : H a = some (ExR (.ref D) a)) : ∃ oe, PySem.W.InstAt s.heap a oe D none := by
  obtain ⟨⟨oe, vs, hget, ⟨z1, z2⟩, hv⟩, _, _⟩ := I.hok a _ ha
  refine ⟨oe, ?_⟩
  obtain ⟨oc, od, oda, osl⟩ := oe
  dsimp only at z1 z2 hv
  subst z1 z2 hv
  exact ⟨hget, rfl, rfl, trivial⟩
theorem call_isR {X : Cx} : CallR X (.builtin "isinstance") (rIsR X.K) := by
  intro pins s σ H xs us Q I r h
  obtain ⟨a, D, c, cv, b, rfl, ha, hD, hc, hk, q⟩ := h
  obtain ⟨oe, J⟩ := inst_at I ha
  obtain ⟨u1, u2, rfl, r1, r2⟩ := vals2 r
  cases (show u1 = Value.ref a from r1)
  obtain rfl := ClsV.eq hc r2
  exact PySem.W.kia_one (PySem.W.handS_kitx_exc hD.hg hD.hk hD.hs hD.hd hD.ha hD.hn hD.ht hD.hm) I.kIn J hk (fun z => nomatch z) fun tk => ⟨.bl b, H, I.kept (t' := tk) fun _ _ z => z, rfl, q⟩
def rIsRT (K : PySem.W.Frag) : List V → Hp → VK → Prop := fun xs H Q => ∃ (a D tp : Addr) (cs : List V) (ws : List Value) (b : Bool), xs = [.ref a, .ref tp] ∧ H a = some (ExR (.ref D) a) ∧ ExcC K D ∧ H tp = some (.tup cs) ∧ Paired ClsV cs ws ∧ PySem.W.kitAny K (.ref D) ws = some b ∧ Q (.bl b) H
theorem call_isRT {X : Cx} : CallR X (.builtin "isinstance") (rIsRT X.K) := by
  intro pins s σ H xs us Q I r h
  obtain ⟨a, D, tp, cs, ws, b, rfl, ha, hD, hT, k, e, q⟩ := h
  obtain ⟨oe, J⟩ := inst_at I ha
  obtain ⟨u1, u2, rfl, r1, r2⟩ := vals2 r
  cases (show u1 = Value.ref a from r1)
  cases (show u2 = Value.ref tp from r2)
  obtain ⟨_, its, rv, o, h1, h2, n, h3⟩ := (show ObjOk X.prog X.w H s.heap tp (.tup cs) from I.hok tp _ hT)
  have e3 := ClsV.all k rv
  subst e3
  obtain ⟨oc, od, dt, sl⟩ := o
  simp only at h2 h3
  subst h2 h3
  exact PySem.W.kia_tup (PySem.W.handS_kitx_exc hD.hg hD.hk hD.hs hD.hd hD.ha hD.hn hD.ht hD.hm) I.kIn J h1 e (fun z => nomatch z) fun tk => ⟨.bl b, H, I.tok tk, rfl, q⟩
end excs
/-! ### _law_kinds: of which of the eight classes an exception is -/
structure KR8 (K : PySem.W.Frag) (mg : Str → Option Value) (cW cT n1 n2 n3 n4 n5 n6 : Addr) : Prop where
  gW : mg "WideError" = some (.ref cW)
  gT : mg "NoRow" = some (.ref cT)
  g1 : mg "NoName" = some (.ref n1)
  g2 : mg "NoPair" = some (.ref n2)
  g3 : mg "NoRule" = some (.ref n3)
  g4 : mg "NoText" = some (.ref n4)
  g5 : mg "Nothing" = some (.ref n5)
  g6 : mg "TooMany" = some (.ref n6)
  xT : ExcC K cT
  mT : PySem.W.exmOne K (.ref cT) (.ref cW) = some true
  t1 : PySem.W.kitOne K (.ref cT) (.ref n1) = some false
  t2 : PySem.W.kitOne K (.ref cT) (.ref n2) = some false
  t3 : PySem.W.kitOne K (.ref cT) (.ref n3) = some false
  t4 : PySem.W.kitOne K (.ref cT) (.ref n4) = some false
  t5 : PySem.W.kitOne K (.ref cT) (.ref n5) = some false
  t6 : PySem.W.kitOne K (.ref cT) (.ref n6) = some false
  vT : PySem.W.kitOne K (.ref cT) (.type "ValueError") = some true
  tt : PySem.W.kitOne K (.ref cT) (.ref cT) = some true
def k8R : List Bool := [false, false, true, false, false, false, false, true]
def spK8R (cT : Addr) : Sp := fun vs H Q _ => ∃ a : Addr, vs = [.ref a] ∧ H a = some (ExR (.ref cT) a) ∧ ∀ H' L, Same H H' → H' L = some (.lst (k8R.map V.bl)) → Q (.ref L) H'
theorem ok_k8R {f cW cT n1 n2 n3 n4 n5 n6 : Addr} {fd : FuncData} {k : Nat} (F : Fun K "_law_kinds" "_law_kinds" s_law_kinds f fd) (X : KR8 K mg cW cT n1 n2 n3 n4 n5 n6) (mi : mg "isinstance" = none) (mv : mg "ValueError" = none) : FnOk P w K mg base CX0 (k + 1) f fd ["caught"] (spK8R cT) := by
  refine F.ok sc_law_kinds (fun vs H Q E h => ?_) (fun cdv A outer s H vs Q E hr h => ?_)
  · obtain ⟨a, rfl, _⟩ := h
    rfl
  · obtain ⟨a, rfl, ea, q⟩ := h
    refine ⟨_, pss_cons (ps_set (i := 1) sc_law_kinds.nd rfl (.inl rfl) (pe_lst (pa_cons (pe_callB call_isR (by rfl) mi (by decide +kernel) (pa_cons (pv 0) (pa_cons (pe_glob (v := .ref n1) (by rfl) X.g1 rfl) pa_nil))) (pa_cons (pe_callB call_isR (by rfl) mi (by decide +kernel) (pa_cons (pv 0) (pa_cons (pe_glob (v := .ref n2) (by rfl) X.g2 rfl) pa_nil))) (pa_cons (pe_callB call_isR (by rfl) mi (by decide +kernel) (pa_cons (pv 0) (pa_cons (pe_glob (v := .ref cT) (by rfl) X.gT rfl) pa_nil))) pa_nil)))))
      (pss_cons (ps_set (i := 1) sc_law_kinds.nd rfl (.inl rfl) (pe_op op_cat (pv 1) (pe_lst (pa_cons (pe_callB call_isR (by rfl) mi (by decide +kernel) (pa_cons (pv 0) (pa_cons (pe_glob (v := .ref n3) (by rfl) X.g3 rfl) pa_nil))) (pa_cons (pe_callB call_isR (by rfl) mi (by decide +kernel) (pa_cons (pv 0) (pa_cons (pe_glob (v := .ref n4) (by rfl) X.g4 rfl) pa_nil))) (pa_cons (pe_callB call_isR (by rfl) mi (by decide +kernel) (pa_cons (pv 0) (pa_cons (pe_glob (v := .ref n5) (by rfl) X.g5 rfl) pa_nil))) pa_nil))))))
      (pss_one (ps_ret (pe_op op_cat (pv 1) (pe_lst (pa_cons (pe_callB call_isR (by rfl) mi (by decide +kernel) (pa_cons (pv 0) (pa_cons (pe_glob (v := .ref n6) (by rfl) X.g6 rfl) pa_nil))) (pa_cons (pe_callB call_isR (by rfl) mi (by decide +kernel) (pa_cons (pv 0) (pa_cons (pe_bltn (v := .ty "ValueError") (by rfl) mv (by decide +kernel) rfl) pa_nil))) pa_nil))))))), ?_⟩
    refine ⟨.ref a, rfl, a, cT, .ref n1, .ref n1, false, rfl, ea, X.xT, .own _, X.t1, .ref a, rfl, a, cT, .ref n2, .ref n2, false, rfl, ea, X.xT, .own _, X.t2, .ref a, rfl, a, cT, .ref cT, .ref cT, true, rfl, ea, X.xT, .own _, X.tt, (by show 3 ≤ sizeLine; decide), fun L1 h1 => ?_⟩
    have s1 := same_new (o := .lst [.bl false, .bl false, .bl true]) h1
    have ea1 := s1 _ _ ea
    refine ⟨.ref L1, rfl, .ref a, rfl, a, cT, .ref n3, .ref n3, false, rfl, ea1, X.xT, .own _, X.t3, .ref a, rfl, a, cT, .ref n4, .ref n4, false, rfl, ea1, X.xT, .own _, X.t4, .ref a, rfl, a, cT, .ref n5, .ref n5, false, rfl, ea1, X.xT, .own _, X.t5, (by show 3 ≤ sizeLine; decide), fun L2' h2 => ?_⟩
    have s2 := same_new (o := .lst [.bl false, .bl false, .bl false]) h2
    refine ⟨L1, L2', _, _, rfl, rfl, s2 _ _ upd_same, upd_same, (by show 6 ≤ sizeLine; decide), fun L3 h3 => ?_⟩
    have s3 := same_new (o := .lst ([.bl false, .bl false, .bl true] ++ [.bl false, .bl false, .bl false])) h3
    have ea3 := s3 _ _ (s2 _ _ ea1)
    refine ⟨.ref L3, rfl, .ref a, rfl, a, cT, .ref n6, .ref n6, false, rfl, ea3, X.xT, .own _, X.t6, .ref a, rfl, a, cT, .ty "ValueError", .type "ValueError", true, rfl, ea3, X.xT, .ty _, X.vT, (by show 2 ≤ sizeLine; decide), fun L4 h4 => ?_⟩
    have s4 := same_new (o := .lst [.bl false, .bl true]) h4
    refine ⟨L3, L4, _, _, rfl, rfl, s4 _ _ upd_same, upd_same, (by show 8 ≤ sizeLine; decide), fun L5 h5 => ?_⟩
    exact q _ L5 (s1.trans (s2.trans (s3.trans (s4.trans (same_new h5))))) upd_same
/-! ### _law_unlike, _law_turning, _law_meeting -/
theorem hu65_of' {k : Nat} {A : Around} (r : Room k A) : A.units + 65 < cLine := by have := r.un; omega
theorem ob_at1 {ds : List Deed} {o : Int} {c : List Int} {b : Int} (ok : RowOk (1 : Nat) ds o) (hc : c.length = ds.length) : atI ((bts ds c [b]).map V.int) o = some (.int (ob ds o c [b])) := by
  have bl := bts_len hc.symm (t := [b])
  have o0 := ok.o0
  have o1 := ok.o1
  exact atI_ints o0 (by rw [bl]; show o < ((1 + ds.length : Nat) : Int); omega)
def spUl : Sp := fun vs H Q _ => ∃ (R C : Addr) (o : Int) (ds : List Deed) (c : List Int), vs = [.ref R, .ref C] ∧ RowAt H R (1 : Nat) ds o ∧ RowOk (1 : Nat) ds o ∧ H C = some (.tup (c.map V.int)) ∧ CcOk ds c ∧
  ∀ H', Same H H' → Q (.bl (!decide (ob ds o c [0] = ob ds o c [1]))) H'
theorem ok_ul {f fS : Addr} {fd fdS : FuncData} {k : Nat} (F : Fun K "_law_unlike" "_law_unlike" s_law_unlike f fd)
    (GS : FnOk P w K mg base CX0 (k + 2) fS fdS ["row", "carry", "bits"] spLs) (kS : PySem.W.keepIn K (.ref fS) = true) (bS : Binds K fdS ["row", "carry", "bits"] []) (gS : mg "_law_step" = some (.ref fS)) : FnOk P w K mg base CX0 (k + 3) f fd ["row", "carry"] spUl := by
  refine F.ok sc_law_unlike (fun vs H Q E h => ?_) (fun cdv A outer s H vs Q E hr h => ?_)
  · obtain ⟨R, C, o, ds, c, rfl, _⟩ := h
    rfl
  · obtain ⟨R, C, o, ds, c, rfl, hrow, ok, eC, cc, q⟩ := h
    obtain ⟨D, rs, eR, eD, hd⟩ := id hrow
    have l8 := ok.len
    refine ⟨_, pss_one (ps_ret (pe_cmpR op_ne (pe_ix ix_tup (pe_ix ix_tup (pe_call GS hr (by rfl) gS kS bS .nil pass0 (pa_cons (pv 0) (pa_cons (pv 1) (pa_cons (pe_tup (pa_cons pe_int pa_nil)) pa_nil)))) pe_int (fun _ _ => rfl)) (pe_ix ix_tup (pv 0) pe_int (fun _ _ => rfl)) (fun _ _ => rfl)) (pe_ix ix_tup (pe_ix ix_tup (pe_call GS hr (by rfl) gS kS bS .nil pass0 (pa_cons (pv 0) (pa_cons (pv 1) (pa_cons (pe_tup (pa_cons pe_int pa_nil)) pa_nil)))) pe_int (fun _ _ => rfl)) (pe_ix ix_tup (pv 0) pe_int (fun _ _ => rfl)) (fun _ _ => rfl)) (nomark _))), ?_⟩
    have bb : ∀ b : Int, Bit b → ∀ x ∈ [b], Bit x := fun b hb x hx => by rw [List.mem_singleton.mp hx]; exact hb
    refine ⟨.ref R, rfl, .ref C, rfl, (by show 1 ≤ sizeLine; decide), fun U hU => ?_⟩
    have sU := same_new (o := .tup [.int 0]) hU
    refine ⟨R, C, U, (1 : Nat), o, ds, c, [0], rfl, (Same.tups sU).row hrow, ok.deeds, by omega, sU _ _ eC, cc.l, upd_same, rfl, (by show 1 ≤ 100; decide), cc.b, bb 0 bit0, fun H1 p1 a1 a2 s1 ep1 ea1 ea2 => ?_⟩
    have s01 := sU.trans s1
    refine ⟨p1, _, 0, .ref a1, rfl, rfl, SqT.of ep1, rfl, .ref R, rfl, R, _, 2, .int o, rfl, rfl, SqT.of (s01 _ _ eR), rfl, a1, _, o, _, rfl, rfl, SqT.of ea1, ob_at1 ok cc.l, ?_⟩
    refine ⟨.ref R, rfl, .ref C, rfl, (by show 1 ≤ sizeLine; decide), fun U2 hU2 => ?_⟩
    have sU2 := same_new (o := .tup [.int 1]) hU2
    have s02 := s01.trans sU2
    refine ⟨R, C, U2, (1 : Nat), o, ds, c, [1], rfl, (Same.tups s02).row hrow, ok.deeds, by omega, s02 _ _ eC, cc.l, upd_same, rfl, (by show 1 ≤ 100; decide), cc.b, bb 1 bit1, fun H2 p2 b1 b2 s2 ep2 eb1 eb2 => ?_⟩
    have s03 := s02.trans s2
    refine ⟨p2, _, 0, .ref b1, rfl, rfl, SqT.of ep2, rfl, .ref R, rfl, R, _, 2, .int o, rfl, rfl, SqT.of (s03 _ _ eR), rfl, b1, _, o, _, rfl, rfl, SqT.of eb1, ob_at1 ok cc.l, rfl, ?_⟩
    have e : decide (V.int (ob ds o c [0]) = V.int (ob ds o c [1])) = decide (ob ds o c [0] = ob ds o c [1]) := by
      by_cases z : ob ds o c [0] = ob ds o c [1]
      · rw [decide_eq_true z, decide_eq_true (congrArg V.int z)]
      · rw [decide_eq_false z, decide_eq_false fun y => z (V.int.inj y)]
    rw [e]
    exact q H2 s03
theorem two_bits {m : Int} (h : m = 0 ∨ m = 1) : [m] ∈ allB 1 := by
  rcases h with rfl | rfl <;> decide
/-- a closed list of carries is seen as such -/
def spTg : Sp := fun vs H Q _ => ∃ (R L : Addr) (o : Int) (ds : List Deed) (as : List Addr) (cs : List (List Int)), vs = [.ref R, .ref L] ∧ RowAt H R (1 : Nat) ds o ∧ RowOk (1 : Nat) ds o ∧ H L = some (.lst (as.map V.ref)) ∧ TAt H as cs ∧ (∀ c ∈ cs, CcOk ds c) ∧
  fCc ds ∈ cs ∧ (∀ c ∈ cs, ¬ ob ds o c [0] = ob ds o c [1]) ∧ (∀ c ∈ cs, ∀ bs ∈ allB 1, nc ds c bs ∈ cs) ∧ ∀ H', Same H H' → Q (.bl true) H'
set_option maxHeartbeats 1000000 in
theorem ok_tg {f fF fU fS : Addr} {fd fdF fdU fdS : FuncData} {k : Nat} (F : Fun K "_law_turning" "_law_turning" s_law_turning f fd)
    (GF : FnOk P w K mg base CX0 (k + 1) fF fdF ["row"] spFc) (kF : PySem.W.keepIn K (.ref fF) = true) (bF : Binds K fdF ["row"] []) (gF : mg "_law_first" = some (.ref fF))
    (GU : FnOk P w K mg base CX0 (k + 3) fU fdU ["row", "carry"] spUl) (kU : PySem.W.keepIn K (.ref fU) = true) (bU : Binds K fdU ["row", "carry"] []) (gU : mg "_law_unlike" = some (.ref fU))
    (GS : FnOk P w K mg base CX0 (k + 2) fS fdS ["row", "carry", "bits"] spLs) (kS : PySem.W.keepIn K (.ref fS) = true) (bS : Binds K fdS ["row", "carry", "bits"] []) (gS : mg "_law_step" = some (.ref fS)) : FnOk P w K mg base CX0 (k + 4) f fd ["row", "told"] spTg := by
  refine F.ok sc_law_turning (fun vs H Q E h => ?_) (fun cdv A outer s H vs Q E hr h => ?_)
  · obtain ⟨R, L, o, ds, as, cs, rfl, _⟩ := h
    rfl
  · obtain ⟨R, L, o, ds, as, cs, rfl, hrow, ok, eL, hcs, gd, hfst, hun, hcl, qq⟩ := h
    obtain ⟨D, rs, eR, eD, hd⟩ := id hrow
    have r1 := hr.mono (show k + 1 ≤ k + 3 by omega)
    have r2 := hr.mono (show k + 2 ≤ k + 3 by omega)
    have l8 := ok.len
    have hu65 := hu65_of' hr
    refine ⟨_, pss_cons (ps_if (pt_cmpR (op_notInD hu65) (pe_call GF r1 (by rfl) gF kF bF .nil pass0 (pa_cons (pv 0) pa_nil)) (pv 1) (by rfl)) (pss_one (ps_ret pe_bl)) pss_nil)
      (pss_cons (ps_for PassesOwn.never rfl (pi_list (pv 1)) (pg_name (i := 2) sc_law_turning.nd rfl (.inr rfl))
        (pss_cons (ps_if (pt_not (pt_val (pe_call GU hr (by rfl) gU kU bU .nil pass0 (pa_cons (pv 0) (pa_cons (pv 2) pa_nil))))) (pss_one (ps_ret pe_bl)) pss_nil)
        (pss_one (ps_if (pt_cmpR (op_inD hu65) pe_bl (pe_lc (own := [("bits", 3)]) (g := gName 3) (by rfl) sc_law_turning.nd (pi_list (pe_lst (pa_cons (pe_tup (pa_cons pe_int pa_nil)) (pa_cons (pe_tup (pa_cons pe_int pa_nil)) pa_nil)))) (blkOk_by (own := [("bits", 3)]) (N := N_law_turning) (sc := defScope s_law_turning) (by decide +kernel))
            (fun _ _ _ _ _ => pg_name (i := 3) sc_law_turning.nd rfl (Or.inl rfl)) (fun _ _ _ _ _ => pts_nil) (fun _ _ _ _ _ => pe_cmpR (r := rInD K) (op_inD hu65) (pe_ix (r := rIxT K) ix_tup (pe_call GS r2 (by rfl) gS kS bS .nil pass0 (pa_cons (pv 0) (pa_cons (pv 2) (pa_cons (pv 3) pa_nil)))) pe_int (fun _ _ => rfl)) (pv 1) (by rfl))) (by rfl)) (pss_one (ps_ret pe_bl)) pss_nil))))
      (pss_one (ps_ret pe_bl))), ?_⟩
    have memB : ∀ c, c ∈ cs → ((cs.map cD).any fun z => PyData.eqv z (cD c)) = true := fun c hc => by rw [any_cD, decide_eq_true hc]
    refine ⟨.ref R, rfl, R, (1 : Nat), o, ds, rfl, hrow, by omega, fun H2 F1 s02 nF1 eF1 => ?_⟩
    refine ⟨.ref L, rfl, cD (fCc ds), cs.map cD, dp_cD eF1, .lst (.inl (.inl (s02 _ _ eL))) (dp_cDs (tat_stay (Same.tups s02) hcs)), shaped_cD _, shaped_cDs _, _, rfl, ?_⟩
    rw [memB _ hfst]
    refine iteF ?_
    refine ⟨.ref L, rfl, L, rfl, ⟨_, .inl (.inl (s02 _ _ eL))⟩, for_list (K := K) (a := L) (xs := as.map V.ref) (fun i σ H3 => ∃ y2, σ = [some (.ref R), some (.ref L), y2, none] ∧ Same H H3) ⟨none, rfl, s02⟩ (fun i σ H3 _ hp => ?_) (fun i x σ H3 hx hp => ?_) (fun σ H3 hp => ?_)⟩
    · obtain ⟨_, _, s3⟩ := hp
      exact .inl (.inl (s3 _ _ eL))
    · obtain ⟨y2, rfl, s3⟩ := hp
      rw [List.getElem?_map] at hx
      obtain ⟨p, hp, rfl⟩ := Option.map_eq_some_iff.mp hx
      obtain ⟨c, hc, epc⟩ := awGet hcs hp
      have epc' : H p = some (.tup (c.map V.int)) := epc
      have hcm := List.mem_of_getElem? hc
      have cc := gd c hcm
      refine ⟨.ref R, rfl, .ref p, rfl, R, p, o, ds, c, rfl, (Same.tups s3).row hrow, ok, s3 _ _ epc', cc, fun H4 s4 => ⟨_, rfl, ?_⟩⟩
      rw [decide_eq_false (hun c hcm)]
      refine iteF ?_
      refine ⟨(by show 1 ≤ sizeLine; decide), fun u0 h0 => ?_⟩
      have s5 := same_new (o := .tup [.int 0]) h0
      refine ⟨(by show 1 ≤ sizeLine; decide), fun u1 h1 => ?_⟩
      have s6 := same_new (o := .tup [.int 1]) h1
      refine ⟨(by show 2 ≤ sizeLine; decide), fun Bl hBl => ?_⟩
      have s7 := same_new (o := .lst [.ref u0, .ref u1]) hBl
      have s57 := s5.trans (s6.trans s7)
      have eu0 := s7 _ _ (s6 u0 (.tup [.int 0]) upd_same)
      have eu1 := s7 u1 (.tup [.int 1]) upd_same
      have eBl : upd (upd (upd H4 u0 (.tup [.int 0])) u1 (.tup [.int 1])) Bl (.lst [.ref u0, .ref u1]) Bl = some (.lst [.ref u0, .ref u1]) := upd_same
      have s07 := s3.trans (s4.trans s57)
      obtain ⟨H7, hH7⟩ : ∃ H7, H7 = upd (upd (upd H4 u0 (.tup [.int 0])) u1 (.tup [.int 1])) Bl (.lst [.ref u0, .ref u1]) := ⟨_, rfl⟩
      rw [← hH7] at eu0 eu1 eBl s07 ⊢
      refine ⟨Bl, rfl, ⟨_, .inl (.inl eBl)⟩, fun C hC => ?_⟩
      refine lc_list (K := K) (a := Bl) (xs := [.ref u0, .ref u1]) (fun j H8 => H8 C = some (.lst ((List.replicate j true).map V.bl)) ∧ Same H7 H8) ⟨upd_same, same_new hC⟩ (fun j H8 _ hp => .inl (.inl (hp.2 _ _ eBl))) (fun j x H8 hx hp => ?_) (fun H8 hp => ?_)
      · obtain ⟨eC, s8⟩ := hp
        have hj : j < 2 := (List.getElem?_eq_some_iff.mp hx).1
        obtain ⟨b, bv, rfl, ebv, hbv⟩ : ∃ (b : Addr) (bv : Int), x = .ref b ∧ H7 b = some (.tup [.int bv]) ∧ (bv = 0 ∨ bv = 1) := by
          have hj2 : j = 0 ∨ j = 1 := by omega
          rcases hj2 with rfl | rfl
          · exact ⟨u0, 0, (Option.some.inj hx).symm, eu0, .inl rfl⟩
          · exact ⟨u1, 1, (Option.some.inj hx).symm, eu1, .inr rfl⟩
        have s08 := s07.trans s8
        refine ⟨rfl, .ref R, rfl, .ref p, rfl, .ref b, rfl, R, p, b, (1 : Nat), o, ds, c, [bv], rfl, (Same.tups s08).row hrow, ok.deeds, by omega, s08 _ _ epc', cc.l, s8 _ _ ebv, rfl, (by show 1 ≤ 100; decide), cc.b, (fun x hx => by rw [List.mem_singleton.mp hx]; exact hbv), fun H9 q9 a1 a2 s9 eq9 ea1 ea2 => ?_⟩
        have s09 := s08.trans s9
        refine ⟨q9, _, 1, .ref a2, rfl, rfl, SqT.of eq9, rfl, .ref L, rfl, cD (nc ds c [bv]), cs.map cD, dp_cD ea2, .lst (.inl (.inl (s09 _ _ eL))) (dp_cDs (tat_stay (Same.tups s09) hcs)), shaped_cD _, shaped_cDs _, ?_⟩
        rw [memB _ (hcl c hcm [bv] (two_bits hbv))]
        refine ⟨_, s9 _ _ eC, ?_, ?_, fun d u e => ?_⟩
        · rw [List.length_map, List.length_replicate]
          exact small1000 (by omega)
        · rw [upd_same, List.replicate_succ', List.map_append]
          rfl
        · rw [upd_ne (ne_of_none e hC)]
          exact s9 _ _ (s8 _ _ e)
      · obtain ⟨eC, s8⟩ := hp
        refine ⟨.bool false, _, .bl false, .lst (.inl (.inl eC)) (dp_bls _), (by rfl), shaped_bls _, _, rfl, ?_⟩
        rw [any_true']
        exact iteF ⟨_, rfl, s07.trans s8⟩
    · obtain ⟨_, rfl, s3⟩ := hp
      exact qq H3 s3
theorem tat_snoc {H : Hp} {fs : List Addr} {l : List (List Int)} {f : Addr} {c : List Int} (e : H f = some (.tup (c.map V.int))) (h : TAt H fs l) : TAt H (fs ++ [f]) (l ++ [c]) := awSnoc (F := fun (f : Addr) (b : List Int) => H f = some (.tup (b.map V.int))) e h
def spMt : Sp := fun vs H Q _ => ∃ (R : Addr) (o : Int) (ds : List Deed), vs = [.ref R] ∧ RowAt H R (1 : Nat) ds o ∧ RowOk (1 : Nat) ds o ∧
  ∀ H' (n : Nat), Same H H' → LeastWG 1 (nc ds) (gdC ds o) (fCc ds) n → Q (.int (n : Int)) H'
theorem eqv_nilL (l : List PyData) : PyData.eqv (.list l) (.list []) = l.isEmpty := by
  cases l <;> simp [PyData.eqv, PyData.eqvAll]
set_option maxHeartbeats 2000000 in
theorem ok_mt {f fF fB fN : Addr} {fd fdF fdB fdN : FuncData} {k : Nat} (F : Fun K "_law_meeting" "_law_meeting" s_law_meeting f fd)
    (GF : FnOk P w K mg base CX0 (k + 1) fF fdF ["row"] spFc) (kF : PySem.W.keepIn K (.ref fF) = true) (bF : Binds K fdF ["row"] []) (gF : mg "_law_first" = some (.ref fF))
    (GU : FnOk P w K mg base CX0 (k + 3) fB fdB ["row", "carry"] spUl) (kU : PySem.W.keepIn K (.ref fB) = true) (bU : Binds K fdB ["row", "carry"] []) (gU : mg "_law_unlike" = some (.ref fB))
    (GN : FnOk P w K mg base CX0 (k + 2) fN fdN ["row", "carry", "bits"] spLs) (kN : PySem.W.keepIn K (.ref fN) = true) (bN : Binds K fdN ["row", "carry", "bits"] []) (gN : mg "_law_step" = some (.ref fN)) (ml : mg "list" = none) : FnOk P w K mg base CX0 (k + 4) f fd ["row"] spMt := by
  refine F.ok sc_law_meeting (fun vs H Q E h => ?_) (fun cdv A outer s H vs Q E hr h => ?_)
  · obtain ⟨R, o, ds, rfl, _⟩ := h
    rfl
  · obtain ⟨R, o, ds, rfl, hrow, ok, qq⟩ := h
    obtain ⟨D1, rs1, eR, eD1, hd1⟩ := id hrow
    have r1 := hr.mono (show k + 1 ≤ k + 3 by omega)
    have r2 := hr.mono (show k + 2 ≤ k + 3 by omega)
    have l8 := ok.len
    have hu65 := hu65_of' hr
    refine ⟨_, pss_cons (ps_set (i := 1) sc_law_meeting.nd rfl (.inl rfl) (pe_lst (pa_cons (pe_call GF r1 (by rfl) gF kF bF .nil pass0 (pa_cons (pv 0) pa_nil)) pa_nil)))
      (pss_cons (ps_set (i := 2) sc_law_meeting.nd rfl (.inl rfl) (pe_callTy call_list_of (by rfl) ml (by decide +kernel) (pa_cons (pv 1) pa_nil)))
      (pss_cons (ps_set (i := 3) sc_law_meeting.nd rfl (.inl rfl) pe_int)
      (pss_cons (ps_while PassesOwn.never (pt_cmpR (op_neD hr.units) (pv 2) (pe_lst pa_nil) (nomark _))
        (pss_cons (ps_set (i := 4) sc_law_meeting.nd rfl (.inl rfl) (pe_lst pa_nil))
        (pss_cons (ps_for PassesOwn.never rfl (pi_list (pv 2)) (pg_name (i := 5) sc_law_meeting.nd rfl (.inl rfl))
          (pss_cons (ps_if (pt_not (pt_val (pe_call GU hr (by rfl) gU kU bU .nil pass0 (pa_cons (pv 0) (pa_cons (pv 5) pa_nil))))) (pss_one (ps_ret (pv 3))) pss_nil)
          (pss_one (ps_for PassesOwn.never rfl (pi_list (pe_lst (pa_cons (pe_tup (pa_cons pe_int pa_nil)) (pa_cons (pe_tup (pa_cons pe_int pa_nil)) pa_nil)))) (pg_name (i := 6) sc_law_meeting.nd rfl (.inl rfl))
            (pss_cons (ps_set (i := 7) sc_law_meeting.nd rfl (.inl rfl) (pe_ix ix_tup (pe_call GN r2 (by rfl) gN kN bN .nil pass0 (pa_cons (pv 0) (pa_cons (pv 5) (pa_cons (pv 6) pa_nil)))) pe_int (fun _ _ => rfl)))
            (pss_one (ps_if (pt_cmpR (op_notInD hu65) (pv 7) (pv 1) (by rfl))
              (pss_cons (ps_expr (pe_bm PySem.F.plainAttrs_list PySem.F.slot_list_append PySem.F.type_list_append mt_append (pv 1) (pa_cons (pv 7) pa_nil)))
              (pss_one (ps_expr (pe_bm PySem.F.plainAttrs_list PySem.F.slot_list_append PySem.F.type_list_append mt_append (pv 4) (pa_cons (pv 7) pa_nil))))) pss_nil)))))))
        (pss_cons (ps_set (i := 2) sc_law_meeting.nd rfl (.inl rfl) (pv 4))
        (pss_one (ps_set (i := 3) sc_law_meeting.nd rfl (.inl rfl) (pe_op op_add (pv 3) pe_int)))))))
      (pss_one (ps_ret pe_int))))), ?_⟩
    refine ⟨.ref R, rfl, R, (1 : Nat), o, ds, rfl, hrow, by omega, fun H1 Fi s01 nFi pFi => ?_⟩
    refine ⟨(by show 1 ≤ sizeLine; decide), fun Mt hMt => ?_⟩
    have sMt := same_new (o := .lst [.ref Fi]) hMt
    refine ⟨.ref Mt, rfl, Mt, _, rfl, .inl (.inl (.inl upd_same)), fun Ly hLy => ?_⟩
    have sLy := same_new (o := .lst [.ref Fi]) hLy
    have nML : Mt ≠ Ly := fun z => by rw [← z, upd_same] at hLy; cases hLy
    have s12 := sMt.trans sLy
    have pF2 := s12 _ _ pFi
    refine ⟨fun n σ H2 => ∃ (y5 y6 y7 y8 : Option V) (Ly : Addr) (as ls : List Addr) (met layer : List (List Int)) (t : Nat), σ = [some (.ref R), some (.ref Mt), some (.ref Ly), some (.int (((t + 1 : Nat)) : Int)), y5, y6, y7, y8] ∧ H2 Mt = some (.lst (as.map V.ref)) ∧ TAt H2 as met ∧ H2 Ly = some (.lst (ls.map V.ref)) ∧ TAt H2 ls layer ∧ LayG 1 (nc ds) (gdC ds o) (fCc ds) met layer t ∧ Mt ≠ Ly ∧ H1 Ly = none ∧ Same H1 H2 ∧ n = 2 * (257 - met.length) + (if layer = [] then 0 else 1),
      ⟨_, none, none, none, none, Ly, [Fi], [Fi], _, _, 0, rfl, sLy _ _ upd_same, .cons pF2 .nil, upd_same, .cons pF2 .nil, lay_firstG 1 (nc ds) (gdC ds o) (fCc ds), nML, sMt.free hLy, s12, rfl⟩, fun n σ H2 hp => ?_⟩
    obtain ⟨y5, y6, y7, y8, Ly, as, ls, met, layer, t, rfl, eMt, hmet, eLy, hlay, L, nML, fLy, s2, rfl⟩ := hp
    refine ⟨.ref Ly, rfl, (by show 0 ≤ sizeLine; decide), fun Z hZ => ?_⟩
    have sZ := same_new (o := .lst []) hZ
    refine ⟨.list (layer.map cD), .list [], .lst (.inl (.inl (sZ _ _ eLy))) (dp_cDs (tat_stay (Same.tups sZ) hlay)), .lst (.inl (.inl upd_same)) .nil, shaped_cDs _, (by rfl), _, rfl, ?_⟩
    rw [eqv_nilL]
    have eMtZ := sZ _ _ eMt
    have eLyZ := sZ _ _ eLy
    have hmetZ := tat_stay (Same.tups sZ) hmet
    have hlayZ := tat_stay (Same.tups sZ) hlay
    have s2Z := s2.trans sZ
    obtain ⟨H3, hH3⟩ : ∃ H3, H3 = upd H2 Z (.lst []) := ⟨_, rfl⟩
    rw [← hH3] at eMtZ eLyZ hmetZ hlayZ s2Z ⊢
    refine ite2 (fun e => ?_) (fun e => ?_)
    · have lne : layer ≠ [] := fun z => by
        rw [z] at e
        cases e
      refine ⟨fun σ' H' => ∃ m', m' < 2 * (257 - met.length) + (if layer = [] then 0 else 1) ∧ (∃ (y5 y6 y7 y8 : Option V) (Ly : Addr) (as ls : List Addr) (met layer : List (List Int)) (t : Nat), σ' = [some (.ref R), some (.ref Mt), some (.ref Ly), some (.int (((t + 1 : Nat)) : Int)), y5, y6, y7, y8] ∧ H' Mt = some (.lst (as.map V.ref)) ∧ TAt H' as met ∧ H' Ly = some (.lst (ls.map V.ref)) ∧ TAt H' ls layer ∧ LayG 1 (nc ds) (gdC ds o) (fCc ds) met layer t ∧ Mt ≠ Ly ∧ H1 Ly = none ∧ Same H1 H' ∧ m' = 2 * (257 - met.length) + (if layer = [] then 0 else 1)), fun σ' H' z => z, ?_⟩
      refine ⟨(by show 0 ≤ sizeLine; decide), fun La hLa => ?_⟩
      have sLa := same_new (o := .lst []) hLa
      have nMA : Mt ≠ La := ne_of_none eMtZ hLa
      have nLA : Ly ≠ La := ne_of_none eLyZ hLa
      have fLa : H1 La = none := s2Z.free hLa
      have fMt : H1 Mt = none := hMt
      obtain ⟨H4, hH4⟩ : ∃ H4, H4 = upd H3 La (.lst []) := ⟨_, rfl⟩
      have eLa4 : H4 La = some (.lst []) := by rw [hH4]; exact upd_same
      rw [← hH4] at sLa ⊢
      have s14 := s2Z.trans sLa
      have eLy4 := sLa _ _ eLyZ
      refine ⟨.ref Ly, rfl, Ly, rfl, ⟨_, .inl (.inl eLy4)⟩, for_list (K := K) (a := Ly) (xs := ls.map V.ref) (fun i σ H5 => ∃ (y6 y7 y8 : Option V) (as' la : List Addr) (met' later : List (List Int)), σ = [some (.ref R), some (.ref Mt), some (.ref Ly), some (.int (((t + 1 : Nat)) : Int)), some (.ref La), y6, y7, y8] ∧ H5 Mt = some (.lst (as'.map V.ref)) ∧ TAt H5 as' met' ∧ H5 La = some (.lst (la.map V.ref)) ∧ TAt H5 la later ∧ LayPG 1 (nc ds) (gdC ds o) (fCc ds) met layer t met' later i ∧ ∀ b u, b ≠ Mt → b ≠ La → H4 b = some u → H5 b = some u)
        ⟨y6, y7, y8, as, [], met, [], rfl, sLa _ _ eMtZ, tat_stay (Same.tups sLa) hmetZ, eLa4, .nil, layp_firstG L, fun _ _ _ _ z => z⟩ (fun i σ H5 _ hp => ?_) (fun i x σ H5 hx hp => ?_) (fun σ H5 hp => ?_)⟩
      · obtain ⟨_, _, _, _, _, _, _, _, _, _, _, _, _, st⟩ := hp
        exact .inl (.inl (st _ _ nML.symm nLA eLy4))
      · obtain ⟨y6, y7, y8, as', la, met', later, rfl, eMt5, hmet5, eLa5, hla5, LP, st⟩ := hp
        rw [List.getElem?_map] at hx
        obtain ⟨p, hp, rfl⟩ := Option.map_eq_some_iff.mp hx
        obtain ⟨q, hq, hpq0⟩ := awGet hlayZ hp
        have ts45 : TupsStay H4 H5 := fun b xs e => st b _ (ne_of e (sLa _ _ eMtZ) (fun z => nomatch z)) (ne_of e eLa4 (fun z => nomatch z)) e
        have hpq : H5 p = some (.tup (q.map V.int)) := ((Same.tups sLa).trans ts45) _ _ hpq0
        have hqm := L.lay q (List.mem_of_getElem? hq)
        have pq := rtC_ok hqm.2
        have k15 : Same H1 H5 := fun b u e => st b u (ne_of_none e fMt) (ne_of_none e fLa) (s14 _ _ e)
        have s05 := s01.trans k15
        have hpq' : H5 p = some (.tup (q.map V.int)) := hpq
        refine ⟨.ref R, rfl, .ref p, rfl, R, p, o, ds, q, rfl, (Same.tups s05).row hrow, ok, hpq', pq, fun H5b s5b => ⟨_, rfl, ?_⟩⟩
        by_cases hgq : ob ds o q [0] = ob ds o q [1]
        · rw [decide_eq_true hgq]
          exact iteT ⟨.int (((t + 1 : Nat)) : Int), rfl, qq H5b (t + 1) (s05.trans s5b) (layp_partG LP (List.mem_of_getElem? hq) (bs := [0]) (by decide) (fun z => z hgq))⟩
        rw [decide_eq_false hgq]
        refine iteF ?_
        refine ⟨(by show 1 ≤ sizeLine; decide), fun u0 h0 => ?_⟩
        have v5 := same_new (o := .tup [.int 0]) h0
        refine ⟨(by show 1 ≤ sizeLine; decide), fun u1 h1 => ?_⟩
        have v6 := same_new (o := .tup [.int 1]) h1
        refine ⟨(by show 2 ≤ sizeLine; decide), fun Bl hBl => ?_⟩
        have v7 := same_new (o := .lst [.ref u0, .ref u1]) hBl
        have s6 := s5b.trans (v5.trans (v6.trans v7))
        have nB : H5 Bl = none := (s5b.trans (v5.trans v6)).free hBl
        have eu0 := v7 _ _ (v6 u0 (.tup [.int 0]) upd_same)
        have eu1 := v7 u1 (.tup [.int 1]) upd_same
        have eB : upd (upd (upd H5b u0 (.tup [.int 0])) u1 (.tup [.int 1])) Bl (.lst [.ref u0, .ref u1]) Bl = some (.lst ([u0, u1].map V.ref)) := upd_same
        obtain ⟨H6, hH6⟩ : ∃ H6, H6 = upd (upd (upd H5b u0 (.tup [.int 0])) u1 (.tup [.int 1])) Bl (.lst [.ref u0, .ref u1]) := ⟨_, rfl⟩
        rw [← hH6] at eu0 eu1 eB s6 ⊢
        have hfs : TAt H6 [u0, u1] (allB 1) := .cons eu0 (.cons eu1 .nil)
        obtain ⟨fs, hfs0⟩ : ∃ fs, fs = [u0, u1] := ⟨_, rfl⟩
        rw [← hfs0] at hfs eB
        have s16 := k15.trans s6
        have s06 := s01.trans s16
        have nBM : Bl ≠ Mt := fun z => by rw [z, eMt5] at nB; cases nB
        have nBA : Bl ≠ La := fun z => by rw [z, eLa5] at nB; cases nB
        have st6 : ∀ b u, b ≠ Mt → b ≠ La → H4 b = some u → H6 b = some u := fun b u n1 n2 e => s6 _ _ (st b u n1 n2 e)
        refine ⟨Bl, rfl, ⟨_, .inl (.inl eB)⟩, for_list (K := K) (a := Bl) (xs := fs.map V.ref) (fun j σ H7 => ∃ (y7 y8 : Option V) (as' la : List Addr) (met' later : List (List Int)), σ = [some (.ref R), some (.ref Mt), some (.ref Ly), some (.int (((t + 1 : Nat)) : Int)), some (.ref La), some (.ref p), y7, y8] ∧ H7 Mt = some (.lst (as'.map V.ref)) ∧ TAt H7 as' met' ∧ H7 La = some (.lst (la.map V.ref)) ∧ TAt H7 la later ∧ LayBG 1 (nc ds) (gdC ds o) (fCc ds) met layer t met' later i j q ∧ ∀ b u, b ≠ Mt → b ≠ La → H6 b = some u → H7 b = some u)
          ⟨y7, y8, as', la, met', later, rfl, s6 _ _ eMt5, tat_stay (Same.tups s6) hmet5, s6 _ _ eLa5, tat_stay (Same.tups s6) hla5, layb_firstG LP hq, fun _ _ _ _ z => z⟩ (fun j σ H7 _ hp => ?_) (fun j x σ H7 hx hp => ?_) (fun σ H7 hp => ?_)⟩
        · obtain ⟨_, _, _, _, _, _, _, _, _, _, _, _, st⟩ := hp
          exact .inl (.inl (st _ _ nBM nBA eB))
        · obtain ⟨y7, y8, as', la, met', later, rfl, eMt7, hmet7, eLa7, hla7, LB, st7⟩ := hp
          rw [List.getElem?_map] at hx
          obtain ⟨b, hb, rfl⟩ := Option.map_eq_some_iff.mp hx
          obtain ⟨bs, hbs, eb⟩ := awGet hfs hb
          have hbm := List.mem_of_getElem? hbs
          have ts67 : TupsStay H6 H7 := fun b xs e => st7 b _ (ne_of e (s6 _ _ eMt5) (fun z => nomatch z)) (ne_of e (s6 _ _ eLa5) (fun z => nomatch z)) e
          have s17 : Same H1 H7 := fun b u e => st7 b u (ne_of_none e fMt) (ne_of_none e fLa) (s16 _ _ e)
          have s07 := s01.trans s17
          obtain ⟨bl1, bb1⟩ := allB_ok 1 bs hbm
          refine ⟨.ref R, rfl, .ref p, rfl, .ref b, rfl, R, p, b, (1 : Nat), o, ds, q, bs, rfl, (Same.tups s07).row hrow, ok.deeds, by omega, ts67 _ _ ((Same.tups s6) _ _ hpq), pq.l, ts67 _ _ eb, by rw [bl1], by omega, pq.b, bb1, fun H8 p8 a1 y s8 ep8 ea1 py => ?_⟩
          have s08 := s07.trans s8
          have eMt8 := s8 _ _ eMt7
          have eLa8 := s8 _ _ eLa7
          have hmet8 := tat_stay (Same.tups s8) hmet7
          have hla8 := tat_stay (Same.tups s8) hla7
          have st8 : ∀ b u, b ≠ Mt → b ≠ La → H6 b = some u → H8 b = some u := fun b u n1 n2 e => s8 _ _ (st7 b u n1 n2 e)
          refine ⟨p8, _, 1, .ref y, rfl, rfl, SqT.of ep8, rfl, ?_⟩
          · have hob : gdC ds o q bs := hgq
            refine ⟨.ref y, rfl, .ref Mt, rfl, cD (nc ds q bs), met'.map cD, dp_cD py, .lst (.inl (.inl eMt8)) (dp_cDs hmet8), shaped_cD _, shaped_cDs _, _, rfl, ?_⟩
            rw [any_cD]
            by_cases hin : nc ds q bs ∈ met'
            · rw [decide_eq_true hin]
              exact iteF ⟨_, _, as', la, met', later, rfl, eMt8, hmet8, eLa8, hla8, layb_oldG LB hbs hob hin, st8⟩
            · rw [decide_eq_false hin]
              have LBn := layb_newG LB hbs hob hin
              have few := few_cc LBn.p.nd (fun q hq => (LBn.p.ok q hq).elim fun _ z => rtC_ok z) l8
              have ml := awLen hmet8
              have ll := awLen hla8
              have len2 := LBn.p.len
              rw [List.length_append, List.length_append] at len2
              rw [List.length_append] at few
              simp only [List.length_cons, List.length_nil] at few len2
              have nMA' := nMA
              refine iteT ⟨.ref Mt, rfl, .inl ⟨rfl, _, .inl (.inl eMt8)⟩, .ref y, rfl, Mt, _, _, rfl, rfl, eMt8, ?_, ?_⟩
              · rw [List.length_map, sizeLine_eq]
                omega
              have tM := tups_put (o := .lst (as'.map V.ref ++ [V.ref y])) eMt8
              have eLa9 : upd H8 Mt (.lst (as'.map V.ref ++ [V.ref y])) La = some (.lst (la.map V.ref)) := by
                rw [upd_ne nMA.symm]
                exact eLa8
              have tA := tups_put (o := .lst (la.map V.ref ++ [V.ref y])) eLa9
              have tMA := tM.trans tA
              refine ⟨.ref La, rfl, .inl ⟨rfl, _, .inl (.inl eLa9)⟩, .ref y, rfl, La, _, _, rfl, rfl, eLa9, ?_, _, _, as' ++ [y], la ++ [y], _, _, rfl, ?_, ?_, ?_, ?_, LBn, fun b u n1 n2 e => ?_⟩
              · rw [List.length_map, sizeLine_eq]
                omega
              · rw [upd_ne nMA, upd_same, List.map_append]
                rfl
              · exact tat_snoc (tMA _ _ py) (tat_stay tMA hmet8)
              · rw [upd_same, List.map_append]
                rfl
              · exact tat_snoc (tMA _ _ py) (tat_stay tMA hla8)
              · rw [upd_ne n2, upd_ne n1]
                exact st8 b u n1 n2 e
        · obtain ⟨y7, y8, as', la, met', later, rfl, eMt7, hmet7, eLa7, hla7, LB, st7⟩ := hp
          have fl := awLen hfs
          rw [List.length_map, fl] at LB
          exact ⟨_, _, _, as', la, met', later, rfl, eMt7, hmet7, eLa7, hla7, layb_doneG LB, fun b u n1 n2 e => st7 b u n1 n2 (st6 b u n1 n2 e)⟩
      · obtain ⟨y6, y7, y8, as', la, met', later, rfl, eMt5, hmet5, eLa5, hla5, LP, st⟩ := hp
        have ll := awLen hlay
        rw [List.length_map, ll] at LP
        have LD := layp_doneG LP
        have few := few_cc LP.nd (fun q hq => (LP.ok q hq).elim fun _ z => rtC_ok z) l8
        have len := LP.len
        refine ⟨.ref La, rfl, .int (((t + 1 : Nat)) : Int), rfl, _, 1, rfl, rfl, 2 * (257 - met'.length) + (if later = [] then 0 else 1), ?_, _, _, _, _, La, as', la, met', later, t + 1, rfl, eMt5, hmet5, eLa5, hla5, LD, nMA, fLa, fun b u e => st b u (ne_of_none e fMt) (ne_of_none e fLa) (s14 _ _ e), rfl⟩
        rw [if_neg lne]
        by_cases hl : later = []
        · rw [if_pos hl]
          have : later.length = 0 := by rw [hl]; rfl
          omega
        · rw [if_neg hl]
          have : 0 < later.length := List.length_pos_iff.mpr hl
          omega
    · have le : layer = [] := by
        cases layer with
        | nil => rfl
        | cons a b => exact absurd rfl e
      rw [le] at L
      exact qq H3 0 (s01.trans s2Z) (lay_endG L)
/-! ### k36: _law_right, refusals, the law -/
def FoundC (H : Hp) (T : Addr) (ds : List Deed) (o : Int) : Prop :=
  (∃ M as cs, H T = some (.tup [.str "turned", .ref M]) ∧ H M = some (.lst (as.map V.ref)) ∧ TAt H as cs ∧ (∀ c ∈ cs, CcOk ds c) ∧ cs.length ≤ 256 ∧ fCc ds ∈ cs ∧ (∀ c ∈ cs, ¬ ob ds o c [0] = ob ds o c [1]) ∧ (∀ c ∈ cs, ∀ bs ∈ allB 1, nc ds c bs ∈ cs) ∧ LeastWG 1 (nc ds) (gdC ds o) (fCc ds) 0) ∨
  (∃ (x y : Int) (n : Nat), H T = some (.tup [.str "meet", .int (n : Int), .int x, .int y]) ∧ 0 ≤ x ∧ x < y ∧ y < 2 ^ n ∧ 1 ≤ n ∧ n ≤ 1000 ∧ LeastWG 1 (nc ds) (gdC ds o) (fCc ds) n ∧ (vals (2 ^ n) ds [x]).getD o.toNat 0 = (vals (2 ^ n) ds [y]).getD o.toNat 0)
def spRt : Sp := fun vs H Q _ => ∃ (R T : Addr) (o : Int) (ds : List Deed), vs = [.ref R, .ref T] ∧ RowAt H R (1 : Nat) ds o ∧ RowOk (1 : Nat) ds o ∧ FoundC H T ds o ∧ ∀ H', Same H H' → Q (.bl true) H'
theorem vals_at1 {n : Nat} {ds : List Deed} {o x : Int} (ok : RowOk (1 : Nat) ds o) : atI ((vals (2 ^ n) ds [x]).map V.int) o = some (.int ((vals (2 ^ n) ds [x]).getD o.toNat 0)) := by
  have o0 := ok.o0
  have o1 := ok.o1
  exact atI_ints o0 (by rw [vals_len]; show o < ((1 + ds.length : Nat) : Int); omega)
set_option maxHeartbeats 2000000 in
theorem ok_rt {f fW fI fC fV : Addr} {fd fdW fdI fdC fdV : FuncData} {k : Nat} (F : Fun K "_law_right" "_law_right" s_law_right f fd)
    (GW : FnOk P w K mg base CX0 (k + 4) fW fdW ["row"] spMt) (kW : PySem.W.keepIn K (.ref fW) = true) (bW : Binds K fdW ["row"] []) (gW : mg "_law_meeting" = some (.ref fW))
    (GI : FnOk P w K mg base CX0 (k + 1) fI fdI ["row", "thing"] spIc) (kI : PySem.W.keepIn K (.ref fI) = true) (bI : Binds K fdI ["row", "thing"] []) (gI : mg "_law_is_carry" = some (.ref fI))
    (GC : FnOk P w K mg base CX0 (k + 4) fC fdC ["row", "told"] spTg) (kC : PySem.W.keepIn K (.ref fC) = true) (bC : Binds K fdC ["row", "told"] []) (gC : mg "_law_turning" = some (.ref fC))
    (GV : FnOk P w K mg base CX0 (k + 2) fV fdV ["row", "width", "words"] (spLvs K)) (kV : PySem.W.keepIn K (.ref fV) = true) (bV : Binds K fdV ["row", "width", "words"] []) (gV : mg "_law_values" = some (.ref fV))
    (mi : mg "isinstance" = none) (mt : mg "tuple" = none) (ml : mg "list" = none) (mn : mg "len" = none) (mI : mg "int" = none) (mB : mg "bool" = none) (mp : mg "repr" = none) : FnG P w K mg base (k + 5) f fd ["row", "found"] spRt := by
  refine fun_okG F sc_law_right (fun vs H Q E h => ?_) (fun cdv A outer s H vs Q E hr hg h => ?_)
  · obtain ⟨R, T, o, ds, rfl, _⟩ := h
    rfl
  · obtain ⟨R, T, o, ds, rfl, hrow, ok, hf, q⟩ := h
    obtain ⟨D, rs, eR, eD, hd⟩ := id hrow
    have l8 := ok.len
    have r1 := hr.mono (show k + 1 ≤ k + 4 by omega)
    have r2 := hr.mono (show k + 2 ≤ k + 4 by omega)
    have hu65 := hu65_of' hr
    refine ⟨_, pss_cons (ps_set (i := 2) sc_law_right.nd rfl (.inl rfl) (pe_call GW hr (by rfl) gW kW bW .nil pass0 (pa_cons (pv 0) pa_nil)))
      (pss_cons (ps_if (PW.pt (pw_or (pt_not (pt_val (pe_callB call_isi (by rfl) mi (by decide +kernel) (pa_cons (pv 1) (pa_cons (pe_bltn (v := .ty "tuple") (by rfl) mt (by decide +kernel) rfl) pa_nil)))))
          (pw_or1 (pt_cmpR op_ne (pe_ix ix_tup (pv 1) pe_int (fun _ _ => rfl)) (pe_ix ix_list (pe_lst (pa_cons pe_str (pa_cons pe_str pa_nil))) (pe_callTy call_int1 (by rfl) mI (by decide +kernel) (pa_cons (pe_cmpR op_gt (pv 2) pe_int (nomark _)) pa_nil)) (fun _ _ => rfl)) (nomark _))))) (pss_one (ps_ret pe_bl)) pss_nil)
      (pss_cons (ps_if (pt_cmpR op_eq (pv 2) pe_int (nomark _))
        (pss_cons (ps_if (PW.pt (pw_or (pt_cmpR op_ne (pe_callB call_len_seq (by rfl) mn PySem.boot_len (pa_cons (pv 1) pa_nil)) pe_int (nomark _))
            (pw_or (pt_not (pt_val (pe_callB call_isi (by rfl) mi (by decide +kernel) (pa_cons (pe_ix ix_tup (pv 1) pe_int (fun _ _ => rfl)) (pa_cons (pe_bltn (v := .ty "list") (by rfl) ml (by decide +kernel) rfl) pa_nil)))))
            (pw_or1 (pt_cmpR op_in_sign pe_str (pe_callB (call_repr hg hr.units) (by rfl) mp (by decide +kernel) (pa_cons (pe_ix ix_tup (pv 1) pe_int (fun _ _ => rfl)) pa_nil)) (by rfl)))))) (pss_one (ps_ret pe_bl)) pss_nil)
        (pss_one (ps_ret (pe_and (pe_cmpR (op_notInD hu65) pe_bl (pe_lc (own := [("one", 3)]) (g := gName 3) (by rfl) sc_law_right.nd (pi_list (pe_ix ix_tup (pv 1) pe_int (fun _ _ => rfl))) (blkOk_by (own := [("one", 3)]) (N := N_law_right) (sc := defScope s_law_right) (by decide +kernel)) (fun _ _ _ _ _ => pg_name (i := 3) sc_law_right.nd rfl (Or.inl rfl)) (fun _ _ _ _ _ => pts_nil) (fun _ _ _ _ _ => pe_call GI r1 (by rfl) gI kI bI .nil pass0 (pa_cons (pv 0) (pa_cons (pv 3) pa_nil)))) (by rfl)) (pe_one (pe_call GC hr (by rfl) gC kC bC .nil pass0 (pa_cons (pv 0) (pa_cons (pe_ix ix_tup (pv 1) pe_int (fun _ _ => rfl)) pa_nil)))))))) pss_nil)
      (pss_cons (ps_if (PW.pt (pw_or (pt_cmpR op_ne (pe_callB call_len_seq (by rfl) mn PySem.boot_len (pa_cons (pv 1) pa_nil)) pe_int (nomark _))
          (pw_or1 (pt_cmpR op_ne (pe_callB (call_repr hg hr.units) (by rfl) mp (by decide +kernel) (pa_cons (pe_ix ix_tup (pv 1) pe_int (fun _ _ => rfl)) pa_nil)) (pe_callB (call_repr hg hr.units) (by rfl) mp (by decide +kernel) (pa_cons (pv 2) pa_nil)) (nomark _))))) (pss_one (ps_ret pe_bl)) pss_nil)
      (pss_cons (ps_if (pt_cmpR (op_inD hu65) pe_bl (pe_lc (own := [("word", 4)]) (g := gName 4) (by rfl) sc_law_right.nd (pi_tup (pe_slice sl_tupZ (pv 1) (po_some pe_int) po_none)) (blkOk_by (own := [("word", 4)]) (N := N_law_right) (sc := defScope s_law_right) (by decide +kernel)) (fun _ _ _ _ _ => pg_name (i := 4) sc_law_right.nd rfl (Or.inl rfl)) (fun _ _ _ _ _ => pts_nil)
          (fun _ _ _ _ _ => pe_and (pe_callB (r := rIsi K) call_isi (by rfl) mi (by decide +kernel) (pa_cons (pv 4) (pa_cons (pe_bltn (v := .ty "int") (by rfl) mI (by decide +kernel) rfl) pa_nil))) (pe_one (pe_not (pe_callB (r := rIsi K) call_isi (by rfl) mi (by decide +kernel) (pa_cons (pv 4) (pa_cons (pe_bltn (v := .ty "bool") (by rfl) mB (by decide +kernel) rfl) pa_nil))))))) (by rfl)) (pss_one (ps_ret pe_bl)) pss_nil)
      (pss_cons (ps_if (pt_not (pt_chain3 op_le op_lt op_lt pe_int (pe_ix ix_tup (pv 1) pe_int (fun _ _ => rfl)) (pe_ix ix_tup (pv 1) pe_int (fun _ _ => rfl)) (pe_op op_shlW pe_int (pv 2)))) (pss_one (ps_ret pe_bl)) pss_nil)
      (pss_one (ps_ret (pe_cmpR op_eq (pe_ix ix_list (pe_call GV r2 (by rfl) gV kV bV .nil pass0 (pa_cons (pv 0) (pa_cons (pv 2) (pa_cons (pe_lst (pa_cons (pe_ix ix_tup (pv 1) pe_int (fun _ _ => rfl)) pa_nil)) pa_nil)))) (pe_ix ix_tup (pv 0) pe_int (fun _ _ => rfl)) (fun _ _ => rfl)) (pe_ix ix_list (pe_call GV r2 (by rfl) gV kV bV .nil pass0 (pa_cons (pv 0) (pa_cons (pv 2) (pa_cons (pe_lst (pa_cons (pe_ix ix_tup (pv 1) pe_int (fun _ _ => rfl)) pa_nil)) pa_nil)))) (pe_ix ix_tup (pv 0) pe_int (fun _ _ => rfl)) (fun _ _ => rfl)) (nomark _))))))))), ?_⟩
    refine ⟨.ref R, rfl, R, o, ds, rfl, hrow, ok, fun H1 n s1 hn => ?_⟩
    rcases hf with ⟨M, as, cs, eT, eM, hcs, gd, few, hfst, hun, hcl, hlw⟩ | ⟨x, y, n2, eT, x0, xy, y1, n1, n1000, hlw, heq⟩
    · obtain rfl := least_uniqG hlw hn
      have eT1 := s1 _ _ eT
      have eM1 := s1 _ _ eM
      refine ⟨.ref T, rfl, .ref T, .ty "tuple", .type "tuple", .type "tuple", true, rfl, .ty "tuple", .base (.tup eT1), kit_ty (by decide +kernel), true, rfl, iteF ?_⟩
      refine ⟨.ref T, rfl, T, _, 0, .str "turned", rfl, rfl, SqT.of eT1, rfl, (by show 2 ≤ sizeLine; decide), fun Y hY => ?_⟩
      have sY := same_new (o := .lst [.str "turned", .str "meet"]) hY
      refine ⟨.int (0 : Nat), rfl, _, 0, rfl, rfl, .inr ⟨false, rfl, ?_⟩⟩
      refine ⟨Y, _, 0, .str "turned", rfl, rfl, .inl (.inl upd_same), rfl, rfl, _, rfl, iteF ?_⟩
      have s2 := s1.trans sY
      have eT2 := sY _ _ eT1
      have eM2 := sY _ _ eM1
      have hcs2 := tat_stay (Same.tups s2) hcs
      obtain ⟨H2, hH2⟩ : ∃ H2, H2 = upd H1 Y (.lst [.str "turned", .str "meet"]) := ⟨_, rfl⟩
      rw [← hH2] at s2 eT2 eM2 hcs2 ⊢
      refine ⟨.int (0 : Nat), rfl, rfl, _, rfl, iteT ?_⟩
      refine ⟨.ref T, rfl, T, _, rfl, .inr (SqT.of eT2), rfl, _, rfl, iteF ?_⟩
      refine ⟨.ref T, rfl, T, _, 1, .ref M, rfl, rfl, SqT.of eT2, rfl, .ref M, .ty "list", .type "list", .type "list", true, rfl, .ty "list", .base (.lst eM2), kit_ty (by decide +kernel), true, rfl, iteF ?_⟩
      obtain ⟨f1, f2, f3⟩ := cDs_fit (cs := cs) (fun c hc => ⟨(gd c hc).b, by rw [(gd c hc).l]; exact l8⟩) few
      refine ⟨.ref T, rfl, T, _, 1, .ref M, rfl, rfl, SqT.of eT2, rfl, .ref M, .list (cs.map cD), rfl, .inr ⟨.lst (.inl (.inl eM2)) (dp_cDs hcs2), cDs_nd cs⟩, f1, f2, f3, 101, _, rfl, rfl, _, rfl, ?_⟩
      rw [decide_eq_false (show ¬ 101 ∈ (PyData.shown (.list (cs.map cD))).cps.toList from noE_cDs fun c hc => (gd c hc).b)]
      refine iteF ?_
      refine ⟨.ref T, rfl, T, _, 1, .ref M, rfl, rfl, SqT.of eT2, rfl, M, rfl, ⟨_, .inl (.inl eM2)⟩, fun C hC => ?_⟩
      have al := awLen hcs2
      refine lc_list (K := K) (a := M) (xs := as.map V.ref) (fun j H3 => H3 C = some (.lst ((List.replicate j true).map V.bl)) ∧ Same H2 H3) ⟨upd_same, same_new hC⟩ (fun j H3 _ hp => .inl (.inl (hp.2 _ _ eM2))) (fun j x H3 hx hp => ?_) (fun H3 hp => ?_)
      · obtain ⟨eC, s3⟩ := hp
        have hj := (List.getElem?_eq_some_iff.mp hx).1
        rw [List.length_map] at hj
        rw [List.getElem?_map] at hx
        obtain ⟨p, hp, rfl⟩ := Option.map_eq_some_iff.mp hx
        obtain ⟨c, hc, epc⟩ := awGet hcs2 hp
        have epc' : H2 p = some (.tup (c.map V.int)) := epc
        have cc := gd c (List.mem_of_getElem? hc)
        have s03 := s2.trans s3
        refine ⟨rfl, .ref R, rfl, .ref p, rfl, R, p, (1 : Nat), o, ds, c, rfl, (Same.tups s03).row hrow, by omega, s3 _ _ epc', cc.l, cc.b, fun H4 s4 => ?_⟩
        refine ⟨_, s4 _ _ eC, ?_, ?_, fun d u e => ?_⟩
        · rw [List.length_map, List.length_replicate]
          exact small1000 (by omega)
        · rw [upd_same, List.replicate_succ', List.map_append]
          rfl
        · rw [upd_ne (ne_of_none e hC)]
          exact s4 _ _ (s3 _ _ e)
      · obtain ⟨eC, s3⟩ := hp
        have s03 := s2.trans s3
        refine ⟨.bool false, _, .bl false, .lst (.inl (.inl eC)) (dp_bls _), (by rfl), shaped_bls _, true, ?_, iteT ?_⟩
        · rw [any_true']
          rfl
        exact ⟨.ref R, rfl, .ref T, rfl, T, _, 1, .ref M, rfl, rfl, SqT.of (s3 _ _ eT2), rfl, R, M, o, ds, as, cs, rfl, (Same.tups s03).row hrow, ok, s3 _ _ eM2, tat_stay (Same.tups s3) hcs2, gd, hfst, hun, hcl, fun H4 s4 => q H4 (s03.trans s4)⟩
    · obtain rfl := least_uniqG hlw hn
      have eT1 := s1 _ _ eT
      refine ⟨.ref T, rfl, .ref T, .ty "tuple", .type "tuple", .type "tuple", true, rfl, .ty "tuple", .base (.tup eT1), kit_ty (by decide +kernel), true, rfl, iteF ?_⟩
      refine ⟨.ref T, rfl, T, _, 0, .str "meet", rfl, rfl, SqT.of eT1, rfl, (by show 2 ≤ sizeLine; decide), fun Y hY => ?_⟩
      have sY := same_new (o := .lst [.str "turned", .str "meet"]) hY
      have hgt : decide ((n2 : Int) > 0) = true := decide_eq_true (by omega)
      refine ⟨.int (n2 : Int), rfl, _, 0, rfl, rfl, .inr ⟨true, congrArg (fun b => [V.bl b]) hgt, ?_⟩⟩
      refine ⟨Y, _, 1, .str "meet", rfl, rfl, .inl (.inl upd_same), rfl, rfl, _, rfl, iteF ?_⟩
      have s2 := s1.trans sY
      have eT2 := sY _ _ eT1
      obtain ⟨H2, hH2⟩ : ∃ H2, H2 = upd H1 Y (.lst [.str "turned", .str "meet"]) := ⟨_, rfl⟩
      rw [← hH2] at s2 eT2 ⊢
      refine ⟨.int (n2 : Int), rfl, rfl, _, rfl, ite2 (fun e => ?_) (fun _ => ?_)⟩
      · have := intEq e
        omega
      refine ⟨.ref T, rfl, T, _, rfl, .inr (SqT.of eT2), rfl, _, rfl, iteF ?_⟩
      have nn : Nice 0 0 (.int (n2 : Int)) := nice_int (by omega)
      refine ⟨.ref T, rfl, T, _, 1, .int (n2 : Int), rfl, rfl, SqT.of eT2, rfl, .int (n2 : Int), .int (n2 : Int), rfl, .inl (Rz.int _ _), nn.sh, by have := nn.dp; omega, nn.fits (by decide), .int (n2 : Int), rfl, .int (n2 : Int), .int (n2 : Int), rfl, .inl (Rz.int _ _), nn.sh, by have := nn.dp; omega, nn.fits (by decide), rfl, _, rfl, ite2 (fun e => ?_) (fun _ => ?_)⟩
      · simp at e
      refine ⟨.ref T, rfl, 2, rfl, T, _, rfl, eT2, fun Sl H3 s3 eSl => ?_⟩
      have ecut : cutV [V.str "meet", .int (n2 : Int), .int x, .int y] (some 2) none = [.int x, .int y] := cut_drop _ 2
      rw [ecut] at eSl
      refine ⟨Sl, rfl, ⟨_, SqT.of eSl⟩, fun C hC => ?_⟩
      have s23 := s2.trans s3
      have eT3 := s3 _ _ eT2
      refine lc_tup (K := K) (a := Sl) (xs := [.int x, .int y]) (fun j H4 => H4 C = some (.lst ((List.replicate j true).map V.bl)) ∧ Same H3 H4) ⟨upd_same, same_new hC⟩ (fun j H4 _ hp => SqT.of (hp.2 _ _ eSl)) (fun j v H4 hx hp => ?_) (fun H4 hp => ?_)
      · obtain ⟨eC, s4⟩ := hp
        have hj : j < 2 := (List.getElem?_eq_some_iff.mp hx).1
        obtain ⟨z, rfl⟩ : ∃ z : Int, v = .int z := by
          have hj2 : j = 0 ∨ j = 1 := by omega
          rcases hj2 with rfl | rfl
          · exact ⟨x, (Option.some.inj hx).symm⟩
          · exact ⟨y, (Option.some.inj hx).symm⟩
        refine ⟨rfl, .int z, rfl, .int z, .ty "int", .type "int", .type "int", true, rfl, .ty "int", .base (.int z), kit_ty (by decide +kernel), true, rfl, iteT ?_⟩
        refine ⟨.int z, rfl, .int z, .ty "bool", .type "int", .type "bool", false, rfl, .ty "bool", .base (.int z), kit_ty (by decide +kernel), false, rfl, ?_⟩
        refine ⟨_, eC, ?_, ?_, fun d u e => ?_⟩
        · rw [List.length_map, List.length_replicate]
          exact small1000 (by omega)
        · rw [upd_same, List.replicate_succ', List.map_append]
          rfl
        · rw [upd_ne (ne_of_none e hC)]
          exact s4 _ _ e
      · obtain ⟨eC, s4⟩ := hp
        refine ⟨.bool false, _, .bl false, .lst (.inl (.inl eC)) (dp_bls _), (by rfl), shaped_bls _, _, rfl, ?_⟩
        rw [any_true']
        refine iteF ?_
        have s24 := s23.trans s4
        have eT4 := s4 _ _ eT3
        have esz : (1 : Int) * 2 ^ ((n2 : Int).toNat) = 2 ^ n2 := by rw [Int.one_mul, Int.toNat_natCast]
        refine ⟨.ref T, rfl, T, _, 2, .int x, rfl, rfl, SqT.of eT4, rfl, 0, x, rfl, rfl, true, congrArg V.bl (decide_eq_true x0), iteT ⟨.ref T, rfl, T, _, 3, .int y, rfl, rfl, SqT.of eT4, rfl, x, y, rfl, rfl, true, congrArg V.bl (decide_eq_true xy), iteT ⟨.int (n2 : Int), rfl, 1, (n2 : Int), rfl, rfl, shl1W (by omega), y, _, rfl, rfl, true, ?_, iteF ?_⟩⟩⟩
        · rw [esz]
          exact congrArg V.bl (decide_eq_true y1)
        refine ⟨.ref R, rfl, .int (n2 : Int), rfl, .ref T, rfl, T, _, 2, .int x, rfl, rfl, SqT.of eT4, rfl, (by show 1 ≤ sizeLine; decide), fun W1 hW1 => ?_⟩
        have t1 := same_new (o := .lst [.int x]) hW1
        have s25 := s24.trans t1
        refine ⟨R, W1, (1 : Nat), o, ds, [x], n2, rfl, (Same.tups s25).row hrow, ok.deeds, by omega, .inl (.inl upd_same), rfl, (by show 1 ≤ 100; decide), n1, by omega, (fun v hv => by rw [List.mem_singleton.mp hv]; exact ⟨x0, by omega⟩), fun H5 L5 s5 nL5 eL5 => ?_⟩
        have s26 := s25.trans s5
        refine ⟨.ref R, rfl, R, _, 2, .int o, rfl, rfl, SqT.of (s26 _ _ eR), rfl, L5, _, o, _, rfl, rfl, .inl (.inl eL5), vals_at1 ok, ?_⟩
        refine ⟨.ref R, rfl, .int (n2 : Int), rfl, .ref T, rfl, T, _, 3, .int y, rfl, rfl, SqT.of (s5 _ _ (t1 _ _ eT4)), rfl, (by show 1 ≤ sizeLine; decide), fun W2 hW2 => ?_⟩
        have t2 := same_new (o := .lst [.int y]) hW2
        have s27 := s26.trans t2
        refine ⟨R, W2, (1 : Nat), o, ds, [y], n2, rfl, (Same.tups s27).row hrow, ok.deeds, by omega, .inl (.inl upd_same), rfl, (by show 1 ≤ 100; decide), n1, by omega, (fun v hv => by rw [List.mem_singleton.mp hv]; exact ⟨by omega, y1⟩), fun H6 L6 s6 nL6 eL6 => ?_⟩
        have s28 := s27.trans s6
        refine ⟨.ref R, rfl, R, _, 2, .int o, rfl, rfl, SqT.of (s28 _ _ eR), rfl, L6, _, o, _, rfl, rfl, .inl (.inl eL6), vals_at1 ok, rfl, ?_⟩
        rw [heq, decide_eq_true rfl]
        exact q H6 s28
def spRfC : Sp := fun vs H Q _ => ∃ (R L Ak : Addr) (way u v : Int) (m : Nat) (o : Int) (ds : List Deed) (as : List Addr) (cs : List (List Int)), vs = [.ref R, .int way, .ref L, .ref Ak] ∧ RowAt H R m ds o ∧ RowOk m ds o ∧ ¬ m = 1 ∧ H L = some (.lst (as.map V.ref)) ∧ TAt H as cs ∧ H Ak = some (.tup [.int u, .int v]) ∧ ∀ H', Same H H' → Q (.bl true) H'
set_option maxHeartbeats 1000000 in
theorem ok_rfC {f fT fI fG fK cW cT n1 n2 n3 n4 n5 n6 : Addr} {fd fdT fdI fdG fdK : FuncData} {k : Nat} (F : Fun K "_law_refused" "_law_refused" s_law_refused f fd) (X : KR8 K mg cW cT n1 n2 n3 n4 n5 n6)
    (GT : FnOk P w K mg base (L2.CX P w) (k + 6) fT fdT ["row"] (spTu cT)) (kT : PySem.W.keepIn K (.ref fT) = true) (bT : Binds K fdT ["row"] []) (gT : mg "turned" = some (.ref fT))
    (GI : FnOk P w K mg base (L2.CX P w) (k + 2) fI fdI ["row", "carries"] (spNoR cT 1)) (kI : PySem.W.keepIn K (.ref fI) = true) (bI : Binds K fdI ["row", "carries"] []) (gI : mg "is_turning" = some (.ref fI))
    (GG : FnOk P w K mg base (L2.CX P w) (k + 2) fG fdG ["row", "width", "word"] (spNoR cT 2)) (kG : PySem.W.keepIn K (.ref fG) = true) (bG : Binds K fdG ["row", "width", "word"] []) (gG : mg "gone_back" = some (.ref fG))
    (GK : FnOk P w K mg base CX0 (k + 1) fK fdK ["caught"] (spK8R cT)) (kK : PySem.W.keepIn K (.ref fK) = true) (bK : Binds K fdK ["caught"] []) (gK : mg "_law_kinds" = some (.ref fK)) (ml : mg "list" = none) : FnOk P w K mg base CX0 (k + 7) f fd ["row", "way", "told", "asked"] spRfC := by
  refine F.ok sc_law_refused (fun vs H Q E h => ?_) (fun cdv A outer s H vs Q E hr h => ?_)
  · obtain ⟨R, L, Ak, way, u, v, m, o, ds, as, cs, rfl, _⟩ := h
    rfl
  · obtain ⟨R, L, Ak, way, u, v, m, o, ds, as, cs, rfl, hrow, ok, hne, eL, hcs, eAk, q⟩ := h
    have r1 := hr.mono (show k + 1 ≤ k + 6 by omega)
    have r2 := hr.mono (show k + 2 ≤ k + 6 by omega)
    refine ⟨_, pss_cons (ps_set (i := 4) sc_law_refused.nd rfl (.inl rfl) pe_non)
      (pss_cons (ps_set (i := 5) sc_law_refused.nd rfl (.inl rfl) (pe_callTy call_list_of (by rfl) ml (by decide +kernel) (pa_cons (pv 2) pa_nil)))
      (pss_mid (ps_try_asT (i := 6) (tb := fun W => tIfS (tTest (tOp rEq (tVar 1) (tC (.int 0)))) (tDrop (tCallS (spTu cT) (WE W) (tCons (tVar 0) tNil))) (tIfS (tTest (tOp rEq (tVar 1) (tC (.int 1)))) (tDrop (tCallS (spNoR cT 1) (WE W) (tCons (tVar 0) (tCons (tVar 5) tNil)))) (tDrop (tCallS (spNoR cT 2) (WE W) (tCons (tVar 0) (tCons (tOp (rIxT K) (tVar 3) (tC (.int 0))) (tCons (tOp (rIxT K) (tVar 3) (tC (.int 1))) tNil))))))) (ts := fun _ _ _ => tAsg (tVar 6) (gName 4)) (Wout := fun _ _ _ _ => False) rfl rfl sc_law_refused.nd rfl rfl ⟨rfl, by decide, Or.inl X.gW⟩ takes0
          (fun W pn xe tk _ => pss_one (ps_if (pt_cmpR op_eq (pv 1) pe_int (nomark _)) (pss_one (ps_expr (by exact (pe_callS GT hr rfl gT kT bT (fun σ => passAt tk σ) (by exact (pa_cons (pv 0) pa_nil)))))) (pss_one (ps_if (pt_cmpR op_eq (pv 1) pe_int (nomark _)) (pss_one (ps_expr (by exact (pe_callS GI r2 rfl gI kI bI (fun σ => passAt tk σ) (by exact (pa_cons (pv 0) (pa_cons (pv 5) pa_nil))))))) (pss_one (ps_expr (by exact (pe_callS GG r2 rfl gG kG bG (fun σ => passAt tk σ) (by exact (pa_cons (pv 0) (pa_cons (pe_ix ix_tup (pv 3) pe_int (fun _ _ => rfl)) (pa_cons (pe_ix ix_tup (pv 3) pe_int (fun _ _ => rfl)) pa_nil))))))))))))
          (fun a oe cls d pn hz hf => pss_one (ps_set (i := 4) sc_law_refused.nd rfl (Or.inl rfl) (pv 6))))
      (pss_one (ps_ret (pe_and (pe_cmpR (op_eqD hr.units) (pv 5) (pv 2) (nomark _)) (pe_one (pe_cmpR (op_eqD hr.units) (pe_call GK r1 (by rfl) gK kK bK .nil pass0 (pa_cons (pv 4) pa_nil)) (pe_lst (pa_cons pe_bl (pa_cons pe_bl (pa_cons pe_bl (pa_cons pe_bl (pa_cons pe_bl (pa_cons pe_bl (pa_cons pe_bl (pa_cons pe_bl pa_nil))))))))) (nomark _)))))))), ?_⟩
    refine ⟨.ref L, rfl, L, _, rfl, .inl (.inl (.inl eL)), fun Hd hHd => ?_⟩
    have s2 := same_new (o := .lst (as.map V.ref)) hHd
    refine ⟨fun σ3 H3 => ∃ a, σ3 = [some (.ref R), some (.int way), some (.ref L), some (.ref Ak), some (.ref a), some (.ref Hd), none] ∧ Same (upd H Hd (.lst (as.map V.ref))) H3 ∧ H3 a = some (ExR (.ref cT) a), ?_, ?_⟩
    · have ends : ∀ (H3 : Hp), Same (upd H Hd (.lst (as.map V.ref))) H3 → ∀ a, H3 a = none → ∃ a', ([some (.ref R), some (.int way), some (.ref L), some (.ref Ak), some (.ref a), some (.ref Hd), none] : List (Option V)) = [some (.ref R), some (.int way), some (.ref L), some (.ref Ak), some (.ref a'), some (.ref Hd), none] ∧ Same (upd H Hd (.lst (as.map V.ref))) (upd H3 a (ExR (.ref cT) a)) ∧ upd H3 a (ExR (.ref cT) a) a' = some (ExR (.ref cT) a') := fun H3 s3 a ha => ⟨a, rfl, s3.trans (same_new ha), upd_same⟩
      refine ⟨.int way, rfl, rfl, _, rfl, ite2 (fun e => ?_) (fun e => ⟨.int way, rfl, rfl, _, rfl, ite2 (fun e2 => ?_) (fun e2 => ?_)⟩)⟩
      · refine ⟨.ref R, rfl, R, m, o, ds, rfl, (Same.tups s2).row hrow, ok, fun e => absurd e hne, fun _ H3 s3 => ?_⟩
        exact ⟨true, X.mT, fun _ => ⟨rfl, fun a ha => ⟨.ref a, rfl, a, rfl, s3.trans (same_new ha), upd_same⟩⟩, fun z => Bool.noConfusion z⟩
      · refine ⟨.ref R, rfl, .ref Hd, rfl, R, [.ref Hd], m, o, ds, rfl, rfl, (Same.tups s2).row hrow, ok, hne, fun H3 s3 => ?_⟩
        exact ⟨true, X.mT, fun _ => ⟨rfl, fun a ha => ⟨.ref a, rfl, a, rfl, s3.trans (same_new ha), upd_same⟩⟩, fun z => Bool.noConfusion z⟩
      · refine ⟨.ref R, rfl, .ref Ak, rfl, Ak, _, 0, .int u, rfl, rfl, SqT.of (s2 _ _ eAk), rfl, .ref Ak, rfl, Ak, _, 1, .int v, rfl, rfl, SqT.of (s2 _ _ eAk), rfl, R, [.int u, .int v], m, o, ds, rfl, rfl, (Same.tups s2).row hrow, ok, hne, fun H3 s3 => ?_⟩
        exact ⟨true, X.mT, fun _ => ⟨rfl, fun a ha => ⟨.ref a, rfl, a, rfl, s3.trans (same_new ha), upd_same⟩⟩, fun z => Bool.noConfusion z⟩
    rintro σ3 H3 ⟨a, rfl, s3, ea⟩
    have s03 := s2.trans s3
    have eHd3 := s3 Hd _ upd_same
    have hcs3 := tat_stay (Same.tups s03) hcs
    refine ⟨.ref Hd, rfl, .ref L, rfl, .list (cs.map cD), .list (cs.map cD), .lst (.inl (.inl eHd3)) (dp_cDs hcs3), .lst (.inl (.inl (s03 _ _ eL))) (dp_cDs hcs3), shaped_cDs _, shaped_cDs _, true, ?_, iteT ?_⟩
    · rw [SeqAt.eqv_refl _ (SeqAt.canLay_of_shaped (shaped_cDs cs))]
    refine ⟨.ref a, rfl, a, rfl, ea, fun H5 L5 s5 eL5 => ?_⟩
    refine ⟨(by show 8 ≤ sizeLine; decide), fun Z hZ => ?_⟩
    have sZ := same_new (o := .lst (k8R.map V.bl)) hZ
    refine ⟨.list (k8R.map PyData.bool), .list (k8R.map PyData.bool), .lst (.inl (.inl (sZ _ _ eL5))) (dp_bls k8R), .lst (.inl (.inl upd_same)) (dp_bls k8R), shaped_bls _, shaped_bls _, ?_⟩
    rw [eqv_bls]
    exact q _ (s03.trans (s5.trans sZ))
set_option maxHeartbeats 4000000 in
theorem law_run {fa fTa fDi fTr fRo fFi fTu fRt fRf cR : Addr} {fd fdTa fdDi fdTr fdRo fdFi fdTu fdRt fdRf : FuncData} {s : Shared} {a : Addr} {ns : List Int} {H : Hp} (F : Fun K "law" "law" s_law fa fd) (bL : Binds K fd ["script"] [])
    (GT : FnOk P w K mg base CX0 1 fTa fdTa ["script", "start"] (spTape K)) (kT : PySem.W.keepIn K (.ref fTa) = true) (bT : Binds K fdTa ["script", "start"] []) (gT : mg "_law_tape" = some (.ref fTa))
    (GD : FnOk P w K mg base CX0 1 fDi fdDi ["tape", "many"] spDigit) (kD : PySem.W.keepIn K (.ref fDi) = true) (bD : Binds K fdDi ["tape", "many"] []) (gD : mg "_law_digit" = some (.ref fDi))
    (GN : FnOk P w K mg base CX0 4 fTr fdTr ["tape"] spTn) (kN : PySem.W.keepIn K (.ref fTr) = true) (bN : Binds K fdTr ["tape"] []) (gN : mg "_law_turning_row" = some (.ref fTr))
    (GR : FnOk P w K mg base CX0 3 fRo fdRo ["tape", "many", "most", "left"] spTr) (kR : PySem.W.keepIn K (.ref fRo) = true) (bR : Binds K fdRo ["tape", "many", "most", "left"] []) (gR : mg "_law_row" = some (.ref fRo))
    (GI : FnOk P w K mg base CX0 1 fFi fdFi ["row"] spFc) (kI : PySem.W.keepIn K (.ref fFi) = true) (bI : Binds K fdFi ["row"] []) (gI : mg "_law_first" = some (.ref fFi))
    (GA : FnOk P w K mg base (L2.CX P w) 6 fTu fdTu ["row"] (spTu cR)) (kA : PySem.W.keepIn K (.ref fTu) = true) (bA : Binds K fdTu ["row"] []) (gA : mg "turned" = some (.ref fTu))
    (GX : FnG P w K mg base 5 fRt fdRt ["row", "found"] spRt) (kX : PySem.W.keepIn K (.ref fRt) = true) (bX : Binds K fdRt ["row", "found"] []) (gX : mg "_law_right" = some (.ref fRt))
    (GF : FnOk P w K mg base CX0 7 fRf fdRf ["row", "way", "told", "asked"] spRfC) (kF : PySem.W.keepIn K (.ref fRf) = true) (bF : Binds K fdRf ["row", "way", "told", "asked"] []) (gF : mg "_law_refused" = some (.ref fRf))
    (mr : mg "range" = none) (mn : mg "len" = none) (mx : mg "max" = none) (mi : mg "min" = none) (mt : mg "tuple" = none) (hlen : ns.length ≤ 63) (hbits : ∀ z ∈ ns, Builtin.Int.intBits z ≤ 1048576) (e0 : Env0 P w K mg base callerA [] s H) (hS : SqL K H a (ns.map V.int)) :
    codeAny (model P w) callerA (.call (.ref fa) ⟨[.ref a], []⟩) (CR CX0 [] P w H s (fun v _ => v = .bl true) E0) s := by
  refine fn_at (k := 8) (us := [.ref a]) (vs := [.ref a]) F sc_law ⟨rfl, by decide, by decide⟩ e0 ?_ (.cons rfl .nil) rfl (fun cdv => ?_)
  · have := bL s [.ref a] (e0.mod.kin.keeps fun b o e => (e0.bs b o e).1) rfl
    simpa using this
  have hr : Room 8 (callerA.deeper (envOfC "law" (defScope s_law) s.heap.objs.size fa cdv)) := Room.deeper (k := 8) ⟨rfl, by decide, by decide⟩ _
  have hg : (callerA.deeper (envOfC "law" (defScope s_law) s.heap.objs.size fa cdv)).guards = some [] := rfl
  have R1 := hr.mono (show 1 ≤ 8 by decide)
  have R3 := hr.mono (show 3 ≤ 8 by decide)
  have R4 := hr.mono (show 4 ≤ 8 by decide)
  have R5 := hr.mono (show 5 ≤ 8 by decide)
  have R6 := hr.mono (show 6 ≤ 8 by decide)
  have R7 := hr.mono (show 7 ≤ 8 by decide)
  refine ⟨_, pss_cons (ps_for PassesOwn.never rfl (pi_range1 (by rfl) mr (pa_cons (pe_callB (call_max2 rfl) (by rfl) mx (by decide +kernel) (pa_cons pe_int (pa_cons (pe_callB (call_min2 rfl) (by rfl) mi (by decide +kernel) (pa_cons pe_int (pa_cons (pe_callB call_len_seq (by rfl) mn PySem.boot_len (pa_cons (pv 0) pa_nil)) pa_nil))) pa_nil))) pa_nil)) (pg_name (i := 1) sc_law.nd rfl (.inl rfl))
      (pss_cons (ps_set (i := 2) sc_law.nd rfl (.inr rfl) (pe_call GT R1 (by rfl) gT kT bT .nil pass0 (pa_cons (pv 0) (pa_cons (pv 1) pa_nil))))
      (pss_cons (ps_set (i := 3) sc_law.nd rfl (.inl rfl) (pe_call GN R4 (by rfl) gN kN bN .nil pass0 (pa_cons (pv 2) pa_nil)))
      (pss_cons (ps_for PassesOwn.never rfl (pi_range1 (by rfl) mr (pa_cons pe_int pa_nil)) (pg_name (i := 4) sc_law.nd rfl (.inl rfl))
        (pss_cons (ps_set (i := 5) sc_law.nd rfl (.inl rfl) (pe_call GA R6 (by rfl) gA kA bA .nil passL (pa_cons (pv 3) pa_nil)))
        (pss_cons (ps_if (pt_not (pt_val (pe_callG GX R5 hg (by rfl) gX kX bX (pa_cons (pv 3) (pa_cons (pv 5) pa_nil))))) (pss_one (ps_ret pe_bl)) pss_nil)
        (pss_one (ps_if (pt_cmpR op_eq (pe_ix ix_tup (pv 5) pe_int (fun _ _ => rfl)) pe_str (nomark _)) (pss_one (ps_expr (pe_bm0 PySem.F.plainAttrs_list PySem.F.slot_list_clear PySem.F.type_list_clear mt_clear (pe_ix ix_tup (pv 5) pe_int (fun _ _ => rfl))))) pss_nil)))))
      (pss_cons (ps_set (i := 6) sc_law.nd rfl (.inl rfl) (pe_call GR R3 (by rfl) gR kR bR .nil pass0 (pa_cons (pv 2) (pa_cons (pe_op op_add pe_int (pe_call GD R1 (by rfl) gD kD bD .nil pass0 (pa_cons (pv 2) (pa_cons pe_int pa_nil)))) (pa_cons pe_int (pa_cons pe_int pa_nil))))))
      (pss_cons (ps_set (i := 7) sc_law.nd rfl (.inl rfl) (pe_op op_cat (pe_op op_rep (pe_lst (pa_cons (pe_call GI R1 (by rfl) gI kI bI .nil pass0 (pa_cons (pv 6) pa_nil)) pa_nil)) (pe_call GD R1 (by rfl) gD kD bD .nil pass0 (pa_cons (pv 2) (pa_cons pe_int pa_nil)))) (pe_lst (pa_cons (pe_callTy call_tuple_of (by rfl) mt (by decide +kernel) (pa_cons (pe_lc (own := [("deed", 10)]) (g := gName 10) (by rfl) sc_law.nd (pi_tup (pe_ix ix_tup (pv 6) pe_int (fun _ _ => rfl))) (blkOk_by (own := [("deed", 10)]) (N := N_law) (sc := defScope s_law) (by decide +kernel)) (fun _ _ _ _ _ => pg_name (i := 10) sc_law.nd rfl (Or.inl rfl)) (fun _ _ _ _ _ => pts_nil) (fun _ _ _ _ _ => pe_call GD R1 (by rfl) gD kD bD .nil pass0 (pa_cons (pv 2) (pa_cons pe_int pa_nil)))) pa_nil)) pa_nil))))
      (pss_cons (ps_set (i := 8) sc_law.nd rfl (.inl rfl) (pe_op op_add pe_int (pe_call GD R1 (by rfl) gD kD bD .nil pass0 (pa_cons (pv 2) (pa_cons pe_int pa_nil)))))
      (pss_one (ps_for PassesOwn.never rfl (pi_range1 (by rfl) mr (pa_cons pe_int pa_nil)) (pg_name (i := 9) sc_law.nd rfl (.inl rfl))
        (pss_cons (ps_if (pt_not (pt_val (pe_call GF R7 (by rfl) gF kF bF .nil pass0 (pa_cons (pv 6) (pa_cons (pv 9) (pa_cons (pv 7) (pa_cons (pe_tup (pa_cons (pv 8) (pa_cons (pe_call GD R1 (by rfl) gD kD bD .nil pass0 (pa_cons (pv 2) (pa_cons (pe_op op_shl pe_int (pv 8)) pa_nil))) pa_nil))) pa_nil))))))) (pss_one (ps_ret pe_bl)) pss_nil)
        (pss_one (ps_if (pt_not (pt_val (pe_call GF R7 (by rfl) gF kF bF .nil pass0 (pa_cons (pv 6) (pa_cons (pv 9) (pa_cons (pe_lst pa_nil) (pa_cons (pe_tup (pa_cons (pv 8) (pa_cons pe_int pa_nil))) pa_nil))))))) (pss_one (ps_ret pe_bl)) pss_nil))))))))))))
    (pss_one (ps_ret pe_bl)), ?_⟩
  refine ⟨.ref a, rfl, a, _, rfl, .inl hS, 4, _, rfl, 1, _, rfl, ?_⟩
  obtain ⟨N, hN⟩ : ∃ N : Int, N = if (if ((ns.map V.int).length : Int) < 4 then ((ns.map V.int).length : Int) else 4) > 1 then (if ((ns.map V.int).length : Int) < 4 then ((ns.map V.int).length : Int) else 4) else 1 := ⟨_, rfl⟩
  have hN1 : 0 ≤ N ∧ N ≤ 4 := by
    rw [hN]
    split <;> split <;> omega
  rw [← hN]
  refine ⟨N, rfl, by omega, by omega, for_range (lo := 0) (n := N.toNat) (fun i σ H3 => (∃ y1 y2 y3 y4 y5 y6 y7 y8 y9, σ = [some (.ref a), y1, y2, y3, y4, y5, y6, y7, y8, y9, none]) ∧ Same H H3) ⟨⟨none, none, none, none, none, none, none, none, none, rfl⟩, Same.refl H⟩ (fun i σ H3 hi hp => ?_) (fun σ H3 hp => rfl)⟩
  obtain ⟨⟨y1, y2, y3, y4, y5, y6, y7, y8, y9, rfl⟩, s3⟩ := hp
  refine ⟨.ref a, rfl, .int (0 + i), rfl, a, ns, 0 + i, rfl, s3.seq hS, by omega, by omega, fun H4 tp s4 htp t4 => ?_⟩
  have nold : ∀ b o, H b = some o → b ≠ tp := fun b o e => ne_of_none (s3 _ _ e) htp
  have s04 := s3.trans s4
  refine ⟨.ref tp, rfl, tp, rfl, t4, fun H6 Ra dsa oa hra oka t6 b6 => ?_⟩
  have s06 : Same H H6 := fun b v e => b6 b v (nold b v e) (s04 _ _ e)
  have l8 := oka.len
  refine ⟨2, rfl, by decide, by decide, for_range (lo := 0) (n := 2) (fun j σ H7 => (∃ y4 y5, σ = [some (.ref a), some (.int (0 + i)), some (.ref tp), some (.ref Ra), y4, y5, y6, y7, y8, y9, none]) ∧ Same H6 H7) ⟨⟨y4, y5, rfl⟩, Same.refl H6⟩ (fun j σ H7 hj hp => ?_) (fun σ H7 hp => ?_)⟩
  · obtain ⟨⟨y4, y5, rfl⟩, s7⟩ := hp
    have hra7 := (Same.tups s7).row hra
    refine ⟨.ref Ra, rfl, Ra, 1, oa, dsa, rfl, hra7, oka, fun _ => ⟨fun H8 T8 M8 as cs wy s8 nT nM8 eT8 eM8 hcs hB nd gd => ?_, fun H8 T8 cs wy cu c s8 nT eT8 hB hq heq plen => ?_⟩, fun ne => absurd rfl ne⟩
    · have few := few_cc nd gd l8
      have hcl : ∀ c ∈ cs, ∀ bs ∈ allB 1, gdC dsa oa c bs ∧ nc dsa c bs ∈ cs := fun c hc bs hb => by
        obtain ⟨i, hi⟩ := List.mem_iff_getElem?.mp hc
        obtain ⟨c1, i', hi', _⟩ := hB.done i c (List.getElem?_eq_some_iff.mp hi).1 hi bs hb
        exact ⟨c1, List.mem_of_getElem? hi'⟩
      refine ⟨.ref Ra, rfl, .ref T8, rfl, Ra, T8, oa, dsa, rfl, (Same.tups s8).row hra7, oka, .inl ⟨M8, as, cs, eT8, eM8, hcs, gd, few, List.mem_of_getElem? hB.first, fun c hc => (hcl c hc [0] (by decide)).1, fun c hc bs hb => (hcl c hc bs hb).2, .inl ⟨rfl, fun t => bfs_neverG hB t⟩⟩, fun H9 s9 => ⟨true, rfl, iteF ?_⟩⟩
      have eM9 := s9 _ _ eM8
      have eT9 := s9 _ _ eT8
      refine ⟨.ref T8, rfl, T8, _, 0, .str "turned", rfl, rfl, SqT.of eT9, rfl, rfl, _, rfl, iteT ?_⟩
      refine ⟨.ref T8, rfl, T8, _, 1, .ref M8, rfl, rfl, SqT.of eT9, rfl, .inl ⟨rfl, _, .inl (.inl eM9)⟩, M8, _, rfl, rfl, eM9, ⟨_, _, rfl⟩, fun b v e => ?_⟩
      rw [upd_ne (ne_of_none (s7 _ _ e) nM8)]
      exact s9 _ _ (s8 _ _ (s7 _ _ e))
    · obtain ⟨pp1, pp2⟩ := bfs_pathG hB cu cu c (Nat.le_refl _) hq
      have hall : ∀ c ∈ path wy cu, c.length = 1 ∧ ∀ x ∈ c, Bit x := fun c hc => allB_ok 1 c (pp1 c hc)
      have hx := wofL_range (m := 1) hall
      have hx0 := hx (colW (path wy cu) 0) (List.mem_singleton.mpr rfl)
      have hmw := meet_worth (cs := path wy cu) oka hall (by
        have e2 : c = runC dsa (dsa.map fcD) (path wy cu) := by rw [pp2, runC_fold]; rfl
        rw [← e2]
        exact heq)
      rw [wof_one, wof_one, Int.zero_mul, Int.add_zero, Int.one_mul] at hmw
      have pp : (0 : Int) < 2 ^ (path wy cu).length := pw_pos _
      have ps2 : (2 : Int) ^ ((path wy cu).length + 1) = 2 ^ (path wy cu).length + 2 ^ (path wy cu).length := by rw [Int.pow_succ]; omega
      have lw := bfs_firstwG hB hq (bs := [0]) (by decide) (fun z => z heq)
      rw [List.length_append] at lw
      have eT8' : H8 T8 = some (.tup [.str "meet", .int (((path wy cu).length + 1 : Nat) : Int), .int (colW (path wy cu) 0), .int (colW (path wy cu) 0 + 2 ^ (path wy cu).length)]) := eT8
      refine ⟨.ref Ra, rfl, .ref T8, rfl, Ra, T8, oa, dsa, rfl, (Same.tups s8).row hra7, oka, .inr ⟨_, _, (path wy cu).length + 1, eT8', hx0.1, by omega, by rw [ps2]; omega, by omega, by omega, lw, hmw⟩, fun H9 s9 => ⟨true, rfl, iteF ?_⟩⟩
      have eT9 := s9 _ _ eT8
      exact ⟨.ref T8, rfl, T8, _, 0, .str "meet", rfl, rfl, SqT.of eT9, rfl, rfl, _, rfl, iteF ⟨⟨_, _, rfl⟩, s7.trans (s8.trans s9)⟩⟩
  · obtain ⟨⟨y4, y5, rfl⟩, s7⟩ := hp
    have t7 := t6.same s7
    have s07 := s06.trans s7
    refine ⟨.ref tp, rfl, .ref tp, rfl, tp, 2, rfl, by decide, by decide, t7, fun H8 x x0 x1 t8 b8 => ⟨2, x, rfl, rfl, ?_⟩⟩
    obtain ⟨fm, hfm, f1, f3, fne⟩ : ∃ fm : Nat, 2 + x = (fm : Int) ∧ 1 ≤ fm ∧ fm ≤ 3 ∧ ¬ fm = 1 := ⟨(2 + x).toNat, by omega, by omega, by omega, by omega⟩
    refine ⟨tp, 2 + x, 4, 2, rfl, by omega, by omega, by decide, by decide, t8, fun H9 Rf dsf of' hrf okf _ _ t9 b9 => ?_⟩
    rw [hfm] at hrf okf
    have lf := okf.len
    have s09 : Same H H9 := fun b v e => b9 b v (nold b v e) (b8 b v (nold b v e) (s07 _ _ e))
    refine ⟨.ref Rf, rfl, Rf, fm, of', dsf, rfl, hrf, by omega, fun Ha F1 sa nF1 eF1 => ?_⟩
    refine ⟨(by show 1 ≤ sizeLine; decide), fun L1 hL1 => ?_⟩
    have sL1 := same_new (o := .lst [.ref F1]) hL1
    have sab := sa.trans sL1
    have t11 := t9.same sab
    have nL1 : L1 ≠ tp := (t9.same sa).ne_new hL1
    refine ⟨.ref tp, rfl, tp, 2, rfl, by decide, by decide, t11, fun H12 z z0 z1 t12 b12 => ?_⟩
    have pF12 := b12.tape t11 _ _ (sL1 _ _ eF1)
    have eL12 := b12 L1 (.lst [.ref F1]) nL1 upd_same
    refine ⟨L1, z, _, rfl, rfl, eL12, by omega, by omega, ?_, fun L2' hL2 => ?_⟩
    · show 1 * z.toNat ≤ sizeLine
      rw [sizeLine_eq]
      omega
    have sL2 := same_new (o := .lst (List.replicate z.toNat [V.ref F1]).flatten) hL2
    have init : ∃ (as : List Addr) (cs : List (List Int)), (List.replicate z.toNat [V.ref F1]).flatten = as.map V.ref ∧ TAt (upd H12 L2' (.lst (List.replicate z.toNat [V.ref F1]).flatten)) as cs ∧ as.length ≤ 1 := by
      have hz2 : z = 0 ∨ z = 1 := by omega
      rcases hz2 with rfl | rfl
      · exact ⟨[], [], rfl, .nil, by decide⟩
      · exact ⟨[F1], [dsf.map fcD], rfl, .cons (sL2 _ _ pF12) .nil, (by show 1 ≤ 1; decide)⟩
    obtain ⟨as0, cs0, eas, hcs0, asl⟩ := init
    have eL2 : upd H12 L2' (.lst (List.replicate z.toNat [V.ref F1]).flatten) L2' = some (.lst (as0.map V.ref)) := by rw [upd_same, eas]
    have nL2 : L2' ≠ tp := t12.ne_new hL2
    obtain ⟨H13, hH13⟩ : ∃ H13, H13 = upd H12 L2' (.lst (List.replicate z.toNat [V.ref F1]).flatten) := ⟨_, rfl⟩
    have t13 : TP H13 tp := by rw [hH13]; exact t12.same sL2
    have b913 : But tp H9 H13 := by rw [hH13]; exact ((But.same sab).trans b12).trans (But.same sL2)
    rw [← hH13] at eL2 hcs0 ⊢
    have ts13 : TupsStay H9 H13 := b913.tape t9
    obtain ⟨D1, rs1, eR1, eD1, hd1⟩ := id (ts13.row hrf)
    have rl1 := awLen hd1
    refine ⟨.ref Rf, rfl, Rf, _, 1, .ref D1, rfl, rfl, SqT.of eR1, rfl, D1, rfl, ⟨_, SqT.of eD1⟩, fun C hC => ?_⟩
    have nC : C ≠ tp := t13.ne_new hC
    refine lc_tup (K := K) (a := D1) (xs := rs1.map V.ref) (fun k H16 => ∃ zs : List Int, zs.length = k ∧ (∀ x ∈ zs, Bit x) ∧ H16 C = some (.lst (zs.map V.int)) ∧ TP H16 tp ∧ But tp H13 H16 ∧ TupsStay H13 H16) ⟨[], rfl, (fun _ z => nomatch z), upd_same, t13.upd nC, But.same (same_new hC), Same.tups (same_new hC)⟩ (fun k H16 _ hp => ?_) (fun k x H16 hx hp => ?_) (fun H16 hp => ?_)
    · obtain ⟨_, _, _, _, _, _, ts⟩ := hp
      exact SqT.of (ts _ _ eD1)
    · obtain ⟨zs, hz, zb, eC, t16, b16, ts16⟩ := hp
      have hk : k < rs1.length := by
        have := (List.getElem?_eq_some_iff.mp hx).1
        rwa [List.length_map] at this
      refine ⟨rfl, .ref tp, rfl, tp, 2, rfl, by decide, by decide, t16, fun H17 v v0 v1 t17 b17 => ?_⟩
      have eC17 := b17 _ _ nC eC
      refine ⟨_, eC17, by rw [List.length_map]; exact small1000 (by omega), zs ++ [v], by rw [List.length_append, hz]; rfl, ?_, ?_, t17.upd nC, ?_, ?_⟩
      · intro y' hy
        rcases List.mem_append.mp hy with hy | hy
        · exact zb y' hy
        · rw [List.mem_singleton.mp hy]
          show v = 0 ∨ v = 1
          omega
      · rw [upd_same, List.map_append]
        rfl
      · intro b u nb e'
        rw [upd_ne (ne_of_none e' hC)]
        exact b17 b u nb (b16 b u nb e')
      · exact (ts16.trans (b17.tape t16)).trans (tups_put eC17)
    · obtain ⟨zs, hz, zb, eC, t16, b16, ts16⟩ := hp
      refine ⟨C, _, rfl, .inl ⟨.inl (.inl eC), fun p5 hp5 => ?_⟩⟩
      have s5 := same_new (o := .tup (zs.map V.int)) hp5
      refine ⟨(by show 1 ≤ sizeLine; decide), fun Z hZ => ?_⟩
      have sZ := same_new (o := .lst [.ref p5]) hZ
      have eL2' := sZ _ _ (s5 _ _ (b16 _ _ nL2 eL2))
      refine ⟨L2', Z, _, _, rfl, rfl, eL2', upd_same, ?_, fun Td hTd => ?_⟩
      · rw [List.length_map]
        exact Nat.le_of_lt (small1000 (by show as0.length + 1 ≤ 1000; omega))
      have sTd := same_new (o := .lst (as0.map V.ref ++ [V.ref p5])) hTd
      have s5T := s5.trans (sZ.trans sTd)
      have t18 := t16.same s5T
      have nTd : Td ≠ tp := ((t16.same s5).same sZ).ne_new hTd
      have eTd : upd (upd (upd H16 p5 (.tup (zs.map V.int))) Z (.lst [.ref p5])) Td (.lst (as0.map V.ref ++ [V.ref p5])) Td = some (.lst ((as0 ++ [p5]).map V.ref)) := by
        rw [upd_same, List.map_append]
        rfl
      have hcsT : TAt (upd (upd (upd H16 p5 (.tup (zs.map V.int))) Z (.lst [.ref p5])) Td (.lst (as0.map V.ref ++ [V.ref p5]))) (as0 ++ [p5]) (cs0 ++ [zs]) := tat_snoc (sTd _ _ (sZ _ _ upd_same)) (tat_stay (ts16.trans (Same.tups s5T)) hcs0)
      obtain ⟨H18, hH18⟩ : ∃ H18, H18 = upd (upd (upd H16 p5 (.tup (zs.map V.int))) Z (.lst [.ref p5])) Td (.lst (as0.map V.ref ++ [V.ref p5])) := ⟨_, rfl⟩
      rw [← hH18] at eTd hcsT t18 s5T ⊢
      have b918 : But tp H9 H18 := (b913.trans b16).trans (But.same s5T)
      have hrf18 := (b918.tape t9).row hrf
      refine ⟨.ref tp, rfl, tp, 60, rfl, by decide, by decide, t18, fun H19 wz w0 w1 t19 b19 => ⟨1, wz, rfl, rfl, ?_⟩⟩
      have b919 := b918.trans b19
      refine ⟨3, rfl, by decide, by decide, for_range (lo := 0) (n := 3) (fun j σ H20 => (∃ y9, σ = [some (.ref a), some (.int (0 + i)), some (.ref tp), some (.ref Ra), y4, y5, some (.ref Rf), some (.ref Td), some (.int (1 + wz)), y9, none]) ∧ TP H20 tp ∧ But tp H18 H20) ⟨⟨y9, rfl⟩, t19, b19⟩ (fun j σ H20 hj hp => ?_) (fun σ H20 hp => ?_)⟩
      · obtain ⟨⟨y9, rfl⟩, t20, b20⟩ := hp
        have ts20 : TupsStay H18 H20 := b20.tape t18
        have p2 : (2 : Int) ^ (1 + wz).toNat ≤ 2 ^ 80 := pw_le (by omega)
        have pp : (0 : Int) < 2 ^ (1 + wz).toNat := pw_pos _
        refine ⟨.ref Rf, rfl, .int (0 + j), rfl, .ref Td, rfl, .int (1 + wz), rfl, .ref tp, rfl, .int (1 + wz), rfl, 1, 1 + wz, rfl, rfl, ⟨by omega, by omega, by decide⟩, tp, _, rfl, by rw [Int.one_mul]; exact pp, by rw [Int.one_mul]; exact p2, t20, fun H21 v v0 v1 t21 b21 => ?_⟩
        refine ⟨(by show 2 ≤ sizeLine; decide), fun Ak hAk => ?_⟩
        have sAk := same_new (o := .tup [.int (1 + wz), .int v]) hAk
        have ts22 := (ts20.trans (b21.tape t20)).trans (Same.tups sAk)
        refine ⟨Rf, Td, Ak, 0 + j, 1 + wz, v, fm, of', dsf, as0 ++ [p5], cs0 ++ [zs], rfl, ts22.row hrf18, okf, fne, sAk _ _ (b21 _ _ nTd (b20 _ _ nTd eTd)), tat_stay ts22 hcsT, upd_same, fun H22 s22 => ⟨true, rfl, iteF ?_⟩⟩
        refine ⟨.ref Rf, rfl, .int (0 + j), rfl, (by show 0 ≤ sizeLine; decide), fun E hE => ?_⟩
        have sE := same_new (o := .lst []) hE
        refine ⟨.int (1 + wz), rfl, (by show 2 ≤ sizeLine; decide), fun A2 hA2 => ?_⟩
        have sA2 := same_new (o := .tup [.int (1 + wz), .int 0]) hA2
        refine ⟨Rf, E, A2, 0 + j, 1 + wz, 0, fm, of', dsf, [], [], rfl, (Same.tups (s22.trans (sE.trans sA2))).row (ts22.row hrf18), okf, fne, sA2 _ _ upd_same, .nil, upd_same, fun H23 s23 => ⟨true, rfl, iteF ?_⟩⟩
        have sall := sAk.trans (s22.trans (sE.trans (sA2.trans s23)))
        exact ⟨⟨_, rfl⟩, t21.same sall, (b20.trans b21).trans (But.same sall)⟩
      · obtain ⟨⟨y9, rfl⟩, t20, b20⟩ := hp
        exact ⟨⟨_, _, _, _, _, _, _, _, _, rfl⟩, fun b v e => (b918.trans b20) b v (nold b v e) (s09 _ _ e)⟩
/-! ### what the top has written -/
set_option maxHeartbeats 4000000 in
theorem all_mk {l : PySem.W.OpenLaw} {w : World} {K : PySem.W.Frag} {h : Heap} {mg : Str → Option Value} {fa : Addr} (X : K.In h) (G : h.Ns mainGlobals mg) (hfa : mg "law" = some (.ref fa))
    {f0 : Addr} {od0 an0 : Option Addr} {sl0 : Array (Option Value)} {oc0 kV0 dc0 pm0 cd0 ct0 : Value}
    {f1 : Addr} {od1 an1 : Option Addr} {sl1 : Array (Option Value)} {oc1 kV1 dc1 pm1 cd1 ct1 : Value}
    {f2 : Addr} {od2 an2 : Option Addr} {sl2 : Array (Option Value)} {oc2 kV2 dc2 pm2 cd2 ct2 : Value}
    {f3 : Addr} {od3 an3 : Option Addr} {sl3 : Array (Option Value)} {oc3 kV3 dc3 pm3 cd3 ct3 : Value}
    {f4 : Addr} {od4 an4 : Option Addr} {sl4 : Array (Option Value)} {oc4 kV4 dc4 pm4 cd4 ct4 : Value}
    {f5 : Addr} {od5 an5 : Option Addr} {sl5 : Array (Option Value)} {oc5 kV5 dc5 pm5 cd5 ct5 : Value}
    {f6 : Addr} {od6 an6 : Option Addr} {sl6 : Array (Option Value)} {oc6 kV6 dc6 pm6 cd6 ct6 : Value}
    {f7 : Addr} {od7 an7 : Option Addr} {sl7 : Array (Option Value)} {oc7 kV7 dc7 pm7 cd7 ct7 : Value}
    {f8 : Addr} {od8 an8 : Option Addr} {sl8 : Array (Option Value)} {oc8 kV8 dc8 pm8 cd8 ct8 : Value}
    {f9 : Addr} {od9 an9 : Option Addr} {sl9 : Array (Option Value)} {oc9 kV9 dc9 pm9 cd9 ct9 : Value}
    {f10 : Addr} {od10 an10 : Option Addr} {sl10 : Array (Option Value)} {oc10 kV10 dc10 pm10 cd10 ct10 : Value}
    {f11 : Addr} {od11 an11 : Option Addr} {sl11 : Array (Option Value)} {oc11 kV11 dc11 pm11 cd11 ct11 : Value}
    {f12 : Addr} {od12 an12 : Option Addr} {sl12 : Array (Option Value)} {oc12 kV12 dc12 pm12 cd12 ct12 : Value}
    {f13 : Addr} {od13 an13 : Option Addr} {sl13 : Array (Option Value)} {oc13 kV13 dc13 pm13 cd13 ct13 : Value}
    {f14 : Addr} {od14 an14 : Option Addr} {sl14 : Array (Option Value)} {oc14 kV14 dc14 pm14 cd14 ct14 : Value}
    {f15 : Addr} {od15 an15 : Option Addr} {sl15 : Array (Option Value)} {oc15 kV15 dc15 pm15 cd15 ct15 : Value}
    {f16 : Addr} {od16 an16 : Option Addr} {sl16 : Array (Option Value)} {oc16 kV16 dc16 pm16 cd16 ct16 : Value}
    {f17 : Addr} {od17 an17 : Option Addr} {sl17 : Array (Option Value)} {oc17 kV17 dc17 pm17 cd17 ct17 : Value}
    {f18 : Addr} {od18 an18 : Option Addr} {sl18 : Array (Option Value)} {oc18 kV18 dc18 pm18 cd18 ct18 : Value}
    {f19 : Addr} {od19 an19 : Option Addr} {sl19 : Array (Option Value)} {oc19 kV19 dc19 pm19 cd19 ct19 : Value}
    {f20 : Addr} {od20 an20 : Option Addr} {sl20 : Array (Option Value)} {oc20 kV20 dc20 pm20 cd20 ct20 : Value}
    {f21 : Addr} {od21 an21 : Option Addr} {sl21 : Array (Option Value)} {oc21 kV21 dc21 pm21 cd21 ct21 : Value}
    {f22 : Addr} {od22 an22 : Option Addr} {sl22 : Array (Option Value)} {oc22 kV22 dc22 pm22 cd22 ct22 : Value}
    {f23 : Addr} {od23 an23 : Option Addr} {sl23 : Array (Option Value)} {oc23 kV23 dc23 pm23 cd23 ct23 : Value}
    {f24 : Addr} {od24 an24 : Option Addr} {sl24 : Array (Option Value)} {oc24 kV24 dc24 pm24 cd24 ct24 : Value}
    {f25 : Addr} {od25 an25 : Option Addr} {sl25 : Array (Option Value)} {oc25 kV25 dc25 pm25 cd25 ct25 : Value}
    {f26 : Addr} {od26 an26 : Option Addr} {sl26 : Array (Option Value)} {oc26 kV26 dc26 pm26 cd26 ct26 : Value}
    {f27 : Addr} {od27 an27 : Option Addr} {sl27 : Array (Option Value)} {oc27 kV27 dc27 pm27 cd27 ct27 : Value}
    {f28 : Addr} {od28 an28 : Option Addr} {sl28 : Array (Option Value)} {oc28 kV28 dc28 pm28 cd28 ct28 : Value}
    {f29 : Addr} {od29 an29 : Option Addr} {sl29 : Array (Option Value)} {oc29 kV29 dc29 pm29 cd29 ct29 : Value}
    {f30 : Addr} {od30 an30 : Option Addr} {sl30 : Array (Option Value)} {oc30 kV30 dc30 pm30 cd30 ct30 : Value}
    {f31 : Addr} {od31 an31 : Option Addr} {sl31 : Array (Option Value)} {oc31 kV31 dc31 pm31 cd31 ct31 : Value}
    {f32 : Addr} {od32 an32 : Option Addr} {sl32 : Array (Option Value)} {oc32 kV32 dc32 pm32 cd32 ct32 : Value}
    {f33 : Addr} {od33 an33 : Option Addr} {sl33 : Array (Option Value)} {oc33 kV33 dc33 pm33 cd33 ct33 : Value}
    {f34 : Addr} {od34 an34 : Option Addr} {sl34 : Array (Option Value)} {oc34 kV34 dc34 pm34 cd34 ct34 : Value}
    {f35 : Addr} {od35 an35 : Option Addr} {sl35 : Array (Option Value)} {oc35 kV35 dc35 pm35 cd35 ct35 : Value}
    {CWalk : Addr}
    {fWalk___init__ : Addr} {odWalk___init__ anWalk___init__ : Option Addr} {slWalk___init__ : Array (Option Value)} {ocWalk___init__ kVWalk___init__ dcWalk___init__ pmWalk___init__ cdWalk___init__ ctWalk___init__ : Value}
    {fWalk_meet : Addr} {odWalk_meet anWalk_meet : Option Addr} {slWalk_meet : Array (Option Value)} {ocWalk_meet kVWalk_meet dcWalk_meet pmWalk_meet cdWalk_meet ctWalk_meet : Value}
    {fWalk_bits_to : Addr} {odWalk_bits_to anWalk_bits_to : Option Addr} {slWalk_bits_to : Array (Option Value)} {ocWalk_bits_to kVWalk_bits_to dcWalk_bits_to pmWalk_bits_to cdWalk_bits_to ctWalk_bits_to : Value}
    {cWideError : Addr}
    {cNoRow : Addr}
    {cNoPair : Addr}
    {cNoRule : Addr}
    {cNoName : Addr}
    {cNoText : Addr}
    {cTooMany : Addr}
    {cNothing : Addr}
    (a0 : PySem.W.nsIn K mainGlobals "all_bits" = some (some (.ref f0)))
    (l0 : K.lookup f0 = some ⟨oc0, od0, .func (PySem.W.fnOf "all_bits" "all_bits" (defArgs s_all_bits) (defBody s_all_bits) (defScope s_all_bits) .none kV0 dc0 pm0 an0 cd0 ct0), sl0⟩)
    (c0 : PySem.W.codeIn K cd0 "all_bits" = true) (k0 : PySem.W.keepIn K (.ref f0) = true)
    (a1 : PySem.W.nsIn K mainGlobals "first_carry" = some (some (.ref f1)))
    (l1 : K.lookup f1 = some ⟨oc1, od1, .func (PySem.W.fnOf "first_carry" "first_carry" (defArgs s_first_carry) (defBody s_first_carry) (defScope s_first_carry) .none kV1 dc1 pm1 an1 cd1 ct1), sl1⟩)
    (c1 : PySem.W.codeIn K cd1 "first_carry" = true) (k1 : PySem.W.keepIn K (.ref f1) = true)
    (a2 : PySem.W.nsIn K mainGlobals "deed_bit" = some (some (.ref f2)))
    (l2 : K.lookup f2 = some ⟨oc2, od2, .func (PySem.W.fnOf "deed_bit" "deed_bit" (defArgs s_deed_bit) (defBody s_deed_bit) (defScope s_deed_bit) .none kV2 dc2 pm2 an2 cd2 ct2), sl2⟩)
    (c2 : PySem.W.codeIn K cd2 "deed_bit" = true) (k2 : PySem.W.keepIn K (.ref f2) = true)
    (a3 : PySem.W.nsIn K mainGlobals "bits_of" = some (some (.ref f3)))
    (l3 : K.lookup f3 = some ⟨oc3, od3, .func (PySem.W.fnOf "bits_of" "bits_of" (defArgs s_bits_of) (defBody s_bits_of) (defScope s_bits_of) .none kV3 dc3 pm3 an3 cd3 ct3), sl3⟩)
    (c3 : PySem.W.codeIn K cd3 "bits_of" = true) (k3 : PySem.W.keepIn K (.ref f3) = true)
    (a4 : PySem.W.nsIn K mainGlobals "two_or_more" = some (some (.ref f4)))
    (l4 : K.lookup f4 = some ⟨oc4, od4, .func (PySem.W.fnOf "two_or_more" "two_or_more" (defArgs s_two_or_more) (defBody s_two_or_more) (defScope s_two_or_more) .none kV4 dc4 pm4 an4 cd4 ct4), sl4⟩)
    (c4 : PySem.W.codeIn K cd4 "two_or_more" = true) (k4 : PySem.W.keepIn K (.ref f4) = true)
    (a5 : PySem.W.nsIn K mainGlobals "deed_carry" = some (some (.ref f5)))
    (l5 : K.lookup f5 = some ⟨oc5, od5, .func (PySem.W.fnOf "deed_carry" "deed_carry" (defArgs s_deed_carry) (defBody s_deed_carry) (defScope s_deed_carry) .none kV5 dc5 pm5 an5 cd5 ct5), sl5⟩)
    (c5 : PySem.W.codeIn K cd5 "deed_carry" = true) (k5 : PySem.W.keepIn K (.ref f5) = true)
    (a6 : PySem.W.nsIn K mainGlobals "carry_behind" = some (some (.ref f6)))
    (l6 : K.lookup f6 = some ⟨oc6, od6, .func (PySem.W.fnOf "carry_behind" "carry_behind" (defArgs s_carry_behind) (defBody s_carry_behind) (defScope s_carry_behind) .none kV6 dc6 pm6 an6 cd6 ct6), sl6⟩)
    (c6 : PySem.W.codeIn K cd6 "carry_behind" = true) (k6 : PySem.W.keepIn K (.ref f6) = true)
    (a7 : PySem.W.nsIn K mainGlobals "steps" = some (some (.ref f7)))
    (l7 : K.lookup f7 = some ⟨oc7, od7, .func (PySem.W.fnOf "steps" "steps" (defArgs s_steps) (defBody s_steps) (defScope s_steps) .none kV7 dc7 pm7 an7 cd7 ct7), sl7⟩)
    (c7 : PySem.W.codeIn K cd7 "steps" = true) (k7 : PySem.W.keepIn K (.ref f7) = true)
    (a8 : PySem.W.nsIn K mainGlobals "kept_steps" = some (some (.ref f8)))
    (l8 : K.lookup f8 = some ⟨oc8, od8, .func (PySem.W.fnOf "kept_steps" "kept_steps" (defArgs s_kept_steps) (defBody s_kept_steps) (defScope s_kept_steps) .none kV8 dc8 pm8 an8 cd8 ct8), sl8⟩)
    (c8 : PySem.W.codeIn K cd8 "kept_steps" = true) (k8 : PySem.W.keepIn K (.ref f8) = true)
    (a9 : PySem.W.nsIn K mainGlobals "words_of" = some (some (.ref f9)))
    (l9 : K.lookup f9 = some ⟨oc9, od9, .func (PySem.W.fnOf "words_of" "words_of" (defArgs s_words_of) (defBody s_words_of) (defScope s_words_of) .none kV9 dc9 pm9 an9 cd9 ct9), sl9⟩)
    (c9 : PySem.W.codeIn K cd9 "words_of" = true) (k9 : PySem.W.keepIn K (.ref f9) = true)
    (a10 : PySem.W.nsIn K mainGlobals "check_single" = some (some (.ref f10)))
    (l10 : K.lookup f10 = some ⟨oc10, od10, .func (PySem.W.fnOf "check_single" "check_single" (defArgs s_check_single) (defBody s_check_single) (defScope s_check_single) .none kV10 dc10 pm10 an10 cd10 ct10), sl10⟩)
    (c10 : PySem.W.codeIn K cd10 "check_single" = true) (k10 : PySem.W.keepIn K (.ref f10) = true)
    (a11 : PySem.W.nsIn K mainGlobals "turned" = some (some (.ref f11)))
    (l11 : K.lookup f11 = some ⟨oc11, od11, .func (PySem.W.fnOf "turned" "turned" (defArgs s_turned) (defBody s_turned) (defScope s_turned) .none kV11 dc11 pm11 an11 cd11 ct11), sl11⟩)
    (c11 : PySem.W.codeIn K cd11 "turned" = true) (k11 : PySem.W.keepIn K (.ref f11) = true)
    (a12 : PySem.W.nsIn K mainGlobals "is_turning" = some (some (.ref f12)))
    (l12 : K.lookup f12 = some ⟨oc12, od12, .func (PySem.W.fnOf "is_turning" "is_turning" (defArgs s_is_turning) (defBody s_is_turning) (defScope s_is_turning) .none kV12 dc12 pm12 an12 cd12 ct12), sl12⟩)
    (c12 : PySem.W.codeIn K cd12 "is_turning" = true) (k12 : PySem.W.keepIn K (.ref f12) = true)
    (a13 : PySem.W.nsIn K mainGlobals "gone_up" = some (some (.ref f13)))
    (l13 : K.lookup f13 = some ⟨oc13, od13, .func (PySem.W.fnOf "gone_up" "gone_up" (defArgs s_gone_up) (defBody s_gone_up) (defScope s_gone_up) .none kV13 dc13 pm13 an13 cd13 ct13), sl13⟩)
    (c13 : PySem.W.codeIn K cd13 "gone_up" = true) (k13 : PySem.W.keepIn K (.ref f13) = true)
    (a14 : PySem.W.nsIn K mainGlobals "gone_back" = some (some (.ref f14)))
    (l14 : K.lookup f14 = some ⟨oc14, od14, .func (PySem.W.fnOf "gone_back" "gone_back" (defArgs s_gone_back) (defBody s_gone_back) (defScope s_gone_back) .none kV14 dc14 pm14 an14 cd14 ct14), sl14⟩)
    (c14 : PySem.W.codeIn K cd14 "gone_back" = true) (k14 : PySem.W.keepIn K (.ref f14) = true)
    (a15 : PySem.W.nsIn K mainGlobals "_law_tape" = some (some (.ref f15)))
    (l15 : K.lookup f15 = some ⟨oc15, od15, .func (PySem.W.fnOf "_law_tape" "_law_tape" (defArgs s_law_tape) (defBody s_law_tape) (defScope s_law_tape) .none kV15 dc15 pm15 an15 cd15 ct15), sl15⟩)
    (c15 : PySem.W.codeIn K cd15 "_law_tape" = true) (k15 : PySem.W.keepIn K (.ref f15) = true)
    (a16 : PySem.W.nsIn K mainGlobals "_law_digit" = some (some (.ref f16)))
    (l16 : K.lookup f16 = some ⟨oc16, od16, .func (PySem.W.fnOf "_law_digit" "_law_digit" (defArgs s_law_digit) (defBody s_law_digit) (defScope s_law_digit) .none kV16 dc16 pm16 an16 cd16 ct16), sl16⟩)
    (c16 : PySem.W.codeIn K cd16 "_law_digit" = true) (k16 : PySem.W.keepIn K (.ref f16) = true)
    (a17 : PySem.W.nsIn K mainGlobals "_law_deed" = some (some (.ref f17)))
    (l17 : K.lookup f17 = some ⟨oc17, od17, .func (PySem.W.fnOf "_law_deed" "_law_deed" (defArgs s_law_deed) (defBody s_law_deed) (defScope s_law_deed) .none kV17 dc17 pm17 an17 cd17 ct17), sl17⟩)
    (c17 : PySem.W.codeIn K cd17 "_law_deed" = true) (k17 : PySem.W.keepIn K (.ref f17) = true)
    (a18 : PySem.W.nsIn K mainGlobals "_law_carrying" = some (some (.ref f18)))
    (l18 : K.lookup f18 = some ⟨oc18, od18, .func (PySem.W.fnOf "_law_carrying" "_law_carrying" (defArgs s_law_carrying) (defBody s_law_carrying) (defScope s_law_carrying) .none kV18 dc18 pm18 an18 cd18 ct18), sl18⟩)
    (c18 : PySem.W.codeIn K cd18 "_law_carrying" = true) (k18 : PySem.W.keepIn K (.ref f18) = true)
    (a19 : PySem.W.nsIn K mainGlobals "_law_row" = some (some (.ref f19)))
    (l19 : K.lookup f19 = some ⟨oc19, od19, .func (PySem.W.fnOf "_law_row" "_law_row" (defArgs s_law_row) (defBody s_law_row) (defScope s_law_row) .none kV19 dc19 pm19 an19 cd19 ct19), sl19⟩)
    (c19 : PySem.W.codeIn K cd19 "_law_row" = true) (k19 : PySem.W.keepIn K (.ref f19) = true)
    (a20 : PySem.W.nsIn K mainGlobals "_law_value" = some (some (.ref f20)))
    (l20 : K.lookup f20 = some ⟨oc20, od20, .func (PySem.W.fnOf "_law_value" "_law_value" (defArgs s_law_value) (defBody s_law_value) (defScope s_law_value) .none kV20 dc20 pm20 an20 cd20 ct20), sl20⟩)
    (c20 : PySem.W.codeIn K cd20 "_law_value" = true) (k20 : PySem.W.keepIn K (.ref f20) = true)
    (a21 : PySem.W.nsIn K mainGlobals "_law_values" = some (some (.ref f21)))
    (l21 : K.lookup f21 = some ⟨oc21, od21, .func (PySem.W.fnOf "_law_values" "_law_values" (defArgs s_law_values) (defBody s_law_values) (defScope s_law_values) .none kV21 dc21 pm21 an21 cd21 ct21), sl21⟩)
    (c21 : PySem.W.codeIn K cd21 "_law_values" = true) (k21 : PySem.W.keepIn K (.ref f21) = true)
    (a22 : PySem.W.nsIn K mainGlobals "_law_bit" = some (some (.ref f22)))
    (l22 : K.lookup f22 = some ⟨oc22, od22, .func (PySem.W.fnOf "_law_bit" "_law_bit" (defArgs s_law_bit) (defBody s_law_bit) (defScope s_law_bit) .none kV22 dc22 pm22 an22 cd22 ct22), sl22⟩)
    (c22 : PySem.W.codeIn K cd22 "_law_bit" = true) (k22 : PySem.W.keepIn K (.ref f22) = true)
    (a23 : PySem.W.nsIn K mainGlobals "_law_carry" = some (some (.ref f23)))
    (l23 : K.lookup f23 = some ⟨oc23, od23, .func (PySem.W.fnOf "_law_carry" "_law_carry" (defArgs s_law_carry) (defBody s_law_carry) (defScope s_law_carry) .none kV23 dc23 pm23 an23 cd23 ct23), sl23⟩)
    (c23 : PySem.W.codeIn K cd23 "_law_carry" = true) (k23 : PySem.W.keepIn K (.ref f23) = true)
    (a24 : PySem.W.nsIn K mainGlobals "_law_step" = some (some (.ref f24)))
    (l24 : K.lookup f24 = some ⟨oc24, od24, .func (PySem.W.fnOf "_law_step" "_law_step" (defArgs s_law_step) (defBody s_law_step) (defScope s_law_step) .none kV24 dc24 pm24 an24 cd24 ct24), sl24⟩)
    (c24 : PySem.W.codeIn K cd24 "_law_step" = true) (k24 : PySem.W.keepIn K (.ref f24) = true)
    (a25 : PySem.W.nsIn K mainGlobals "_law_first" = some (some (.ref f25)))
    (l25 : K.lookup f25 = some ⟨oc25, od25, .func (PySem.W.fnOf "_law_first" "_law_first" (defArgs s_law_first) (defBody s_law_first) (defScope s_law_first) .none kV25 dc25 pm25 an25 cd25 ct25), sl25⟩)
    (c25 : PySem.W.codeIn K cd25 "_law_first" = true) (k25 : PySem.W.keepIn K (.ref f25) = true)
    (a26 : PySem.W.nsIn K mainGlobals "_law_bent" = some (some (.ref f26)))
    (l26 : K.lookup f26 = some ⟨oc26, od26, .func (PySem.W.fnOf "_law_bent" "_law_bent" (defArgs s_law_bent) (defBody s_law_bent) (defScope s_law_bent) .none kV26 dc26 pm26 an26 cd26 ct26), sl26⟩)
    (c26 : PySem.W.codeIn K cd26 "_law_bent" = true) (k26 : PySem.W.keepIn K (.ref f26) = true)
    (a27 : PySem.W.nsIn K mainGlobals "_law_turning_row" = some (some (.ref f27)))
    (l27 : K.lookup f27 = some ⟨oc27, od27, .func (PySem.W.fnOf "_law_turning_row" "_law_turning_row" (defArgs s_law_turning_row) (defBody s_law_turning_row) (defScope s_law_turning_row) .none kV27 dc27 pm27 an27 cd27 ct27), sl27⟩)
    (c27 : PySem.W.codeIn K cd27 "_law_turning_row" = true) (k27 : PySem.W.keepIn K (.ref f27) = true)
    (a28 : PySem.W.nsIn K mainGlobals "_law_unlike" = some (some (.ref f28)))
    (l28 : K.lookup f28 = some ⟨oc28, od28, .func (PySem.W.fnOf "_law_unlike" "_law_unlike" (defArgs s_law_unlike) (defBody s_law_unlike) (defScope s_law_unlike) .none kV28 dc28 pm28 an28 cd28 ct28), sl28⟩)
    (c28 : PySem.W.codeIn K cd28 "_law_unlike" = true) (k28 : PySem.W.keepIn K (.ref f28) = true)
    (a29 : PySem.W.nsIn K mainGlobals "_law_turning" = some (some (.ref f29)))
    (l29 : K.lookup f29 = some ⟨oc29, od29, .func (PySem.W.fnOf "_law_turning" "_law_turning" (defArgs s_law_turning) (defBody s_law_turning) (defScope s_law_turning) .none kV29 dc29 pm29 an29 cd29 ct29), sl29⟩)
    (c29 : PySem.W.codeIn K cd29 "_law_turning" = true) (k29 : PySem.W.keepIn K (.ref f29) = true)
    (a30 : PySem.W.nsIn K mainGlobals "_law_meeting" = some (some (.ref f30)))
    (l30 : K.lookup f30 = some ⟨oc30, od30, .func (PySem.W.fnOf "_law_meeting" "_law_meeting" (defArgs s_law_meeting) (defBody s_law_meeting) (defScope s_law_meeting) .none kV30 dc30 pm30 an30 cd30 ct30), sl30⟩)
    (c30 : PySem.W.codeIn K cd30 "_law_meeting" = true) (k30 : PySem.W.keepIn K (.ref f30) = true)
    (a31 : PySem.W.nsIn K mainGlobals "_law_is_carry" = some (some (.ref f31)))
    (l31 : K.lookup f31 = some ⟨oc31, od31, .func (PySem.W.fnOf "_law_is_carry" "_law_is_carry" (defArgs s_law_is_carry) (defBody s_law_is_carry) (defScope s_law_is_carry) .none kV31 dc31 pm31 an31 cd31 ct31), sl31⟩)
    (c31 : PySem.W.codeIn K cd31 "_law_is_carry" = true) (k31 : PySem.W.keepIn K (.ref f31) = true)
    (a32 : PySem.W.nsIn K mainGlobals "_law_right" = some (some (.ref f32)))
    (l32 : K.lookup f32 = some ⟨oc32, od32, .func (PySem.W.fnOf "_law_right" "_law_right" (defArgs s_law_right) (defBody s_law_right) (defScope s_law_right) .none kV32 dc32 pm32 an32 cd32 ct32), sl32⟩)
    (c32 : PySem.W.codeIn K cd32 "_law_right" = true) (k32 : PySem.W.keepIn K (.ref f32) = true)
    (a33 : PySem.W.nsIn K mainGlobals "_law_kinds" = some (some (.ref f33)))
    (l33 : K.lookup f33 = some ⟨oc33, od33, .func (PySem.W.fnOf "_law_kinds" "_law_kinds" (defArgs s_law_kinds) (defBody s_law_kinds) (defScope s_law_kinds) .none kV33 dc33 pm33 an33 cd33 ct33), sl33⟩)
    (c33 : PySem.W.codeIn K cd33 "_law_kinds" = true) (k33 : PySem.W.keepIn K (.ref f33) = true)
    (a34 : PySem.W.nsIn K mainGlobals "_law_refused" = some (some (.ref f34)))
    (l34 : K.lookup f34 = some ⟨oc34, od34, .func (PySem.W.fnOf "_law_refused" "_law_refused" (defArgs s_law_refused) (defBody s_law_refused) (defScope s_law_refused) .none kV34 dc34 pm34 an34 cd34 ct34), sl34⟩)
    (c34 : PySem.W.codeIn K cd34 "_law_refused" = true) (k34 : PySem.W.keepIn K (.ref f34) = true)
    (a35 : PySem.W.nsIn K mainGlobals "law" = some (some (.ref f35)))
    (l35 : K.lookup f35 = some ⟨oc35, od35, .func (PySem.W.fnOf "law" "law" (defArgs s_law) (defBody s_law) (defScope s_law) .none kV35 dc35 pm35 an35 cd35 ct35), sl35⟩)
    (c35 : PySem.W.codeIn K cd35 "law" = true) (k35 : PySem.W.keepIn K (.ref f35) = true)
    (oa_Walk : PySem.W.nsIn K mainGlobals "Walk" = some (some (.ref CWalk)))
    (ma_Walk___init__ : PySem.W.findIn K (.ref CWalk) "__init__" = some (some (.ref fWalk___init__)))
    (mi_Walk___init__ : PySem.W.isFn K (.ref fWalk___init__) = true)
    (ml_Walk___init__ : K.lookup fWalk___init__ = some ⟨ocWalk___init__, odWalk___init__, .func (PySem.W.fnOf "__init__" "Walk.__init__" (defArgs sWalk___init__) (defBody sWalk___init__) (defScope sWalk___init__) .none kVWalk___init__ dcWalk___init__ pmWalk___init__ anWalk___init__ cdWalk___init__ ctWalk___init__), slWalk___init__⟩)
    (mc_Walk___init__ : PySem.W.codeIn K cdWalk___init__ "Walk.__init__" = true)
    (mk_Walk___init__ : PySem.W.keepIn K (.ref fWalk___init__) = true)
    (ma_Walk_meet : PySem.W.findIn K (.ref CWalk) "meet" = some (some (.ref fWalk_meet)))
    (mi_Walk_meet : PySem.W.isFn K (.ref fWalk_meet) = true)
    (ml_Walk_meet : K.lookup fWalk_meet = some ⟨ocWalk_meet, odWalk_meet, .func (PySem.W.fnOf "meet" "Walk.meet" (defArgs sWalk_meet) (defBody sWalk_meet) (defScope sWalk_meet) .none kVWalk_meet dcWalk_meet pmWalk_meet anWalk_meet cdWalk_meet ctWalk_meet), slWalk_meet⟩)
    (mc_Walk_meet : PySem.W.codeIn K cdWalk_meet "Walk.meet" = true)
    (mk_Walk_meet : PySem.W.keepIn K (.ref fWalk_meet) = true)
    (ma_Walk_bits_to : PySem.W.findIn K (.ref CWalk) "bits_to" = some (some (.ref fWalk_bits_to)))
    (mi_Walk_bits_to : PySem.W.isFn K (.ref fWalk_bits_to) = true)
    (ml_Walk_bits_to : K.lookup fWalk_bits_to = some ⟨ocWalk_bits_to, odWalk_bits_to, .func (PySem.W.fnOf "bits_to" "Walk.bits_to" (defArgs sWalk_bits_to) (defBody sWalk_bits_to) (defScope sWalk_bits_to) .none kVWalk_bits_to dcWalk_bits_to pmWalk_bits_to anWalk_bits_to cdWalk_bits_to ctWalk_bits_to), slWalk_bits_to⟩)
    (mc_Walk_bits_to : PySem.W.codeIn K cdWalk_bits_to "Walk.bits_to" = true)
    (mk_Walk_bits_to : PySem.W.keepIn K (.ref fWalk_bits_to) = true)
    (pg_Walk : PySem.W.plainGet K CWalk Str.empty = true)
    (hd_Walk : PySem.W.hasDictIn K CWalk = true)
    (po_Walk : PySem.W.plainOver K CWalk = true)
    (sa_Walk : PySem.W.findIn K (.ref CWalk) "__setattr__" = some (some (.builtin "object.__setattr__")))
    (mk_Walk : PySem.W.makesIn K CWalk = true)
    (kc_Walk : PySem.W.keepIn K (.ref CWalk) = true)
    (na_Walk_met : PySem.W.findIn K (.ref CWalk) "met" = some none)
    (na_Walk_numbers : PySem.W.findIn K (.ref CWalk) "numbers" = some none)
    (na_Walk_ways : PySem.W.findIn K (.ref CWalk) "ways" = some none)
    (a_WideError : PySem.W.nsIn K mainGlobals "WideError" = some (some (.ref cWideError)))
    (x_WideError : PySem.W.excIn K cWideError [.type "ValueError", .type "Exception", .type "BaseException", .type "object"] "ValueError.__new__" = true)
    (k_WideError : PySem.W.keepIn K (.ref cWideError) = true)
    (e1_WideError : PySem.W.findIn K (.ref cWideError) "__getattribute__" = some (some (.builtin "BaseException.__getattribute__")))
    (e2_WideError : PySem.W.findIn K (.ref cWideError) "__getattr__" = some none)
    (e3_WideError : PySem.W.subIn K (.ref cWideError) (.type "BaseException") = some true)
    (e4_WideError : PySem.W.hasDictIn K cWideError = true)
    (e5_WideError : PySem.W.findIn K (.ref cWideError) "__class__" = some (some (.builtin "object.__class__")))
    (e6_WideError : PySem.W.specialIn K (.builtin "object.__class__") "__get__" = some (some (.builtin "getset_descriptor.__get__")))
    (e7_WideError : PySem.W.takesIn K (.builtin "object.__class__") = some true)
    (e8_WideError : PySem.W.mroIn K cWideError (.type "object") = some true)
    (e9_WideError : PySem.W.isClsIn K cWideError = true)
    (e10_WideError : PySem.W.typeIn K (.ref cWideError) = some (.type "type"))
    (e11_WideError : PySem.W.subIn K (.ref cWideError) (.type "ValueError") = some true)
    (a_NoRow : PySem.W.nsIn K mainGlobals "NoRow" = some (some (.ref cNoRow)))
    (x_NoRow : PySem.W.excIn K cNoRow [.type "ValueError", .type "Exception", .type "BaseException", .type "object"] "ValueError.__new__" = true)
    (k_NoRow : PySem.W.keepIn K (.ref cNoRow) = true)
    (e1_NoRow : PySem.W.findIn K (.ref cNoRow) "__getattribute__" = some (some (.builtin "BaseException.__getattribute__")))
    (e2_NoRow : PySem.W.findIn K (.ref cNoRow) "__getattr__" = some none)
    (e3_NoRow : PySem.W.subIn K (.ref cNoRow) (.type "BaseException") = some true)
    (e4_NoRow : PySem.W.hasDictIn K cNoRow = true)
    (e5_NoRow : PySem.W.findIn K (.ref cNoRow) "__class__" = some (some (.builtin "object.__class__")))
    (e6_NoRow : PySem.W.specialIn K (.builtin "object.__class__") "__get__" = some (some (.builtin "getset_descriptor.__get__")))
    (e7_NoRow : PySem.W.takesIn K (.builtin "object.__class__") = some true)
    (e8_NoRow : PySem.W.mroIn K cNoRow (.type "object") = some true)
    (e9_NoRow : PySem.W.isClsIn K cNoRow = true)
    (e10_NoRow : PySem.W.typeIn K (.ref cNoRow) = some (.type "type"))
    (e11_NoRow : PySem.W.subIn K (.ref cNoRow) (.type "ValueError") = some true)
    (a_NoPair : PySem.W.nsIn K mainGlobals "NoPair" = some (some (.ref cNoPair)))
    (x_NoPair : PySem.W.excIn K cNoPair [.type "ValueError", .type "Exception", .type "BaseException", .type "object"] "ValueError.__new__" = true)
    (k_NoPair : PySem.W.keepIn K (.ref cNoPair) = true)
    (e1_NoPair : PySem.W.findIn K (.ref cNoPair) "__getattribute__" = some (some (.builtin "BaseException.__getattribute__")))
    (e2_NoPair : PySem.W.findIn K (.ref cNoPair) "__getattr__" = some none)
    (e3_NoPair : PySem.W.subIn K (.ref cNoPair) (.type "BaseException") = some true)
    (e4_NoPair : PySem.W.hasDictIn K cNoPair = true)
    (e5_NoPair : PySem.W.findIn K (.ref cNoPair) "__class__" = some (some (.builtin "object.__class__")))
    (e6_NoPair : PySem.W.specialIn K (.builtin "object.__class__") "__get__" = some (some (.builtin "getset_descriptor.__get__")))
    (e7_NoPair : PySem.W.takesIn K (.builtin "object.__class__") = some true)
    (e8_NoPair : PySem.W.mroIn K cNoPair (.type "object") = some true)
    (e9_NoPair : PySem.W.isClsIn K cNoPair = true)
    (e10_NoPair : PySem.W.typeIn K (.ref cNoPair) = some (.type "type"))
    (e11_NoPair : PySem.W.subIn K (.ref cNoPair) (.type "ValueError") = some true)
    (a_NoRule : PySem.W.nsIn K mainGlobals "NoRule" = some (some (.ref cNoRule)))
    (x_NoRule : PySem.W.excIn K cNoRule [.type "ValueError", .type "Exception", .type "BaseException", .type "object"] "ValueError.__new__" = true)
    (k_NoRule : PySem.W.keepIn K (.ref cNoRule) = true)
    (e1_NoRule : PySem.W.findIn K (.ref cNoRule) "__getattribute__" = some (some (.builtin "BaseException.__getattribute__")))
    (e2_NoRule : PySem.W.findIn K (.ref cNoRule) "__getattr__" = some none)
    (e3_NoRule : PySem.W.subIn K (.ref cNoRule) (.type "BaseException") = some true)
    (e4_NoRule : PySem.W.hasDictIn K cNoRule = true)
    (e5_NoRule : PySem.W.findIn K (.ref cNoRule) "__class__" = some (some (.builtin "object.__class__")))
    (e6_NoRule : PySem.W.specialIn K (.builtin "object.__class__") "__get__" = some (some (.builtin "getset_descriptor.__get__")))
    (e7_NoRule : PySem.W.takesIn K (.builtin "object.__class__") = some true)
    (e8_NoRule : PySem.W.mroIn K cNoRule (.type "object") = some true)
    (e9_NoRule : PySem.W.isClsIn K cNoRule = true)
    (e10_NoRule : PySem.W.typeIn K (.ref cNoRule) = some (.type "type"))
    (e11_NoRule : PySem.W.subIn K (.ref cNoRule) (.type "ValueError") = some true)
    (a_NoName : PySem.W.nsIn K mainGlobals "NoName" = some (some (.ref cNoName)))
    (x_NoName : PySem.W.excIn K cNoName [.type "ValueError", .type "Exception", .type "BaseException", .type "object"] "ValueError.__new__" = true)
    (k_NoName : PySem.W.keepIn K (.ref cNoName) = true)
    (e1_NoName : PySem.W.findIn K (.ref cNoName) "__getattribute__" = some (some (.builtin "BaseException.__getattribute__")))
    (e2_NoName : PySem.W.findIn K (.ref cNoName) "__getattr__" = some none)
    (e3_NoName : PySem.W.subIn K (.ref cNoName) (.type "BaseException") = some true)
    (e4_NoName : PySem.W.hasDictIn K cNoName = true)
    (e5_NoName : PySem.W.findIn K (.ref cNoName) "__class__" = some (some (.builtin "object.__class__")))
    (e6_NoName : PySem.W.specialIn K (.builtin "object.__class__") "__get__" = some (some (.builtin "getset_descriptor.__get__")))
    (e7_NoName : PySem.W.takesIn K (.builtin "object.__class__") = some true)
    (e8_NoName : PySem.W.mroIn K cNoName (.type "object") = some true)
    (e9_NoName : PySem.W.isClsIn K cNoName = true)
    (e10_NoName : PySem.W.typeIn K (.ref cNoName) = some (.type "type"))
    (e11_NoName : PySem.W.subIn K (.ref cNoName) (.type "ValueError") = some true)
    (a_NoText : PySem.W.nsIn K mainGlobals "NoText" = some (some (.ref cNoText)))
    (x_NoText : PySem.W.excIn K cNoText [.type "ValueError", .type "Exception", .type "BaseException", .type "object"] "ValueError.__new__" = true)
    (k_NoText : PySem.W.keepIn K (.ref cNoText) = true)
    (e1_NoText : PySem.W.findIn K (.ref cNoText) "__getattribute__" = some (some (.builtin "BaseException.__getattribute__")))
    (e2_NoText : PySem.W.findIn K (.ref cNoText) "__getattr__" = some none)
    (e3_NoText : PySem.W.subIn K (.ref cNoText) (.type "BaseException") = some true)
    (e4_NoText : PySem.W.hasDictIn K cNoText = true)
    (e5_NoText : PySem.W.findIn K (.ref cNoText) "__class__" = some (some (.builtin "object.__class__")))
    (e6_NoText : PySem.W.specialIn K (.builtin "object.__class__") "__get__" = some (some (.builtin "getset_descriptor.__get__")))
    (e7_NoText : PySem.W.takesIn K (.builtin "object.__class__") = some true)
    (e8_NoText : PySem.W.mroIn K cNoText (.type "object") = some true)
    (e9_NoText : PySem.W.isClsIn K cNoText = true)
    (e10_NoText : PySem.W.typeIn K (.ref cNoText) = some (.type "type"))
    (e11_NoText : PySem.W.subIn K (.ref cNoText) (.type "ValueError") = some true)
    (a_TooMany : PySem.W.nsIn K mainGlobals "TooMany" = some (some (.ref cTooMany)))
    (x_TooMany : PySem.W.excIn K cTooMany [.type "ValueError", .type "Exception", .type "BaseException", .type "object"] "ValueError.__new__" = true)
    (k_TooMany : PySem.W.keepIn K (.ref cTooMany) = true)
    (e1_TooMany : PySem.W.findIn K (.ref cTooMany) "__getattribute__" = some (some (.builtin "BaseException.__getattribute__")))
    (e2_TooMany : PySem.W.findIn K (.ref cTooMany) "__getattr__" = some none)
    (e3_TooMany : PySem.W.subIn K (.ref cTooMany) (.type "BaseException") = some true)
    (e4_TooMany : PySem.W.hasDictIn K cTooMany = true)
    (e5_TooMany : PySem.W.findIn K (.ref cTooMany) "__class__" = some (some (.builtin "object.__class__")))
    (e6_TooMany : PySem.W.specialIn K (.builtin "object.__class__") "__get__" = some (some (.builtin "getset_descriptor.__get__")))
    (e7_TooMany : PySem.W.takesIn K (.builtin "object.__class__") = some true)
    (e8_TooMany : PySem.W.mroIn K cTooMany (.type "object") = some true)
    (e9_TooMany : PySem.W.isClsIn K cTooMany = true)
    (e10_TooMany : PySem.W.typeIn K (.ref cTooMany) = some (.type "type"))
    (e11_TooMany : PySem.W.subIn K (.ref cTooMany) (.type "ValueError") = some true)
    (a_Nothing : PySem.W.nsIn K mainGlobals "Nothing" = some (some (.ref cNothing)))
    (x_Nothing : PySem.W.excIn K cNothing [.type "ValueError", .type "Exception", .type "BaseException", .type "object"] "ValueError.__new__" = true)
    (k_Nothing : PySem.W.keepIn K (.ref cNothing) = true)
    (e1_Nothing : PySem.W.findIn K (.ref cNothing) "__getattribute__" = some (some (.builtin "BaseException.__getattribute__")))
    (e2_Nothing : PySem.W.findIn K (.ref cNothing) "__getattr__" = some none)
    (e3_Nothing : PySem.W.subIn K (.ref cNothing) (.type "BaseException") = some true)
    (e4_Nothing : PySem.W.hasDictIn K cNothing = true)
    (e5_Nothing : PySem.W.findIn K (.ref cNothing) "__class__" = some (some (.builtin "object.__class__")))
    (e6_Nothing : PySem.W.specialIn K (.builtin "object.__class__") "__get__" = some (some (.builtin "getset_descriptor.__get__")))
    (e7_Nothing : PySem.W.takesIn K (.builtin "object.__class__") = some true)
    (e8_Nothing : PySem.W.mroIn K cNothing (.type "object") = some true)
    (e9_Nothing : PySem.W.isClsIn K cNothing = true)
    (e10_Nothing : PySem.W.typeIn K (.ref cNothing) = some (.type "type"))
    (e11_Nothing : PySem.W.subIn K (.ref cNothing) (.type "ValueError") = some true)
    (s_WideError_WideError : PySem.W.subIn K (.ref cWideError) (.ref cWideError) = some true)
    (s_WideError_NoRow : PySem.W.subIn K (.ref cWideError) (.ref cNoRow) = some false)
    (s_WideError_NoPair : PySem.W.subIn K (.ref cWideError) (.ref cNoPair) = some false)
    (s_WideError_NoRule : PySem.W.subIn K (.ref cWideError) (.ref cNoRule) = some false)
    (s_WideError_NoName : PySem.W.subIn K (.ref cWideError) (.ref cNoName) = some false)
    (s_WideError_NoText : PySem.W.subIn K (.ref cWideError) (.ref cNoText) = some false)
    (s_WideError_TooMany : PySem.W.subIn K (.ref cWideError) (.ref cTooMany) = some false)
    (s_WideError_Nothing : PySem.W.subIn K (.ref cWideError) (.ref cNothing) = some false)
    (s_NoRow_WideError : PySem.W.subIn K (.ref cNoRow) (.ref cWideError) = some true)
    (s_NoRow_NoRow : PySem.W.subIn K (.ref cNoRow) (.ref cNoRow) = some true)
    (s_NoRow_NoPair : PySem.W.subIn K (.ref cNoRow) (.ref cNoPair) = some false)
    (s_NoRow_NoRule : PySem.W.subIn K (.ref cNoRow) (.ref cNoRule) = some false)
    (s_NoRow_NoName : PySem.W.subIn K (.ref cNoRow) (.ref cNoName) = some false)
    (s_NoRow_NoText : PySem.W.subIn K (.ref cNoRow) (.ref cNoText) = some false)
    (s_NoRow_TooMany : PySem.W.subIn K (.ref cNoRow) (.ref cTooMany) = some false)
    (s_NoRow_Nothing : PySem.W.subIn K (.ref cNoRow) (.ref cNothing) = some false)
    (s_NoPair_WideError : PySem.W.subIn K (.ref cNoPair) (.ref cWideError) = some true)
    (s_NoPair_NoRow : PySem.W.subIn K (.ref cNoPair) (.ref cNoRow) = some false)
    (s_NoPair_NoPair : PySem.W.subIn K (.ref cNoPair) (.ref cNoPair) = some true)
    (s_NoPair_NoRule : PySem.W.subIn K (.ref cNoPair) (.ref cNoRule) = some false)
    (s_NoPair_NoName : PySem.W.subIn K (.ref cNoPair) (.ref cNoName) = some false)
    (s_NoPair_NoText : PySem.W.subIn K (.ref cNoPair) (.ref cNoText) = some false)
    (s_NoPair_TooMany : PySem.W.subIn K (.ref cNoPair) (.ref cTooMany) = some false)
    (s_NoPair_Nothing : PySem.W.subIn K (.ref cNoPair) (.ref cNothing) = some false)
    (s_NoRule_WideError : PySem.W.subIn K (.ref cNoRule) (.ref cWideError) = some true)
    (s_NoRule_NoRow : PySem.W.subIn K (.ref cNoRule) (.ref cNoRow) = some false)
    (s_NoRule_NoPair : PySem.W.subIn K (.ref cNoRule) (.ref cNoPair) = some false)
    (s_NoRule_NoRule : PySem.W.subIn K (.ref cNoRule) (.ref cNoRule) = some true)
    (s_NoRule_NoName : PySem.W.subIn K (.ref cNoRule) (.ref cNoName) = some false)
    (s_NoRule_NoText : PySem.W.subIn K (.ref cNoRule) (.ref cNoText) = some false)
    (s_NoRule_TooMany : PySem.W.subIn K (.ref cNoRule) (.ref cTooMany) = some false)
    (s_NoRule_Nothing : PySem.W.subIn K (.ref cNoRule) (.ref cNothing) = some false)
    (s_NoName_WideError : PySem.W.subIn K (.ref cNoName) (.ref cWideError) = some true)
    (s_NoName_NoRow : PySem.W.subIn K (.ref cNoName) (.ref cNoRow) = some false)
    (s_NoName_NoPair : PySem.W.subIn K (.ref cNoName) (.ref cNoPair) = some false)
    (s_NoName_NoRule : PySem.W.subIn K (.ref cNoName) (.ref cNoRule) = some false)
    (s_NoName_NoName : PySem.W.subIn K (.ref cNoName) (.ref cNoName) = some true)
    (s_NoName_NoText : PySem.W.subIn K (.ref cNoName) (.ref cNoText) = some false)
    (s_NoName_TooMany : PySem.W.subIn K (.ref cNoName) (.ref cTooMany) = some false)
    (s_NoName_Nothing : PySem.W.subIn K (.ref cNoName) (.ref cNothing) = some false)
    (s_NoText_WideError : PySem.W.subIn K (.ref cNoText) (.ref cWideError) = some true)
    (s_NoText_NoRow : PySem.W.subIn K (.ref cNoText) (.ref cNoRow) = some false)
    (s_NoText_NoPair : PySem.W.subIn K (.ref cNoText) (.ref cNoPair) = some false)
    (s_NoText_NoRule : PySem.W.subIn K (.ref cNoText) (.ref cNoRule) = some false)
    (s_NoText_NoName : PySem.W.subIn K (.ref cNoText) (.ref cNoName) = some false)
    (s_NoText_NoText : PySem.W.subIn K (.ref cNoText) (.ref cNoText) = some true)
    (s_NoText_TooMany : PySem.W.subIn K (.ref cNoText) (.ref cTooMany) = some false)
    (s_NoText_Nothing : PySem.W.subIn K (.ref cNoText) (.ref cNothing) = some false)
    (s_TooMany_WideError : PySem.W.subIn K (.ref cTooMany) (.ref cWideError) = some true)
    (s_TooMany_NoRow : PySem.W.subIn K (.ref cTooMany) (.ref cNoRow) = some false)
    (s_TooMany_NoPair : PySem.W.subIn K (.ref cTooMany) (.ref cNoPair) = some false)
    (s_TooMany_NoRule : PySem.W.subIn K (.ref cTooMany) (.ref cNoRule) = some false)
    (s_TooMany_NoName : PySem.W.subIn K (.ref cTooMany) (.ref cNoName) = some false)
    (s_TooMany_NoText : PySem.W.subIn K (.ref cTooMany) (.ref cNoText) = some false)
    (s_TooMany_TooMany : PySem.W.subIn K (.ref cTooMany) (.ref cTooMany) = some true)
    (s_TooMany_Nothing : PySem.W.subIn K (.ref cTooMany) (.ref cNothing) = some false)
    (s_Nothing_WideError : PySem.W.subIn K (.ref cNothing) (.ref cWideError) = some true)
    (s_Nothing_NoRow : PySem.W.subIn K (.ref cNothing) (.ref cNoRow) = some false)
    (s_Nothing_NoPair : PySem.W.subIn K (.ref cNothing) (.ref cNoPair) = some false)
    (s_Nothing_NoRule : PySem.W.subIn K (.ref cNothing) (.ref cNoRule) = some false)
    (s_Nothing_NoName : PySem.W.subIn K (.ref cNothing) (.ref cNoName) = some false)
    (s_Nothing_NoText : PySem.W.subIn K (.ref cNothing) (.ref cNoText) = some false)
    (s_Nothing_TooMany : PySem.W.subIn K (.ref cNothing) (.ref cTooMany) = some false)
    (s_Nothing_Nothing : PySem.W.subIn K (.ref cNothing) (.ref cNothing) = some true)
    (z_ValueError : PySem.W.nsIn K mainGlobals "ValueError" = some none)
    (z_abs : PySem.W.nsIn K mainGlobals "abs" = some none)
    (z_bool : PySem.W.nsIn K mainGlobals "bool" = some none)
    (z_enumerate : PySem.W.nsIn K mainGlobals "enumerate" = some none)
    (z_int : PySem.W.nsIn K mainGlobals "int" = some none)
    (z_isinstance : PySem.W.nsIn K mainGlobals "isinstance" = some none)
    (z_len : PySem.W.nsIn K mainGlobals "len" = some none)
    (z_list : PySem.W.nsIn K mainGlobals "list" = some none)
    (z_max : PySem.W.nsIn K mainGlobals "max" = some none)
    (z_min : PySem.W.nsIn K mainGlobals "min" = some none)
    (z_range : PySem.W.nsIn K mainGlobals "range" = some none)
    (z_repr : PySem.W.nsIn K mainGlobals "repr" = some none)
    (z_set : PySem.W.nsIn K mainGlobals "set" = some none)
    (z_sorted : PySem.W.nsIn K mainGlobals "sorted" = some none)
    (z_tuple : PySem.W.nsIn K mainGlobals "tuple" = some none)
    (z_zip : PySem.W.nsIn K mainGlobals "zip" = some none)
    : ∀ (s : Shared) (a : Addr) (ns : List Int) (base : Heap) (H : Hp), ns.length ≤ 63 → (∀ z ∈ ns, Builtin.Int.intBits z ≤ 1048576) → Env0 l.prog w K mg base callerA [] s H → SqL K H a (ns.map V.int) →
      codeAny (model l.prog w) callerA (.call (.ref fa) ⟨[.ref a], []⟩) (CR CX0 [] l.prog w H s (fun v _ => v = .bl true) E0) s := by
  have F_all_bits := fun_mk (st := s_all_bits) l0 c0 k0
  have b_all_bits := F_all_bits.binds (ps := ["many"]) fun _ _ _ _ _ _ us hl => match us, hl with | [_], _ => rfl
  have g_all_bits := PySem.W.mg_of X G a0
  have F_first_carry := fun_mk (st := s_first_carry) l1 c1 k1
  have b_first_carry := F_first_carry.binds (ps := ["row"]) fun _ _ _ _ _ _ us hl => match us, hl with | [_], _ => rfl
  have g_first_carry := PySem.W.mg_of X G a1
  have F_deed_bit := fun_mk (st := s_deed_bit) l2 c2 k2
  have b_deed_bit := F_deed_bit.binds (ps := ["deed", "held", "told"]) fun _ _ _ _ _ _ us hl => match us, hl with | [_, _, _], _ => rfl
  have g_deed_bit := PySem.W.mg_of X G a2
  have F_bits_of := fun_mk (st := s_bits_of) l3 c3 k3
  have b_bits_of := F_bits_of.binds (ps := ["row", "carry", "bits"]) fun _ _ _ _ _ _ us hl => match us, hl with | [_, _, _], _ => rfl
  have g_bits_of := PySem.W.mg_of X G a3
  have F_two_or_more := fun_mk (st := s_two_or_more) l4 c4 k4
  have b_two_or_more := F_two_or_more.binds (ps := ["one", "other", "third"]) fun _ _ _ _ _ _ us hl => match us, hl with | [_, _, _], _ => rfl
  have g_two_or_more := PySem.W.mg_of X G a4
  have F_deed_carry := fun_mk (st := s_deed_carry) l5 c5 k5
  have b_deed_carry := F_deed_carry.binds (ps := ["deed", "held", "told"]) fun _ _ _ _ _ _ us hl => match us, hl with | [_, _, _], _ => rfl
  have g_deed_carry := PySem.W.mg_of X G a5
  have F_carry_behind := fun_mk (st := s_carry_behind) l6 c6 k6
  have b_carry_behind := F_carry_behind.binds (ps := ["row", "carry", "told"]) fun _ _ _ _ _ _ us hl => match us, hl with | [_, _, _], _ => rfl
  have g_carry_behind := PySem.W.mg_of X G a6
  have F_steps := fun_mk (st := s_steps) l7 c7 k7
  have b_steps := F_steps.binds (ps := ["row", "carry"]) fun _ _ _ _ _ _ us hl => match us, hl with | [_, _], _ => rfl
  have g_steps := PySem.W.mg_of X G a7
  have F_kept_steps := fun_mk (st := s_kept_steps) l8 c8 k8
  have b_kept_steps := F_kept_steps.binds (ps := ["kept", "row", "carry"]) fun _ _ _ _ _ _ us hl => match us, hl with | [_, _, _], _ => rfl
  have g_kept_steps := PySem.W.mg_of X G a8
  have F_words_of := fun_mk (st := s_words_of) l9 c9 k9
  have b_words_of := F_words_of.binds (ps := ["many", "columns"]) fun _ _ _ _ _ _ us hl => match us, hl with | [_, _], _ => rfl
  have g_words_of := PySem.W.mg_of X G a9
  have F_check_single := fun_mk (st := s_check_single) l10 c10 k10
  have b_check_single := F_check_single.binds (ps := ["row"]) fun _ _ _ _ _ _ us hl => match us, hl with | [_], _ => rfl
  have g_check_single := PySem.W.mg_of X G a10
  have F_turned := fun_mk (st := s_turned) l11 c11 k11
  have b_turned := F_turned.binds (ps := ["row"]) fun _ _ _ _ _ _ us hl => match us, hl with | [_], _ => rfl
  have g_turned := PySem.W.mg_of X G a11
  have F_is_turning := fun_mk (st := s_is_turning) l12 c12 k12
  have b_is_turning := F_is_turning.binds (ps := ["row", "carries"]) fun _ _ _ _ _ _ us hl => match us, hl with | [_, _], _ => rfl
  have g_is_turning := PySem.W.mg_of X G a12
  have F_gone_up := fun_mk (st := s_gone_up) l13 c13 k13
  have b_gone_up := F_gone_up.binds (ps := ["row", "kept", "least", "place", "wanted"]) fun _ _ _ _ _ _ us hl => match us, hl with | [_, _, _, _, _], _ => rfl
  have g_gone_up := PySem.W.mg_of X G a13
  have F_gone_back := fun_mk (st := s_gone_back) l14 c14 k14
  have b_gone_back := F_gone_back.binds (ps := ["row", "width", "word"]) fun _ _ _ _ _ _ us hl => match us, hl with | [_, _, _], _ => rfl
  have g_gone_back := PySem.W.mg_of X G a14
  have F_law_tape := fun_mk (st := s_law_tape) l15 c15 k15
  have b_law_tape := F_law_tape.binds (ps := ["script", "start"]) fun _ _ _ _ _ _ us hl => match us, hl with | [_, _], _ => rfl
  have g_law_tape := PySem.W.mg_of X G a15
  have F_law_digit := fun_mk (st := s_law_digit) l16 c16 k16
  have b_law_digit := F_law_digit.binds (ps := ["tape", "many"]) fun _ _ _ _ _ _ us hl => match us, hl with | [_, _], _ => rfl
  have g_law_digit := PySem.W.mg_of X G a16
  have F_law_deed := fun_mk (st := s_law_deed) l17 c17 k17
  have b_law_deed := F_law_deed.binds (ps := ["tape", "ahead", "left"]) fun _ _ _ _ _ _ us hl => match us, hl with | [_, _, _], _ => rfl
  have g_law_deed := PySem.W.mg_of X G a17
  have F_law_carrying := fun_mk (st := s_law_carrying) l18 c18 k18
  have b_law_carrying := F_law_carrying.binds (ps := ["deeds"]) fun _ _ _ _ _ _ us hl => match us, hl with | [_], _ => rfl
  have g_law_carrying := PySem.W.mg_of X G a18
  have F_law_row := fun_mk (st := s_law_row) l19 c19 k19
  have b_law_row := F_law_row.binds (ps := ["tape", "many", "most", "left"]) fun _ _ _ _ _ _ us hl => match us, hl with | [_, _, _, _], _ => rfl
  have g_law_row := PySem.W.mg_of X G a19
  have F_law_value := fun_mk (st := s_law_value) l20 c20 k20
  have b_law_value := F_law_value.binds (ps := ["deed", "told", "full"]) fun _ _ _ _ _ _ us hl => match us, hl with | [_, _, _], _ => rfl
  have g_law_value := PySem.W.mg_of X G a20
  have F_law_values := fun_mk (st := s_law_values) l21 c21 k21
  have b_law_values := F_law_values.binds (ps := ["row", "width", "words"]) fun _ _ _ _ _ _ us hl => match us, hl with | [_, _, _], _ => rfl
  have g_law_values := PySem.W.mg_of X G a21
  have F_law_bit := fun_mk (st := s_law_bit) l22 c22 k22
  have b_law_bit := F_law_bit.binds (ps := ["deed", "carry", "bits"]) fun _ _ _ _ _ _ us hl => match us, hl with | [_, _, _], _ => rfl
  have g_law_bit := PySem.W.mg_of X G a22
  have F_law_carry := fun_mk (st := s_law_carry) l23 c23 k23
  have b_law_carry := F_law_carry.binds (ps := ["deed", "carry", "bits"]) fun _ _ _ _ _ _ us hl => match us, hl with | [_, _, _], _ => rfl
  have g_law_carry := PySem.W.mg_of X G a23
  have F_law_step := fun_mk (st := s_law_step) l24 c24 k24
  have b_law_step := F_law_step.binds (ps := ["row", "carry", "bits"]) fun _ _ _ _ _ _ us hl => match us, hl with | [_, _, _], _ => rfl
  have g_law_step := PySem.W.mg_of X G a24
  have F_law_first := fun_mk (st := s_law_first) l25 c25 k25
  have b_law_first := F_law_first.binds (ps := ["row"]) fun _ _ _ _ _ _ us hl => match us, hl with | [_], _ => rfl
  have g_law_first := PySem.W.mg_of X G a25
  have F_law_bent := fun_mk (st := s_law_bent) l26 c26 k26
  have b_law_bent := F_law_bent.binds (ps := ["tape", "row"]) fun _ _ _ _ _ _ us hl => match us, hl with | [_, _], _ => rfl
  have g_law_bent := PySem.W.mg_of X G a26
  have F_law_turning_row := fun_mk (st := s_law_turning_row) l27 c27 k27
  have b_law_turning_row := F_law_turning_row.binds (ps := ["tape"]) fun _ _ _ _ _ _ us hl => match us, hl with | [_], _ => rfl
  have g_law_turning_row := PySem.W.mg_of X G a27
  have F_law_unlike := fun_mk (st := s_law_unlike) l28 c28 k28
  have b_law_unlike := F_law_unlike.binds (ps := ["row", "carry"]) fun _ _ _ _ _ _ us hl => match us, hl with | [_, _], _ => rfl
  have g_law_unlike := PySem.W.mg_of X G a28
  have F_law_turning := fun_mk (st := s_law_turning) l29 c29 k29
  have b_law_turning := F_law_turning.binds (ps := ["row", "told"]) fun _ _ _ _ _ _ us hl => match us, hl with | [_, _], _ => rfl
  have g_law_turning := PySem.W.mg_of X G a29
  have F_law_meeting := fun_mk (st := s_law_meeting) l30 c30 k30
  have b_law_meeting := F_law_meeting.binds (ps := ["row"]) fun _ _ _ _ _ _ us hl => match us, hl with | [_], _ => rfl
  have g_law_meeting := PySem.W.mg_of X G a30
  have F_law_is_carry := fun_mk (st := s_law_is_carry) l31 c31 k31
  have b_law_is_carry := F_law_is_carry.binds (ps := ["row", "thing"]) fun _ _ _ _ _ _ us hl => match us, hl with | [_, _], _ => rfl
  have g_law_is_carry := PySem.W.mg_of X G a31
  have F_law_right := fun_mk (st := s_law_right) l32 c32 k32
  have b_law_right := F_law_right.binds (ps := ["row", "found"]) fun _ _ _ _ _ _ us hl => match us, hl with | [_, _], _ => rfl
  have g_law_right := PySem.W.mg_of X G a32
  have F_law_kinds := fun_mk (st := s_law_kinds) l33 c33 k33
  have b_law_kinds := F_law_kinds.binds (ps := ["caught"]) fun _ _ _ _ _ _ us hl => match us, hl with | [_], _ => rfl
  have g_law_kinds := PySem.W.mg_of X G a33
  have F_law_refused := fun_mk (st := s_law_refused) l34 c34 k34
  have b_law_refused := F_law_refused.binds (ps := ["row", "way", "told", "asked"]) fun _ _ _ _ _ _ us hl => match us, hl with | [_, _, _, _], _ => rfl
  have g_law_refused := PySem.W.mg_of X G a34
  have F_law := fun_mk (st := s_law) l35 c35 k35
  have b_law := F_law.binds (ps := ["script"]) fun _ _ _ _ _ _ us hl => match us, hl with | [_], _ => rfl
  obtain rfl : fa = f35 := by
    have e := hfa.symm.trans (PySem.W.mg_of X G a35)
    cases e
    rfl
  have FWalk___init__ := fun_mk (st := sWalk___init__) ml_Walk___init__ mc_Walk___init__ mk_Walk___init__
  have MWalk___init__ : Meth K CWalk "__init__" fWalk___init__ := ⟨ma_Walk___init__, mi_Walk___init__, mk_Walk___init__⟩
  have FWalk_meet := fun_mk (st := sWalk_meet) ml_Walk_meet mc_Walk_meet mk_Walk_meet
  have MWalk_meet : Meth K CWalk "meet" fWalk_meet := ⟨ma_Walk_meet, mi_Walk_meet, mk_Walk_meet⟩
  have FWalk_bits_to := fun_mk (st := sWalk_bits_to) ml_Walk_bits_to mc_Walk_bits_to mk_Walk_bits_to
  have MWalk_bits_to : Meth K CWalk "bits_to" fWalk_bits_to := ⟨ma_Walk_bits_to, mi_Walk_bits_to, mk_Walk_bits_to⟩
  have TWalk : Cls K CWalk := ⟨pg_Walk, hd_Walk, po_Walk, sa_Walk⟩
  have gWalk := PySem.W.mg_of X G oa_Walk
  have KWalk : Mk K CWalk fWalk___init__ := ⟨mk_Walk, ma_Walk___init__, mi_Walk___init__, kc_Walk⟩
  have g_WideError := PySem.W.mg_of X G a_WideError
  have X_WideError : ExcC K cWideError := ⟨e1_WideError, e2_WideError, e3_WideError, e4_WideError, e5_WideError, e6_WideError, e7_WideError, e8_WideError⟩
  have g_NoRow := PySem.W.mg_of X G a_NoRow
  have X_NoRow : ExcC K cNoRow := ⟨e1_NoRow, e2_NoRow, e3_NoRow, e4_NoRow, e5_NoRow, e6_NoRow, e7_NoRow, e8_NoRow⟩
  have g_NoPair := PySem.W.mg_of X G a_NoPair
  have X_NoPair : ExcC K cNoPair := ⟨e1_NoPair, e2_NoPair, e3_NoPair, e4_NoPair, e5_NoPair, e6_NoPair, e7_NoPair, e8_NoPair⟩
  have g_NoRule := PySem.W.mg_of X G a_NoRule
  have X_NoRule : ExcC K cNoRule := ⟨e1_NoRule, e2_NoRule, e3_NoRule, e4_NoRule, e5_NoRule, e6_NoRule, e7_NoRule, e8_NoRule⟩
  have g_NoName := PySem.W.mg_of X G a_NoName
  have X_NoName : ExcC K cNoName := ⟨e1_NoName, e2_NoName, e3_NoName, e4_NoName, e5_NoName, e6_NoName, e7_NoName, e8_NoName⟩
  have g_NoText := PySem.W.mg_of X G a_NoText
  have X_NoText : ExcC K cNoText := ⟨e1_NoText, e2_NoText, e3_NoText, e4_NoText, e5_NoText, e6_NoText, e7_NoText, e8_NoText⟩
  have g_TooMany := PySem.W.mg_of X G a_TooMany
  have X_TooMany : ExcC K cTooMany := ⟨e1_TooMany, e2_TooMany, e3_TooMany, e4_TooMany, e5_TooMany, e6_TooMany, e7_TooMany, e8_TooMany⟩
  have g_Nothing := PySem.W.mg_of X G a_Nothing
  have X_Nothing : ExcC K cNothing := ⟨e1_Nothing, e2_Nothing, e3_Nothing, e4_Nothing, e5_Nothing, e6_Nothing, e7_Nothing, e8_Nothing⟩
  have t_WideError_WideError := kit_ref e9_WideError e10_WideError s_WideError_WideError s_WideError_WideError
  have t_WideError_NoRow := kit_ref e9_NoRow e10_NoRow s_WideError_NoRow s_NoRow_NoRow
  have t_WideError_NoPair := kit_ref e9_NoPair e10_NoPair s_WideError_NoPair s_NoPair_NoPair
  have t_WideError_NoRule := kit_ref e9_NoRule e10_NoRule s_WideError_NoRule s_NoRule_NoRule
  have t_WideError_NoName := kit_ref e9_NoName e10_NoName s_WideError_NoName s_NoName_NoName
  have t_WideError_NoText := kit_ref e9_NoText e10_NoText s_WideError_NoText s_NoText_NoText
  have t_WideError_TooMany := kit_ref e9_TooMany e10_TooMany s_WideError_TooMany s_TooMany_TooMany
  have t_WideError_Nothing := kit_ref e9_Nothing e10_Nothing s_WideError_Nothing s_Nothing_Nothing
  have v_WideError := kit_ve e11_WideError
  have t_NoRow_WideError := kit_ref e9_WideError e10_WideError s_NoRow_WideError s_WideError_WideError
  have t_NoRow_NoRow := kit_ref e9_NoRow e10_NoRow s_NoRow_NoRow s_NoRow_NoRow
  have t_NoRow_NoPair := kit_ref e9_NoPair e10_NoPair s_NoRow_NoPair s_NoPair_NoPair
  have t_NoRow_NoRule := kit_ref e9_NoRule e10_NoRule s_NoRow_NoRule s_NoRule_NoRule
  have t_NoRow_NoName := kit_ref e9_NoName e10_NoName s_NoRow_NoName s_NoName_NoName
  have t_NoRow_NoText := kit_ref e9_NoText e10_NoText s_NoRow_NoText s_NoText_NoText
  have t_NoRow_TooMany := kit_ref e9_TooMany e10_TooMany s_NoRow_TooMany s_TooMany_TooMany
  have t_NoRow_Nothing := kit_ref e9_Nothing e10_Nothing s_NoRow_Nothing s_Nothing_Nothing
  have v_NoRow := kit_ve e11_NoRow
  have t_NoPair_WideError := kit_ref e9_WideError e10_WideError s_NoPair_WideError s_WideError_WideError
  have t_NoPair_NoRow := kit_ref e9_NoRow e10_NoRow s_NoPair_NoRow s_NoRow_NoRow
  have t_NoPair_NoPair := kit_ref e9_NoPair e10_NoPair s_NoPair_NoPair s_NoPair_NoPair
  have t_NoPair_NoRule := kit_ref e9_NoRule e10_NoRule s_NoPair_NoRule s_NoRule_NoRule
  have t_NoPair_NoName := kit_ref e9_NoName e10_NoName s_NoPair_NoName s_NoName_NoName
  have t_NoPair_NoText := kit_ref e9_NoText e10_NoText s_NoPair_NoText s_NoText_NoText
  have t_NoPair_TooMany := kit_ref e9_TooMany e10_TooMany s_NoPair_TooMany s_TooMany_TooMany
  have t_NoPair_Nothing := kit_ref e9_Nothing e10_Nothing s_NoPair_Nothing s_Nothing_Nothing
  have v_NoPair := kit_ve e11_NoPair
  have t_NoRule_WideError := kit_ref e9_WideError e10_WideError s_NoRule_WideError s_WideError_WideError
  have t_NoRule_NoRow := kit_ref e9_NoRow e10_NoRow s_NoRule_NoRow s_NoRow_NoRow
  have t_NoRule_NoPair := kit_ref e9_NoPair e10_NoPair s_NoRule_NoPair s_NoPair_NoPair
  have t_NoRule_NoRule := kit_ref e9_NoRule e10_NoRule s_NoRule_NoRule s_NoRule_NoRule
  have t_NoRule_NoName := kit_ref e9_NoName e10_NoName s_NoRule_NoName s_NoName_NoName
  have t_NoRule_NoText := kit_ref e9_NoText e10_NoText s_NoRule_NoText s_NoText_NoText
  have t_NoRule_TooMany := kit_ref e9_TooMany e10_TooMany s_NoRule_TooMany s_TooMany_TooMany
  have t_NoRule_Nothing := kit_ref e9_Nothing e10_Nothing s_NoRule_Nothing s_Nothing_Nothing
  have v_NoRule := kit_ve e11_NoRule
  have t_NoName_WideError := kit_ref e9_WideError e10_WideError s_NoName_WideError s_WideError_WideError
  have t_NoName_NoRow := kit_ref e9_NoRow e10_NoRow s_NoName_NoRow s_NoRow_NoRow
  have t_NoName_NoPair := kit_ref e9_NoPair e10_NoPair s_NoName_NoPair s_NoPair_NoPair
  have t_NoName_NoRule := kit_ref e9_NoRule e10_NoRule s_NoName_NoRule s_NoRule_NoRule
  have t_NoName_NoName := kit_ref e9_NoName e10_NoName s_NoName_NoName s_NoName_NoName
  have t_NoName_NoText := kit_ref e9_NoText e10_NoText s_NoName_NoText s_NoText_NoText
  have t_NoName_TooMany := kit_ref e9_TooMany e10_TooMany s_NoName_TooMany s_TooMany_TooMany
  have t_NoName_Nothing := kit_ref e9_Nothing e10_Nothing s_NoName_Nothing s_Nothing_Nothing
  have v_NoName := kit_ve e11_NoName
  have t_NoText_WideError := kit_ref e9_WideError e10_WideError s_NoText_WideError s_WideError_WideError
  have t_NoText_NoRow := kit_ref e9_NoRow e10_NoRow s_NoText_NoRow s_NoRow_NoRow
  have t_NoText_NoPair := kit_ref e9_NoPair e10_NoPair s_NoText_NoPair s_NoPair_NoPair
  have t_NoText_NoRule := kit_ref e9_NoRule e10_NoRule s_NoText_NoRule s_NoRule_NoRule
  have t_NoText_NoName := kit_ref e9_NoName e10_NoName s_NoText_NoName s_NoName_NoName
  have t_NoText_NoText := kit_ref e9_NoText e10_NoText s_NoText_NoText s_NoText_NoText
  have t_NoText_TooMany := kit_ref e9_TooMany e10_TooMany s_NoText_TooMany s_TooMany_TooMany
  have t_NoText_Nothing := kit_ref e9_Nothing e10_Nothing s_NoText_Nothing s_Nothing_Nothing
  have v_NoText := kit_ve e11_NoText
  have t_TooMany_WideError := kit_ref e9_WideError e10_WideError s_TooMany_WideError s_WideError_WideError
  have t_TooMany_NoRow := kit_ref e9_NoRow e10_NoRow s_TooMany_NoRow s_NoRow_NoRow
  have t_TooMany_NoPair := kit_ref e9_NoPair e10_NoPair s_TooMany_NoPair s_NoPair_NoPair
  have t_TooMany_NoRule := kit_ref e9_NoRule e10_NoRule s_TooMany_NoRule s_NoRule_NoRule
  have t_TooMany_NoName := kit_ref e9_NoName e10_NoName s_TooMany_NoName s_NoName_NoName
  have t_TooMany_NoText := kit_ref e9_NoText e10_NoText s_TooMany_NoText s_NoText_NoText
  have t_TooMany_TooMany := kit_ref e9_TooMany e10_TooMany s_TooMany_TooMany s_TooMany_TooMany
  have t_TooMany_Nothing := kit_ref e9_Nothing e10_Nothing s_TooMany_Nothing s_Nothing_Nothing
  have v_TooMany := kit_ve e11_TooMany
  have t_Nothing_WideError := kit_ref e9_WideError e10_WideError s_Nothing_WideError s_WideError_WideError
  have t_Nothing_NoRow := kit_ref e9_NoRow e10_NoRow s_Nothing_NoRow s_NoRow_NoRow
  have t_Nothing_NoPair := kit_ref e9_NoPair e10_NoPair s_Nothing_NoPair s_NoPair_NoPair
  have t_Nothing_NoRule := kit_ref e9_NoRule e10_NoRule s_Nothing_NoRule s_NoRule_NoRule
  have t_Nothing_NoName := kit_ref e9_NoName e10_NoName s_Nothing_NoName s_NoName_NoName
  have t_Nothing_NoText := kit_ref e9_NoText e10_NoText s_Nothing_NoText s_NoText_NoText
  have t_Nothing_TooMany := kit_ref e9_TooMany e10_TooMany s_Nothing_TooMany s_TooMany_TooMany
  have t_Nothing_Nothing := kit_ref e9_Nothing e10_Nothing s_Nothing_Nothing s_Nothing_Nothing
  have v_Nothing := kit_ve e11_Nothing
  have m_ValueError := PySem.W.mg_none_of X G z_ValueError
  have m_abs := PySem.W.mg_none_of X G z_abs
  have m_bool := PySem.W.mg_none_of X G z_bool
  have m_enumerate := PySem.W.mg_none_of X G z_enumerate
  have m_int := PySem.W.mg_none_of X G z_int
  have m_isinstance := PySem.W.mg_none_of X G z_isinstance
  have m_len := PySem.W.mg_none_of X G z_len
  have m_list := PySem.W.mg_none_of X G z_list
  have m_max := PySem.W.mg_none_of X G z_max
  have m_min := PySem.W.mg_none_of X G z_min
  have m_range := PySem.W.mg_none_of X G z_range
  have m_repr := PySem.W.mg_none_of X G z_repr
  have m_set := PySem.W.mg_none_of X G z_set
  have m_sorted := PySem.W.mg_none_of X G z_sorted
  have m_tuple := PySem.W.mg_none_of X G z_tuple
  have m_zip := PySem.W.mg_none_of X G z_zip
  intro s a ns base H hlen hbits e0 hS
  have GT := ok_tape (P := l.prog) (w := w) (mg := mg) (base := base) (k := 0) F_law_tape m_abs m_len
  have GD := ok_digit (P := l.prog) (w := w) (mg := mg) (base := base) (k := 0) F_law_digit
  have GE := ok_td (P := l.prog) (w := w) (mg := mg) (base := base) (k := 0) F_law_deed GD F_law_digit.kp b_law_digit g_law_digit
  have GCr := ok_cr (P := l.prog) (w := w) (mg := mg) (base := base) (k := 0) F_law_carrying m_len
  have GR := ok_tr (P := l.prog) (w := w) (mg := mg) (base := base) (k := 0) F_law_row GD F_law_digit.kp GE F_law_deed.kp GCr F_law_carrying.kp b_law_digit b_law_deed b_law_carrying g_law_digit g_law_deed g_law_carrying m_tuple m_range m_len
  have GBe := ok_be (P := l.prog) (w := w) (mg := mg) (base := base) (k := 0) F_law_bent GD F_law_digit.kp GE F_law_deed.kp b_law_digit b_law_deed g_law_digit g_law_deed m_len
  have GTn := ok_tn (P := l.prog) (w := w) (mg := mg) (base := base) (k := 0) F_law_turning_row GD F_law_digit.kp b_law_digit g_law_digit GR F_law_row.kp b_law_row g_law_row GBe F_law_bent.kp b_law_bent g_law_bent m_range m_len m_tuple
  have GF := ok_fc (P := l.prog) (w := w) (mg := mg) (base := base) (k := 0) F_first_carry m_tuple
  have GDb := ok_db (P := l.prog) (w := w) (mg := mg) (base := base) (k := 0) F_deed_bit
  have GB := ok_bo (P := l.prog) (w := w) (mg := mg) (base := base) (k := 0) F_bits_of GDb F_deed_bit.kp b_deed_bit g_deed_bit m_list m_tuple m_zip
  have GTm := ok_tm (P := l.prog) (w := w) (mg := mg) (base := base) (k := 0) F_two_or_more
  have GDc := ok_dc (P := l.prog) (w := w) (mg := mg) (base := base) (k := 0) F_deed_carry GTm F_two_or_more.kp b_two_or_more g_two_or_more
  have GCb := ok_cb (P := l.prog) (w := w) (mg := mg) (base := base) (k := 0) F_carry_behind GDc F_deed_carry.kp b_deed_carry g_deed_carry m_tuple m_zip
  have GAl := ok_all (P := l.prog) (w := w) (mg := mg) (base := base) (k := 0) F_all_bits m_range
  have GSt := ok_st (P := l.prog) (w := w) (mg := mg) (base := base) (k := 0) F_steps GAl F_all_bits.kp b_all_bits g_all_bits GB F_bits_of.kp b_bits_of g_bits_of GCb F_carry_behind.kp b_carry_behind g_carry_behind
  have WT : WCls K mg CWalk := ⟨TWalk, na_Walk_met, na_Walk_numbers, na_Walk_ways, gWalk⟩
  have bI := FWalk___init__.binds (ps := ["self", "first"]) fun _ _ _ _ _ _ us hl => match us, hl with | [_, _], _ => rfl
  have bM := FWalk_meet.binds (ps := ["self", "thing", "ahead", "bits"]) fun _ _ _ _ _ _ us hl => match us, hl with | [_, _, _, _], _ => rfl
  have bTo := FWalk_bits_to.binds (ps := ["self", "number"]) fun _ _ _ _ _ _ us hl => match us, hl with | [_, _], _ => rfl
  have GI := ok_wi (P := l.prog) (w := w) (mg := mg) (base := base) (k := 0) FWalk___init__ WT
  have GM := ok_wm (P := l.prog) (w := w) (mg := mg) (base := base) (k := 0) FWalk_meet WT m_len
  have GTo := ok_bt (P := l.prog) (w := w) (mg := mg) (base := base) (k := 0) FWalk_bits_to WT
  have GWf := ok_wf (P := l.prog) (w := w) (mg := mg) (base := base) (k := 0) F_words_of m_enumerate
  have GLw := ok_lw (P := l.prog) (w := w) (mg := mg) (base := base) (k := 0) F_law_value
  have GV := ok_lvs (P := l.prog) (w := w) (mg := mg) (base := base) (k := 0) F_law_values GLw F_law_value.kp b_law_value g_law_value m_list
  have GLb := ok_lb (P := l.prog) (w := w) (mg := mg) (base := base) (k := 0) F_law_bit m_int m_max
  have GLc := ok_lc (P := l.prog) (w := w) (mg := mg) (base := base) (k := 0) F_law_carry m_int
  have GLs := ok_ls (P := l.prog) (w := w) (mg := mg) (base := base) (k := 0) F_law_step GLb F_law_bit.kp b_law_bit g_law_bit GLc F_law_carry.kp b_law_carry g_law_carry m_list m_tuple m_zip
  have GLf := ok_lf (P := l.prog) (w := w) (mg := mg) (base := base) (k := 0) F_law_first m_tuple m_int
  have GIc := ok_ic (P := l.prog) (w := w) (mg := mg) (base := base) (k := 0) F_law_is_carry m_isinstance m_tuple m_len m_int
  have rR : Rai K mg "NoRow" cNoRow := ⟨x_NoRow, g_NoRow, k_NoRow, e3_NoRow, e10_NoRow⟩
  have GCs := ok_csX (P := l.prog) (w := w) (base := base) (k := 0) F_check_single rR
  have GTu := ok_tu (P := l.prog) (w := w) (mg := mg) (base := base) (k := 0) F_turned WT GCs F_check_single.kp b_check_single g_check_single GF F_first_carry.kp b_first_carry g_first_carry GSt F_steps.kp b_steps g_steps GWf F_words_of.kp b_words_of g_words_of KWalk GI bI MWalk_meet GM bM MWalk_bits_to GTo bTo m_len
  have GIt := ok_itX (P := l.prog) (w := w) (mg := mg) (base := base) (k := 0) F_is_turning GCs F_check_single.kp b_check_single g_check_single
  have GGb := ok_gbX (P := l.prog) (w := w) (mg := mg) (base := base) (k := 0) F_gone_back GCs F_check_single.kp b_check_single g_check_single
  have GUl := ok_ul (P := l.prog) (w := w) (mg := mg) (base := base) (k := 0) F_law_unlike GLs F_law_step.kp b_law_step g_law_step
  have GTg := ok_tg (P := l.prog) (w := w) (mg := mg) (base := base) (k := 0) F_law_turning GLf F_law_first.kp b_law_first g_law_first GUl F_law_unlike.kp b_law_unlike g_law_unlike GLs F_law_step.kp b_law_step g_law_step
  have GMt := ok_mt (P := l.prog) (w := w) (mg := mg) (base := base) (k := 0) F_law_meeting GLf F_law_first.kp b_law_first g_law_first GUl F_law_unlike.kp b_law_unlike g_law_unlike GLs F_law_step.kp b_law_step g_law_step m_list
  have GRt := ok_rt (P := l.prog) (w := w) (mg := mg) (base := base) (k := 0) F_law_right GMt F_law_meeting.kp b_law_meeting g_law_meeting GIc F_law_is_carry.kp b_law_is_carry g_law_is_carry GTg F_law_turning.kp b_law_turning g_law_turning GV F_law_values.kp b_law_values g_law_values m_isinstance m_tuple m_list m_len m_int m_bool m_repr
  have KX : KR8 K mg cWideError cNoRow cNoName cNoPair cNoRule cNoText cNothing cTooMany := ⟨g_WideError, g_NoRow, g_NoName, g_NoPair, g_NoRule, g_NoText, g_Nothing, g_TooMany, X_NoRow, PySem.W.exm_ref e3_WideError e4_WideError e10_WideError s_NoRow_WideError, t_NoRow_NoName, t_NoRow_NoPair, t_NoRow_NoRule, t_NoRow_NoText, t_NoRow_Nothing, t_NoRow_TooMany, v_NoRow, t_NoRow_NoRow⟩
  have GK8 := ok_k8R (P := l.prog) (w := w) (base := base) (k := 0) F_law_kinds KX m_isinstance m_ValueError
  have GRf := ok_rfC (P := l.prog) (w := w) (base := base) (k := 0) F_law_refused KX GTu F_turned.kp b_turned g_turned GIt F_is_turning.kp b_is_turning g_is_turning GGb F_gone_back.kp b_gone_back g_gone_back GK8 F_law_kinds.kp b_law_kinds g_law_kinds m_list
  exact law_run F_law b_law GT F_law_tape.kp b_law_tape g_law_tape GD F_law_digit.kp b_law_digit g_law_digit GTn F_law_turning_row.kp b_law_turning_row g_law_turning_row GR F_law_row.kp b_law_row g_law_row GLf F_law_first.kp b_law_first g_law_first GTu F_turned.kp b_turned g_turned GRt F_law_right.kp b_law_right g_law_right GRf F_law_refused.kp b_law_refused g_law_refused m_range m_len m_max m_min m_tuple hlen hbits e0 hS
end
end KK
open PySem PySem.W PyProof.Rows
set_option maxHeartbeats 0 in
theorem PySem.Challenge.cw_anywide_k36_one_to_one_or_meet_holds : PySem.Challenge.rw_anywide_k36_one_to_one_or_meet.Holds := by
  w_on; o_law; k_head; (case hw => w_witness2)
  k_fill
  refine AW.walkG (l := PySem.Challenge.rw_anywide_k36_one_to_one_or_meet) (n := 63) rfl (by decide) rfl (fun w h Y => PySem.W.kIn_of Y) ?F
  case F =>
    intro w mg fa h KX G hmg
    refine' KK.all_mk KX G hmg ?a0 ?l0 ?c0 ?k0 ?a1 ?l1 ?c1 ?k1 ?a2 ?l2 ?c2 ?k2 ?a3 ?l3 ?c3 ?k3 ?a4 ?l4 ?c4 ?k4 ?a5 ?l5 ?c5 ?k5 ?a6 ?l6 ?c6 ?k6 ?a7 ?l7 ?c7 ?k7 ?a8 ?l8 ?c8 ?k8 ?a9 ?l9 ?c9 ?k9 ?a10 ?l10 ?c10 ?k10 ?a11 ?l11 ?c11 ?k11 ?a12 ?l12 ?c12 ?k12 ?a13 ?l13 ?c13 ?k13 ?a14 ?l14 ?c14 ?k14 ?a15 ?l15 ?c15 ?k15 ?a16 ?l16 ?c16 ?k16 ?a17 ?l17 ?c17 ?k17 ?a18 ?l18 ?c18 ?k18 ?a19 ?l19 ?c19 ?k19 ?a20 ?l20 ?c20 ?k20 ?a21 ?l21 ?c21 ?k21 ?a22 ?l22 ?c22 ?k22 ?a23 ?l23 ?c23 ?k23 ?a24 ?l24 ?c24 ?k24 ?a25 ?l25 ?c25 ?k25 ?a26 ?l26 ?c26 ?k26 ?a27 ?l27 ?c27 ?k27 ?a28 ?l28 ?c28 ?k28 ?a29 ?l29 ?c29 ?k29 ?a30 ?l30 ?c30 ?k30 ?a31 ?l31 ?c31 ?k31 ?a32 ?l32 ?c32 ?k32 ?a33 ?l33 ?c33 ?k33 ?a34 ?l34 ?c34 ?k34 ?a35 ?l35 ?c35 ?k35 ?oa_Walk ?ma_Walk___init__ ?mi_Walk___init__ ?ml_Walk___init__ ?mc_Walk___init__ ?mk_Walk___init__ ?ma_Walk_meet ?mi_Walk_meet ?ml_Walk_meet ?mc_Walk_meet ?mk_Walk_meet ?ma_Walk_bits_to ?mi_Walk_bits_to ?ml_Walk_bits_to ?mc_Walk_bits_to ?mk_Walk_bits_to ?pg_Walk ?hd_Walk ?po_Walk ?sa_Walk ?mk_Walk ?kc_Walk ?na_Walk_met ?na_Walk_numbers ?na_Walk_ways ?a_WideError ?x_WideError ?k_WideError ?e1_WideError ?e2_WideError ?e3_WideError ?e4_WideError ?e5_WideError ?e6_WideError ?e7_WideError ?e8_WideError ?e9_WideError ?e10_WideError ?e11_WideError ?a_NoRow ?x_NoRow ?k_NoRow ?e1_NoRow ?e2_NoRow ?e3_NoRow ?e4_NoRow ?e5_NoRow ?e6_NoRow ?e7_NoRow ?e8_NoRow ?e9_NoRow ?e10_NoRow ?e11_NoRow ?a_NoPair ?x_NoPair ?k_NoPair ?e1_NoPair ?e2_NoPair ?e3_NoPair ?e4_NoPair ?e5_NoPair ?e6_NoPair ?e7_NoPair ?e8_NoPair ?e9_NoPair ?e10_NoPair ?e11_NoPair ?a_NoRule ?x_NoRule ?k_NoRule ?e1_NoRule ?e2_NoRule ?e3_NoRule ?e4_NoRule ?e5_NoRule ?e6_NoRule ?e7_NoRule ?e8_NoRule ?e9_NoRule ?e10_NoRule ?e11_NoRule ?a_NoName ?x_NoName ?k_NoName ?e1_NoName ?e2_NoName ?e3_NoName ?e4_NoName ?e5_NoName ?e6_NoName ?e7_NoName ?e8_NoName ?e9_NoName ?e10_NoName ?e11_NoName ?a_NoText ?x_NoText ?k_NoText ?e1_NoText ?e2_NoText ?e3_NoText ?e4_NoText ?e5_NoText ?e6_NoText ?e7_NoText ?e8_NoText ?e9_NoText ?e10_NoText ?e11_NoText ?a_TooMany ?x_TooMany ?k_TooMany ?e1_TooMany ?e2_TooMany ?e3_TooMany ?e4_TooMany ?e5_TooMany ?e6_TooMany ?e7_TooMany ?e8_TooMany ?e9_TooMany ?e10_TooMany ?e11_TooMany ?a_Nothing ?x_Nothing ?k_Nothing ?e1_Nothing ?e2_Nothing ?e3_Nothing ?e4_Nothing ?e5_Nothing ?e6_Nothing ?e7_Nothing ?e8_Nothing ?e9_Nothing ?e10_Nothing ?e11_Nothing ?s_WideError_WideError ?s_WideError_NoRow ?s_WideError_NoPair ?s_WideError_NoRule ?s_WideError_NoName ?s_WideError_NoText ?s_WideError_TooMany ?s_WideError_Nothing ?s_NoRow_WideError ?s_NoRow_NoRow ?s_NoRow_NoPair ?s_NoRow_NoRule ?s_NoRow_NoName ?s_NoRow_NoText ?s_NoRow_TooMany ?s_NoRow_Nothing ?s_NoPair_WideError ?s_NoPair_NoRow ?s_NoPair_NoPair ?s_NoPair_NoRule ?s_NoPair_NoName ?s_NoPair_NoText ?s_NoPair_TooMany ?s_NoPair_Nothing ?s_NoRule_WideError ?s_NoRule_NoRow ?s_NoRule_NoPair ?s_NoRule_NoRule ?s_NoRule_NoName ?s_NoRule_NoText ?s_NoRule_TooMany ?s_NoRule_Nothing ?s_NoName_WideError ?s_NoName_NoRow ?s_NoName_NoPair ?s_NoName_NoRule ?s_NoName_NoName ?s_NoName_NoText ?s_NoName_TooMany ?s_NoName_Nothing ?s_NoText_WideError ?s_NoText_NoRow ?s_NoText_NoPair ?s_NoText_NoRule ?s_NoText_NoName ?s_NoText_NoText ?s_NoText_TooMany ?s_NoText_Nothing ?s_TooMany_WideError ?s_TooMany_NoRow ?s_TooMany_NoPair ?s_TooMany_NoRule ?s_TooMany_NoName ?s_TooMany_NoText ?s_TooMany_TooMany ?s_TooMany_Nothing ?s_Nothing_WideError ?s_Nothing_NoRow ?s_Nothing_NoPair ?s_Nothing_NoRule ?s_Nothing_NoName ?s_Nothing_NoText ?s_Nothing_TooMany ?s_Nothing_Nothing ?z_ValueError ?z_abs ?z_bool ?z_enumerate ?z_int ?z_isinstance ?z_len ?z_list ?z_max ?z_min ?z_range ?z_repr ?z_set ?z_sorted ?z_tuple ?z_zip
    (case a0 => k_is)
    (case l0 => k_is)
    (case c0 => k_is)
    (case k0 => k_is)
    (case a1 => k_is)
    (case l1 => k_is)
    (case c1 => k_is)
    (case k1 => k_is)
    (case a2 => k_is)
    (case l2 => k_is)
    (case c2 => k_is)
    (case k2 => k_is)
    (case a3 => k_is)
    (case l3 => k_is)
    (case c3 => k_is)
    (case k3 => k_is)
    (case a4 => k_is)
    (case l4 => k_is)
    (case c4 => k_is)
    (case k4 => k_is)
    (case a5 => k_is)
    (case l5 => k_is)
    (case c5 => k_is)
    (case k5 => k_is)
    (case a6 => k_is)
    (case l6 => k_is)
    (case c6 => k_is)
    (case k6 => k_is)
    (case a7 => k_is)
    (case l7 => k_is)
    (case c7 => k_is)
    (case k7 => k_is)
    (case a8 => k_is)
    (case l8 => k_is)
    (case c8 => k_is)
    (case k8 => k_is)
    (case a9 => k_is)
    (case l9 => k_is)
    (case c9 => k_is)
    (case k9 => k_is)
    (case a10 => k_is)
    (case l10 => k_is)
    (case c10 => k_is)
    (case k10 => k_is)
    (case a11 => k_is)
    (case l11 => k_is)
    (case c11 => k_is)
    (case k11 => k_is)
    (case a12 => k_is)
    (case l12 => k_is)
    (case c12 => k_is)
    (case k12 => k_is)
    (case a13 => k_is)
    (case l13 => k_is)
    (case c13 => k_is)
    (case k13 => k_is)
    (case a14 => k_is)
    (case l14 => k_is)
    (case c14 => k_is)
    (case k14 => k_is)
    (case a15 => k_is)
    (case l15 => k_is)
    (case c15 => k_is)
    (case k15 => k_is)
    (case a16 => k_is)
    (case l16 => k_is)
    (case c16 => k_is)
    (case k16 => k_is)
    (case a17 => k_is)
    (case l17 => k_is)
    (case c17 => k_is)
    (case k17 => k_is)
    (case a18 => k_is)
    (case l18 => k_is)
    (case c18 => k_is)
    (case k18 => k_is)
    (case a19 => k_is)
    (case l19 => k_is)
    (case c19 => k_is)
    (case k19 => k_is)
    (case a20 => k_is)
    (case l20 => k_is)
    (case c20 => k_is)
    (case k20 => k_is)
    (case a21 => k_is)
    (case l21 => k_is)
    (case c21 => k_is)
    (case k21 => k_is)
    (case a22 => k_is)
    (case l22 => k_is)
    (case c22 => k_is)
    (case k22 => k_is)
    (case a23 => k_is)
    (case l23 => k_is)
    (case c23 => k_is)
    (case k23 => k_is)
    (case a24 => k_is)
    (case l24 => k_is)
    (case c24 => k_is)
    (case k24 => k_is)
    (case a25 => k_is)
    (case l25 => k_is)
    (case c25 => k_is)
    (case k25 => k_is)
    (case a26 => k_is)
    (case l26 => k_is)
    (case c26 => k_is)
    (case k26 => k_is)
    (case a27 => k_is)
    (case l27 => k_is)
    (case c27 => k_is)
    (case k27 => k_is)
    (case a28 => k_is)
    (case l28 => k_is)
    (case c28 => k_is)
    (case k28 => k_is)
    (case a29 => k_is)
    (case l29 => k_is)
    (case c29 => k_is)
    (case k29 => k_is)
    (case a30 => k_is)
    (case l30 => k_is)
    (case c30 => k_is)
    (case k30 => k_is)
    (case a31 => k_is)
    (case l31 => k_is)
    (case c31 => k_is)
    (case k31 => k_is)
    (case a32 => k_is)
    (case l32 => k_is)
    (case c32 => k_is)
    (case k32 => k_is)
    (case a33 => k_is)
    (case l33 => k_is)
    (case c33 => k_is)
    (case k33 => k_is)
    (case a34 => k_is)
    (case l34 => k_is)
    (case c34 => k_is)
    (case k34 => k_is)
    (case a35 => k_is)
    (case l35 => k_is)
    (case c35 => k_is)
    (case k35 => k_is)
    (case oa_Walk => k_is)
    (case ma_Walk___init__ => k_is)
    (case mi_Walk___init__ => k_is)
    (case ml_Walk___init__ => k_is)
    (case mc_Walk___init__ => k_is)
    (case mk_Walk___init__ => k_is)
    (case ma_Walk_meet => k_is)
    (case mi_Walk_meet => k_is)
    (case ml_Walk_meet => k_is)
    (case mc_Walk_meet => k_is)
    (case mk_Walk_meet => k_is)
    (case ma_Walk_bits_to => k_is)
    (case mi_Walk_bits_to => k_is)
    (case ml_Walk_bits_to => k_is)
    (case mc_Walk_bits_to => k_is)
    (case mk_Walk_bits_to => k_is)
    (case pg_Walk => k_is)
    (case hd_Walk => k_is)
    (case po_Walk => k_is)
    (case sa_Walk => k_is)
    (case mk_Walk => k_is)
    (case kc_Walk => k_is)
    (case na_Walk_met => k_is)
    (case na_Walk_numbers => k_is)
    (case na_Walk_ways => k_is)
    (case a_WideError => k_is)
    (case x_WideError => k_exc)
    (case k_WideError => k_is)
    (case e1_WideError => k_is)
    (case e2_WideError => k_is)
    (case e3_WideError => k_is)
    (case e4_WideError => k_is)
    (case e5_WideError => k_is)
    (case e6_WideError => k_is)
    (case e7_WideError => k_is)
    (case e8_WideError => k_is)
    (case e9_WideError => k_is)
    (case e10_WideError => k_is)
    (case e11_WideError => k_is)
    (case a_NoRow => k_is)
    (case x_NoRow => k_exc)
    (case k_NoRow => k_is)
    (case e1_NoRow => k_is)
    (case e2_NoRow => k_is)
    (case e3_NoRow => k_is)
    (case e4_NoRow => k_is)
    (case e5_NoRow => k_is)
    (case e6_NoRow => k_is)
    (case e7_NoRow => k_is)
    (case e8_NoRow => k_is)
    (case e9_NoRow => k_is)
    (case e10_NoRow => k_is)
    (case e11_NoRow => k_is)
    (case a_NoPair => k_is)
    (case x_NoPair => k_exc)
    (case k_NoPair => k_is)
    (case e1_NoPair => k_is)
    (case e2_NoPair => k_is)
    (case e3_NoPair => k_is)
    (case e4_NoPair => k_is)
    (case e5_NoPair => k_is)
    (case e6_NoPair => k_is)
    (case e7_NoPair => k_is)
    (case e8_NoPair => k_is)
    (case e9_NoPair => k_is)
    (case e10_NoPair => k_is)
    (case e11_NoPair => k_is)
    (case a_NoRule => k_is)
    (case x_NoRule => k_exc)
    (case k_NoRule => k_is)
    (case e1_NoRule => k_is)
    (case e2_NoRule => k_is)
    (case e3_NoRule => k_is)
    (case e4_NoRule => k_is)
    (case e5_NoRule => k_is)
    (case e6_NoRule => k_is)
    (case e7_NoRule => k_is)
    (case e8_NoRule => k_is)
    (case e9_NoRule => k_is)
    (case e10_NoRule => k_is)
    (case e11_NoRule => k_is)
    (case a_NoName => k_is)
    (case x_NoName => k_exc)
    (case k_NoName => k_is)
    (case e1_NoName => k_is)
    (case e2_NoName => k_is)
    (case e3_NoName => k_is)
    (case e4_NoName => k_is)
    (case e5_NoName => k_is)
    (case e6_NoName => k_is)
    (case e7_NoName => k_is)
    (case e8_NoName => k_is)
    (case e9_NoName => k_is)
    (case e10_NoName => k_is)
    (case e11_NoName => k_is)
    (case a_NoText => k_is)
    (case x_NoText => k_exc)
    (case k_NoText => k_is)
    (case e1_NoText => k_is)
    (case e2_NoText => k_is)
    (case e3_NoText => k_is)
    (case e4_NoText => k_is)
    (case e5_NoText => k_is)
    (case e6_NoText => k_is)
    (case e7_NoText => k_is)
    (case e8_NoText => k_is)
    (case e9_NoText => k_is)
    (case e10_NoText => k_is)
    (case e11_NoText => k_is)
    (case a_TooMany => k_is)
    (case x_TooMany => k_exc)
    (case k_TooMany => k_is)
    (case e1_TooMany => k_is)
    (case e2_TooMany => k_is)
    (case e3_TooMany => k_is)
    (case e4_TooMany => k_is)
    (case e5_TooMany => k_is)
    (case e6_TooMany => k_is)
    (case e7_TooMany => k_is)
    (case e8_TooMany => k_is)
    (case e9_TooMany => k_is)
    (case e10_TooMany => k_is)
    (case e11_TooMany => k_is)
    (case a_Nothing => k_is)
    (case x_Nothing => k_exc)
    (case k_Nothing => k_is)
    (case e1_Nothing => k_is)
    (case e2_Nothing => k_is)
    (case e3_Nothing => k_is)
    (case e4_Nothing => k_is)
    (case e5_Nothing => k_is)
    (case e6_Nothing => k_is)
    (case e7_Nothing => k_is)
    (case e8_Nothing => k_is)
    (case e9_Nothing => k_is)
    (case e10_Nothing => k_is)
    (case e11_Nothing => k_is)
    (case s_WideError_WideError => k_is)
    (case s_WideError_NoRow => k_is)
    (case s_WideError_NoPair => k_is)
    (case s_WideError_NoRule => k_is)
    (case s_WideError_NoName => k_is)
    (case s_WideError_NoText => k_is)
    (case s_WideError_TooMany => k_is)
    (case s_WideError_Nothing => k_is)
    (case s_NoRow_WideError => k_is)
    (case s_NoRow_NoRow => k_is)
    (case s_NoRow_NoPair => k_is)
    (case s_NoRow_NoRule => k_is)
    (case s_NoRow_NoName => k_is)
    (case s_NoRow_NoText => k_is)
    (case s_NoRow_TooMany => k_is)
    (case s_NoRow_Nothing => k_is)
    (case s_NoPair_WideError => k_is)
    (case s_NoPair_NoRow => k_is)
    (case s_NoPair_NoPair => k_is)
    (case s_NoPair_NoRule => k_is)
    (case s_NoPair_NoName => k_is)
    (case s_NoPair_NoText => k_is)
    (case s_NoPair_TooMany => k_is)
    (case s_NoPair_Nothing => k_is)
    (case s_NoRule_WideError => k_is)
    (case s_NoRule_NoRow => k_is)
    (case s_NoRule_NoPair => k_is)
    (case s_NoRule_NoRule => k_is)
    (case s_NoRule_NoName => k_is)
    (case s_NoRule_NoText => k_is)
    (case s_NoRule_TooMany => k_is)
    (case s_NoRule_Nothing => k_is)
    (case s_NoName_WideError => k_is)
    (case s_NoName_NoRow => k_is)
    (case s_NoName_NoPair => k_is)
    (case s_NoName_NoRule => k_is)
    (case s_NoName_NoName => k_is)
    (case s_NoName_NoText => k_is)
    (case s_NoName_TooMany => k_is)
    (case s_NoName_Nothing => k_is)
    (case s_NoText_WideError => k_is)
    (case s_NoText_NoRow => k_is)
    (case s_NoText_NoPair => k_is)
    (case s_NoText_NoRule => k_is)
    (case s_NoText_NoName => k_is)
    (case s_NoText_NoText => k_is)
    (case s_NoText_TooMany => k_is)
    (case s_NoText_Nothing => k_is)
    (case s_TooMany_WideError => k_is)
    (case s_TooMany_NoRow => k_is)
    (case s_TooMany_NoPair => k_is)
    (case s_TooMany_NoRule => k_is)
    (case s_TooMany_NoName => k_is)
    (case s_TooMany_NoText => k_is)
    (case s_TooMany_TooMany => k_is)
    (case s_TooMany_Nothing => k_is)
    (case s_Nothing_WideError => k_is)
    (case s_Nothing_NoRow => k_is)
    (case s_Nothing_NoPair => k_is)
    (case s_Nothing_NoRule => k_is)
    (case s_Nothing_NoName => k_is)
    (case s_Nothing_NoText => k_is)
    (case s_Nothing_TooMany => k_is)
    (case s_Nothing_Nothing => k_is)
    (case z_ValueError => k_is)
    (case z_abs => k_is)
    (case z_bool => k_is)
    (case z_enumerate => k_is)
    (case z_int => k_is)
    (case z_isinstance => k_is)
    (case z_len => k_is)
    (case z_list => k_is)
    (case z_max => k_is)
    (case z_min => k_is)
    (case z_range => k_is)
    (case z_repr => k_is)
    (case z_set => k_is)
    (case z_sorted => k_is)
    (case z_tuple => k_is)
    (case z_zip => k_is)
