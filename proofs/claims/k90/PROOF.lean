import PyProof.Rows.All
import Wide.All
import OpenK.AllK
import Wide.FinOn
import KE.KDictItemsList
import HandS.Base
import HandS.Call
import HandS.List
import HandS.Comp
import HandS.Ends
import HandS.Dict
import HandS.Iter
import HandS.EndBits
import HandS.Words
import HandS.WordsList
import HandS.WordsDict
import HandS.Text
import HandS.Wide
import HandS.WideBits
import HandS.Conv
import HandS.TupLe
import HandS.IsInst
import HandS.ExcIs
import HandS.ExcValue
import HandS.TupSets
import HandS.Zip
import HandS.Walk
import HandS.TupAny
import HandS.Deep
import PyProof.ReprRoads
import PyProof.ReprBulk
import KE.GoesZip
import KE.GoesMore
import KE.GoesEnum
import HandS.DictTup
import KE.KSortTupG
import HandS.TupLen
import HandS.NoneIn
import HandS.Records
import HandS.Flow
import HandS.More
import KE.KDictWalk
import KE.KDictDisplayH
import PyProof.WalkInts
import PyProof.DictTable
import KE.KeyNested
import KE.KDictKeyed
import PyProof.DictMoreH
import HandS.ListItems
import KE.KTurns
import HandS.Star
import PyProof.StrOps2
import HandS.TryOnly
import HandS.WordsExc
import HandS.Style
import HandS.RaiseMore
import HandS.FStr
import HandS.ExcOwn
import HandS.ExcCtx
import HandS.SetFor
import PySem.Challenge.RW_anywide_k90_greatest_and_least_worths
set_option Elab.async false
set_option linter.all false
set_option maxRecDepth 100000
namespace AW
open PySem PySem.Spec PyProof.Rows L2

/-! ### a def's call at one around -/
theorem fn_at {P : Program} {w : World} {K : PySem.W.Frag} {mg : Str → Option Value} {base : Heap} {k : Nat} {f : Addr} {x qual : Str} {st : Stmt} {fd : FuncData} {N ps : List Str}
    (F : Fun K x qual st f fd) (S : FnScope N ps (defScope st)) {A : Around} {outer : List Env} {s : Shared} {H : Hp} {args : Args} {us : List Value} {vs : List V} {Q : VK} {E : XK}
    (hr : Room (k + 1) A) (e0 : Env0 P w K mg base A outer s H) (hb : BindsTo s fd args (ps.zip us)) (r : Vals vs us) (hl : vs.length = ps.length)
    (hbody : ∀ cdv : Value, ∃ t, PSs (cxOf CX0 P w K mg base N qual (defScope st) f cdv A outer s H E).nox (defBody st) t ∧ t { nx := fun _ H' => Q .non H', rt := Q } (start N vs) H) :
    codeAny (model P w) A (.call (.ref f) args) (CR CX0 outer P w H s Q E) s := by
  obtain ⟨oc, od, kV, doc, pm, an, cdv, ct, osl, rfl, lk, hcd⟩ := F.ex
  have keep0 : ∀ b o, base.get? b = some o → s.heap.get? b = some o := fun b o e => (e0.bs b o e).1
  have KX := e0.mod.kin.keeps keep0
  refine codeAny_call_function (Room.depth hr) (KX _ _ lk) rfl S.co S.gen rfl (PySem.W.codeRec_of KX hcd) (hb _ _ _ _ ?_)
  have kinds : ∀ y ∈ ps.zip us, (defScope st).names.lookup y.1 = some .local ∨ ((defScope st).names.lookup y.1 = some .cell ∧ ((cellsFrom (s.heap.objs.size + 1) (defScope st).names []).lookup y.1).isSome = true) := by
    intro y hy
    obtain ⟨n, v⟩ := y
    exact (S.par n (List.of_mem_zip hy).1).elim Or.inl fun q => Or.inr ⟨q, PySem.W.cellsFrom_some _ _ _ (.inl q)⟩
  refine wpAny_newFunctionEnv_cells S.kind kinds ?_
  rintro env rfl s1 ic
  obtain ⟨t, ht, hq⟩ := hbody cdv
  refine ⟨(e0.mod.nolimit.keeps keep0).keeps ic.toInCall.keep, codeAny_func (wpAny_mono (ht.nox.run [] s1 (start N vs) H _ (inv_start S hr.hd e0 hl r ic) hq) ?_ (fun _ _ z => z))⟩
  intro fl s' hs
  cases fl with
  | ret u =>
    obtain ⟨v, σ', H', J, rv, q⟩ := hs
    exact ⟨v, H', J.os, J.bare, J.base, J.hok, rv, q⟩
  | next =>
    obtain ⟨σ', H', J, q⟩ := hs
    exact ⟨V.non, H', J.os, J.bare, J.base, J.hok, rfl, q⟩
  | brk => exact hs.elim fun _ z => z.elim fun _ z => z.2.elim
  | cont => exact hs.elim fun _ z => z.elim fun _ z => z.2.elim

/-! ### the law's own call -/
theorem env_at {P : Program} {w : World} {K : PySem.W.Frag} {mg mb : Str → Option Value} {a : Addr} {s1 : Shared} {vs : List Value} {H : Hp}
    (KX : K.In s1.heap) (hns : s1.heap.Ns mainGlobals mg) (hb : s1.heap.Ns builtinsNs mb) (hbb : ∀ x : Str, x ≠ "__name__" → mb x = bootBuiltins x) (hlim : s1.heap.NoLimit) (hg : s1.gens = #[])
    (ha : s1.heap.get? a = some { cls := .type "list", data := .seq vs.toArray }) (one : ∀ b u, H b = some u → b = a) (out : ∀ o, K.lookup a = some o → H a = none) (ok : HOk P w H s1.heap) :
    Env0 P w K mg (hidT s1.heap H) callerA [] s1 H := by
  have dicts : ∀ {b : Addr} {m : Str → Option Value}, s1.heap.Ns b m → (hidT s1.heap H).Ns b m := by
    rintro b m ⟨o, es, ep, e, d, r⟩
    refine ⟨o, es, ep, hidT_get e ?_, d, r⟩
    match q : H b with
    | none => rfl
    | some u =>
      obtain rfl := one b u q
      have e2 := Option.some.inj (e.symm.trans ha)
      rw [e2] at d
      cases d
  have kin : K.In (hidT s1.heap H) := by
    intro b o e
    refine hidT_get (KX b o e) ?_
    match q : H b with
    | none => rfl
    | some u =>
      obtain rfl := one b u q
      exact q.symm.trans (out o e)
  obtain ⟨mc, l1, l2⟩ := hlim
  exact ⟨rfl, ⟨kin, dicts hns, ⟨mb, dicts hb, hbb⟩, ⟨mc, dicts l1, l2⟩⟩, fun b o e => of_hidT e, Nat.le_of_eq (hidT_size _ _), trivial, (fun b z => nomatch z), ok, .of_eq hg⟩

theorem law_end {P : Program} {w : World} {K : PySem.W.Frag} {mg mb : Str → Option Value} {fa a : Addr} {s1 : Shared} {vs : List Value} {ns : List Int}
    (KX : K.In s1.heap) (hns : s1.heap.Ns mainGlobals mg) (hb : s1.heap.Ns builtinsNs mb) (hbb : ∀ x : Str, x ≠ "__name__" → mb x = bootBuiltins x) (hlim : s1.heap.NoLimit) (hg : s1.gens = #[])
    (ha : s1.heap.get? a = some { cls := .type "list", data := .seq vs.toArray }) (hi : IntsAre vs ns) (hl : ns.length ≤ sizeLine)
    (run : ∀ (base : Heap) (H : Hp), Env0 P w K mg base callerA [] s1 H → SqL K H a (ns.map V.int) →
      codeAny (model P w) callerA (.call (.ref fa) ⟨[.ref a], []⟩) (CR CX0 [] P w H s1 (fun v _ => v = .bl true) E0) s1) :
    codeAny (model P w) callerA (.call (.ref fa) ⟨[.ref a], []⟩) (fun r s' => r = .ok (.ret (.bool true)) ∧ OldK s1.heap s'.heap ∧ s'.os = s1.os ∧ AllBare s'.gens) s1 := by
  have rv := vals_ints hi
  have fin : ∀ H : Hp, HOk P w H s1.heap → (∀ b u, H b = some u → ∃ o xs, u = .frz o (.lst xs)) → ∀ r s', CR CX0 [] P w H s1 (fun v _ => v = .bl true) E0 r s' →
      r = .ok (.ret (.bool true)) ∧ OldK s1.heap s'.heap ∧ s'.os = s1.os ∧ AllBare s'.gens := by
    intro H ok hf r s' h
    match r, h with
    | .ok (.ret u), ⟨v, H', os, bare, un, ok2, rel, q⟩ =>
      obtain rfl : v = .bl true := q
      obtain rfl : u = Value.bool true := rel
      refine ⟨rfl, OldK.of_keep ?_, os, bare⟩
      intro b o e
      match qb : H b with
      | none => exact un.keep b o e qb (fun z => nomatch z) (fun z => nomatch z)
      | some ho =>
        obtain ⟨o2, xs, rfl⟩ := hf b ho qb
        have k1 := (ok b _ qb).1
        have k2 := (ok2 b _ (un.frzs b o2 _ qb)).1
        rw [e] at k1
        cases k1
        exact k2
  match hk : K.lookup a with
  | some o =>
    have e := (KX a o hk).symm.trans ha
    obtain rfl := Option.some.inj e
    have ok : HOk P w (fun _ => none) s1.heap := fun b u z => nomatch z
    refine codeAny_mono (run _ (fun _ => none) (env_at KX hns hb hbb hlim hg ha (fun b u z => nomatch z) (fun _ _ => rfl) ok) ?_) (fin _ ok fun b u z => nomatch z)
    exact .inr ⟨_, vs.toArray, _, hk, rfl, rfl, rfl, by rw [List.size_toArray, hi.length]; exact hl, by simpa using rv⟩
  | none =>
    let o : Obj := { cls := .type "list", data := .seq vs.toArray }
    have at_ : ∀ b u, (if b = a then some (HO.frz o (.lst (ns.map V.int))) else none) = some u → b = a ∧ u = HO.frz o (.lst (ns.map V.int)) := by
      intro b u z
      by_cases hb : b = a
      · rw [if_pos hb] at z
        exact ⟨hb, (Option.some.inj z).symm⟩
      · rw [if_neg hb] at z
        cases z
    have ok : HOk P w (fun b => if b = a then some (HO.frz o (.lst (ns.map V.int))) else none) s1.heap := by
      intro b u z
      obtain ⟨rfl, rfl⟩ := at_ b u z
      exact ⟨ha, by rw [List.length_map]; exact hl, vs, _, rv, ha⟩
    refine codeAny_mono (run _ _ (env_at KX hns hb hbb hlim hg ha (fun b u z => (at_ b u z).1) (fun o' e => absurd (hk.symm.trans e) (fun z => nomatch z)) ok) ?_) (fin _ ok fun b u z => ⟨_, _, (at_ b u z).2⟩)
    exact .inl (.inr ⟨o, if_pos rfl⟩)

theorem walkG {l : PySem.W.OpenLaw} {n : Nat} {q : Program} {loose : List Str} {XP : (Str → Option Value) → Heap → Prop} {YP : World → Heap → Prop} {d : DefRec} {K : Params → PySem.W.Frag}
    (hn : l.most = some n) (hn2 : n ≤ sizeLine) (hdf : d.params.defaults = []) (hY : ∀ (w : World) (h : Heap), YP w h → (K w.params).In h)
    (F : ∀ (w : World) (mg : Str → Option Value) (fa : Addr) (h : Heap), (K w.params).In h → h.Ns mainGlobals mg → mg d.name = some (.ref fa) →
      ∀ (s : Shared) (a : Addr) (ns : List Int) (base : Heap) (H : Hp), ns.length ≤ n → (∀ z ∈ ns, Builtin.Int.intBits z ≤ 1048576) → Env0 l.prog w (K w.params) mg base callerA [] s H → SqL (K w.params) H a (ns.map V.int) →
        codeAny (model l.prog w) callerA (.call (.ref fa) ⟨[.ref a], []⟩) (CR CX0 [] l.prog w H s (fun v _ => v = .bl true) E0) s) :
    PySem.W.WalkO q loose XP YP l.row.toRowW d [] (fun f vs => PySem.call f vs) := by
  apply Att.attach_callB hn hdf
  intro w s0 s1 mg mb fa o pm cd doc a vs ns G Y ho hd hcd hmg hobj hints hlen hbits hg
  have KX := hY w _ Y
  exact law_end KX G.T.g G.T.b G.T.builtins G.T.nolimit hg hobj hints (Nat.le_trans hlen hn2) fun base H e0 hS => F w mg fa _ KX G.T.g hmg s1 a ns base H hlen hbits e0 hS

/-! ### repr of data -/
section
variable {X : Cx}
/-- what a value reads, whatever the state -/
def Rz (X : Cx) (H : Hp) (v : V) (d : PyData) : Prop := ∀ pins σ s u, Inv X pins σ H s → RelV v u → ∃ as, Reads s.heap u d as ∧ sysModules ∉ as
def rRepr (X : Cx) : List V → Hp → VK → Prop := fun xs H Q => ∃ (x : V) (d : PyData), xs = [x] ∧ (Rz X H x d ∨ (Dp X.K H x d ∧ d.hasDict = false)) ∧ d.showable = true ∧ d.depth ≤ 40 ∧ d.shown.length ≤ sizeLine ∧ Q (.str d.shown) H
theorem call_repr (hg : X.A.guards = some []) (hu : X.A.units + 64 < cLine) : CallR X (.builtin "repr") (rRepr X) := by
  intro pins s σ H xs us Q I r h
  obtain ⟨x, d, rfl, hd, hs, hp, hz, q⟩ := h
  match us, r with
  | [u], .cons rx .nil =>
    have rd : ∃ as, Reads s.heap u d as ∧ (d.hasDict = true → sysModules ∉ as) := by
      rcases hd with hd | ⟨hd, hn⟩
      · obtain ⟨as, h1, h2⟩ := hd pins σ s u I rx
        exact ⟨as, h1, fun _ => h2⟩
      · obtain ⟨as, h1⟩ := Dp.reads I d x u hd rx
        exact ⟨as, h1, fun z => by rw [hn] at z; cases z⟩
    obtain ⟨as, h1, h2⟩ := rd
    cases h1 with
    | none => exact PySem.P.repr_of_none ⟨.str _, H, I.tok _, ⟨_, rfl⟩, q⟩
    | bool b => exact PySem.P.repr_of_bool ⟨.str _, H, I.tok _, ⟨_, rfl⟩, by have q' := q; simp only [PyData.shown] at q'; cases b <;> exact q'⟩
    | int i t => exact PySem.P.repr_of_int (by simpa [PyData.showable] using hs) ⟨.str _, H, I.tok _, ⟨_, rfl⟩, by simpa only [PyData.shown] using q⟩
    | str x t => exact PySem.P.repr_of_str ⟨.str _, H, I.tok _, ⟨_, rfl⟩, by simpa only [PyData.shown] using q⟩ (by simpa only [PyData.shown] using hz)
    | list a b c e => exact repr_of_reads' (Reads.list a b c e) hs h2 hg (by omega) (fun _ _ e => e) (fun h' u tk k => ⟨.str _, H, I.kept k, ⟨_, rfl⟩, q⟩) hz
    | tuple a b c e => exact repr_of_reads' (Reads.tuple a b c e) hs h2 hg (by omega) (fun _ _ e => e) (fun h' u tk k => ⟨.str _, H, I.kept k, ⟨_, rfl⟩, q⟩) hz
    | dict a b c e f => exact repr_of_reads' (Reads.dict a b c e f) hs h2 hg (by omega) (fun _ _ e => e) (fun h' u tk k => ⟨.str _, H, I.kept k, ⟨_, rfl⟩, q⟩) hz

theorem Rz.int (H : Hp) (i : Int) : Rz X H (.int i) (.int i) := by
  rintro pins σ s u I ⟨t, rfl⟩
  exact ⟨_, Reads.int i t, (fun z => nomatch z)⟩
theorem Rz.str (H : Hp) (x : Str) : Rz X H (.str x) (.str x) := by
  rintro pins σ s u I ⟨t, rfl⟩
  exact ⟨_, Reads.str x t, (fun z => nomatch z)⟩
theorem rz_all {H : Hp} : ∀ {vs : List V} {ds : List PyData}, Paired (Rz X H) vs ds → ∀ {pins σ s us}, Inv X pins σ H s → Vals vs us → ∃ as, ReadsAll s.heap us ds as ∧ sysModules ∉ as
  | _, _, .nil, _, _, _, _, _, .nil => ⟨_, ReadsAll.nil, (fun z => nomatch z)⟩
  | _, _, .cons h t, _, _, _, _, I, .cons r rs => by
    obtain ⟨as, a1, a2⟩ := h _ _ _ _ I r
    obtain ⟨bs, b1, b2⟩ := rz_all t I rs
    exact ⟨_, ReadsAll.cons a1 b1, fun z => (List.mem_append.mp z).elim a2 b2⟩
theorem Rz.tup {H : Hp} {a : Addr} {xs : List V} {ds : List PyData} (h : SqT X.K H a xs) (hs : Paired (Rz X H) xs ds) : Rz X H (.ref a) (.tuple ds) := by
  intro pins σ s u I r
  obtain rfl : u = Value.ref a := r
  obtain ⟨its, rv, ⟨o, ho, hc, n, hd⟩, _⟩ := I.tuple h
  obtain ⟨as, h1, h2⟩ := rz_all hs I rv
  exact ⟨_, Reads.tuple ho hc hd h1, h2⟩
end
end AW
namespace AW
open PySem PySem.Spec PyProof.Rows L2
section
variable {X : Cx}
def CPowW (i j : Int) : Prop := 0 ≤ j ∧ (Builtin.Int.intBits i : Int) * j ≤ 2 ^ 27
theorem op_powW : OpR X (binaryOp .Pow) (rI CPowW fun i j => .int (i ^ j.toNat)) := opI fun _ _ _ _ _ _ _ hc q => pow_int hc.1 hc.2 q
end
theorem bits_lt {z : Int} {n : Nat} (h : Builtin.Int.intBits z ≤ n) : z.natAbs < 2 ^ n := by
  unfold Builtin.Int.intBits at h
  by_cases e : z = 0
  · subst e
    exact Nat.pos_of_ne_zero (by simp)
  · rw [if_neg (by simpa using e)] at h
    have : z.natAbs ≠ 0 := by omega
    exact (Nat.log2_lt this).mp (by omega)
theorem seed_ok {z c : Int} (h0 : 0 ≤ z) (h1 : z ≤ 2147483629) (h2 : Builtin.Int.intBits c ≤ 1048576) : CPowW (z * 50021 + c) 3 := by
  refine ⟨by decide, ?_⟩
  have hc := bits_lt h2
  have h3 : (z * 50021 + c).natAbs < 2 ^ 1048577 := by
    have a : (z * 50021 + c).natAbs ≤ (z * 50021).natAbs + c.natAbs := Int.natAbs_add_le _ _
    have b : (z * 50021).natAbs ≤ 2 ^ 48 := by omega
    have d : (2 : Nat) ^ 48 ≤ 2 ^ 1048576 := Nat.pow_le_pow_right (by decide) (by decide)
    have e : (2 : Nat) ^ 1048577 = 2 ^ 1048576 + 2 ^ 1048576 := by rw [Nat.pow_succ]; omega
    omega
  have h4 := PyProof.Rows.intBits_le h3
  have e : (2 : Int) ^ 27 = 134217728 := by decide
  rw [e]
  omega
/-! ### what follows an if, shown once -/
def tMid (t u : TS) : TS := fun D σ H => ∃ M : L2.St → Hp → Prop, t { D with nx := M } σ H ∧ ∀ σ2 H2, M σ2 H2 → u D σ2 H2
theorem pss_mid {X : Cx} {st : Stmt} {r : List Stmt} {t u : TS} (a : PS X st t) (b : PSs X r u) : PSs X (st :: r) (tMid t u) := by
  constructor
  rintro pins s σ H D I ⟨M, h1, h2⟩
  apply wpAny_execs_cons
  refine thn (a.run pins s σ H _ I h1) ?_
  intro fl s2 z
  match fl, z with
  | .next, ⟨σ2, H2, I2, m⟩ => exact b.run pins s2 σ2 H2 D I2 (h2 σ2 H2 m)
  | .ret _, z => exact z
  | .brk, z => exact z
  | .cont, z => exact z
/-! ### the well -/
def WL (H : Hp) (a c : Addr) : Prop := a ≠ c ∧ ∃ (cs : List Int) (r s : Int), H a = some (.lst [.ref c, .int r, .int s]) ∧ H c = some (.lst (cs.map V.int))
/-- all but the well stands as it stood -/
def Kp (a c : Addr) (H H' : Hp) : Prop := ∀ b o, b ≠ a → b ≠ c → H b = some o → H' b = some o
theorem Kp.refl (a c : Addr) (H : Hp) : Kp a c H H := fun _ _ _ _ h => h
theorem Kp.trans {a c : Addr} {H H1 H2 : Hp} (h : Kp a c H H1) (k : Kp a c H1 H2) : Kp a c H H2 := fun b o n1 n2 e => k b o n1 n2 (h b o n1 n2 e)
theorem Kp.tup {a c : Addr} {H H' : Hp} (w : WL H a c) (k : Kp a c H H') {b : Addr} {xs : List V} (h : H b = some (.tup xs)) : H' b = some (.tup xs) := by
  obtain ⟨_, cs, r, s, e1, e2⟩ := w
  exact k b _ (ne_of h e1 (fun z => nomatch z)) (ne_of h e2 (fun z => nomatch z)) h
theorem Kp.same {a c : Addr} {H H1 H2 : Hp} (ha : H a = none) (hc : H c = none) (s : Same H H1) (k : Kp a c H1 H2) : Same H H2 := fun b o e => k b o (ne_of_none e ha) (ne_of_none e hc) (s b o e)
theorem same_new {H : Hp} {p : Addr} {o : HO} (h : H p = none) : Same H (upd H p o) := fun b x e => by
  rw [upd_ne (ne_of_none e h)]
  exact e
theorem WL.same {H H' : Hp} {a c : Addr} (w : WL H a c) (k : Same H H') : WL H' a c := by
  obtain ⟨n, cs, r, s, e1, e2⟩ := w
  exact ⟨n, cs, r, s, k _ _ e1, k _ _ e2⟩
theorem WL.ne_new {H : Hp} {a c p : Addr} (w : WL H a c) (h : H p = none) : p ≠ a ∧ p ≠ c := by
  obtain ⟨n, cs, r, s, e1, e2⟩ := w
  exact ⟨(ne_of_none e1 h).symm, (ne_of_none e2 h).symm⟩
theorem WL.upd {H : Hp} {a c p : Addr} {o : HO} (w : WL H a c) (h1 : p ≠ a) (h2 : p ≠ c) : WL (upd H p o) a c := by
  obtain ⟨n, cs, r, s, e1, e2⟩ := w
  exact ⟨n, cs, r, s, by rw [upd_ne h1.symm]; exact e1, by rw [upd_ne h2.symm]; exact e2⟩
theorem Same.kp {a c : Addr} {H H' : Hp} (s : Same H H') : Kp a c H H' := fun b o _ _ e => s b o e
theorem dp_ints {K : PySem.W.Frag} {H : Hp} : ∀ cs : List Int, DpAll K H (cs.map V.int) (cs.map PyData.int)
  | [] => .nil
  | c :: cs => .cons (.int c) (dp_ints cs)
theorem lay_ints : ∀ cs : List Int, PyData.canLayAll0 (cs.map PyData.int) = true ∧ PyData.depthAll (cs.map PyData.int) = 0
  | [] => ⟨by simp only [List.map_nil, PyData.canLayAll0], by simp only [List.map_nil, PyData.depthAll]⟩
  | c :: cs => by
    obtain ⟨h1, h2⟩ := lay_ints cs
    exact ⟨by simp only [List.map_cons, PyData.canLayAll0, PyData.canLay0, h1, Bool.and_self], by simp only [List.map_cons, PyData.depthAll, PyData.depth, h2, Nat.max_self]⟩
theorem shaped_ints (cs : List Int) : SeqAt.shaped (.list (cs.map PyData.int)) = true := by
  obtain ⟨h1, h2⟩ := lay_ints cs
  simp only [SeqAt.shaped, PyData.canLay0, PyData.depth, h1, h2, Bool.true_and]
  decide
theorem dp_strs {K : PySem.W.Frag} {H : Hp} : ∀ cs : List Str, DpAll K H (cs.map V.str) (cs.map PyData.str)
  | [] => .nil
  | c :: cs => .cons (.str c) (dp_strs cs)
theorem lay_strs : ∀ cs : List Str, (∀ x ∈ cs, PyData.strOk x = true) → PyData.canLayAll0 (cs.map PyData.str) = true ∧ PyData.depthAll (cs.map PyData.str) = 0
  | [], _ => ⟨by simp only [List.map_nil, PyData.canLayAll0], by simp only [List.map_nil, PyData.depthAll]⟩
  | c :: cs, h => by
    obtain ⟨h1, h2⟩ := lay_strs cs fun x hx => h x (List.mem_cons_of_mem _ hx)
    exact ⟨by simp only [List.map_cons, PyData.canLayAll0, PyData.canLay0, h1, h c List.mem_cons_self, Bool.and_self], by simp only [List.map_cons, PyData.depthAll, PyData.depth, h2, Nat.max_self]⟩
theorem shaped_strs (cs : List Str) (h : ∀ x ∈ cs, PyData.strOk x = true) : SeqAt.shaped (.list (cs.map PyData.str)) = true := by
  obtain ⟨h1, h2⟩ := lay_strs cs h
  simp only [SeqAt.shaped, PyData.canLay0, PyData.depth, h1, h2, Bool.true_and]
  decide
theorem seq0 (n : Nat) : seqIndex? 0 (n + 1) = some 0 := by
  unfold seqIndex?
  simp
/-! ### the words of deeds, deeds, rows -/
def fwL : List (Str × Int) := [("none", 0), ("one", 0), ("all", 0), ("not", 1), ("neg", 1), ("twice", 1), ("and", 2), ("or", 2), ("xor", 2), ("add", 2), ("sub", 2)]
theorem fw_ok : ∀ x ∈ fwL.map (·.1), PyData.strOk x = true := by decide +kernel
def fwK : List (Key × V) := fwL.map fun p => (Sum.inr p.1, .int p.2)
/-- a deed: its word and its numbers -/
abbrev Deed := Str × List Int
def dV (d : Deed) : List V := .str d.1 :: d.2.map V.int
theorem dv0 (d : Deed) : atI (dV d) 0 = some (.str d.1) := atI_nat (j := 0) rfl
theorem dvN {d : Deed} {k : Nat} {i : Int} (h : d.2[k]? = some i) : atI (dV d) ((k + 1 : Nat) : Int) = some (.int i) := atI_nat (by show (d.2.map V.int)[k]? = _; rw [List.getElem?_map, h]; rfl)
structure DeedOk (m : Int) (d : Deed) : Prop where
  word : (d.1, (d.2.length : Int)) ∈ fwL
  ahead : ∀ i ∈ d.2, 0 ≤ i ∧ i < m
theorem fw_at {z : Int} (h0 : 0 ≤ z) (h1 : z < 11) : ∃ x n, (x, n) ∈ fwL ∧ 0 ≤ n ∧ n ≤ 2 ∧ atI (fwK.map fun kv => kV kv.1) z = some (.str x) ∧ valV fwK (Sum.inr x) = some (.int n) := by
  obtain ⟨k, rfl⟩ := Int.eq_ofNat_of_zero_le h0
  have hk : k = 0 ∨ k = 1 ∨ k = 2 ∨ k = 3 ∨ k = 4 ∨ k = 5 ∨ k = 6 ∨ k = 7 ∨ k = 8 ∨ k = 9 ∨ k = 10 := by omega
  rcases hk with rfl | rfl | rfl | rfl | rfl | rfl | rfl | rfl | rfl | rfl | rfl
  · exact ⟨"none", 0, by decide +kernel, by decide, by decide, by decide +kernel, by decide +kernel⟩
  · exact ⟨"one", 0, by decide +kernel, by decide, by decide, by decide +kernel, by decide +kernel⟩
  · exact ⟨"all", 0, by decide +kernel, by decide, by decide, by decide +kernel, by decide +kernel⟩
  · exact ⟨"not", 1, by decide +kernel, by decide, by decide, by decide +kernel, by decide +kernel⟩
  · exact ⟨"neg", 1, by decide +kernel, by decide, by decide, by decide +kernel, by decide +kernel⟩
  · exact ⟨"twice", 1, by decide +kernel, by decide, by decide, by decide +kernel, by decide +kernel⟩
  · exact ⟨"and", 2, by decide +kernel, by decide, by decide, by decide +kernel, by decide +kernel⟩
  · exact ⟨"or", 2, by decide +kernel, by decide, by decide, by decide +kernel, by decide +kernel⟩
  · exact ⟨"xor", 2, by decide +kernel, by decide, by decide, by decide +kernel, by decide +kernel⟩
  · exact ⟨"add", 2, by decide +kernel, by decide, by decide, by decide +kernel, by decide +kernel⟩
  · exact ⟨"sub", 2, by decide +kernel, by decide, by decide, by decide +kernel, by decide +kernel⟩
theorem awSnoc {α β : Type} {F : α → β → Prop} {x : α} {y : β} (h : F x y) : ∀ {l : List α} {l2 : List β}, Paired F l l2 → Paired F (l ++ [x]) (l2 ++ [y])
  | _, _, .nil => .cons h .nil
  | _, _, .cons r t => .cons r (awSnoc h t)
theorem awMap {α β : Type} {F G : α → β → Prop} (f : ∀ a b, F a b → G a b) : ∀ {l : List α} {l2 : List β}, Paired F l l2 → Paired G l l2
  | _, _, .nil => .nil
  | _, _, .cons r t => .cons (f _ _ r) (awMap f t)
theorem awLen {α β : Type} {F : α → β → Prop} : ∀ {l : List α} {l2 : List β}, Paired F l l2 → l.length = l2.length
  | _, _, .nil => rfl
  | _, _, .cons _ t => congrArg (· + 1) (awLen t)
theorem awGet {α β : Type} {F : α → β → Prop} : ∀ {l : List α} {l2 : List β} {i : Nat} {x : α}, Paired F l l2 → l[i]? = some x → ∃ y, l2[i]? = some y ∧ F x y
  | _, _, _, _, .nil, e => by simp at e
  | _, _, 0, _, .cons r _, e => by
    simp only [List.getElem?_cons_zero, Option.some.injEq] at e
    subst e
    exact ⟨_, rfl, r⟩
  | _, _, i + 1, x, .cons _ t, e => by
    simp only [List.getElem?_cons_succ] at e ⊢
    exact awGet t e
theorem awGet2 {α β : Type} {F : α → β → Prop} {l : List α} {l2 : List β} {i : Nat} {y : β} (h : Paired F l l2) (e : l2[i]? = some y) : ∃ x, l[i]? = some x ∧ F x y := by
  have hi : i < l.length := by
    rw [awLen h]
    exact (List.getElem?_eq_some_iff.mp e).1
  obtain ⟨y2, e2, f⟩ := awGet h (List.getElem?_eq_getElem hi)
  rw [e] at e2
  obtain rfl := Option.some.inj e2
  exact ⟨_, List.getElem?_eq_getElem hi, f⟩
/-- deeds that stand in the heap as tuples -/
abbrev DsAt (H : Hp) : List Addr → List Deed → Prop := Paired fun r d => H r = some (.tup (dV d))
def RowAt (H : Hp) (R : Addr) (m : Int) (ds : List Deed) (o : Int) : Prop := ∃ D rs, H R = some (.tup [.int m, .ref D, .int o]) ∧ H D = some (.tup (rs.map V.ref)) ∧ DsAt H rs ds
structure DsOk (m : Int) (ds : List Deed) : Prop where
  each : ∀ (k : Nat) d, ds[k]? = some d → DeedOk (m + k) d
structure RowOk (m : Int) (ds : List Deed) (o : Int) : Prop where
  m1 : 1 ≤ m
  m3 : m ≤ 3
  len : ds.length ≤ 8
  deeds : DsOk m ds
  o0 : 0 ≤ o
  o1 : o < m + ds.length
/-- all tuples stand -/
def TupsStay (H H' : Hp) : Prop := ∀ b xs, H b = some (.tup xs) → H' b = some (.tup xs)
theorem Same.tups {H H' : Hp} (s : Same H H') : TupsStay H H' := fun b xs e => s b _ e
theorem Kp.tups {a c : Addr} {H H' : Hp} (k : Kp a c H H') (w : WL H a c) : TupsStay H H' := fun b xs e => k.tup w e
theorem TupsStay.trans {H H1 H2 : Hp} (a : TupsStay H H1) (b : TupsStay H1 H2) : TupsStay H H2 := fun c xs e => b c xs (a c xs e)
theorem tups_put {H : Hp} {l : Addr} {xs : List V} {o : HO} (h : H l = some (.lst xs)) : TupsStay H (upd H l o) := fun b ys e => by
  rw [upd_ne (ne_of e h (fun z => nomatch z))]
  exact e
theorem TupsStay.ds {H H' : Hp} (t : TupsStay H H') {rs : List Addr} {ds : List Deed} (h : DsAt H rs ds) : DsAt H' rs ds := awMap (fun r d e => t r _ e) h
theorem TupsStay.row {H H' : Hp} (t : TupsStay H H') {R : Addr} {m o : Int} {ds : List Deed} (h : RowAt H R m ds o) : RowAt H' R m ds o := by
  obtain ⟨D, rs, e1, e2, e3⟩ := h
  exact ⟨D, rs, t _ _ e1, t _ _ e2, t.ds e3⟩
theorem dsOk_snoc {m : Int} {ds : List Deed} {d : Deed} (h : DsOk m ds) (k : DeedOk (m + ds.length) d) : DsOk m (ds ++ [d]) := by
  constructor
  intro i d' e
  by_cases hi : i < ds.length
  · rw [List.getElem?_append_left hi] at e
    exact h.each i d' e
  · rw [List.getElem?_append_right (by omega)] at e
    obtain ⟨h1, h2⟩ := List.getElem?_eq_some_iff.mp e
    have h3 : i = ds.length := by simp only [List.length_cons, List.length_nil] at h1; omega
    subst h3
    simp at h2
    subst h2
    exact k
/-! ### data that is shown in few signs -/
structure Nice (b k : Nat) (d : PyData) : Prop where
  sh : d.showable = true
  lv : d.leavesShort 21 = true
  bk : d.bulk ≤ b
  dp : d.depth ≤ k
theorem Nice.fits {b k : Nat} {d : PyData} (h : Nice b k d) (hb : b ≤ 100000) : d.shown.length ≤ sizeLine := by
  have h1 := PyData.shown_le_bulk 21 (by decide) d h.lv
  have h2 := h.bk
  rw [sizeLine_eq]
  omega
theorem Nice.mono {b b2 k k2 : Nat} {d : PyData} (h : Nice b k d) (hb : b ≤ b2) (hk : k ≤ k2) : Nice b2 k2 d := ⟨h.sh, h.lv, Nat.le_trans h.bk hb, Nat.le_trans h.dp hk⟩
theorem nice_int {i : Int} (h : i.natAbs < 10 ^ 20) : Nice 0 0 (.int i) := by
  refine ⟨?_, ?_, ?_, ?_⟩
  · simp only [PyData.showable, decide_eq_true_eq]
    have : i.natAbs < 2 ^ 70 := Nat.lt_trans h (by decide)
    by_cases e : i.natAbs = 0
    · rw [e]; decide
    · have := (Nat.log2_lt e).mpr this
      omega
  · simp only [PyData.leavesShort, decide_eq_true_eq]
    have e := int_text_length_le10 (k := 20) (by decide) h
    simp only [PyData.shown]
    rw [PySem.ofString_length]
    exact e
  · simp only [PyData.bulk, Nat.le_refl]
  · simp only [PyData.depth, Nat.le_refl]
theorem nice_str {x : Str} {n : Nat} (h : x.cps.size ≤ n) (hx : (x.cps.toList.all fun c => decide (c < 16 ^ 8)) = true) : Nice n 0 (.str x) := by
  refine ⟨?_, ?_, ?_, ?_⟩
  · simp only [PyData.showable]
  · simp only [PyData.leavesShort]
    exact hx
  · simp only [PyData.bulk]
    exact h
  · simp only [PyData.depth, Nat.le_refl]
theorem nice_all {b k : Nat} : ∀ {xs : List PyData}, (∀ x ∈ xs, Nice b k x) → PyData.showableAll xs = true ∧ PyData.leavesShortAll 21 xs = true ∧ PyData.bulkAll xs ≤ xs.length * (b + 1) ∧ PyData.depthAll xs ≤ k
  | [], _ => ⟨by simp only [PyData.showableAll], by simp only [PyData.leavesShortAll], by simp only [PyData.bulkAll, Nat.zero_le], by simp only [PyData.depthAll, Nat.zero_le]⟩
  | x :: xs, h => by
    obtain ⟨h1, h2, h3, h4⟩ := nice_all fun y hy => h y (List.mem_cons_of_mem _ hy)
    obtain ⟨g1, g2, g3, g4⟩ := h x List.mem_cons_self
    refine ⟨by simp only [PyData.showableAll, g1, h1, Bool.and_self], by simp only [PyData.leavesShortAll, g2, h2, Bool.and_self], ?_, ?_⟩
    · simp only [PyData.bulkAll, List.length_cons, Nat.add_mul, Nat.one_mul]
      omega
    · simp only [PyData.depthAll]
      omega
theorem nice_tup {b k n : Nat} {xs : List PyData} (h : ∀ x ∈ xs, Nice b k x) (hn : xs.length * (b + 1) ≤ n) : Nice n (k + 1) (.tuple xs) := by
  obtain ⟨h1, h2, h3, h4⟩ := nice_all h
  exact ⟨by simpa only [PyData.showable] using h1, by simpa only [PyData.leavesShort] using h2, by simp only [PyData.bulk]; omega, by simp only [PyData.depth]; omega⟩
theorem nice_lst {b k n : Nat} {xs : List PyData} (h : ∀ x ∈ xs, Nice b k x) (hn : xs.length * (b + 1) ≤ n) : Nice n (k + 1) (.list xs) := by
  obtain ⟨h1, h2, h3, h4⟩ := nice_all h
  exact ⟨by simpa only [PyData.showable] using h1, by simpa only [PyData.leavesShort] using h2, by simp only [PyData.bulk]; omega, by simp only [PyData.depth]; omega⟩
def deedD (d : Deed) : PyData := .tuple (.str d.1 :: d.2.map PyData.int)
def rowD (m : Int) (ds : List Deed) (o : Int) : PyData := .tuple [.int m, .tuple (ds.map deedD), .int o]
theorem fw_short : ∀ p ∈ fwL, p.1.cps.size ≤ 5 ∧ (p.1.cps.toList.all fun c => decide (c < 16 ^ 8)) = true ∧ p.2 ≤ 2 := by decide +kernel
theorem nice_deed {m : Int} {d : Deed} (h : DeedOk m d) (hm : m ≤ 100) : Nice 18 1 (deedD d) := by
  obtain ⟨h1, h2, h3⟩ := fw_short _ h.word
  refine nice_tup (b := 5) (k := 0) (fun x hx => ?_) ?_
  · rcases List.mem_cons.mp hx with rfl | hx
    · exact nice_str h1 h2
    · obtain ⟨i, hi, rfl⟩ := List.mem_map.mp hx
      obtain ⟨i0, i1⟩ := h.ahead i hi
      exact (nice_int (by omega)).mono (by decide) (by decide)
  · rw [List.length_cons, List.length_map]
    have : (d.2.length : Int) ≤ 2 := h3
    omega
theorem nice_row {m o : Int} {ds : List Deed} (h : RowOk m ds o) : Nice 459 3 (rowD m ds o) := by
  have hm := h.m1
  have hm3 := h.m3
  have hl := h.len
  have ho := h.o0
  have ho1 := h.o1
  refine nice_tup (b := 152) (k := 2) (fun x hx => ?_) (by simp only [List.length_cons, List.length_nil]; decide)
  simp only [List.mem_cons, List.not_mem_nil, or_false] at hx
  rcases hx with rfl | rfl | rfl
  · exact (nice_int (by omega)).mono (by decide) (by decide)
  · refine nice_tup (b := 18) (k := 1) (fun x hx => ?_) ?_
    · obtain ⟨d, hd, rfl⟩ := List.mem_map.mp hx
      obtain ⟨k, hk⟩ := List.mem_iff_getElem?.mp hd
      have hk1 := (List.getElem?_eq_some_iff.mp hk).1
      exact nice_deed (h.deeds.each k d hk) (by omega)
    · rw [List.length_map]
      omega
  · exact (nice_int (by omega)).mono (by decide) (by decide)
/-! ### what the row reads -/
section
variable {X : Cx}
theorem rz_ints (H : Hp) : ∀ l : List Int, Paired (Rz X H) (l.map V.int) (l.map PyData.int)
  | [] => .nil
  | i :: l => .cons (Rz.int H i) (rz_ints H l)
theorem rz_deed {H : Hp} {r : Addr} {d : Deed} (h : H r = some (.tup (dV d))) : Rz X H (.ref r) (deedD d) := Rz.tup (SqT.of h) (.cons (Rz.str H _) (rz_ints H _))
theorem rz_deeds {H : Hp} : ∀ {rs : List Addr} {ds : List Deed}, DsAt H rs ds → Paired (Rz X H) (rs.map V.ref) (ds.map deedD)
  | _, _, .nil => .nil
  | _, _, .cons h t => .cons (rz_deed h) (rz_deeds t)
theorem rz_row {H : Hp} {R : Addr} {m o : Int} {ds : List Deed} (h : RowAt H R m ds o) : Rz X H (.ref R) (rowD m ds o) := by
  obtain ⟨D, rs, e1, e2, e3⟩ := h
  exact Rz.tup (SqT.of e1) (.cons (Rz.int H m) (.cons (Rz.tup (SqT.of e2) (rz_deeds e3)) (.cons (Rz.int H o) .nil)))
/-- a dict of texts and ints -/
abbrev siK (es : List (Str × Int)) : List (Key × V) := es.map fun p => (Sum.inr p.1, .int p.2)
theorem si_reads {prog : Program} {w : World} {h : Heap} : ∀ (es : List (Str × Int)) (vs : List (Key × Value)) (en : List DictEntry), KV (siK es) vs → Pairs (mixKind prog w) en vs →
    ReadsAll h (en.map (·.key)) ((es.map fun p => (PyData.str p.1, PyData.int p.2)).map (·.1)) [] ∧ ReadsAll h (en.map (·.val)) ((es.map fun p => (PyData.str p.1, PyData.int p.2)).map (·.2)) []
  | [], _, _, .nil, .nil => ⟨.nil, .nil⟩
  | (x, i) :: es, _, _, .cons hh t, .cons hk hv hp => by
    obtain ⟨h1, h2⟩ := si_reads es _ _ t hp
    obtain ⟨k1, t1, e1⟩ := hh
    rw [← k1] at hk
    obtain ⟨t2, e2⟩ := Value.isStrOf_shape (x := x) hk
    refine ⟨?_, ?_⟩
    · simp only [List.map_cons]
      rw [e2]
      exact ReadsAll.cons (as := []) (Reads.str x t2) h1
    · simp only [List.map_cons]
      rw [hv, e1]
      exact ReadsAll.cons (as := []) (Reads.int i t1) h2
theorem rz_dict {H : Hp} {C : Addr} {es : List (Str × Int)} (h : H C = some (.dK (siK es))) : Rz X H (.ref C) (.dict (es.map fun p => (PyData.str p.1, PyData.int p.2))) := by
  intro pins σ s u I r
  obtain rfl : u = Value.ref C := r
  obtain ⟨_, hs, vs, hkv, o, en, ep, e1, e2, e3, e4, e5, e6⟩ := I.hok C _ h
  obtain ⟨r1, r2⟩ := si_reads (prog := X.prog) (w := X.w) (h := s.heap) es vs _ hkv e5
  refine ⟨_, Reads.dict e1 e2.1 e3 r1 r2, ?_⟩
  intro z
  simp only [List.append_nil, List.mem_cons, List.not_mem_nil, or_false] at z
  rw [← z] at hs
  simp at hs
end
theorem nice_dict {n : Nat} : ∀ {es : List (Str × Int)}, (∀ p ∈ es, p.1.cps.size ≤ 5 ∧ (p.1.cps.toList.all fun c => decide (c < 16 ^ 8)) = true ∧ p.2.natAbs < 10 ^ 20) → es.length * 7 ≤ n →
    Nice n 1 (.dict (es.map fun p => (PyData.str p.1, PyData.int p.2))) := by
  intro es h hn
  have key : ∀ es : List (Str × Int), (∀ p ∈ es, p.1.cps.size ≤ 5 ∧ (p.1.cps.toList.all fun c => decide (c < 16 ^ 8)) = true ∧ p.2.natAbs < 10 ^ 20) →
      PyData.showableKv (es.map fun p => (PyData.str p.1, PyData.int p.2)) = true ∧ PyData.leavesShortKv 21 (es.map fun p => (PyData.str p.1, PyData.int p.2)) = true ∧ PyData.bulkKv (es.map fun p => (PyData.str p.1, PyData.int p.2)) ≤ es.length * 7 ∧ PyData.depthKv (es.map fun p => (PyData.str p.1, PyData.int p.2)) = 0 := by
    intro es
    induction es with
    | nil => intro _; exact ⟨by simp only [List.map_nil, PyData.showableKv], by simp only [List.map_nil, PyData.leavesShortKv], by simp only [List.map_nil, PyData.bulkKv, Nat.zero_le], by simp only [List.map_nil, PyData.depthKv]⟩
    | cons p es ih =>
      intro h
      obtain ⟨h1, h2, h3, h4⟩ := ih fun q hq => h q (List.mem_cons_of_mem _ hq)
      obtain ⟨a, b, c⟩ := h p List.mem_cons_self
      obtain ⟨i1, i2, i3, i4⟩ := nice_int c
      obtain ⟨s1, s2, s3, s4⟩ := nice_str a b
      refine ⟨by simp only [List.map_cons, PyData.showableKv, i1, s1, h1, Bool.and_self], by simp only [List.map_cons, PyData.leavesShortKv, i2, s2, h2, Bool.and_self], ?_, ?_⟩
      · simp only [List.map_cons, PyData.bulkKv, List.length_cons]
        omega
      · simp only [List.map_cons, PyData.depthKv]
        omega
  obtain ⟨h1, h2, h3, h4⟩ := key es h
  exact ⟨by simpa only [PyData.showable] using h1, by simpa only [PyData.leavesShort] using h2, by simp only [PyData.bulk]; omega, by simp only [PyData.depth]; omega⟩
/-! ### values of rows -/
theorem strEq {x y : Str} (h : decide (V.str x = V.str y) = true) : x = y := V.str.inj (of_decide_eq_true h)
theorem strNe {x y : Str} (h : ¬ decide (V.str x = V.str y) = true) : ¬ x = y := fun e => h (decide_eq_true (congrArg V.str e))
def argAt (d : Deed) (told : List Int) (k : Nat) : Int := told.getD (d.2.getD k 0).toNat 0
def dvalue (x : Str) (A B size : Int) : Int :=
  if x = "none" then 0 else if x = "one" then 1 else if x = "all" then size - 1 else if x = "not" then size - 1 - A else if x = "neg" then -A else if x = "twice" then A + A
  else if x = "and" then Builtin.bitAnd A B else if x = "or" then Builtin.bitOr A B else if x = "xor" then Builtin.bitXor A B else if x = "add" then A + B else A - B
def dval (size : Int) (d : Deed) (told : List Int) : Int := dvalue d.1 (argAt d told 0) (argAt d told 1) size % size
def vals (size : Int) : List Deed → List Int → List Int
  | [], told => told
  | d :: ds, told => vals size ds (told ++ [dval size d told])
theorem vals_append (size : Int) : ∀ (l1 l2 : List Deed) (t : List Int), vals size (l1 ++ l2) t = vals size l2 (vals size l1 t)
  | [], _, _ => rfl
  | d :: l1, l2, t => vals_append size l1 l2 (t ++ [dval size d t])
theorem vals_len {size : Int} : ∀ (ds : List Deed) (t : List Int), (vals size ds t).length = t.length + ds.length
  | [], _ => rfl
  | d :: ds, t => by
    show (vals size ds (t ++ [dval size d t])).length = _
    rw [vals_len ds, List.length_append, List.length_cons, List.length_cons, List.length_nil]
    omega
theorem vals_next {size : Int} {ds : List Deed} {i : Nat} {d : Deed} {t : List Int} (h : ds[i]? = some d) : vals size (ds.take (i + 1)) t = vals size (ds.take i) t ++ [dval size d (vals size (ds.take i) t)] := by
  rw [List.take_add_one, h, vals_append]
  rfl
theorem atI_ints {l : List Int} {o : Int} (h0 : 0 ≤ o) (h1 : o < l.length) : atI (l.map V.int) o = some (.int (l.getD o.toNat 0)) := by
  obtain ⟨k, rfl⟩ := Int.eq_ofNat_of_zero_le h0
  have hk : k < l.length := by omega
  apply atI_nat
  rw [List.getElem?_map, List.getElem?_eq_getElem hk, Int.toNat_natCast, List.getD_eq_getElem?_getD, List.getElem?_eq_getElem hk]
  rfl
theorem fw_one : ∀ p ∈ fwL, ¬ p.1 = "none" → ¬ p.1 = "one" → ¬ p.1 = "all" → 1 ≤ p.2 := by decide +kernel
theorem fw_two' : ∀ p ∈ fwL, (decide (p.1 ∈ (["none", "one", "all", "not", "neg", "twice"] : List Str)) || decide (2 ≤ p.2)) = true := by decide +kernel
theorem fw_two (p : Str × Int) (h : p ∈ fwL) (n1 : ¬ p.1 = "none") (n2 : ¬ p.1 = "one") (n3 : ¬ p.1 = "all") (n4 : ¬ p.1 = "not") (n5 : ¬ p.1 = "neg") (n6 : ¬ p.1 = "twice") : 2 ≤ p.2 := by
  have e := fw_two' p h
  rw [Bool.or_eq_true] at e
  rcases e with e | e
  · have e2 := of_decide_eq_true e
    simp only [List.mem_cons, List.not_mem_nil, or_false] at e2
    rcases e2 with e2 | e2 | e2 | e2 | e2 | e2
    · exact absurd e2 n1
    · exact absurd e2 n2
    · exact absurd e2 n3
    · exact absurd e2 n4
    · exact absurd e2 n5
    · exact absurd e2 n6
  · exact of_decide_eq_true e
theorem arg_of {d : Deed} {told : List Int} (h : DeedOk told.length d) {k : Nat} (hk : k < d.2.length) : ∃ i, d.2[k]? = some i ∧ 0 ≤ i ∧ atI (told.map V.int) i = some (.int (argAt d told k)) := by
  have hg := List.getElem?_eq_getElem hk
  obtain ⟨i0, i1⟩ := h.ahead _ (List.getElem_mem hk)
  refine ⟨d.2[k], hg, i0, ?_⟩
  rw [atI_ints i0 i1]
  unfold argAt
  rw [List.getD_eq_getElem?_getD (l := d.2), hg]
  rfl
theorem arg1 {d : Deed} {told : List Int} (h : DeedOk told.length d) (n1 : ¬ d.1 = "none") (n2 : ¬ d.1 = "one") (n3 : ¬ d.1 = "all") : ∃ i, d.2[0]? = some i ∧ 0 ≤ i ∧ atI (told.map V.int) i = some (.int (argAt d told 0)) :=
  arg_of h (by have := fw_one _ h.word n1 n2 n3; show 0 < d.2.length; have e : (1 : Int) ≤ (d.2.length : Int) := this; omega)
theorem arg2 {d : Deed} {told : List Int} (h : DeedOk told.length d) (n1 : ¬ d.1 = "none") (n2 : ¬ d.1 = "one") (n3 : ¬ d.1 = "all") (n4 : ¬ d.1 = "not") (n5 : ¬ d.1 = "neg") (n6 : ¬ d.1 = "twice") :
    ∃ i, d.2[1]? = some i ∧ 0 ≤ i ∧ atI (told.map V.int) i = some (.int (argAt d told 1)) :=
  arg_of h (by have := fw_two _ h.word n1 n2 n3 n4 n5 n6; show 1 < d.2.length; have e : (2 : Int) ≤ (d.2.length : Int) := this; omega)
/-! ### the low bits of values -/
theorem pw_cast (n : Nat) : (2 : Int) ^ n = ((2 ^ n : Nat) : Int) := (PySem.W.kbt_cast n).symm
theorem pw_le {n k : Nat} (h : n ≤ k) : (2 : Int) ^ n ≤ 2 ^ k := by
  rw [pw_cast, pw_cast]
  exact Int.ofNat_le.mpr (Nat.pow_le_pow_right (by decide) h)
theorem pw_pos (n : Nat) : (0 : Int) < 2 ^ n := Int.pow_pos (by decide)
theorem castMod (a n : Nat) : ((a : Int) % 2 ^ n) = ((a % 2 ^ n : Nat) : Int) := by rw [pw_cast, Int.natCast_emod]
theorem low_and {A B : Int} (n : Nat) (ha : 0 ≤ A) (hb : 0 ≤ B) : Builtin.bitAnd (A % 2 ^ n) (B % 2 ^ n) % 2 ^ n = Builtin.bitAnd A B % 2 ^ n := by
  obtain ⟨a, rfl⟩ := Int.eq_ofNat_of_zero_le ha
  obtain ⟨b, rfl⟩ := Int.eq_ofNat_of_zero_le hb
  rw [castMod, castMod, bitAnd_pp (Int.natCast_nonneg _) (Int.natCast_nonneg _), bitAnd_pp (Int.natCast_nonneg _) (Int.natCast_nonneg _), castMod, castMod]
  simp only [Int.toNat_natCast]
  rw [Nat.and_mod_two_pow, Nat.and_mod_two_pow, Nat.mod_mod, Nat.mod_mod]
theorem low_or {A B : Int} (n : Nat) (ha : 0 ≤ A) (hb : 0 ≤ B) : Builtin.bitOr (A % 2 ^ n) (B % 2 ^ n) % 2 ^ n = Builtin.bitOr A B % 2 ^ n := by
  obtain ⟨a, rfl⟩ := Int.eq_ofNat_of_zero_le ha
  obtain ⟨b, rfl⟩ := Int.eq_ofNat_of_zero_le hb
  rw [castMod, castMod, bitOr_nn (Int.natCast_nonneg _) (Int.natCast_nonneg _), bitOr_nn (Int.natCast_nonneg _) (Int.natCast_nonneg _), castMod, castMod]
  simp only [Int.toNat_natCast]
  rw [Nat.or_mod_two_pow, Nat.or_mod_two_pow, Nat.mod_mod, Nat.mod_mod]
theorem low_xor {A B : Int} (n : Nat) (ha : 0 ≤ A) (hb : 0 ≤ B) : Builtin.bitXor (A % 2 ^ n) (B % 2 ^ n) % 2 ^ n = Builtin.bitXor A B % 2 ^ n := by
  obtain ⟨a, rfl⟩ := Int.eq_ofNat_of_zero_le ha
  obtain ⟨b, rfl⟩ := Int.eq_ofNat_of_zero_le hb
  rw [castMod, castMod, Bits.bitXor_pp (Int.natCast_nonneg _) (Int.natCast_nonneg _), Bits.bitXor_pp (Int.natCast_nonneg _) (Int.natCast_nonneg _), castMod, castMod]
  simp only [Int.toNat_natCast]
  rw [Nat.xor_mod_two_pow, Nat.xor_mod_two_pow, Nat.mod_mod, Nat.mod_mod]
theorem pw_dvd {n k : Nat} (h : n ≤ k) : (2 : Int) ^ n ∣ 2 ^ k := ⟨2 ^ (k - n), by rw [← Int.pow_add]; congr 1; omega⟩
theorem emod_same {a b m : Int} (k : Int) (h : a - b = m * k) : a % m = b % m := Int.emod_eq_emod_iff_emod_sub_eq_zero.mpr (by rw [h]; exact Int.mul_emod_right m k)
theorem dvalue_low' {x : Str} {N c qa qb ra rb A B : Int} (ea : N * qa + ra = A) (eb : N * qb + rb = B) (l1 : Builtin.bitAnd ra rb % N = Builtin.bitAnd A B % N) (l2 : Builtin.bitOr ra rb % N = Builtin.bitOr A B % N)
    (l3 : Builtin.bitXor ra rb % N = Builtin.bitXor A B % N) : dvalue x ra rb N % N = dvalue x A B (N * c) % N := by
  unfold dvalue
  by_cases h1 : x = "none"
  · rw [if_pos h1, if_pos h1]
  rw [if_neg h1, if_neg h1]
  by_cases h2 : x = "one"
  · rw [if_pos h2, if_pos h2]
  rw [if_neg h2, if_neg h2]
  by_cases h3 : x = "all"
  · rw [if_pos h3, if_pos h3]
    exact emod_same (1 - c) (by rw [Int.mul_sub, Int.mul_one]; omega)
  rw [if_neg h3, if_neg h3]
  by_cases h4 : x = "not"
  · rw [if_pos h4, if_pos h4]
    exact emod_same (1 - c + qa) (by rw [Int.mul_add, Int.mul_sub, Int.mul_one]; omega)
  rw [if_neg h4, if_neg h4]
  by_cases h5 : x = "neg"
  · rw [if_pos h5, if_pos h5]
    exact emod_same qa (by omega)
  rw [if_neg h5, if_neg h5]
  by_cases h6 : x = "twice"
  · rw [if_pos h6, if_pos h6]
    exact emod_same (-qa - qa) (by rw [Int.mul_sub, Int.mul_neg]; omega)
  rw [if_neg h6, if_neg h6]
  by_cases h7 : x = "and"
  · rw [if_pos h7, if_pos h7]
    exact l1
  rw [if_neg h7, if_neg h7]
  by_cases h8 : x = "or"
  · rw [if_pos h8, if_pos h8]
    exact l2
  rw [if_neg h8, if_neg h8]
  by_cases h9 : x = "xor"
  · rw [if_pos h9, if_pos h9]
    exact l3
  rw [if_neg h9, if_neg h9]
  by_cases h10 : x = "add"
  · rw [if_pos h10, if_pos h10]
    exact emod_same (-qa - qb) (by rw [Int.mul_sub, Int.mul_neg]; omega)
  rw [if_neg h10, if_neg h10]
  exact emod_same (qb - qa) (by rw [Int.mul_sub]; omega)
theorem dvalue_low {x : Str} {A B : Int} {n k : Nat} (hA : 0 ≤ A) (hB : 0 ≤ B) (h : n ≤ k) : dvalue x (A % 2 ^ n) (B % 2 ^ n) (2 ^ n) % 2 ^ n = dvalue x A B (2 ^ k) % 2 ^ n := by
  obtain ⟨c, hc⟩ := pw_dvd h
  rw [hc]
  exact dvalue_low' (Int.mul_ediv_add_emod A (2 ^ n)) (Int.mul_ediv_add_emod B (2 ^ n)) (low_and n hA hB) (low_or n hA hB) (low_xor n hA hB)
theorem getD_low (N : Int) (l : List Int) (i : Nat) : (l.map (· % N)).getD i 0 = l.getD i 0 % N := by
  rw [List.getD_eq_getElem?_getD, List.getD_eq_getElem?_getD, List.getElem?_map]
  cases l[i]? with
  | none => exact (Int.zero_emod N).symm
  | some y => rfl
theorem arg_nn {told : List Int} (h : ∀ x ∈ told, 0 ≤ x) (d : Deed) (j : Nat) : 0 ≤ argAt d told j := by
  unfold argAt
  rw [List.getD_eq_getElem?_getD]
  cases e : told[(d.2.getD j 0).toNat]? with
  | none => exact Int.le_refl 0
  | some y => exact h y (List.mem_of_getElem? e)
theorem dval_low {d : Deed} {told : List Int} {n k : Nat} (h : ∀ x ∈ told, 0 ≤ x) (hk : n ≤ k) : dval (2 ^ n) d (told.map (· % 2 ^ n)) = dval (2 ^ k) d told % 2 ^ n := by
  unfold dval
  have e : ∀ j, argAt d (told.map (· % 2 ^ n)) j = argAt d told j % 2 ^ n := fun j => getD_low _ _ _
  rw [e, e, dvalue_low (arg_nn h d 0) (arg_nn h d 1) hk, Int.emod_emod_of_dvd _ (pw_dvd hk)]
theorem vals_low {n k : Nat} (hk : n ≤ k) : ∀ (ds : List Deed) (told : List Int), (∀ x ∈ told, 0 ≤ x) → vals (2 ^ n) ds (told.map (· % 2 ^ n)) = (vals (2 ^ k) ds told).map (· % 2 ^ n)
  | [], _, _ => rfl
  | d :: ds, told, h => by
    show vals (2 ^ n) ds (told.map (· % 2 ^ n) ++ [dval (2 ^ n) d (told.map (· % 2 ^ n))]) = (vals (2 ^ k) ds (told ++ [dval (2 ^ k) d told])).map (· % 2 ^ n)
    rw [dval_low h hk, ← vals_low hk ds, List.map_append]
    · rfl
    · intro x hx
      rcases List.mem_append.mp hx with hx | hx
      · exact h x hx
      · rw [List.mem_singleton.mp hx]
        exact Int.emod_nonneg _ (by have := pw_pos k; omega)
theorem vals_range {size : Int} (hs : 0 < size) : ∀ (ds : List Deed) (told : List Int), (∀ x ∈ told, 0 ≤ x ∧ x < size) → ∀ x ∈ vals size ds told, 0 ≤ x ∧ x < size
  | [], _, h => h
  | d :: ds, told, h => by
    refine vals_range hs ds (told ++ [dval size d told]) fun x hx => ?_
    rcases List.mem_append.mp hx with hx | hx
    · exact h x hx
    · rw [List.mem_singleton.mp hx]
      exact ⟨Int.emod_nonneg _ (by omega), Int.emod_lt_of_pos _ hs⟩
/-! ### lists of ints compared -/
theorem eqv_ints : ∀ l : List Int, PyData.eqv (.list (l.map PyData.int)) (.list (l.map PyData.int)) = true := fun l => SeqAt.eqv_refl _ (SeqAt.canLay_of_shaped (shaped_ints l))
theorem dget_at {H : Hp} {a : Addr} {kvs : List (Key × V)} {k : Key} {v : V} (e : H a = some (.dK kvs)) (h : valV kvs k = some v) : DGet H a (kV k) (some v) := h ▸ DGet.k e
theorem fw_cases {x : Str} {n : Nat} (h : (x, (n : Int)) ∈ fwL) : (n = 0 ∧ (x = "none" ∨ x = "one" ∨ x = "all")) ∨ (n = 1 ∧ (x = "not" ∨ x = "neg" ∨ x = "twice")) ∨ (n = 2 ∧ (x = "and" ∨ x = "or" ∨ x = "xor" ∨ x = "add" ∨ x = "sub")) := by
  unfold fwL at h
  simp only [List.mem_cons, List.not_mem_nil, or_false, Prod.mk.injEq] at h
  rcases h with h | h | h | h | h | h | h | h | h | h | h
  · exact .inl ⟨by omega, .inl h.1⟩
  · exact .inl ⟨by omega, .inr (.inl h.1)⟩
  · exact .inl ⟨by omega, .inr (.inr h.1)⟩
  · exact .inr (.inl ⟨by omega, .inl h.1⟩)
  · exact .inr (.inl ⟨by omega, .inr (.inl h.1)⟩)
  · exact .inr (.inl ⟨by omega, .inr (.inr h.1)⟩)
  · exact .inr (.inr ⟨by omega, .inl h.1⟩)
  · exact .inr (.inr ⟨by omega, .inr (.inl h.1)⟩)
  · exact .inr (.inr ⟨by omega, .inr (.inr (.inl h.1))⟩)
  · exact .inr (.inr ⟨by omega, .inr (.inr (.inr (.inl h.1)))⟩)
  · exact .inr (.inr ⟨by omega, .inr (.inr (.inr (.inr h.1)))⟩)
theorem and_lt {A B : Int} {n : Nat} (a0 : 0 ≤ A) (a1 : A < 2 ^ n) (b0 : 0 ≤ B) : Builtin.bitAnd A B % 2 ^ n = Builtin.bitAnd A B := by
  obtain ⟨a, rfl⟩ := Int.eq_ofNat_of_zero_le a0
  obtain ⟨b, rfl⟩ := Int.eq_ofNat_of_zero_le b0
  rw [bitAnd_pp (Int.natCast_nonneg _) (Int.natCast_nonneg _), castMod]
  rw [pw_cast] at a1
  simp only [Int.toNat_natCast]
  rw [Nat.mod_eq_of_lt (Nat.lt_of_le_of_lt Nat.and_le_left (by omega))]
theorem or_lt {A B : Int} {n : Nat} (a0 : 0 ≤ A) (a1 : A < 2 ^ n) (b0 : 0 ≤ B) (b1 : B < 2 ^ n) : Builtin.bitOr A B % 2 ^ n = Builtin.bitOr A B := by
  obtain ⟨a, rfl⟩ := Int.eq_ofNat_of_zero_le a0
  obtain ⟨b, rfl⟩ := Int.eq_ofNat_of_zero_le b0
  rw [bitOr_nn (Int.natCast_nonneg _) (Int.natCast_nonneg _), castMod]
  rw [pw_cast] at a1 b1
  simp only [Int.toNat_natCast]
  rw [Nat.mod_eq_of_lt (Nat.or_lt_two_pow (by omega) (by omega))]
theorem xor_lt {A B : Int} {n : Nat} (a0 : 0 ≤ A) (a1 : A < 2 ^ n) (b0 : 0 ≤ B) (b1 : B < 2 ^ n) : Builtin.bitXor A B % 2 ^ n = Builtin.bitXor A B := by
  obtain ⟨a, rfl⟩ := Int.eq_ofNat_of_zero_le a0
  obtain ⟨b, rfl⟩ := Int.eq_ofNat_of_zero_le b0
  rw [Bits.bitXor_pp (Int.natCast_nonneg _) (Int.natCast_nonneg _), castMod]
  rw [pw_cast] at a1 b1
  simp only [Int.toNat_natCast]
  rw [Nat.mod_eq_of_lt (Nat.xor_lt_two_pow (by omega) (by omega))]
/-! ### all but the first -/
theorem sIx_one (x : V) (xs : List V) : HT.sIx (x :: xs).length 0 (some 1) = 1 := by
  have e : HT.sIx (x :: xs).length 0 (some 1) = min 1 (x :: xs).length := HT.sIx_nat (x :: xs).length 0 1
  rw [e, List.length_cons]
  omega
theorem cutTail (x : V) (xs : List V) : cutV (x :: xs) (some 1) none = xs := by
  have h2 : HT.sIx (x :: xs).length (x :: xs).length none = (x :: xs).length := HT.sIx_none _ _
  unfold cutV
  rw [sIx_one, h2]
  simp
theorem notWhole (x : V) (xs : List V) : ¬ (HT.sIx (x :: xs).length 0 (some 1) = 0 ∧ HT.sIx (x :: xs).length (x :: xs).length none = (x :: xs).length) := by
  rw [sIx_one]
  exact fun h => absurd h.1 (by decide)
theorem intEq {x y : Int} (h : decide (V.int x = V.int y) = true) : x = y := V.int.inj (of_decide_eq_true h)
theorem intNe {x y : Int} (h : ¬ decide (V.int x = V.int y) = true) : ¬ x = y := fun e => h (decide_eq_true (congrArg V.int e))
/-! ### t + u of two tuples at hand, whatever they hold -/
section
variable {X : Cx}
def rCatZ : R2 := fun x y H Q => ∃ a b xs ys, x = .ref a ∧ y = .ref b ∧ H a = some (.tup xs) ∧ H b = some (.tup ys) ∧ xs.length + ys.length ≤ sizeLine ∧ ∀ p H2, Same H H2 → H2 p = some (.tup (xs ++ ys)) → Q (.ref p) H2
theorem op_catZ : OpR X (binaryOp .Add) rCatZ := by
  intro pins s σ H x y v u Q I rx ry h
  obtain ⟨a, b, xs, ys, rfl, rfl, ha, hb, hz, q⟩ := h
  refine op_catA pins s σ H _ _ v u Q I rx ry ⟨a, b, xs, ys, rfl, rfl, SqT.of ha, SqT.of hb, hz, fun e => ?_, fun _ e => ?_, fun _ _ p hp => ?_⟩
  · subst e
    exact q b H (Same.refl H) hb
  · subst e
    exact q a H (Same.refl H) (by rw [List.append_nil]; exact ha)
  · exact q p _ (same_new hp) upd_same
end
theorem awAppend {α β : Type} {F : α → β → Prop} : ∀ {l k : List α} {l2 k2 : List β}, Paired F l l2 → Paired F k k2 → Paired F (l ++ k) (l2 ++ k2)
  | _, _, _, _, .nil, h => h
  | _, _, _, _, .cons r t, h => .cons r (awAppend t h)
theorem dsOk_append {m t : Int} {ds es : List Deed} (h : DsOk m ds) (k : DsOk t es) (e : t = m + ds.length) : DsOk m (ds ++ es) := by
  constructor
  intro i d hi
  by_cases hl : i < ds.length
  · rw [List.getElem?_append_left hl] at hi
    exact h.each i d hi
  · rw [List.getElem?_append_right (by omega)] at hi
    have := k.each _ d hi
    rw [e] at this
    have e2 : m + (ds.length : Int) + ((i - ds.length : Nat) : Int) = m + i := by omega
    rw [e2] at this
    exact this
/-- all but one stands as it stood -/
def But (f : Addr) (H H2 : Hp) : Prop := ∀ b o, b ≠ f → H b = some o → H2 b = some o
theorem But.trans {f : Addr} {H H1 H2 : Hp} (a : But f H H1) (b : But f H1 H2) : But f H H2 := fun c o n e => b c o n (a c o n e)
theorem But.same {f : Addr} {H H2 : Hp} (s : Same H H2) : But f H H2 := fun b o _ e => s b o e
theorem But.put {f : Addr} {H : Hp} {o : HO} : But f H (upd H f o) := fun b u n e => by
  rw [upd_ne n]
  exact e
theorem But.tups {f : Addr} {H H2 : Hp} {xs : List V} (h : But f H H2) (e : H f = some (.lst xs)) : TupsStay H H2 := fun b ys z => h b _ (ne_of z e (fun q => nomatch q)) z
/-! ### the tape -/
def TP (H : Hp) (a : Addr) : Prop := ∃ x y : Int, H a = some (.lst [.int x, .int y])
theorem TP.same {H H2 : Hp} {a : Addr} (h : TP H a) (s : Same H H2) : TP H2 a := by
  obtain ⟨x, y, e⟩ := h
  exact ⟨x, y, s _ _ e⟩
theorem TP.ne_new {H : Hp} {a p : Addr} (h : TP H a) (e : H p = none) : p ≠ a := by
  obtain ⟨x, y, e1⟩ := h
  exact (ne_of_none e1 e).symm
theorem TP.upd {H : Hp} {a p : Addr} {o : HO} (h : TP H a) (n : p ≠ a) : TP (upd H p o) a := by
  obtain ⟨x, y, e1⟩ := h
  exact ⟨x, y, by rw [upd_ne n.symm]; exact e1⟩
theorem But.tape {a : Addr} {H H2 : Hp} (h : But a H H2) (t : TP H a) : TupsStay H H2 := by
  obtain ⟨x, y, e⟩ := t
  exact h.tups e
theorem But.refl (a : Addr) (H : Hp) : But a H H := fun _ _ _ e => e
theorem atI_in {α : Type} {l : List α} {i : Int} (h0 : 0 ≤ i) (h1 : i < l.length) : ∃ v, atI l i = some v ∧ v ∈ l := by
  obtain ⟨k, rfl⟩ := Int.eq_ofNat_of_zero_le h0
  have hk : k < l.length := by omega
  exact ⟨l[k], atI_nat (List.getElem?_eq_getElem hk), List.getElem_mem hk⟩
/-! ### texts in written tuples -/
theorem inS (x : Str) : ∀ l : List Str, inV (.str x) (l.map V.str) = decide (x ∈ l)
  | [] => rfl
  | y :: l => by
    have ih := inS x l
    show (eqV (.str y) (.str x) || inV (.str x) (l.map V.str)) = _
    rw [ih]
    by_cases h : x = y
    · subst h
      simp [eqV]
    · have h2 : ¬ y = x := fun e => h e.symm
      simp [eqV, h, h2]
def tw12 : List Str := ["add", "sub", "and", "xor", "or", "not", "twice", "neg", "all", "one", "none", "add"]
def twC : List Str := ["add", "sub", "twice", "neg", "one"]
theorem tw_zero : ∀ x ∈ (["all", "one", "none"] : List Str), (x, (0 : Int)) ∈ fwL := by decide +kernel
theorem tw_one : ∀ x ∈ (["not", "twice", "neg"] : List Str), (x, (1 : Int)) ∈ fwL := by decide +kernel
theorem tw_two : ∀ x ∈ tw12, x ∈ (["all", "one", "none"] : List Str) ∨ x ∈ (["not", "twice", "neg"] : List Str) ∨ (x, (2 : Int)) ∈ fwL := by decide +kernel
theorem tw_four : ∀ x ∈ (["and", "or", "xor", "not"] : List Str), x ∈ tw12 := by decide +kernel
theorem mem_strs {v : V} {l : List Str} (h : v ∈ l.map V.str) : ∃ x, x ∈ l ∧ v = .str x := by
  obtain ⟨x, hx, e⟩ := List.mem_map.mp h
  exact ⟨x, hx, e.symm⟩
/-! ### bits and carries of rows -/
def fcD (d : Deed) : Int := if d.1 ∈ (["neg", "one"] : List Str) then 1 else 0
def dbit (x : Str) (a b c : Int) : Int :=
  if x = "none" then 0 else if x = "all" then 1 else if x = "one" then c else if x = "twice" then c else if x = "not" then 1 - a else if x = "neg" then Builtin.bitXor (1 - a) c
  else if x = "and" then Builtin.bitAnd a b else if x = "or" then Builtin.bitOr a b else if x = "xor" then Builtin.bitXor a b else Builtin.bitXor (Builtin.bitXor a b) c
def dcar (x : Str) (a b c : Int) : Int :=
  if x = "neg" then Builtin.bitAnd (1 - a) c else if x = "twice" then a else if x = "add" then (a + b + c) / 2 else if x = "sub" then (1 - a + b + c) / 2 else 0
def dbitAt (d : Deed) (c : Int) (told : List Int) : Int := dbit d.1 (argAt d told 0) (argAt d told 1) c
def dcarAt (d : Deed) (c : Int) (told : List Int) : Int := dcar d.1 (argAt d told 0) (argAt d told 1) c
def bts : List Deed → List Int → List Int → List Int
  | d :: ds, c :: cs, told => bts ds cs (told ++ [dbitAt d c told])
  | _, _, told => told
def nxt (ds : List Deed) (cs told : List Int) : List Int := List.zipWith (fun d c => dcarAt d c told) ds cs
abbrev Bit (x : Int) : Prop := x = 0 ∨ x = 1
theorem bit0 : Bit 0 := .inl rfl
theorem bit1 : Bit 1 := .inr rfl
theorem dbit_bit {x : Str} {a b c : Int} (ha : Bit a) (hb : Bit b) (hc : Bit c) : Bit (dbit x a b c) := by
  have n1 : Bit (1 - a) := by rcases ha with rfl | rfl <;> simp [Bit]
  have hx : ∀ {p q : Int}, Bit p → Bit q → Bit (Builtin.bitXor p q) := fun hp hq => by
    rcases hp with rfl | rfl <;> rcases hq with rfl | rfl <;> decide
  have hand : ∀ {p q : Int}, Bit p → Bit q → Bit (Builtin.bitAnd p q) := fun hp hq => by
    rcases hp with rfl | rfl <;> rcases hq with rfl | rfl <;> decide
  have hor : ∀ {p q : Int}, Bit p → Bit q → Bit (Builtin.bitOr p q) := fun hp hq => by
    rcases hp with rfl | rfl <;> rcases hq with rfl | rfl <;> decide
  unfold dbit
  split; · exact bit0
  split; · exact bit1
  split; · exact hc
  split; · exact hc
  split; · exact n1
  split; · exact hx n1 hc
  split; · exact hand ha hb
  split; · exact hor ha hb
  split; · exact hx ha hb
  exact hx (hx ha hb) hc
theorem dcar_bit {x : Str} {a b c : Int} (ha : Bit a) (hb : Bit b) (hc : Bit c) : Bit (dcar x a b c) := by
  unfold dcar
  split
  · rcases ha with rfl | rfl <;> rcases hc with rfl | rfl <;> decide
  split; · exact ha
  split
  · rcases ha with rfl | rfl <;> rcases hb with rfl | rfl <;> rcases hc with rfl | rfl <;> decide
  split
  · rcases ha with rfl | rfl <;> rcases hb with rfl | rfl <;> rcases hc with rfl | rfl <;> decide
  exact bit0
theorem argAt_bit {told : List Int} (h : ∀ x ∈ told, Bit x) (d : Deed) (j : Nat) : Bit (argAt d told j) := by
  unfold argAt
  rw [List.getD_eq_getElem?_getD]
  cases e : told[(d.2.getD j 0).toNat]? with
  | none => exact bit0
  | some y => exact h y (List.mem_of_getElem? e)
theorem bts_next : ∀ {ds : List Deed} {cs t : List Int} {i : Nat} {d : Deed} {c : Int}, ds[i]? = some d → cs[i]? = some c → bts (ds.take (i + 1)) (cs.take (i + 1)) t = bts (ds.take i) (cs.take i) t ++ [dbitAt d c (bts (ds.take i) (cs.take i) t)]
  | [], _, _, _, _, _, h, _ => by simp at h
  | _ :: _, [], _, _, _, _, _, h => by simp at h
  | e :: ds, g :: cs, t, 0, d, c, h, k => by
    simp only [List.getElem?_cons_zero, Option.some.injEq] at h k
    subst h k
    rfl
  | e :: ds, g :: cs, t, i + 1, d, c, h, k => by
    simp only [List.getElem?_cons_succ] at h k
    exact bts_next (t := t ++ [dbitAt e g t]) h k
theorem bts_len : ∀ {ds : List Deed} {cs t : List Int}, ds.length = cs.length → (bts ds cs t).length = t.length + ds.length
  | [], [], _, _ => rfl
  | [], _ :: _, _, h => by simp at h
  | _ :: _, [], _, h => by simp at h
  | d :: ds, c :: cs, t, h => by
    show (bts ds cs (t ++ [dbitAt d c t])).length = _
    rw [bts_len (by simpa using h), List.length_append, List.length_cons, List.length_cons, List.length_nil]
    omega
theorem bts_bits : ∀ {ds : List Deed} {cs t : List Int}, (∀ x ∈ t, Bit x) → (∀ x ∈ cs, Bit x) → ∀ x ∈ bts ds cs t, Bit x
  | [], cs, t, h, _ => by
    unfold bts
    exact h
  | _ :: _, [], t, h, _ => by
    unfold bts
    exact h
  | d :: ds, c :: cs, t, h, k => by
    refine bts_bits (ds := ds) (cs := cs) (t := t ++ [dbitAt d c t]) (fun x hx => ?_) fun x hx => k x (List.mem_cons_of_mem _ hx)
    rcases List.mem_append.mp hx with hx | hx
    · exact h x hx
    · rw [List.mem_singleton.mp hx]
      exact dbit_bit (argAt_bit h d 0) (argAt_bit h d 1) (k c List.mem_cons_self)
theorem nxt_len {ds : List Deed} {cs t : List Int} (h : ds.length = cs.length) : (nxt ds cs t).length = ds.length := by
  unfold nxt
  rw [List.length_zipWith]
  omega
theorem nxt_bits {ds : List Deed} {cs t : List Int} (h : ∀ x ∈ t, Bit x) (k : ∀ x ∈ cs, Bit x) : ∀ x ∈ nxt ds cs t, Bit x := by
  intro x hx
  unfold nxt at hx
  obtain ⟨i, hi⟩ := List.mem_iff_getElem?.mp hx
  rw [List.getElem?_zipWith] at hi
  cases e1 : ds[i]? with
  | none => rw [e1] at hi; simp at hi
  | some d =>
    cases e2 : cs[i]? with
    | none => rw [e1, e2] at hi; simp at hi
    | some c =>
      rw [e1, e2] at hi
      have := Option.some.inj hi
      rw [← this]
      exact dcar_bit (argAt_bit h d 0) (argAt_bit h d 1) (k c (List.mem_of_getElem? e2))
theorem nxt_next {ds : List Deed} {cs t : List Int} {i : Nat} {d : Deed} {c : Int} (h : ds[i]? = some d) (k : cs[i]? = some c) : (nxt ds cs t).take (i + 1) = (nxt ds cs t).take i ++ [dcarAt d c t] := by
  rw [List.take_add_one]
  unfold nxt
  rw [List.getElem?_zipWith, h, k]
  rfl
section
variable {K : PySem.W.Frag} {a b : Addr} {xs ys : List V}
theorem walk_zipT (hn : xs.length = ys.length) : Walk (RZ.ItzT K a b) xs.length (fun H => SqT K H a xs ∧ SqT K H b ys) (YPair (fun i => xs[i]?) (fun i => ys[i]?)) where
  goes := fun i H hi q => ⟨xs, ys, xs[i], ys[i]'(by omega), q.1, q.2, List.getElem?_eq_getElem hi, List.getElem?_eq_getElem (by omega)⟩
  stops := fun H q => ⟨xs, ys, q.1, q.2, .inl (Nat.le_refl _)⟩
  yields := fun i H v H2 hi q y => by
    obtain ⟨T, x, z, h1, h2, h3, h4, h5⟩ := y
    exact ⟨T, x, z, h1, h2, h3, h4 xs q.1, h5 ys q.2⟩
end
/-! ### own exceptions as values -/
section
variable {X : Cx} {K : PySem.W.Frag}
theorem kit_ref {D C : Addr} {b : Bool} (h1 : PySem.W.isClsIn K C = true) (h2 : PySem.W.typeIn K (.ref C) = some (.type "type")) (h3 : PySem.W.subIn K (.ref D) (.ref C) = some b) (h4 : PySem.W.subIn K (.ref C) (.ref C) = some true) : PySem.W.kitOne K (.ref D) (.ref C) = some b := by
  unfold PySem.W.kitOne
  by_cases e : D = C
  · subst e
    rw [h3] at h4
    rw [if_pos (by simp), h4]
  · rw [if_neg (by simpa using e)]
    have e1 : ((PySem.W.clsIn K C).isSome && PySem.W.typeIn K (.ref C) == some (.type "type")) = true := by
      have h1' : (PySem.W.clsIn K C).isSome = true := h1
      rw [h1', h2]
      rfl
    show (if ((PySem.W.clsIn K C).isSome && PySem.W.typeIn K (.ref C) == some (.type "type")) = true then PySem.W.subIn K (.ref D) (.ref C) else none) = some b
    rw [if_pos e1]
    exact h3
theorem kit_ve {D : Addr} {b : Bool} (h : PySem.W.subIn K (.ref D) (.type "ValueError") = some b) : PySem.W.kitOne K (.ref D) (.type "ValueError") = some b := by
  have e1 : PySem.W.kitMeta "ValueError" = true := by decide +kernel
  show (if PySem.W.kitMeta "ValueError" = true then PySem.W.subIn K (.ref D) (.type "ValueError") else none) = some b
  rw [if_pos e1]
  exact h
def rIsX (K : PySem.W.Frag) : List V → Hp → VK → Prop := fun xs H Q => ∃ (a D : Addr) (c : V) (cv : Value) (b : Bool), xs = [.ref a, c] ∧ H a = some (ExO (.ref D) a) ∧ ExcC K D ∧ ClsV c cv ∧ PySem.W.kitOne K (.ref D) cv = some b ∧ Q (.bl b) H
theorem call_isX : CallR X (.builtin "isinstance") (rIsX X.K) := by
  intro pins s σ H xs us Q I r h
  obtain ⟨a, D, c, cv, b, rfl, ha, hD, hc, hk, q⟩ := h
  match us, r with
  | [u1, u2], .cons r1 (.cons r2 .nil) =>
    obtain rfl : u1 = Value.ref a := r1
    obtain rfl := ClsV.eq hc r2
    obtain ⟨⟨oe, vs, hget, ⟨z1, z2⟩, hv, _⟩, _, _⟩ := I.hok a _ ha
    have J : PySem.W.InstAt s.heap a oe D none := by
      obtain ⟨oc, od, oda, osl⟩ := oe
      dsimp only at z1 z2 hv
      subst z1 z2 hv
      exact ⟨hget, rfl, rfl, trivial⟩
    exact PySem.W.kia_one (PySem.W.handS_kitx_exc hD.hg hD.hk hD.hs hD.hd hD.ha hD.hn hD.ht hD.hm) I.kIn J hk (fun z => nomatch z) fun tk => ⟨.bl b, H, I.kept (t' := tk) fun _ _ z => z, rfl, q⟩
end
theorem dp_bls {K : PySem.W.Frag} {H : Hp} : ∀ cs : List Bool, DpAll K H (cs.map V.bl) (cs.map PyData.bool)
  | [] => .nil
  | c :: cs => .cons (.bl c) (dp_bls cs)
theorem lay_bls : ∀ cs : List Bool, PyData.canLayAll0 (cs.map PyData.bool) = true ∧ PyData.depthAll (cs.map PyData.bool) = 0
  | [] => ⟨by simp only [List.map_nil, PyData.canLayAll0], by simp only [List.map_nil, PyData.depthAll]⟩
  | c :: cs => by
    obtain ⟨h1, h2⟩ := lay_bls cs
    exact ⟨by simp only [List.map_cons, PyData.canLayAll0, PyData.canLay0, h1, Bool.and_self], by simp only [List.map_cons, PyData.depthAll, PyData.depth, h2, Nat.max_self]⟩
theorem shaped_bls (cs : List Bool) : SeqAt.shaped (.list (cs.map PyData.bool)) = true := by
  obtain ⟨h1, h2⟩ := lay_bls cs
  simp only [SeqAt.shaped, PyData.canLay0, PyData.depth, h1, h2, Bool.true_and]
  decide
theorem eqv_bls (l : List Bool) : PyData.eqv (.list (l.map PyData.bool)) (.list (l.map PyData.bool)) = true := SeqAt.eqv_refl _ (SeqAt.canLay_of_shaped (shaped_bls l))
/-- a test that is never asked -/
def tNevT : TT := fun _ _ _ => False
theorem pt_never {X : Cx} {e : Expr} : PT X e tNevT := ⟨fun _ _ _ _ _ _ h => h.elim⟩
end AW
namespace KK
open PySem PySem.Spec PyProof.Rows L2 AW
def topS (i : Nat) : Stmt := PySem.Challenge.pw_anywide_k90_greatest_and_least_worths.main.body.getD i (.Pass ⟨0, 0, 0, 0⟩)
abbrev s_wall : Stmt := topS 0
abbrev N_wall : List Str := ["k"]
theorem sc_wall : FnScope N_wall ["k"] (defScope s_wall) := ⟨rfl, rfl, rfl, by decide +kernel, rfl, by decide +kernel, by decide +kernel⟩
abbrev s_all_bits : Stmt := topS 2
abbrev N_all_bits : List Str := ["many", "choices", "place", "bits", "bit"]
theorem sc_all_bits : FnScope N_all_bits ["many"] (defScope s_all_bits) := ⟨rfl, rfl, rfl, by decide +kernel, rfl, by decide +kernel, by decide +kernel⟩
abbrev s_first_carry : Stmt := topS 3
abbrev N_first_carry : List Str := ["row", "deed"]
theorem sc_first_carry : FnScope N_first_carry ["row"] (defScope s_first_carry) := ⟨rfl, rfl, rfl, by decide +kernel, rfl, by decide +kernel, by decide +kernel⟩
abbrev s_deed_bit : Stmt := topS 4
abbrev N_deed_bit : List Str := ["deed", "held", "told", "word", "first", "second"]
theorem sc_deed_bit : FnScope N_deed_bit ["deed", "held", "told"] (defScope s_deed_bit) := ⟨rfl, rfl, rfl, by decide +kernel, rfl, by decide +kernel, by decide +kernel⟩
abbrev s_bits_of : Stmt := topS 5
abbrev N_bits_of : List Str := ["row", "carry", "bits", "told", "deed", "held"]
theorem sc_bits_of : FnScope N_bits_of ["row", "carry", "bits"] (defScope s_bits_of) := ⟨rfl, rfl, rfl, by decide +kernel, rfl, by decide +kernel, by decide +kernel⟩
abbrev s_two_or_more : Stmt := topS 6
abbrev N_two_or_more : List Str := ["one", "other", "third"]
theorem sc_two_or_more : FnScope N_two_or_more ["one", "other", "third"] (defScope s_two_or_more) := ⟨rfl, rfl, rfl, by decide +kernel, rfl, by decide +kernel, by decide +kernel⟩
abbrev s_deed_carry : Stmt := topS 7
abbrev N_deed_carry : List Str := ["deed", "held", "told", "word"]
theorem sc_deed_carry : FnScope N_deed_carry ["deed", "held", "told"] (defScope s_deed_carry) := ⟨rfl, rfl, rfl, by decide +kernel, rfl, by decide +kernel, by decide +kernel⟩
abbrev s_carry_behind : Stmt := topS 8
abbrev N_carry_behind : List Str := ["row", "carry", "told", "deed", "held"]
theorem sc_carry_behind : FnScope N_carry_behind ["row", "carry", "told"] (defScope s_carry_behind) := ⟨rfl, rfl, rfl, by decide +kernel, rfl, by decide +kernel, by decide +kernel⟩
abbrev s_steps : Stmt := topS 9
abbrev N_steps : List Str := ["row", "carry", "told", "bits", "all_told"]
theorem sc_steps : FnScope N_steps ["row", "carry"] (defScope s_steps) := ⟨rfl, rfl, rfl, by decide +kernel, rfl, by decide +kernel, by decide +kernel⟩
abbrev s_both_steps : Stmt := topS 21
abbrev N_both_steps : List Str := ["ones", "others", "bit", "after", "others_bit", "others_after"]
theorem sc_both_steps : FnScope N_both_steps ["ones", "others"] (defScope s_both_steps) := ⟨rfl, rfl, rfl, by decide +kernel, rfl, by decide +kernel, by decide +kernel⟩
abbrev s_check_pair : Stmt := topS 23
abbrev N_check_pair : List Str := ["row", "other"]
theorem sc_check_pair : FnScope N_check_pair ["row", "other"] (defScope s_check_pair) := ⟨rfl, rfl, rfl, by decide +kernel, rfl, by decide +kernel, by decide +kernel⟩
abbrev s_whole_machine : Stmt := topS 25
abbrev N_whole_machine : List Str := ["row", "choices", "walk", "machine", "at", "carry", "state", "bits", "bit", "after"]
theorem sc_whole_machine : FnScope N_whole_machine ["row"] (defScope s_whole_machine) := ⟨rfl, rfl, rfl, by decide +kernel, rfl, by decide +kernel, by decide +kernel⟩
abbrev s_numbered : Stmt := topS 26
abbrev N_numbered : List Str := ["looks", "numbers", "look"]
theorem sc_numbered : FnScope N_numbered ["looks"] (defScope s_numbered) := ⟨rfl, rfl, rfl, by decide +kernel, rfl, by decide +kernel, by decide +kernel⟩
abbrev s_kinds_of_states : Stmt := topS 27
abbrev N_kinds_of_states : List Str := ["machine", "kinds", "many", "behind", "bit", "after", "state"]
theorem sc_kinds_of_states : FnScope N_kinds_of_states ["machine"] (defScope s_kinds_of_states) := ⟨rfl, rfl, rfl, by decide +kernel, rfl, by decide +kernel, by decide +kernel⟩
abbrev s_least_machine : Stmt := topS 28
abbrev N_least_machine : List Str := ["row", "whole", "kinds", "least", "kind", "state", "bit", "after"]
theorem sc_least_machine : FnScope N_least_machine ["row"] (defScope s_least_machine) := ⟨rfl, rfl, rfl, by decide +kernel, rfl, by decide +kernel, by decide +kernel⟩
abbrev s_packed : Stmt := topS 30
abbrev N_packed : List Str := ["width", "gain", "bits", "number", "bit"]
theorem sc_packed : FnScope N_packed ["width", "gain", "bits"] (defScope s_packed) := ⟨rfl, rfl, rfl, by decide +kernel, rfl, by decide +kernel, by decide +kernel⟩
abbrev s_unpacked : Stmt := topS 31
abbrev N_unpacked : List Str := ["many", "width", "number", "words", "place"]
theorem sc_unpacked : FnScope N_unpacked ["many", "width", "number"] (defScope s_unpacked) := ⟨rfl, rfl, rfl, by decide +kernel, rfl, by decide +kernel, by decide +kernel⟩
abbrev s_best_ways : Stmt := topS 32
abbrev N_best_ways : List Str := ["width", "choices", "pairs", "most", "bits", "gain", "after", "more"]
theorem sc_best_ways : FnScope N_best_ways ["width", "choices", "pairs"] (defScope s_best_ways) := ⟨rfl, rfl, rfl, by decide +kernel, rfl, by decide +kernel, by decide +kernel⟩
abbrev s_greatest : Stmt := topS 33
abbrev N_greatest : List Str := ["many", "width", "gains", "choices", "ways", "best", "place", "pairs", "after", "more", "way"]
theorem sc_greatest : FnScope N_greatest ["many", "width", "gains"] (defScope s_greatest) := ⟨rfl, rfl, rfl, by decide +kernel, rfl, by decide +kernel, by decide +kernel⟩
abbrev s_greatest_worth : Stmt := topS 34
abbrev N_greatest_worth : List Str := ["row", "width"]
theorem sc_greatest_worth : FnScope N_greatest_worth ["row", "width"] (defScope s_greatest_worth) := ⟨rfl, rfl, rfl, by decide +kernel, rfl, by decide +kernel, by decide +kernel⟩
abbrev s_least_worth : Stmt := topS 35
abbrev N_least_worth : List Str := ["row", "width", "machine", "amount", "words", "bit", "after", "state"]
theorem sc_least_worth : FnScope N_least_worth ["row", "width"] (defScope s_least_worth) := ⟨rfl, rfl, rfl, by decide +kernel, rfl, by decide +kernel, by decide +kernel⟩
abbrev s_gains_of_both : Stmt := topS 36
abbrev N_gains_of_both : List Str := ["row", "other", "ones", "others", "choices", "walk", "gains", "at", "state", "others_state", "pairs", "bits", "bit", "others_bit", "after"]
theorem sc_gains_of_both : FnScope N_gains_of_both ["row", "other"] (defScope s_gains_of_both) := ⟨rfl, rfl, rfl, by decide +kernel, rfl, by decide +kernel, by decide +kernel⟩
abbrev s_greatest_ahead : Stmt := topS 37
abbrev N_greatest_ahead : List Str := ["row", "other", "width"]
theorem sc_greatest_ahead : FnScope N_greatest_ahead ["row", "other", "width"] (defScope s_greatest_ahead) := ⟨rfl, rfl, rfl, by decide +kernel, rfl, by decide +kernel, by decide +kernel⟩
abbrev s_law_tape : Stmt := topS 39
abbrev N_law_tape : List Str := ["script", "start", "cell"]
theorem sc_law_tape : FnScope N_law_tape ["script", "start"] (defScope s_law_tape) := ⟨rfl, rfl, rfl, by decide +kernel, rfl, by decide +kernel, by decide +kernel⟩
abbrev s_law_digit : Stmt := topS 40
abbrev N_law_digit : List Str := ["tape", "many", "found", "more"]
theorem sc_law_digit : FnScope N_law_digit ["tape", "many"] (defScope s_law_digit) := ⟨rfl, rfl, rfl, by decide +kernel, rfl, by decide +kernel, by decide +kernel⟩
abbrev s_law_deed : Stmt := topS 41
abbrev N_law_deed : List Str := ["tape", "ahead", "left", "some", "word", "numbers"]
theorem sc_law_deed : FnScope N_law_deed ["tape", "ahead", "left"] (defScope s_law_deed) := ⟨rfl, rfl, rfl, by decide +kernel, rfl, by decide +kernel, by decide +kernel⟩
abbrev s_law_carrying : Stmt := topS 42
abbrev N_law_carrying : List Str := ["deeds", "deed"]
theorem sc_law_carrying : FnScope N_law_carrying ["deeds"] (defScope s_law_carrying) := ⟨rfl, rfl, rfl, by decide +kernel, rfl, by decide +kernel, by decide +kernel⟩
abbrev s_law_row : Stmt := topS 43
abbrev N_law_row : List Str := ["tape", "many", "most", "left", "deeds", "k", "out"]
theorem sc_law_row : FnScope N_law_row ["tape", "many", "most", "left"] (defScope s_law_row) := ⟨rfl, rfl, rfl, by decide +kernel, rfl, by decide +kernel, by decide +kernel⟩
abbrev s_law_value : Stmt := topS 44
abbrev N_law_value : List Str := ["deed", "told", "full", "word", "one", "other"]
theorem sc_law_value : FnScope N_law_value ["deed", "told", "full"] (defScope s_law_value) := ⟨rfl, rfl, rfl, by decide +kernel, rfl, by decide +kernel, by decide +kernel⟩
abbrev s_law_values : Stmt := topS 45
abbrev N_law_values : List Str := ["row", "width", "words", "told", "deed"]
theorem sc_law_values : FnScope N_law_values ["row", "width", "words"] (defScope s_law_values) := ⟨rfl, rfl, rfl, by decide +kernel, rfl, by decide +kernel, by decide +kernel⟩
abbrev s_law_bit : Stmt := topS 46
abbrev N_law_bit : List Str := ["deed", "carry", "bits", "word", "one", "other"]
theorem sc_law_bit : FnScope N_law_bit ["deed", "carry", "bits"] (defScope s_law_bit) := ⟨rfl, rfl, rfl, by decide +kernel, rfl, by decide +kernel, by decide +kernel⟩
abbrev s_law_carry : Stmt := topS 47
abbrev N_law_carry : List Str := ["deed", "carry", "bits", "word"]
theorem sc_law_carry : FnScope N_law_carry ["deed", "carry", "bits"] (defScope s_law_carry) := ⟨rfl, rfl, rfl, by decide +kernel, rfl, by decide +kernel, by decide +kernel⟩
abbrev s_law_step : Stmt := topS 48
abbrev N_law_step : List Str := ["row", "carry", "bits", "told", "deed", "one"]
theorem sc_law_step : FnScope N_law_step ["row", "carry", "bits"] (defScope s_law_step) := ⟨rfl, rfl, rfl, by decide +kernel, rfl, by decide +kernel, by decide +kernel⟩
abbrev s_law_first : Stmt := topS 49
abbrev N_law_first : List Str := ["row", "deed"]
theorem sc_law_first : FnScope N_law_first ["row"] (defScope s_law_first) := ⟨rfl, rfl, rfl, by decide +kernel, rfl, by decide +kernel, by decide +kernel⟩
abbrev s_law_bits : Stmt := topS 50
abbrev N_law_bits : List Str := ["many", "found", "k", "some"]
theorem sc_law_bits : FnScope N_law_bits ["many"] (defScope s_law_bits) := ⟨rfl, rfl, rfl, by decide +kernel, rfl, by decide +kernel, by decide +kernel⟩
abbrev s_law_rewritten : Stmt := topS 51
abbrev N_law_rewritten : List Str := ["tape", "deed", "at", "word", "ways", "some", "one", "other"]
theorem sc_law_rewritten : FnScope N_law_rewritten ["tape", "deed", "at"] (defScope s_law_rewritten) := ⟨rfl, rfl, rfl, by decide +kernel, rfl, by decide +kernel, by decide +kernel⟩
abbrev s_law_like : Stmt := topS 52
abbrev N_law_like : List Str := ["tape", "row", "many", "deeds", "out", "at", "named", "found", "k", "deed", "told", "one"]
theorem sc_law_like : FnScope N_law_like ["tape", "row"] (defScope s_law_like) := ⟨rfl, rfl, rfl, by decide +kernel, rfl, by decide +kernel, by decide +kernel⟩
abbrev s_law_bent : Stmt := topS 53
abbrev N_law_bent : List Str := ["tape", "row", "many", "deeds", "out", "way", "at", "deed", "place", "some"]
theorem sc_law_bent : FnScope N_law_bent ["tape", "row"] (defScope s_law_bent) := ⟨rfl, rfl, rfl, by decide +kernel, rfl, by decide +kernel, by decide +kernel⟩
abbrev s_law_pair : Stmt := topS 54
abbrev N_law_pair : List Str := ["tape", "many", "row", "way", "other"]
theorem sc_law_pair : FnScope N_law_pair ["tape", "many"] (defScope s_law_pair) := ⟨rfl, rfl, rfl, by decide +kernel, rfl, by decide +kernel, by decide +kernel⟩
abbrev s_law_behind : Stmt := topS 55
abbrev N_law_behind : List Str := ["row", "other", "pair", "found", "bits", "one", "here", "two", "there"]
theorem sc_law_behind : FnScope N_law_behind ["row", "other", "pair"] (defScope s_law_behind) := ⟨rfl, rfl, rfl, by decide +kernel, rfl, by decide +kernel, by decide +kernel⟩
abbrev s_law_most : Stmt := topS 56
abbrev N_law_most : List Str := ["row", "other", "width", "best", "known", "at", "later", "pair", "more", "there", "total"]
theorem sc_law_most : FnScope N_law_most ["row", "other", "width"] (defScope s_law_most) := ⟨rfl, rfl, rfl, by decide +kernel, rfl, by decide +kernel, by decide +kernel⟩
abbrev s_law_told_right : Stmt := topS 57
abbrev N_law_told_right : List Str := ["row", "width", "found", "number"]
theorem sc_law_told_right : FnScope N_law_told_right ["row", "width", "found"] (defScope s_law_told_right) := ⟨rfl, rfl, rfl, by decide +kernel, rfl, by decide +kernel, by decide +kernel⟩
abbrev s_law_right : Stmt := topS 58
abbrev N_law_right : List Str := ["row", "other", "width", "bare", "found", "worth_here"]
theorem sc_law_right : FnScope N_law_right ["row", "other", "width"] (defScope s_law_right) := ⟨rfl, rfl, rfl, by decide +kernel, rfl, by decide +kernel, by decide +kernel⟩
abbrev s_law_kinds : Stmt := topS 59
abbrev N_law_kinds : List Str := ["caught", "some"]
theorem sc_law_kinds : FnScope N_law_kinds ["caught"] (defScope s_law_kinds) := ⟨rfl, rfl, rfl, by decide +kernel, rfl, by decide +kernel, by decide +kernel⟩
abbrev s_law_refused : Stmt := topS 60
abbrev N_law_refused : List Str := ["row", "other", "width", "caught", "e"]
theorem sc_law_refused : FnScope N_law_refused ["row", "other", "width"] (defScope s_law_refused) := ⟨rfl, rfl, rfl, by decide +kernel, rfl, by decide +kernel, by decide +kernel⟩
abbrev s_law_width : Stmt := topS 61
abbrev N_law_width : List Str := ["tape", "row", "other"]
theorem sc_law_width : FnScope N_law_width ["tape", "row", "other"] (defScope s_law_width) := ⟨rfl, rfl, rfl, by decide +kernel, rfl, by decide +kernel, by decide +kernel⟩
abbrev s_law : Stmt := topS 62
abbrev N_law : List Str := ["script", "start", "tape", "many", "row", "other", "kept", "width", "left", "far"]
theorem sc_law : FnScope N_law ["script"] (defScope s_law) := ⟨rfl, rfl, rfl, by decide +kernel, rfl, by decide +kernel, by decide +kernel⟩
abbrev c_WideError : Stmt := topS 11
abbrev c_NoRow : Stmt := topS 12
abbrev c_NoPair : Stmt := topS 13
abbrev c_NoRule : Stmt := topS 14
abbrev c_NoName : Stmt := topS 15
abbrev c_NoText : Stmt := topS 16
abbrev c_TooMany : Stmt := topS 17
abbrev c_Nothing : Stmt := topS 18
abbrev c_Walk : Stmt := topS 20
section
variable {P : Program} {w : World} {K : PySem.W.Frag} {mg : Str → Option Value} {base : Heap}
/-! ### dicts whose keys are tuples: entries, walks, displays, the least value -/
section dts
theorem dt_raw {H : Hp} {h : Heap} {d : Addr} {kvs : List (List Key × V)} (ok : ObjOk P w H h d (.dT kvs)) :
    (d == sysModules) = false ∧ ∃ es ep, h.DictRaw d es ep ∧ es.size = kvs.length ∧ ∀ (i : Nat) (hi : i < es.size), ∃ k v q, kvs[i]? = some (k, v) ∧ es[i].key = .ref q ∧ H q = some (.tup (k.map kV)) ∧ RelV v es[i].val := by
  obtain ⟨_, hs, xs, pr, o, es, ep, ho, hx, hdt, he, _⟩ := ok
  have l1 : es.size = xs.length := size_of_entries he
  refine ⟨hs, es, ep, ⟨o, ho, hx, hdt⟩, l1.trans (awLen pr).symm, fun i hi => ?_⟩
  have hi2 : i < xs.length := by omega
  obtain ⟨⟨k, v⟩, h1, h2, h3, h4⟩ := awGet2 pr (List.getElem?_eq_getElem hi2)
  have e : es.toList[i]? = some (entryOfKey (tupleKind (mixKind P w)) xs[i]) := by
    rw [he, List.getElem?_map, List.getElem?_eq_getElem hi2]
    rfl
  have e2 : es[i] = entryOfKey (tupleKind (mixKind P w)) xs[i] := by
    rw [Array.getElem?_toList, Array.getElem?_eq_getElem hi] at e
    exact Option.some.inj e
  refine ⟨k, v, xs[i].2.1, h1, ?_, h3, ?_⟩
  · rw [e2]
    rfl
  · rw [e2]
    exact h4
/-- the pairs, each a new tuple with the key's own tuple -/
def ItT (d : Addr) (o : Obj) (kvs : List (List Key × V)) : It where
  go := fun i H => H d = some (.frz o (.dT kvs)) ∧ i < kvs.length
  yld := fun i H x H' => ∃ (T q : Addr) (k : List Key) (v : V), kvs[i]? = some (k, v) ∧ H q = some (.tup (k.map kV)) ∧ x = .ref T ∧ H T = none ∧ H' = upd H T (.tup [.ref q, v])
  stop := fun i H => H d = some (.frz o (.dT kvs)) ∧ kvs.length ≤ i
theorem turn_T {d : Addr} {o : Obj} {kvs : List (List Key × V)} {elts : List Expr} {kk : Nat} {tpos : Pos} (it : Addr) {ep : Nat} {es : Array DictEntry} (hod : o.data = .dict es ep) :
    Turn P w K (.Tuple elts kk tpos) (ItT d o kvs) [it] it (fun i h => ∃ x y, IsItemIter h it d i kvs.length ep x y) where
  mem := List.mem_singleton.mpr rfl
  obj := fun i h st b hb => by
    obtain rfl := List.mem_singleton.mp hb
    obtain ⟨x, y, e⟩ := st
    exact ⟨_, e, fun v z => nomatch z⟩
  keep := fun i h h' st k => by
    obtain ⟨x, y, e⟩ := st
    exact ⟨x, y, k it (List.mem_singleton.mpr rfl) _ e⟩
  item := by
    intro X hP hw hK hc i pins s σ H E I hf st hg
    subst hP hw hK
    obtain ⟨hd, hi⟩ := hg
    obtain ⟨hg1, okd⟩ := I.hok d _ hd
    obtain ⟨_, es', ep', raw, sz, ent⟩ := dt_raw okd
    have raw' := raw
    obtain ⟨o', ho', _, hdt'⟩ := raw'
    obtain rfl : o' = o := Option.some.inj (ho'.symm.trans hg1)
    obtain ⟨rfl, rfl⟩ := dict_ep hod hdt'
    obtain ⟨x, y, he⟩ := st
    have hi' : i < es'.size := by omega
    obtain ⟨k, v, q, hkv, hkey, hq, rv⟩ := ent i hi'
    rw [← sz] at he
    have below : it < s.heap.objs.size := Heap.lt_size he
    refine wpAny_pyNext_items_item_raw he raw hi' fun h' ho hT _ hk => ?_
    refine ⟨_, rfl, wpAny_letOwnedTupleGo_items (s := { s with heap := h' }) ho fun h2 he2 sb => ?_⟩
    have there : h2.get? s.heap.objs.size = some { cls := .type "tuple", data := .seq #[es'[i].key, es'[i].val] } := (sb.2 _ (Nat.ne_of_gt below)).trans hT
    have laid : ObjOk X.prog X.w (upd H s.heap.objs.size (.tup [.ref q, v])) h2 s.heap.objs.size (.tup [.ref q, v]) :=
      ⟨by show 2 ≤ sizeLine; decide, [es'[i].key, es'[i].val], .cons hkey (.cons rv .nil), ⟨_, there, rfl, _, rfl⟩⟩
    refine ⟨.ref s.heap.objs.size, _, I.turnedNew (t' := s.toks) (ch := [it]) (fun b ob hb e => ?_) hf (Nat.le_refl _) laid, rfl, ⟨_, q, k, v, hkv, hq, rfl, I.hok.fresh (Nat.le_refl _), rfl⟩, ⟨es'[i].key, es'[i].val, by rw [← sz]; exact he2⟩, fun b hb => ?_⟩
    · have nb : b ≠ it := fun z => hb (List.mem_singleton.mpr z)
      exact (sb.2 b nb).trans (hk b ob nb e)
    · obtain rfl := List.mem_singleton.mp hb
      rw [upd_ne (Nat.ne_of_lt below)]
      exact (hf b hb).1
  done := by
    intro X hP hw hK hc i pins s σ H E I hf st hg
    subst hP hw hK
    obtain ⟨hd, hi⟩ := hg
    obtain ⟨f0, f1, f2, f3, f4, f5⟩ := hf it (List.mem_singleton.mpr rfl)
    obtain ⟨hg1, okd⟩ := I.hok d _ hd
    obtain ⟨_, es', ep', raw, sz, _⟩ := dt_raw okd
    have raw' := raw
    obtain ⟨o', ho', _, hdt'⟩ := raw'
    obtain rfl : o' = o := Option.some.inj (ho'.symm.trans hg1)
    obtain ⟨rfl, rfl⟩ := dict_ep hod hdt'
    obtain ⟨x, y, he⟩ := st
    rw [← sz] at he
    refine wpAny_pyNext_items_end_raw (I.ok.hd hc) he raw (by omega) fun h' eb => ⟨rfl, ?_⟩
    exact I.turned (t' := s.toks) (fun b ob hb e => eb b ob hb e) f0 f1 f3 f4 f5
  self := fun A i s Q E st h => by
    obtain ⟨x, y, e⟩ := st
    exact wpAny_pyIter_itemiter e h
variable {X : Cx} {e : Expr} {td : TE} {apos cpos : Pos}
def iItT (td : TE) : TI := fun σ H R => td σ H fun x H1 => ∃ d o kvs, x = .ref d ∧ H1 d = some (.frz o (.dT kvs)) ∧ R (ItT d o kvs) H1
theorem pi_itT {elts : List Expr} {kk : Nat} {tpos : Pos} (he : PE X e td) (hb : attributeBase e "items" X.env (eval e X.env) = eval e X.env := by rfl) (hl : (apos.endLine == cpos.line) = true := by rfl) :
    PI X (.Tuple elts kk tpos) (.Call (.Attribute e "items" apos) [] [] cpos) (iItT td) := by
  constructor
  intro pins s σ H R I h
  refine wpAny_Call_method (T := "dict") (id := "dict.items") hb rfl hl F.plainAttrs_dict F.slot_dict_items F.type_dict_items (thn (he.run pins s σ H _ I h) ?_)
  rintro u s1 ⟨x, H1, I1, rx, d, o, kvs, rfl, hd, q⟩
  obtain rfl : u = Value.ref d := rx
  obtain ⟨hg1, okd⟩ := I1.hok d _ hd
  obtain ⟨hs, es, ep, raw, sz, _⟩ := dt_raw okd
  have raw' := raw
  obtain ⟨o', ho', hx', hdt'⟩ := raw'
  obtain rfl : o' = o := Option.some.inj (ho'.symm.trans hg1)
  have I2 : Inv X pins σ H1 { s1 with heap := s1.heap.push { cls := .type "dict_items", data := .fields #[.ref d] } } := I1.kept (t' := s1.toks) fun b ob z => Heap.get?_push_of_some _ z
  refine ⟨raw.typeIs, fun a z => ⟨o', by cases z; exact hg1, hx'.2.1⟩, ?_⟩
  refine method_meetsIn F.slot_dict_items F.entry_dict_items rfl (PySem.evalArgs_none ⟨rfl, raw.typeIs, F.args_dict_items_1 _, _, meets_dict_items_raw d hs, ⟨es, ep, raw⟩, ?_⟩)
  refine wpAny_pyIter_items_raw (d := d) ⟨_, Heap.get?_push_size _ rfl, rfl, rfl⟩ (raw.at fun ob z => Heap.get?_push_of_some _ z) (pi_one (tk := s1.toks) I2 _ (turn_T _ hdt') ⟨.none, .none, ?_⟩ q)
  rw [← sz]
  exact Heap.get?_push_size _ rfl
theorem walk_T {d : Addr} {o : Obj} {kvs : List (List Key × V)} : Walk (ItT d o kvs) kvs.length (fun H => H d = some (.frz o (.dT kvs)))
    (fun i H x H' => ∃ (T q : Addr) (k : List Key) (v : V), kvs[i]? = some (k, v) ∧ H q = some (.tup (k.map kV)) ∧ x = .ref T ∧ H T = none ∧ H' = upd H T (.tup [.ref q, v])) :=
  ⟨fun _ _ hi q => ⟨q, hi⟩, fun _ q => ⟨q, Nat.le_refl _⟩, fun _ _ _ _ _ _ y => y⟩
/-- d.values() -/
def valsO (p d : Addr) : HO := .ext fun h => h.IsValuesView p d
theorem valsO_ok {H : Hp} {h : Heap} {p d : Addr} (e : h.get? p = some { cls := .type "dict_values", data := .fields #[.ref d] }) : ObjOk P w H h p (valsO p d) := by
  refine ⟨⟨_, e, rfl, rfl⟩, ⟨_, e⟩, ?_⟩
  rintro h1 h2 ⟨o, ho, r⟩ k
  exact ⟨o, k o ho, r⟩
def rValsT : V → List V → Hp → VK → Prop := fun x xs H Q => ∃ (a : Addr) (kvs : List (List Key × V)), x = .ref a ∧ xs = [] ∧ H a = some (.dT kvs) ∧ ∀ p, H p = none → Q (.ref p) (upd H p (valsO p a))
theorem mt_valsT : MtR X "dict.values" rValsT := by
  intro pins s σ H x xs v us Q I rx rxs h
  obtain ⟨a, kvs, rfl, rfl, ha, q⟩ := h
  cases rx
  cases rxs
  obtain ⟨hs, es, ep, raw, _⟩ := dt_raw (I.hok a _ ha)
  refine call_meetsIn F.slot_dict_values raw.typeIs F.entry_dict_values (F.args_dict_values_1 _) (meets_dict_values_raw a hs) ⟨⟨es, ep, raw⟩, ?_⟩
  have I2 := I.laid (o := valsO s.heap.objs.size a) (t' := s.toks) (fun b u z => Heap.get?_push_of_some _ z) (Nat.le_refl _) (valsO_ok (H := upd H s.heap.objs.size (valsO s.heap.objs.size a)) (Heap.get?_push_size _ rfl))
  exact ⟨.ref _, _, I2, rfl, q _ (I.hok.fresh (Nat.le_refl _))⟩
theorem best_least {f : Nat → Int} : ∀ n, argBest (fun i j => decide (f i < f j)) n ≤ n ∧ ∀ j, j ≤ n → f (argBest (fun i j => decide (f i < f j)) n) ≤ f j
  | 0 => ⟨Nat.le_refl _, fun j hj => (Nat.le_zero.mp hj).symm ▸ Int.le_refl _⟩
  | n + 1 => by
    obtain ⟨h1, h2⟩ := best_least (f := f) n
    unfold argBest
    by_cases e : f (n + 1) < f (argBest (fun i j => decide (f i < f j)) n)
    · rw [if_pos (by simpa using e)]
      refine ⟨Nat.le_refl _, fun j hj => ?_⟩
      by_cases hj2 : j ≤ n
      · have := h2 j hj2
        omega
      · obtain rfl : j = n + 1 := by omega
        exact Int.le_refl _
    · rw [if_neg (by simpa using e)]
      refine ⟨by omega, fun j hj => ?_⟩
      by_cases hj2 : j ≤ n
      · exact h2 j hj2
      · obtain rfl : j = n + 1 := by omega
        omega
/-- min(d.values()), the values ints -/
def rMinV : List V → Hp → VK → Prop := fun vs H Q => ∃ (p a : Addr) (kvs : List (List Key × V)) (zs : List Int), vs = [.ref p] ∧ H p = some (valsO p a) ∧ H a = some (.dT kvs) ∧ kvs.map (·.2) = zs.map V.int ∧ zs ≠ [] ∧ ∀ z, z ∈ zs → (∀ y ∈ zs, z ≤ y) → Q (.int z) H
theorem call_minV (hc : X.calm = true) : CallR X (.builtin "min") rMinV := by
  intro pins s σ H vs us Q I r h
  obtain ⟨p, a, kvs, zs, rfl, hp, ha, hz, hne, q⟩ := h
  obtain ⟨u, rfl, ru⟩ := vals1 r
  obtain rfl : u = Value.ref p := ru
  obtain ⟨hs, es, ep, raw, sz, ent⟩ := dt_raw (I.hok a _ ha)
  have hv : s.heap.IsValuesView p a := (I.hok p _ hp).1
  have zl : zs.length = es.size := by
    have := congrArg List.length hz
    rw [List.length_map, List.length_map] at this
    omega
  have la : a < s.heap.objs.size := raw.elim fun o z => Heap.lt_size z.1
  refine call_min_walk (wpAny_pyIter_values_raw hv raw ?_)
  have rel : ∀ i v, (∃ hi : i < es.size, v = es[i].val) → ∃ t, v = .int (zs.getD i 0) t := by
    rintro i v ⟨hi, rfl⟩
    obtain ⟨k, v, _, hkv, _, _, rv⟩ := ent i hi
    have e : (kvs.map (·.2))[i]? = some v := by rw [List.getElem?_map, hkv]; rfl
    rw [hz, List.getElem?_map] at e
    cases e2 : zs[i]? with
    | none => rw [e2] at e; cases e
    | some z =>
      rw [e2] at e
      obtain rfl : V.int z = v := Option.some.inj e
      rw [List.getD_eq_getElem?_getD, e2]
      exact rv
  refine ⟨s.heap.objs.size, [s.heap.objs.size, a], [s.heap.objs.size], es.size, _, _, fun i j => decide (zs.getD i 0 < zs.getD j 0), rfl, Walks.rawValues (A := X.A.in1) (I.ok.hd hc) _ a (Nat.ne_of_lt la) es ep, ?_, ?_, ?_, CmpOf.ints_lt (fun i => zs.getD i 0) rel, ?_⟩
  · exact ⟨⟨_, Heap.get?_push_size _ rfl, rfl, rfl⟩, raw.at fun o z => Heap.get?_push_of_some _ z⟩
  · intro b hb
    show b < (s.heap.push _).objs.size
    rw [Heap.size_push]
    simp only [List.mem_cons, List.not_mem_nil, or_false] at hb
    rcases hb with rfl | rfl
    · exact Nat.lt_succ_self _
    · exact Nat.lt_succ_of_lt la
  · have := List.length_pos_iff.mpr hne
    omega
  · intro v h' tk hP hk
    obtain ⟨t, rfl⟩ := rel _ _ hP
    obtain ⟨b1, b2⟩ := best_least (f := fun i => zs.getD i 0) (es.size - 1)
    have pos := List.length_pos_iff.mpr hne
    generalize argBest (fun i j => decide (zs.getD i 0 < zs.getD j 0)) (es.size - 1) = m at b1 b2 hP
    have hm : m < zs.length := by omega
    have em : zs.getD m 0 = zs[m] := by rw [List.getD_eq_getElem?_getD, List.getElem?_eq_getElem hm]; rfl
    refine ⟨.int (zs.getD m 0), H, I.kept fun b o e => hk b o (fun z => ?_) (Heap.get?_push_of_some _ e), ⟨t, rfl⟩, q _ (by rw [em]; exact List.getElem_mem hm) fun y hy => ?_⟩
    · exact absurd (List.mem_singleton.mp z) (Nat.ne_of_lt (Heap.lt_size e))
    · obtain ⟨j, hj, rfl⟩ := List.mem_iff_getElem.mp hy
      have := b2 j (by omega)
      have ej : zs.getD j 0 = zs[j] := by rw [List.getD_eq_getElem?_getD, List.getElem?_eq_getElem hj]; rfl
      rw [ej] at this
      exact this
/-- whether a dict is not empty -/
theorem truth_H {κ : Type} [DecidableEq κ] {knd : HeapKind P w κ} {A : Around} {E : Value → Shared → Prop} {s : Shared} {d : Addr} {xs : List (κ × Addr × Value)} {Q : Bool → Shared → Prop} (hd : (d == sysModules) = false) (hm : s.heap.DictOfH knd d xs)
    (hf : (xs.length : Int) < 2 ^ 63) (h : Q (!xs.isEmpty) { s with toks := s.toks + 1 + 1 }) : wpAny (model P w) A (truthy (.ref d)) Q E s := by
  have e : ((xs.length : Int) != 0) = !xs.isEmpty := by cases xs <;> simp <;> omega
  have run : wpAny (model P w) A (runValue (.builtin "len" ⟨[.ref d], []⟩)) (fun r s' => r = .int xs.length (s.toks + 1) ∧ Q (!xs.isEmpty) s') E s := by
    apply wpAny_runValue
    apply codeAny_builtin entry_len
    rw [Around.under_plainId plain_len _]
    refine wpAny_mono (wpAny_len_body_dictH (Q := fun r s' => r = .int xs.length (s.toks + 1) ∧ Q (!xs.isEmpty) s') hd hm hf ⟨rfl, h⟩) ?_ (fun _ _ z => z)
    rintro fin s' ⟨r, rfl, z⟩
    exact z
  unfold truthy
  first
  | apply wpAny_bind; refine wpAny_callSpecial?_none (name := Str.ofString "__bool__") hm.typeIs noBool_dict ?_
  | apply wpAny_bind; apply wpAny_pure; apply wpAny_bind; refine wpAny_callSpecial?_none (name := Str.ofString "__bool__") hm.typeIs noBool_dict ?_
  first
  | apply wpAny_bind; refine wpAny_specialOf (name := Str.ofString "__len__") hm.typeIs F.slot_dict_len.lookup ?_
  | apply wpAny_bind; apply wpAny_pure; apply wpAny_bind; refine wpAny_specialOf (name := Str.ofString "__len__") hm.typeIs F.slot_dict_len.lookup ?_
  first
  | apply wpAny_bind
    refine wpAny_mono run ?_ (fun _ _ z => z)
    rintro r s' ⟨rfl, z⟩
    exact wpAny_pure (e ▸ z)
  | apply wpAny_bind
    apply wpAny_pure
    apply wpAny_bind
    refine wpAny_mono run ?_ (fun _ _ z => z)
    rintro r s' ⟨rfl, z⟩
    exact wpAny_pure (e ▸ z)
theorem tru_dT : TruR X (fun x H Q => ∃ a kvs, x = .ref a ∧ H a = some (.dT kvs) ∧ Q (!kvs.isEmpty) H) := by
  intro pins s σ H x v Q I rx h
  obtain ⟨a, kvs, rfl, ha, q⟩ := h
  obtain rfl : v = Value.ref a := rx
  obtain ⟨z, hd, ys, rel, dd⟩ := dt_of I.hok ha
  have hl : kvs.length = ys.length := awLen rel
  refine truth_H hd dd (by rw [← hl]; rw [sizeLine_eq] at z; omega) ⟨H, I.tok _, ?_⟩
  have e : (!ys.isEmpty) = !kvs.isEmpty := by cases rel <;> rfl
  rw [e]
  exact q
/-- {t: v}, t a tuple -/
def tDispT (tk tv : TE) : TE := fun σ H Q => ∀ p, H p = none → tk σ (upd H p (.dT [])) fun x H1 => tv σ H1 fun v H2 => ∃ b k, x = .ref b ∧ H2 b = some (.tup (k.map kV)) ∧ H2 p = some (.dT []) ∧ Q (.ref p) (upd H2 p (.dT [(k, v)]))
theorem pe_dispT {ek ev : Expr} {tk tv : TE} {pos : Pos} (hu : X.A.units < cLine) (hk : PE X ek tk) (hv : PE X ev tv) : PE X (.Dict [some ek] [ev] pos) (tDispT tk tv) := by
  constructor
  intro pins s σ H Q I q
  have hn := I.hok.fresh (Nat.le_refl s.heap.objs.size)
  have I1 := I.laid (a := s.heap.objs.size) (o := .dT []) (h' := s.heap.push { cls := .type "dict", data := .dict #[] }) (t' := s.toks) (fun _ _ z => Heap.get?_push_of_some _ z) (Nat.le_refl _) (dt_empty s.heap I.big)
  rw [arm_eval_Dict, zip_pairTrees [some ek] [ev] X.env pos rfl rfl, dictDisplay_pairs (pairTrees [some ek] [ev] X.env pos) (by simp [pairTrees]) (by simp [pairTrees])]
  apply wpAny_bind
  apply wpAny_standAt
  apply wpAny_bind
  refine wpAny_subDictH (knd := tupleKind (mixKind X.prog X.w)) (show X.A.units < cLine from hu) (by show 1 ≤ 15; decide) ?_
  refine thn ((pps_cons (pos := pos) hk hv pps_nil).run pins _ σ _ (fun ps H2 => match ps with | [(x, v)] => ∃ b k, x = .ref b ∧ H2 b = some (.tup (k.map kV)) ∧ H2 s.heap.objs.size = some (.dT []) ∧ Q (.ref s.heap.objs.size) (upd H2 s.heap.objs.size (.dT [(k, v)])) | _ => False) I1 (q _ hn)) ?_
  rintro ws s2 ⟨ps, H2, I2, rel, hq⟩
  match ps, ws, rel, hq with
  | [(x, v)], [(u1, u2)], .cons ⟨r1, r2⟩ .nil, ⟨b, k, e, hb, hp, q2⟩ =>
    subst e
    obtain rfl : u1 = Value.ref b := r1
    obtain ⟨_, hd, ys, r0, dd⟩ := dt_of I2.hok hp
    cases r0
    refine ⟨[(k, b, u2)], ⟨rfl, rfl, key_of I2.hok hb, trivial⟩, dd, fun h' tk dd' hs => ?_⟩
    obtain ⟨o, es, ep, ho, h2, h3, h4, _, h5⟩ := dd'
    have npb : b ≠ s.heap.objs.size := ne_of hb hp (fun z => nomatch z)
    have I3 : Inv X pins σ (upd H2 s.heap.objs.size (.dT [(k, v)])) { s2 with heap := h', toks := tk } :=
      d_write I2 (by rw [hp]; exact True.intro) hs ⟨o, ho⟩ ⟨by show 1 ≤ sizeLine; decide, hd, [(k, b, u2)], .cons ⟨rfl, by rw [upd_ne npb]; exact hb, r2⟩ .nil, o, es, ep, ho, h2, h3, h4, h5⟩
    exact wpAny_pure ⟨.ref s.heap.objs.size, _, I3, rfl, q2⟩
end dts
/-! ### dicts whose keys are nested tuples of ints -/
mutual
inductive NkAt (H : Hp) : NestedKey → V → Prop
  | num (i : Int) : NkAt H (.num i) (.int i)
  | tup {a : Addr} {xs : List V} {ks : List NestedKey} : H a = some (.tup xs) → NkAll H ks xs → NkAt H (.tup ks) (.ref a)
inductive NkAll (H : Hp) : List NestedKey → List V → Prop
  | nil : NkAll H [] []
  | cons {k : NestedKey} {v : V} {ks : List NestedKey} {vs : List V} : NkAt H k v → NkAll H ks vs → NkAll H (k :: ks) (v :: vs)
end
section nds
variable {X : Cx}
mutual
theorem nk_is {pins : List (Addr × Obj)} {σ : L2.St} {H : Hp} {s : Shared} (I : Inv X pins σ H s) : ∀ (k : NestedKey) (v : V) (u : Value), NkAt H k v → RelV v u → NestedIs s.heap k u
  | .none, _, _, h, _ => nomatch h
  | .text _, _, _, h, _ => nomatch h
  | .num i, _, _, h, r => by
    cases h
    obtain ⟨t, rfl⟩ := r
    exact .int _ _
  | .tup ks, _, _, h, r => by
    cases h with
    | tup e hs =>
      cases r
      obtain ⟨_, its, rv, o, ho, hc, n, hd⟩ := I.hok _ _ e
      exact .tup ho hc hd (by simpa using nks_is I ks _ _ hs rv)
theorem nks_is {pins : List (Addr × Obj)} {σ : L2.St} {H : Hp} {s : Shared} (I : Inv X pins σ H s) : ∀ (ks : List NestedKey) (vs : List V) (us : List Value), NkAll H ks vs → Vals vs us → NestedAll s.heap ks us
  | [], _, _, h, r => by
    cases h
    cases r
    exact .nil
  | k :: ks, _, _, h, r => by
    cases h with
    | cons h1 h2 =>
      cases r with
      | cons r1 r2 => exact .cons (nk_is I k _ _ h1 r1) (nks_is I ks _ _ h2 r2)
end
mutual
theorem nk_stay {H H' : Hp} (t : TupsStay H H') : ∀ (k : NestedKey) (v : V), NkAt H k v → NkAt H' k v
  | .none, _, h => nomatch h
  | .text _, _, h => nomatch h
  | .num i, _, h => by
    cases h
    exact .num i
  | .tup ks, _, h => by
    cases h with
    | tup e hs => exact .tup (t _ _ e) (nks_stay t ks _ hs)
theorem nks_stay {H H' : Hp} (t : TupsStay H H') : ∀ (ks : List NestedKey) (vs : List V), NkAll H ks vs → NkAll H' ks vs
  | [], _, h => by
    cases h
    exact .nil
  | k :: ks, _, h => by
    cases h with
    | cons h1 h2 => exact .cons (nk_stay t k _ h1) (nks_stay t ks _ h2)
end
abbrev NE := NestedKey × Addr × V
abbrev NRel : List NE → List (NestedKey × Addr × Value) → Prop := Paired fun p q => p.1 = q.1 ∧ p.2.1 = q.2.1 ∧ RelV p.2.2 q.2.2
def NDO (P : Program) (w : World) (a : Addr) (xs : List NE) : HO := .ext fun h => xs.length ≤ sizeLine ∧ (a == sysModules) = false ∧ ∃ ys, NRel xs ys ∧ ∃ o es ep, h.get? a = some o ∧ o.ExactDict ∧ o.data = .dict es ep ∧ es.toList = ys.map (entryOfKey (nestedKind P w)) ∧ (ys.map (·.1)).Nodup
theorem ndo_ok {P : Program} {w : World} {H : Hp} {h : Heap} {a : Addr} {xs : List NE} {ys : List (NestedKey × Addr × Value)} (hz : xs.length ≤ sizeLine) (hd : (a == sysModules) = false) (r : NRel xs ys) (dd : h.DictOfH (nestedKind P w) a ys) : ObjOk P w H h a (NDO P w a xs) := by
  obtain ⟨o, es, ep, h1, h2, h3, h4, _, h5⟩ := dd
  refine ⟨⟨hz, hd, ys, r, o, es, ep, h1, h2, h3, h4, h5⟩, ⟨o, h1⟩, ?_⟩
  rintro g1 g2 ⟨z1, z2, ys, z3, o, es, ep, z4, z5⟩ k
  exact ⟨z1, z2, ys, z3, o, es, ep, k o z4, z5⟩
structure ND (P : Program) (w : World) (H : Hp) (a : Addr) (xs : List NE) : Prop where
  ob : H a = some (NDO P w a xs)
  ks : ∀ p ∈ xs, NkAt H p.1 (.ref p.2.1) ∧ p.1.depth ≤ 8
theorem ND.full {pins : List (Addr × Obj)} {σ : L2.St} {H : Hp} {s : Shared} {a : Addr} {xs : List NE} (I : Inv X pins σ H s) (h : ND X.prog X.w H a xs) : xs.length ≤ sizeLine ∧ (a == sysModules) = false ∧ ∃ ys, NRel xs ys ∧ s.heap.DictOfH (nestedKind X.prog X.w) a ys := by
  obtain ⟨⟨z1, z2, ys, z3, o, es, ep, z4, z5, z6, z7, z8⟩, _⟩ := I.hok a _ h.ob
  refine ⟨z1, z2, ys, z3, o, es, ep, z4, z5, z6, z7, fun y hy => ?_, z8⟩
  obtain ⟨i, hi⟩ := List.mem_iff_getElem?.mp hy
  obtain ⟨p, hp, e1, e2, _⟩ := awGet2 z3 hi
  obtain ⟨k1, k2⟩ := h.ks p (List.mem_of_getElem? hp)
  rw [e1, e2] at k1
  rw [e1] at k2
  exact ⟨nk_is I _ _ _ k1 rfl, k2⟩
def getN (xs : List NE) (k : NestedKey) : Option V := (xs.find? fun x => decide (x.1 = k)).map (·.2.2)
theorem getN_rel {k : NestedKey} : ∀ {xs : List NE} {ys : List (NestedKey × Addr × Value)}, NRel xs ys → RelO (getN xs k) ((atKey ys k).map (·.2))
  | _, _, .nil => trivial
  | x :: _, y :: _, .cons ⟨e1, _, e3⟩ t => by
    have ih := getN_rel (k := k) t
    unfold getN atKey at *
    rw [List.find?_cons, List.find?_cons, ← e1]
    by_cases h : x.1 = k
    · rw [decide_eq_true h]
      exact e3
    · rw [decide_eq_false h]
      exact ih
theorem getN_none {k : NestedKey} {xs : List NE} : getN xs k = none ↔ ∀ p ∈ xs, p.1 ≠ k := by
  unfold getN
  rw [Option.map_eq_none_iff, List.find?_eq_none]
  simp
theorem getN_some {k : NestedKey} {xs : List NE} {v : V} (h : getN xs k = some v) : ∃ b, (k, b, v) ∈ xs := by
  unfold getN at h
  cases e : xs.find? fun x => decide (x.1 = k) with
  | none => rw [e] at h; cases h
  | some p =>
    rw [e] at h
    have h2 : p.1 = k := of_decide_eq_true (List.find?_some (p := fun x : NE => decide (x.1 = k)) e)
    obtain rfl : p.2.2 = v := Option.some.inj h
    exact ⟨p.2.1, h2 ▸ List.mem_of_find?_eq_some e⟩
theorem getN_snoc {k j : NestedKey} {b : Addr} {v : V} {xs : List NE} (hn : getN xs k = none) : getN (xs ++ [(k, b, v)]) j = if j = k then some v else getN xs j := by
  unfold getN at *
  rw [List.find?_append]
  by_cases h : j = k
  · subst h
    rw [if_pos rfl, Option.map_eq_none_iff.mp hn]
    simp
  · rw [if_neg h]
    have hk : ¬ k = j := fun z => h z.symm
    cases xs.find? fun x => decide (x.1 = j) with
    | none => simp [hk]
    | some p => rfl
theorem nd_stay {P : Program} {w : World} {H H' : Hp} {a : Addr} {xs : List NE} (h : ND P w H a xs) (e : H' a = some (NDO P w a xs)) (t : TupsStay H H') : ND P w H' a xs := ⟨e, fun p hp => ⟨nk_stay t _ _ (h.ks p hp).1, (h.ks p hp).2⟩⟩
theorem nd_same {P : Program} {w : World} {H H' : Hp} {a : Addr} {xs : List NE} (h : ND P w H a xs) (s : Same H H') : ND P w H' a xs := nd_stay h (s _ _ h.ob) (Same.tups s)
/-- {} -/
theorem pe_ndnew {P : Program} {w : World} (hP : X.prog = P) (hw : X.w = w) {pos : Pos} : PE X (.Dict [] [] pos) (fun _ H Q => ∀ p, H p = none → Q (.ref p) (upd H p (NDO P w p []))) := by
  subst hP hw
  constructor
  intro pins s σ H Q I h
  have ok : ObjOk X.prog X.w (upd H s.heap.objs.size (NDO X.prog X.w s.heap.objs.size [])) (s.heap.push { cls := .type "dict", data := .dict #[] }) s.heap.objs.size (NDO X.prog X.w s.heap.objs.size []) :=
    ndo_ok (Nat.zero_le _) (beq_eq_false_iff_ne.mpr (Ne.symm (Nat.ne_of_lt I.big))) .nil (Heap.DictOfH.new s.heap)
  exact wpAny_Dict_empty ⟨.ref _, _, I.laid (t' := s.toks) (fun _ _ z => Heap.get?_push_of_some _ z) (Nat.le_refl _) ok, rfl, h _ (I.hok.fresh (Nat.le_refl _))⟩
theorem nd_nil {P : Program} {w : World} {H : Hp} {a : Addr} : ND P w (upd H a (NDO P w a [])) a [] := ⟨upd_same, (fun _ z => nomatch z)⟩
/-- what is asked of a key -/
def KeyN (H : Hp) (y : V) (k : NestedKey) : Prop := NkAt H k y ∧ k.depth ≤ 8 ∧ ∃ b, y = .ref b
def tNGet (P : Program) (w : World) (td ty : TE) : TE := fun σ H Q => td σ H fun x H1 => ty σ H1 fun y H2 => ∃ a xs k v, x = .ref a ∧ ND P w H2 a xs ∧ KeyN H2 y k ∧ getN xs k = some v ∧ Q v H2
def tNNotIn (P : Program) (w : World) (ty td : TE) : TE := fun σ H Q => ty σ H fun y H1 => td σ H1 fun x H2 => ∃ a xs k, x = .ref a ∧ ND P w H2 a xs ∧ KeyN H2 y k ∧ Q (.bl (!(getN xs k).isSome)) H2
def sNPut (P : Program) (w : World) (td ty tv : TE) : TS := fun D σ H => tv σ H fun v H1 => td σ H1 fun x H2 => ty σ H2 fun y H3 => ∃ a xs k b, x = .ref a ∧ ND P w H3 a xs ∧ y = .ref b ∧ KeyN H3 y k ∧ getN xs k = none ∧ xs.length < sizeLine ∧ D.nx σ (upd H3 a (NDO P w a (xs ++ [(k, b, v)])))
theorem nd_put {P : Program} {w : World} {H : Hp} {a b : Addr} {xs : List NE} {k : NestedKey} {v : V} (h : ND P w H a xs) (hk : KeyN H (.ref b) k) : ND P w (upd H a (NDO P w a (xs ++ [(k, b, v)]))) a (xs ++ [(k, b, v)]) := by
  have t : TupsStay H (upd H a (NDO P w a (xs ++ [(k, b, v)]))) := fun c ys e => by
    rw [upd_ne (ne_of e h.ob (fun z => nomatch z))]
    exact e
  refine ⟨upd_same, fun p hp => ?_⟩
  rcases List.mem_append.mp hp with hp | hp
  · exact ⟨nk_stay t _ _ (h.ks p hp).1, (h.ks p hp).2⟩
  · rw [List.mem_singleton.mp hp]
    exact ⟨nk_stay t _ _ hk.1, hk.2.1⟩
theorem nd_at {pins : List (Addr × Obj)} {σ : L2.St} {H : Hp} {s : Shared} {y : V} {k : NestedKey} {u : Value} (I : Inv X pins σ H s) (hk : KeyN H y k) (r : RelV y u) : ∃ b, u = .ref b ∧ y = .ref b ∧ (nestedKind X.prog X.w).is s.heap k b := by
  obtain ⟨h1, h2, b, rfl⟩ := hk
  obtain rfl : u = Value.ref b := r
  exact ⟨b, rfl, rfl, nk_is I _ _ _ h1 rfl, h2⟩
theorem nrel_none {k : NestedKey} {xs : List NE} {ys : List (NestedKey × Addr × Value)} (r : NRel xs ys) (h : getN xs k = none) : atKey ys k = none := by
  have z := getN_rel (k := k) r
  rw [h] at z
  cases e : atKey ys k with
  | none => rfl
  | some p => rw [e] at z; exact z.elim
theorem pe_ndget {P : Program} {w : World} (hP : X.prog = P) (hw : X.w = w) {o i : Expr} {td ty : TE} {pos : Pos} (hu : X.A.units + 64 < cLine) (ho : PE X o td) (hi : PE X i ty) (hs : NoSl i) : PE X (.Subscript o i pos) (tNGet P w td ty) := by
  subst hP hw
  constructor
  intro pins s σ H Q I h
  refine subD_of PySem.F.slot_dict_getitem.lookup hs (thn (ho.run pins s σ H _ I h) ?_)
  rintro u s1 ⟨x, H1, I1, rx, q1⟩
  refine thn (hi.run pins s1 σ H1 _ I1 q1) ?_
  rintro iv s2 ⟨y, H2, I2, ry, a, xs, k, v, rfl, hn, hk, hv, q2⟩
  obtain rfl : u = Value.ref a := rx
  obtain ⟨b, rfl, rfl, hb⟩ := nd_at I2 hk ry
  obtain ⟨_, hd, ys, r, dd⟩ := hn.full I2
  have z := getN_rel (k := k) r
  rw [hv] at z
  cases e : atKey ys k with
  | none => rw [e] at z; exact z.elim
  | some p =>
    rw [e] at z
    exact ⟨dd.typeIs, wpAny_getItem_heap (knd := nestedKind X.prog X.w) (show X.A.in1.units + 8 < cLine by show X.A.units + 1 + 8 < cLine; omega) hb dd e ⟨v, H2, I2.tok _, z, q2⟩⟩
theorem pc_ndnotin {P : Program} {w : World} (hP : X.prog = P) (hw : X.w = w) {o i : Expr} {td ty : TE} (hu : X.A.units + 64 < cLine) (hi : PE X i ty) (ho : PE X o td) : PC X .NotIn i o (tNNotIn P w ty td) := by
  subst hP hw
  constructor
  intro pins s σ H Q I h
  refine thn (hi.run pins s σ H _ I h) ?_
  rintro iv s1 ⟨y, H1, I1, ry, q1⟩
  refine thn (ho.run pins s1 σ H1 _ I1 q1) ?_
  rintro u s2 ⟨x, H2, I2, rx, a, xs, k, rfl, hn, hk, q2⟩
  obtain rfl : u = Value.ref a := rx
  obtain ⟨b, rfl, rfl, hb⟩ := nd_at I2 hk ry
  obtain ⟨_, hd, ys, r, dd⟩ := hn.full I2
  have z := (getN_rel (k := k) r).isSome_eq
  rw [Option.isSome_map] at z
  refine notIn_keyed (knd := nestedKind X.prog X.w) (show X.A.in1.units + 8 < cLine by show X.A.units + 1 + 8 < cLine; omega) hb hd ⟨ys, dd, rfl⟩ ⟨.bl (!(getN xs k).isSome), H2, I2.tok _, ?_, q2⟩
  rw [valueAt_pairsH, Option.isSome_map, ← z]
  rfl
theorem nd_write {pins : List (Addr × Obj)} {σ : L2.St} {H : Hp} {s : Shared} {a b : Addr} {xs : List NE} {ys : List (NestedKey × Addr × Value)} {k : NestedKey} {v : V} {r : Value} {h' : Heap} {tk : Nat} (I : Inv X pins σ H s) (hn : ND X.prog X.w H a xs) (hl : xs.length < sizeLine) (rel : NRel xs ys) (hd : (a == sysModules) = false)
    (h0 : atKey ys k = none) (rv : RelV v r) (dd : h'.DictOfH (nestedKind X.prog X.w) a (storedH ys k b r)) (hs : Heap.SameBut a s.heap h') : Inv X pins σ (upd H a (NDO X.prog X.w a (xs ++ [(k, b, v)]))) { s with heap := h', toks := tk } := by
  rw [storedH_new h0] at dd
  have he : ∃ o, h'.get? a = some o := dd.elim fun o z => ⟨o, z.choose_spec.choose_spec.1⟩
  refine d_write I (by rw [hn.ob]; exact True.intro) hs he (ndo_ok ?_ hd (awSnoc (F := fun (p : NE) (q : NestedKey × Addr × Value) => p.1 = q.1 ∧ p.2.1 = q.2.1 ∧ RelV p.2.2 q.2.2) ⟨rfl, rfl, rv⟩ rel) dd)
  rw [List.length_append]
  exact hl
theorem ps_ndput {P : Program} {w : World} (hP : X.prog = P) (hw : X.w = w) {o i value : Expr} {td ty tv : TE} {pos pos' : Pos} (hu : X.A.units + 64 < cLine) (ho : PE X o td) (hi : PE X i ty) (hv : PE X value tv) (hs : swapsWith value (some (.Subscript o i pos')) pos.line X.env = pure false) :
    PS X (.Assign [.Subscript o i pos'] value pos) (sNPut P w td ty tv) := by
  subst hP hw
  constructor
  intro pins s σ H D I h
  refine wpAny_Assign_Subscript (thn (hv.run pins s σ H _ I h) ?_) hs
  rintro r s1 ⟨v, H1, I1, rv, q1⟩
  refine thn (ho.run pins s1 σ H1 _ I1 q1) ?_
  rintro u s2 ⟨x, H2, I2, rx, q2⟩
  refine thn (hi.run pins s2 σ H2 _ I2 q2) ?_
  rintro iv s3 ⟨y, H3, I3, ry, a, xs, k, b, rfl, hn, rfl, hk, hg, hl, q3⟩
  obtain rfl : u = Value.ref a := rx
  obtain ⟨b', rfl, eb, hb⟩ := nd_at I3 hk ry
  obtain rfl : b = b' := V.ref.inj eb
  obtain ⟨_, hd, ys, rel, dd⟩ := hn.full I3
  have hz : ys.length ≤ sizeLine := by
    have := awLen rel
    omega
  exact wpAny_setItem_heap (knd := nestedKind X.prog X.w) (hsz := hz) (show X.A.in1.units + 8 < cLine by show X.A.units + 1 + 8 < cLine; omega) hb dd fun h' dd' hs' => ⟨σ, _, nd_write I3 hn hl rel hd (nrel_none rel hg) rv dd' hs', q3⟩
/-- {t: v} -/
def tNDisp (P : Program) (w : World) (tk tv : TE) : TE := fun σ H Q => ∀ p, H p = none → tk σ (upd H p (NDO P w p [])) fun x H1 => tv σ H1 fun v H2 => ∃ b k, x = .ref b ∧ KeyN H2 x k ∧ H2 p = some (NDO P w p []) ∧ Q (.ref p) (upd H2 p (NDO P w p [(k, b, v)]))
theorem pe_ndisp {P : Program} {w : World} (hP : X.prog = P) (hw : X.w = w) {ek ev : Expr} {tk tv : TE} {pos : Pos} (hu : X.A.units + 64 < cLine) (hk : PE X ek tk) (hv : PE X ev tv) : PE X (.Dict [some ek] [ev] pos) (tNDisp P w tk tv) := by
  subst hP hw
  constructor
  intro pins s σ H Q I q
  have hn := I.hok.fresh (Nat.le_refl s.heap.objs.size)
  have ok : ObjOk X.prog X.w (upd H s.heap.objs.size (NDO X.prog X.w s.heap.objs.size [])) (s.heap.push { cls := .type "dict", data := .dict #[] }) s.heap.objs.size (NDO X.prog X.w s.heap.objs.size []) :=
    ndo_ok (Nat.zero_le _) (beq_eq_false_iff_ne.mpr (Ne.symm (Nat.ne_of_lt I.big))) .nil (Heap.DictOfH.new s.heap)
  have I1 := I.laid (t' := s.toks) (fun _ _ z => Heap.get?_push_of_some _ z) (Nat.le_refl _) ok
  rw [arm_eval_Dict, zip_pairTrees [some ek] [ev] X.env pos rfl rfl, dictDisplay_pairs (pairTrees [some ek] [ev] X.env pos) (by simp [pairTrees]) (by simp [pairTrees])]
  apply wpAny_bind
  apply wpAny_standAt
  apply wpAny_bind
  refine wpAny_subDictH (knd := nestedKind X.prog X.w) (show X.A.units + 8 < cLine by omega) (by show 1 ≤ 15; decide) ?_
  refine thn ((pps_cons (pos := pos) hk hv pps_nil).run pins _ σ _ (fun ps H2 => match ps with | [(x, v)] => ∃ b k, x = .ref b ∧ KeyN H2 x k ∧ H2 s.heap.objs.size = some (NDO X.prog X.w s.heap.objs.size []) ∧ Q (.ref s.heap.objs.size) (upd H2 s.heap.objs.size (NDO X.prog X.w s.heap.objs.size [(k, b, v)])) | _ => False) I1 (q _ hn)) ?_
  rintro ws s2 ⟨ps, H2, I2, rel, hq⟩
  match ps, ws, rel, hq with
  | [(x, v)], [(u1, u2)], .cons ⟨r1, r2⟩ .nil, ⟨b, k, e, hk2, hp, q2⟩ =>
    subst e
    obtain ⟨b', rfl, eb, hb⟩ := nd_at I2 hk2 r1
    obtain rfl : b = b' := V.ref.inj eb
    have hN : ND X.prog X.w H2 s.heap.objs.size [] := ⟨hp, (fun _ z => nomatch z)⟩
    obtain ⟨_, hd, ys, r0, dd⟩ := hN.full I2
    cases r0
    refine ⟨[(k, b, u2)], ⟨rfl, rfl, hb, trivial⟩, dd, fun h' tk dd' hs => ?_⟩
    exact wpAny_pure ⟨.ref s.heap.objs.size, _, nd_write I2 hN (by show 0 < sizeLine; decide) .nil hd rfl r2 dd' hs, rfl, q2⟩
/-- len(d) -/
theorem call_lenN {P : Program} {w : World} (hP : X.prog = P) (hw : X.w = w) : CallR X (.builtin "len") (fun vs H Q => ∃ p xs, vs = [.ref p] ∧ ND P w H p xs ∧ Q (.int ((xs.length : Nat) : Int)) H) := by
  subst hP hw
  intro pins s σ H vs us Q I r h
  obtain ⟨p, xs, rfl, hn, q⟩ := h
  obtain ⟨u, rfl, ru⟩ := vals1 r
  obtain rfl : u = Value.ref p := ru
  obtain ⟨z, hd, ys, rel, dd⟩ := hn.full I
  have hl : xs.length = ys.length := awLen rel
  refine call_len_dictH hd dd (by rw [← hl]; rw [sizeLine_eq] at z; omega) ?_
  rw [← hl]
  exact ⟨.int _, H, I.tok _, ⟨_, rfl⟩, q⟩
/-- d.setdefault(k, v) -/
def rNSetd (P : Program) (w : World) : V → List V → Hp → VK → Prop := fun x vs H Q => ∃ a xs k b v, x = .ref a ∧ vs = [.ref b, v] ∧ ND P w H a xs ∧ KeyN H (.ref b) k ∧ xs.length < sizeLine ∧ (∀ y, getN xs k = some y → Q y H) ∧ (getN xs k = none → Q v (upd H a (NDO P w a (xs ++ [(k, b, v)]))))
theorem mt_nsetd (hu : X.A.units + 64 < cLine) : MtR X "dict.setdefault" (rNSetd X.prog X.w) := by
  intro pins s σ H x vs v us Q I rx rxs h
  obtain ⟨a, xs, k, b, v0, rfl, rfl, hn, hk, hl, q1, q2⟩ := h
  cases rx
  obtain ⟨u1, u2, rfl, r1, r2⟩ := vals2 rxs
  obtain ⟨b', rfl, eb, hb⟩ := nd_at I hk r1
  obtain rfl : b = b' := V.ref.inj eb
  obtain ⟨_, hd, ys, rel, dd⟩ := hn.full I
  have hz : ys.length ≤ sizeLine := by
    have := awLen rel
    omega
  have z := getN_rel (k := k) rel
  refine call_setdefault_heap (knd := nestedKind X.prog X.w) (hsz := hz) (show X.A.in1.units + 8 < cLine by show X.A.units + 1 + 8 < cLine; omega) hb hd dd (fun p hp => ?_) (fun h0 h' dd' hs => ?_)
  · rw [hp] at z
    cases e : getN xs k with
    | none => rw [e] at z; exact z.elim
    | some y =>
      rw [e] at z
      exact ⟨y, H, I.tok _, z, q1 y e⟩
  · rw [h0] at z
    cases e : getN xs k with
    | some y => rw [e] at z; exact z.elim
    | none => exact ⟨v0, _, nd_write I hn hl rel hd h0 r2 dd' hs, r2, q2 e⟩
def tNSetd (P : Program) (w : World) (to : TE) (t : TA) : TE := fun σ H Q => to σ H fun x H1 => (∃ a xs, x = V.ref a ∧ ND P w H1 a xs) ∧ t σ H1 fun vs H2 => rNSetd P w x vs H2 Q
theorem pe_nsetd {P : Program} {w : World} (hP : X.prog = P) (hw : X.w = w) {o e : Expr} {es : List Expr} {to : TE} {t : TA} {apos cpos : Pos} (hu : X.A.units + 64 < cLine) (ho : PE X o to) (ha : PA X (e :: es) t)
    (c1 : attributeBase o "setdefault" X.env (eval o X.env) = eval o X.env := by rfl)
    (c2 : ((backTo cpos (starEach (e :: es) X.env)).all (fun x => !x.1) && (backToKw cpos (keywordEach [] X.env)).all (fun x => x.1.isSome) && decide ((e :: es).length + ([] : List Keyword).length + (if ([] : List Keyword).isEmpty then 0 else 1) < 30)) = true := by rfl)
    (c3 : (apos.endLine == cpos.line) = true := by rfl) (c4 : starEach (e :: es) X.env = (false, eval e X.env) :: starEach es X.env := by rfl) (c5 : (backTo cpos (starEach es X.env)).any (·.1) = false := by rfl) :
    PE X (.Call (.Attribute o "setdefault" apos) (e :: es) [] cpos) (tNSetd P w to t) := by
  subst hP hw
  constructor
  intro pins s σ H Q I h
  refine wpAny_Call_method_late c1 c2 c3 rfl (thn (ho.run pins s σ H _ I h) ?_)
  rintro v s1 ⟨x, H1, I1, r1, ⟨a, xs, rfl, hn⟩, q1⟩
  cases r1
  obtain ⟨_, hd, ys, rel, dd⟩ := hn.full I1
  obtain ⟨ob, es', ep, g1, g2, _⟩ := id dd
  refine ⟨"dict", "dict.setdefault", F.plainAttrs_dict, F.slot_dict_setdefault, F.type_dict_setdefault, dd.typeIs, (fun z e => ⟨ob, by injection e with e; rw [← e]; exact g1, g2.2.1⟩), ?_⟩
  have hA := ha.run cpos pins s1 σ H1 _ I1 q1
  rw [c4] at hA ⊢
  refine Calls.callWith_builtin (by show (false || (backTo cpos (starEach es X.env)).any (·.1)) = false; rw [c5]; rfl) (Calls.evalArgs_plain ?_)
  exact thn hA fun us s2 ⟨vs, H2, I2, r2, q2⟩ => mt_nsetd hu pins s2 σ H2 (.ref a) vs (.ref a) us Q I2 rfl r2 q2
end nds
/-! ### the class Walk -/
abbrev sWalk___init__ : Stmt := inClass c_Walk 0
abbrev sWalk_meet : Stmt := inClass c_Walk 1
theorem scWi : FnScope ["self", "first"] ["self", "first"] (defScope sWalk___init__) := ⟨rfl, rfl, rfl, by decide +kernel, rfl, by decide +kernel, by decide +kernel⟩
theorem scWm : FnScope ["self", "thing", "ahead", "bits"] ["self", "thing", "ahead", "bits"] (defScope sWalk_meet) := ⟨rfl, rfl, rfl, by decide +kernel, rfl, by decide +kernel, by decide +kernel⟩
theorem w_mn : ¬ ("met" : Str) = "numbers" := by decide +kernel
theorem w_mw : ¬ ("met" : Str) = "ways" := by decide +kernel
theorem w_nw : ¬ ("numbers" : Str) = "ways" := by decide +kernel
def wF (M N W : Addr) : List (Str × V) := putF "ways" (.ref W) (putF "numbers" (.ref N) (putF "met" (.ref M) []))
theorem wF_met (M N W : Addr) : (wF M N W).lookup ("met" : Str) = some (.ref M) := by
  unfold wF
  rw [lookup_putF, if_neg w_mw, lookup_putF, if_neg w_mn, lookup_putF, if_pos rfl]
theorem wF_num (M N W : Addr) : (wF M N W).lookup ("numbers" : Str) = some (.ref N) := by
  unfold wF
  rw [lookup_putF, if_neg w_nw, lookup_putF, if_pos rfl]
theorem wF_ways (M N W : Addr) : (wF M N W).lookup ("ways" : Str) = some (.ref W) := by
  unfold wF
  rw [lookup_putF, if_pos rfl]
theorem wF_no (M N W : Addr) {m : Str} (h1 : ¬ m = "ways") (h2 : ¬ m = "numbers") (h3 : ¬ m = "met") : (wF M N W).lookup m = none := by
  unfold wF
  rw [lookup_putF, if_neg h1, lookup_putF, if_neg h2, lookup_putF, if_neg h3]
  rfl
theorem wF_meet (M N W : Addr) : (wF M N W).lookup ("meet" : Str) = none := wF_no M N W (by decide +kernel) (by decide +kernel) (by decide +kernel)
structure WCls (K : PySem.W.Frag) (mg : Str → Option Value) (C : Addr) : Prop where
  cl : Cls K C
  nM : NoAttr K C "met"
  nN : NoAttr K C "numbers"
  nW : NoAttr K C "ways"
  mgC : mg "Walk" = some (.ref C)
abbrev WT := NestedKey × Addr
def numE (ts : List WT) : List NE := ts.mapIdx fun i t => (t.1, t.2, .int (i : Nat))
theorem numE_snoc (ts : List WT) (t : WT) : numE (ts ++ [t]) = numE ts ++ [(t.1, t.2, .int (ts.length : Nat))] := by
  unfold numE
  rw [List.mapIdx_append]
  simp
theorem numE_len (ts : List WT) : (numE ts).length = ts.length := List.length_mapIdx ..
theorem numE_mem {ts : List WT} {e : NE} (h : e ∈ numE ts) : ∃ i t, ts[i]? = some t ∧ e = (t.1, t.2, .int (i : Nat)) := by
  obtain ⟨i, hi, rfl⟩ := List.mem_mapIdx.mp h
  exact ⟨i, ts[i], List.getElem?_eq_getElem hi, rfl⟩
theorem numE_none {ts : List WT} {k : NestedKey} (h : ∀ t ∈ ts, t.1 ≠ k) : getN (numE ts) k = none := by
  rw [getN_none]
  intro e he
  obtain ⟨i, t, ht, rfl⟩ := numE_mem he
  exact h t (List.mem_of_getElem? ht)
theorem numE_some {ts : List WT} {i : Nat} {k : NestedKey} {b : Addr} (nd : (ts.map (·.1)).Nodup) (h : ts[i]? = some (k, b)) : getN (numE ts) k = some (.int (i : Nat)) := by
  cases e : getN (numE ts) k with
  | none =>
    exfalso
    have hi := (List.getElem?_eq_some_iff.mp h).1
    have := getN_none.mp e (k, b, .int (i : Nat)) (List.mem_mapIdx.mpr ⟨i, hi, by rw [List.getElem?_eq_getElem hi] at h; rw [Option.some.inj h]⟩)
    exact this rfl
  | some v =>
    obtain ⟨c, hc⟩ := getN_some e
    obtain ⟨j, t, ht, he⟩ := numE_mem hc
    have e1 : t.1 = k := (Prod.mk.inj he).1.symm
    have e2 : v = .int (j : Nat) := (Prod.mk.inj (Prod.mk.inj he).2).2
    have ij : i = j := by
      have a1 : (ts.map (·.1))[i]? = some k := by rw [List.getElem?_map, h]; rfl
      have a2 : (ts.map (·.1))[j]? = some k := by rw [List.getElem?_map, ht, ← e1]; rfl
      exact (List.getElem?_inj (List.getElem?_eq_some_iff.mp a1).1 nd).mp (a1.trans a2.symm)
    rw [e2, ij]
abbrev WayAt (H : Hp) : List Addr → List (Int × List Int) → Prop := Paired fun q e => ∃ bb, H q = some (.tup [.int e.1, .ref bb]) ∧ H bb = some (.tup (e.2.map V.int))
structure WalkAt (P : Program) (w : World) (C : Addr) (H : Hp) (p M N W : Addr) (ts : List WT) (wy : List (Int × List Int)) : Prop where
  ob : ∃ dx, H p = some (.ins C dx (wF M N W))
  met : H M = some (.lst (ts.map fun t => V.ref t.2))
  num : ND P w H N (numE ts)
  ways : ∃ ws, H W = some (.lst (ws.map V.ref)) ∧ WayAt H ws wy
  nd : (ts.map (·.1)).Nodup
  keys : ∀ t ∈ ts, KeyN H (.ref t.2) t.1
  len : wy.length = ts.length
  nMW : M ≠ W
theorem keyn_stay {H H' : Hp} (t : TupsStay H H') {y : V} {k : NestedKey} (h : KeyN H y k) : KeyN H' y k := ⟨nk_stay t _ _ h.1, h.2⟩
theorem WalkAt.stay {C : Addr} {H H' : Hp} {p M N W : Addr} {ts : List WT} {wy : List (Int × List Int)} (h : WalkAt P w C H p M N W ts wy) (t : TupsStay H H') (k : ∀ c o, (c = p ∨ c = M ∨ c = N ∨ c = W) → H c = some o → H' c = some o) : WalkAt P w C H' p M N W ts wy := by
  obtain ⟨⟨dx, ob⟩, met, num, ⟨ws, e1, e2⟩, nd, keys, len, ne⟩ := h
  exact ⟨⟨dx, k _ _ (.inl rfl) ob⟩, k _ _ (.inr (.inl rfl)) met, nd_stay num (k _ _ (.inr (.inr (.inl rfl))) num.ob) t, ⟨ws, k _ _ (.inr (.inr (.inr rfl))) e1, awMap (fun q e z => z.elim fun bb y => ⟨bb, t _ _ y.1, t _ _ y.2⟩) e2⟩, nd, fun x hx => keyn_stay t (keys x hx), len, ne⟩
theorem WalkAt.same {C : Addr} {H H' : Hp} {p M N W : Addr} {ts : List WT} {wy : List (Int × List Int)} (h : WalkAt P w C H p M N W ts wy) (s : Same H H') : WalkAt P w C H' p M N W ts wy := h.stay (Same.tups s) fun c o _ e => s c o e
def spWi (P : Program) (w : World) (C : Addr) : Sp := fun vs H Q _ => ∃ (p dx b : Addr) (k : NestedKey), vs = [.ref p, .ref b] ∧ H p = some (.ins C dx []) ∧ KeyN H (.ref b) k ∧
  ∀ H' M N W, WalkAt P w C H' p M N W [(k, b)] [(0, [])] → H M = none → H N = none → H W = none → (∀ c o, c ≠ p → H c = some o → H' c = some o) → Q .non H'
theorem ok_wi {f C : Addr} {fd : FuncData} {k : Nat} (F : Fun K "__init__" "Walk.__init__" sWalk___init__ f fd) (T : WCls K mg C) : FnOk P w K mg base CX0 (k + 1) f fd ["self", "first"] (spWi P w C) := by
  refine F.ok scWi (fun vs H Q E h => ?_) (fun cdv A outer s H vs Q E hr h => ?_)
  · obtain ⟨p, dx, b, k, rfl, _⟩ := h
    rfl
  · obtain ⟨p, dx, b, key, rfl, hp, hk, q⟩ := h
    refine ⟨_, pss_cons (ps_fld (pv 0) (pe_lst (pa_cons (pv 1) pa_nil)) rfl)
      (pss_cons (ps_fld (pv 0) (pe_ndisp (P := P) (w := w) rfl rfl hr.units (pv 1) pe_int) rfl)
      (pss_one (ps_fld (pv 0) (pe_lst (pa_cons (pe_tup (pa_cons pe_int (pa_cons (pe_tup pa_nil) pa_nil))) pa_nil)) rfl))), ?_⟩
    refine ⟨.ref b, rfl, by show 1 ≤ sizeLine; decide, fun M hM => ?_⟩
    have sM := same_new (o := .lst [.ref b]) hM
    have npM : p ≠ M := ne_of_none hp hM
    refine ⟨.ref p, rfl, p, C, dx, [], rfl, sM _ _ hp, T.cl, T.nM, (by show 0 < 1000; decide), ?_⟩
    -- the heap with met
    have t1 : TupsStay H (upd (upd H M (.lst [.ref b])) p (.ins C dx (putF "met" (.ref M) []))) := fun c xs e => by
      rw [upd_ne (ne_of e hp (fun z => nomatch z))]
      exact sM _ _ e
    have k1 : ∀ c o, c ≠ p → H c = some o → upd (upd H M (.lst [.ref b])) p (.ins C dx (putF "met" (.ref M) [])) c = some o := fun c o n e => by
      rw [upd_ne n]
      exact sM _ _ e
    have ep1 : upd (upd H M (.lst [.ref b])) p (.ins C dx (putF "met" (.ref M) [])) p = some (.ins C dx (putF "met" (.ref M) [])) := upd_same
    have eM1 : upd (upd H M (.lst [.ref b])) p (.ins C dx (putF "met" (.ref M) [])) M = some (.lst [.ref b]) := by
      rw [upd_ne npM.symm]
      exact upd_same
    generalize upd (upd H M (.lst [.ref b])) p (.ins C dx (putF "met" (.ref M) [])) = H1 at t1 k1 ep1 eM1
    intro N hN
    have sN := same_new (o := NDO P w N []) hN
    have npN : p ≠ N := ne_of_none ep1 hN
    have nMN : M ≠ N := ne_of_none eM1 hN
    refine ⟨.ref b, rfl, b, key, rfl, keyn_stay (t1.trans (Same.tups sN)) hk, upd_same, ?_⟩
    rw [upd_upd]
    have sN2 := same_new (o := NDO P w N [(key, b, .int 0)]) hN
    refine ⟨.ref p, rfl, p, C, dx, _, rfl, sN2 _ _ ep1, T.cl, T.nN, (by show 1 < 1000; decide), ?_⟩
    have k2 : ∀ c o, c ≠ p → H1 c = some o → upd (upd H1 N (NDO P w N [(key, b, .int 0)])) p (.ins C dx (putF "numbers" (.ref N) (putF "met" (.ref M) []))) c = some o := fun c o n e => by
      rw [upd_ne n]
      exact sN2 _ _ e
    have t2 : TupsStay H1 (upd (upd H1 N (NDO P w N [(key, b, .int 0)])) p (.ins C dx (putF "numbers" (.ref N) (putF "met" (.ref M) [])))) := fun c xs e => k2 c _ (ne_of e ep1 (fun z => nomatch z)) e
    have ep2 : upd (upd H1 N (NDO P w N [(key, b, .int 0)])) p (.ins C dx (putF "numbers" (.ref N) (putF "met" (.ref M) []))) p = some (.ins C dx (putF "numbers" (.ref N) (putF "met" (.ref M) []))) := upd_same
    have eN2 : upd (upd H1 N (NDO P w N [(key, b, .int 0)])) p (.ins C dx (putF "numbers" (.ref N) (putF "met" (.ref M) []))) N = some (NDO P w N [(key, b, .int 0)]) := by
      rw [upd_ne npN.symm]
      exact upd_same
    generalize upd (upd H1 N (NDO P w N [(key, b, .int 0)])) p (.ins C dx (putF "numbers" (.ref N) (putF "met" (.ref M) []))) = H2 at k2 t2 ep2 eN2
    have eM2 := k2 _ _ npM.symm eM1
    refine ⟨by show 0 ≤ sizeLine; decide, fun E0 hE0 => ⟨by show 2 ≤ sizeLine; decide, fun T0 hT0 => ⟨by show 1 ≤ sizeLine; decide, fun W hW => ?_⟩⟩⟩
    have s1 := same_new (o := .tup []) hE0
    have s2 := same_new (o := .tup [.int 0, .ref E0]) hT0
    have s3 := same_new (o := .lst [.ref T0]) hW
    have s123 := (s1.trans s2).trans s3
    have npW : p ≠ W := ne_of_none ((s1.trans s2) _ _ ep2) hW
    have nMW : M ≠ W := ne_of_none ((s1.trans s2) _ _ eM2) hW
    have nNW : N ≠ W := ne_of_none ((s1.trans s2) _ _ eN2) hW
    refine ⟨.ref p, rfl, p, C, dx, _, rfl, s123 _ _ ep2, T.cl, T.nW, (by show 2 < 1000; decide), ?_⟩
    have k3 : ∀ c o, c ≠ p → H2 c = some o → upd (upd (upd (upd H2 E0 (.tup [])) T0 (.tup [.int 0, .ref E0])) W (.lst [.ref T0])) p (.ins C dx (putF "ways" (.ref W) (putF "numbers" (.ref N) (putF "met" (.ref M) [])))) c = some o := fun c o n e => by
      rw [upd_ne n]
      exact s123 _ _ e
    have t3 : TupsStay H2 (upd (upd (upd (upd H2 E0 (.tup [])) T0 (.tup [.int 0, .ref E0])) W (.lst [.ref T0])) p (.ins C dx (putF "ways" (.ref W) (putF "numbers" (.ref N) (putF "met" (.ref M) []))))) := fun c xs e => k3 c _ (ne_of e ep2 (fun z => nomatch z)) e
    have tA := (t1.trans t2).trans t3
    refine q _ M N W ⟨⟨dx, upd_same⟩, k3 _ _ npM.symm eM2, ⟨k3 _ _ npN.symm eN2, fun e he => ?_⟩, ⟨[T0], ?_, .cons ⟨E0, ?_, ?_⟩ .nil⟩, by simp, fun x hx => ?_, rfl, nMW⟩ hM ?_ ?_ fun c o n e => k3 c o n (k2 c o n (k1 c o n e))
    · rw [List.mem_singleton.mp he]
      exact ⟨nk_stay tA _ _ hk.1, hk.2.1⟩
    · rw [upd_ne npW.symm]
      exact upd_same
    · have : T0 ≠ p := fun z => by rw [z] at hT0; rw [s1 _ _ ep2] at hT0; cases hT0
      rw [upd_ne this]
      exact s3 _ _ upd_same
    · have : E0 ≠ p := fun z => by rw [z, ep2] at hE0; cases hE0
      rw [upd_ne this]
      exact s3 _ _ (s2 _ _ upd_same)
    · rw [List.mem_singleton.mp hx]
      exact keyn_stay tA hk
    · cases e : H N with
      | none => rfl
      | some o =>
        by_cases z : N = p
        · exact absurd z npN.symm
        · rw [k1 _ _ z e] at hN
          cases hN
    · cases e : H W with
      | none => rfl
      | some o =>
        by_cases z : W = p
        · exact absurd z npW.symm
        · rw [(s1.trans s2) _ _ (k2 _ _ z (k1 _ _ z e))] at hW
          cases hW
def spWm (P : Program) (w : World) (C : Addr) : Sp := fun vs H Q _ => ∃ (p M N W b bb : Addr) (ts : List WT) (wy : List (Int × List Int)) (k : NestedKey) (ah : Int) (bs : List Int), vs = [.ref p, .ref b, .int ah, .ref bb] ∧ WalkAt P w C H p M N W ts wy ∧ KeyN H (.ref b) k ∧ H bb = some (.tup (bs.map V.int)) ∧ ts.length ≤ 1000000 ∧
  ∀ H' ts' wy' i, WalkAt P w C H' p M N W ts' wy' → (∃ b', ts'[i]? = some (k, b')) → ((ts' = ts ∧ wy' = wy) ∨ (ts' = ts ++ [(k, b)] ∧ wy' = wy ++ [(ah, bs)] ∧ i = ts.length ∧ ∀ t ∈ ts, t.1 ≠ k)) → (∀ c o, c ≠ M → c ≠ N → c ≠ W → H c = some o → H' c = some o) → Q (.int (i : Nat)) H'
theorem ok_wm {f C : Addr} {fd : FuncData} {k : Nat} (F : Fun K "meet" "Walk.meet" sWalk_meet f fd) (T : WCls K mg C) (mn : mg "len" = none) : FnOk P w K mg base CX0 (k + 1) f fd ["self", "thing", "ahead", "bits"] (spWm P w C) := by
  refine F.ok scWm (fun vs H Q E h => ?_) (fun cdv A outer s H vs Q E hr h => ?_)
  · obtain ⟨p, M, N, W, b, bb, ts, wy, k, ah, bs, rfl, _⟩ := h
    rfl
  · obtain ⟨p, M, N, W, b, bb, ts, wy, key, ah, bs, rfl, hw, hk, hbb, hl, q⟩ := h
    refine ⟨_, pss_mid (ps_if (pt_cmp (pc_ndnotin (P := P) (w := w) rfl rfl hr.units (pv 1) (pe_fld (pv 0) rfl)))
        (pss_cons (ps_ndput (P := P) (w := w) rfl rfl hr.units (pe_fld (pv 0) rfl) (pv 1) (pe_callB call_len_seq (by rfl) mn PySem.boot_len (pa_cons (pe_fld (pv 0) rfl) pa_nil)) rfl)
        (pss_cons (ps_expr (pe_bm PySem.F.plainAttrs_list PySem.F.slot_list_append PySem.F.type_list_append mt_append (pe_fld (pv 0) rfl) (pa_cons (pv 1) pa_nil)))
        (pss_one (ps_expr (pe_bm PySem.F.plainAttrs_list PySem.F.slot_list_append PySem.F.type_list_append mt_append (pe_fld (pv 0) rfl) (pa_cons (pe_tup (pa_cons (pv 2) (pa_cons (pv 3) pa_nil))) pa_nil)))))) pss_nil)
      (pss_one (ps_ret (pe_ndget (P := P) (w := w) rfl rfl hr.units (pe_fld (pv 0) rfl) (pv 1) (fun _ _ => rfl)))), ?_⟩
    obtain ⟨⟨dx, ob⟩, met, num, ⟨ws, ways, wat⟩, nd, keys, len, nMW⟩ := id hw
    have npM : p ≠ M := ne_of ob met (fun z => nomatch z)
    have npN : p ≠ N := ne_of ob num.ob (fun z => nomatch z)
    have npW : p ≠ W := ne_of ob ways (fun z => nomatch z)
    have nMN : M ≠ N := ne_of met num.ob (fun z => nomatch z)
    have nNW : N ≠ W := ne_of num.ob ways (fun z => nomatch z)
    have sl : (1000000 : Nat) < sizeLine := by rw [sizeLine_eq]; decide
    refine ⟨fun σ2 H2 => ∃ ts' wy' i, σ2 = [some (.ref p), some (.ref b), some (.int ah), some (.ref bb)] ∧ WalkAt P w C H2 p M N W ts' wy' ∧ (∃ b', ts'[i]? = some (key, b')) ∧ ((ts' = ts ∧ wy' = wy) ∨ (ts' = ts ++ [(key, b)] ∧ wy' = wy ++ [(ah, bs)] ∧ i = ts.length ∧ ∀ t ∈ ts, t.1 ≠ key)) ∧ (∀ c o, c ≠ M → c ≠ N → c ≠ W → H c = some o → H2 c = some o), ?_, ?_⟩
    · refine ⟨.ref b, rfl, .ref p, rfl, p, C, dx, _, _, rfl, ob, T.cl, T.nN, wF_num _ _ _, N, _, key, rfl, num, hk, _, rfl, ?_⟩
      cases e : getN (numE ts) key with
      | some v =>
        refine iteF ?_
        obtain ⟨c, hc⟩ := getN_some e
        obtain ⟨i, t, ht, he⟩ := numE_mem hc
        have e1 : t.1 = key := (Prod.mk.inj he).1.symm
        exact ⟨ts, wy, i, rfl, hw, ⟨t.2, by rw [ht, ← e1]⟩, .inl ⟨rfl, rfl⟩, fun c o _ _ _ z => z⟩
      | none =>
        refine iteT ?_
        have fresh : ∀ t ∈ ts, t.1 ≠ key := fun t ht z => by
          obtain ⟨i, hi⟩ := List.mem_iff_getElem?.mp ht
          have : ts[i]? = some (key, t.2) := by rw [hi, ← z]
          rw [numE_some nd this] at e
          cases e
        have nl : (numE ts).length < sizeLine := by rw [numE_len]; omega
        refine ⟨.ref p, rfl, p, C, dx, _, _, rfl, ob, T.cl, T.nM, wF_met _ _ _, M, _, rfl, .inl (.inl (.inl met)), .ref p, rfl, p, C, dx, _, _, rfl, ob, T.cl, T.nN, wF_num _ _ _, .ref b, rfl, N, _, key, b, rfl, num, rfl, hk, e, nl, ?_⟩
        have ml : ((ts.map fun t => V.ref t.2).length : Int) = ((ts.length : Nat) : Int) := by rw [List.length_map]
        rw [ml]
        have num1 := nd_put (v := .int ((ts.length : Nat) : Int)) num hk
        rw [← numE_snoc ts (key, b)] at num1 ⊢
        have k1 : ∀ c o, c ≠ N → H c = some o → upd H N (NDO P w N (numE (ts ++ [(key, b)]))) c = some o := fun c o n z => by
          rw [upd_ne n]
          exact z
        have t1 : TupsStay H (upd H N (NDO P w N (numE (ts ++ [(key, b)])))) := fun c xs z => k1 c _ (ne_of z num.ob (fun y => nomatch y)) z
        generalize upd H N (NDO P w N (numE (ts ++ [(key, b)]))) = H1 at num1 k1 t1
        have ob1 := k1 _ _ npN ob
        have met1 := k1 _ _ nMN met
        refine ⟨.ref p, rfl, p, C, dx, _, _, rfl, ob1, T.cl, T.nM, wF_met _ _ _, .inl ⟨rfl, _, .inl (.inl met1)⟩, .ref b, rfl, M, _, _, rfl, rfl, met1, ?_, ?_⟩
        · rw [List.length_map]
          omega
        have e2 : (ts.map fun t => V.ref t.2) ++ [V.ref b] = (ts ++ [(key, b)]).map fun t => V.ref t.2 := by rw [List.map_append]; rfl
        rw [e2]
        have k2 : ∀ c o, c ≠ M → H1 c = some o → upd H1 M (.lst ((ts ++ [(key, b)]).map fun t => V.ref t.2)) c = some o := fun c o n z => by
          rw [upd_ne n]
          exact z
        have t2 : TupsStay H1 (upd H1 M (.lst ((ts ++ [(key, b)]).map fun t => V.ref t.2))) := fun c xs z => k2 c _ (ne_of z met1 (fun y => nomatch y)) z
        have met2 : upd H1 M (.lst ((ts ++ [(key, b)]).map fun t => V.ref t.2)) M = some (.lst ((ts ++ [(key, b)]).map fun t => V.ref t.2)) := upd_same
        generalize upd H1 M (.lst ((ts ++ [(key, b)]).map fun t => V.ref t.2)) = H2 at k2 t2 met2
        have ob2 := k2 _ _ npM ob1
        have ways2 := k2 _ _ nMW.symm (k1 _ _ nNW.symm ways)
        refine ⟨.ref p, rfl, p, C, dx, _, _, rfl, ob2, T.cl, T.nW, wF_ways _ _ _, .inl ⟨rfl, _, .inl (.inl ways2)⟩, .int ah, rfl, .ref bb, rfl, by show 2 ≤ sizeLine; decide, fun U hU => ?_⟩
        have sU := same_new (o := .tup [.int ah, .ref bb]) hU
        have wl := awLen wat
        refine ⟨W, _, _, rfl, rfl, sU _ _ ways2, ?_, ?_⟩
        · rw [List.length_map]
          omega
        have e3 : ws.map V.ref ++ [V.ref U] = (ws ++ [U]).map V.ref := by rw [List.map_append]; rfl
        rw [e3]
        have k3 : ∀ c o, c ≠ W → H2 c = some o → upd (upd H2 U (.tup [.int ah, .ref bb])) W (.lst ((ws ++ [U]).map V.ref)) c = some o := fun c o n z => by
          rw [upd_ne n]
          exact sU _ _ z
        have t3 : TupsStay H2 (upd (upd H2 U (.tup [.int ah, .ref bb])) W (.lst ((ws ++ [U]).map V.ref))) := fun c xs z => k3 c _ (ne_of z ways2 (fun y => nomatch y)) z
        have tA := (t1.trans t2).trans t3
        have nUW : U ≠ W := fun z => by rw [z, ways2] at hU; cases hU
        have eU3 : upd (upd H2 U (.tup [.int ah, .ref bb])) W (.lst ((ws ++ [U]).map V.ref)) U = some (.tup [.int ah, .ref bb]) := by
          rw [upd_ne nUW]
          exact upd_same
        have eW3 : upd (upd H2 U (.tup [.int ah, .ref bb])) W (.lst ((ws ++ [U]).map V.ref)) W = some (.lst ((ws ++ [U]).map V.ref)) := upd_same
        generalize upd (upd H2 U (.tup [.int ah, .ref bb])) W (.lst ((ws ++ [U]).map V.ref)) = H3 at k3 t3 tA eU3 eW3
        refine ⟨ts ++ [(key, b)], wy ++ [(ah, bs)], ts.length, rfl, ⟨⟨dx, k3 _ _ npW ob2⟩, k3 _ _ nMW met2, nd_stay num1 (k3 _ _ nNW (k2 _ _ nMN.symm num1.ob)) (t2.trans t3), ⟨ws ++ [U], eW3, ?_⟩, ?_, fun x hx => ?_, ?_, nMW⟩, ⟨b, ?_⟩, .inr ⟨rfl, rfl, rfl, fresh⟩, fun c o n1 n2 n3 z => k3 _ _ n3 (k2 _ _ n1 (k1 _ _ n2 z))⟩
        · exact awSnoc (F := fun (q : Addr) (e : Int × List Int) => ∃ bb, H3 q = some (.tup [.int e.1, .ref bb]) ∧ H3 bb = some (.tup (e.2.map V.int))) ⟨bb, eU3, tA _ _ hbb⟩ (awMap (fun q e z => z.elim fun bb y => ⟨bb, tA _ _ y.1, tA _ _ y.2⟩) wat)
        · rw [List.map_append, List.nodup_append]
          refine ⟨nd, by simp, fun x hx y hy => ?_⟩
          obtain ⟨t, ht, rfl⟩ := List.mem_map.mp hx
          rw [List.mem_singleton.mp hy]
          exact fresh t ht
        · rcases List.mem_append.mp hx with hx | hx
          · exact keyn_stay tA (keys x hx)
          · rw [List.mem_singleton.mp hx]
            exact keyn_stay tA hk
        · rw [List.length_append, List.length_append, len]
          rfl
        · rw [List.getElem?_append_right (Nat.le_refl _), Nat.sub_self]
          rfl
    · rintro σ2 H2 ⟨ts', wy', i, rfl, hw2, ⟨b', hb'⟩, hcase, kp⟩
      obtain ⟨⟨dx2, ob2⟩, _, num2, _, nd2, _⟩ := id hw2
      have tS : TupsStay H H2 := fun c xs z => kp c _ (ne_of z met (fun y => nomatch y)) (ne_of z num.ob (fun y => nomatch y)) (ne_of z ways (fun y => nomatch y)) z
      exact ⟨.ref p, rfl, p, C, dx2, _, _, rfl, ob2, T.cl, T.nN, wF_num _ _ _, .ref b, rfl, N, _, key, .int (i : Nat), rfl, num2, keyn_stay tS hk, numE_some nd2 hb', q H2 ts' wy' i hw2 ⟨b', hb'⟩ hcase kp⟩
/-! ### list(zip(a, b)) of two lists -/
section lz
variable {A : Around} {E : Value → Shared → Prop} {s : Shared}
abbrev IsZ (h : Heap) (z TI TO : Addr) (f0 : Value) (b : Bool) : Prop := h.get? z = some { cls := .type "zip", dict := none, data := .fields #[f0, .bool b, .bool false, .ref TI, .ref TO], slots := #[] }
theorem z_free {z TI TO T : Addr} {f : Bool} {oT : Obj} {Q : Bool → Shared → Prop} (hz : IsZ s.heap z TI TO (rawInt T) f) (hT : s.heap.get? T = some oT) (q : ∀ h', IsZ h' z TI TO (rawInt T) true → Heap.SameBut z s.heap h' → Q false { s with heap := h' }) :
    wpAny (model P w) A (Builtin.SmallTypes.ownedTupleIsFree (.ref z)) Q E s := by
  unfold Builtin.SmallTypes.ownedTupleIsFree
  apply wpAny_bind
  refine wpAny_field hz rfl (x := rawInt T) rfl ?_
  show wpAny _ _ (loadIfAlive ((T : Int).toNat) >>= _) _ _ _
  rw [Int.toNat_natCast]
  apply wpAny_bind
  refine PySem.W.kdx_alive hT ?_
  simp only [Option.isNone_some, Bool.false_eq_true, if_false]
  apply wpAny_bind
  refine wpAny_field hz rfl (x := .bool f) rfl ?_
  cases f with
  | true =>
    rw [if_neg (show ¬ ((Value.bool true != Value.bool true) = true) from Bool.false_ne_true)]
    exact wpAny_pure (q s.heap hz (Heap.SameBut.refl _ _))
  | false =>
    rw [if_pos (show (Value.bool false != Value.bool true) = true from rfl)]
    apply wpAny_bind
    exact wpAny_setField_rec hz (by simp) fun h' hz' hs' => wpAny_pure (q h' hz' hs')
theorem z_next_out {z TI TO i1 i2 l1 l2 T : Addr} {k1 k2 : Nat} {xs ys : Array Value} {x y : Value} {f : Bool} {oT : Obj} {Q : Value → Shared → Prop} (D : ZipApart z TI TO i1 i2 l1 l2) (hz : IsZ s.heap z TI TO (rawInt T) f) (hT : s.heap.get? T = some oT)
    (hTI : IsPair s.heap TI (.ref i1) (.ref i2)) (h1 : s.heap.IsListIter i1 l1 k1) (h2 : s.heap.IsListIter i2 l2 k2) (hl1 : s.heap.IsList l1 xs) (hl2 : s.heap.IsList l2 ys) (hx : xs[k1]? = some x) (hy : ys[k2]? = some y)
    (q : ∀ h', IsZ h' z TI TO (rawInt T) true → h'.IsListIter i1 l1 (k1 + 1) → h'.IsListIter i2 l2 (k2 + 1) → IsPair h' s.heap.objs.size x y → h'.objs.size = s.heap.objs.size + 1 → (∀ c o, c ≠ z → c ≠ i1 → c ≠ i2 → s.heap.get? c = some o → h'.get? c = some o) → Q (.ref s.heap.objs.size) { s with heap := h' }) :
    wpAny (model P w) A (Builtin.«zip.__next__» ⟨[.ref z], []⟩) (fun fin s' => ∃ v, fin = .done (.ret v) ∧ Q v s') E s := by
  show wpAny _ _ (field (.ref z) 2 >>= _) _ _ _
  apply wpAny_bind
  refine wpAny_field hz rfl (x := .bool false) rfl ?_
  show wpAny _ _ (field (.ref z) 3 >>= _) _ _ _
  apply wpAny_bind
  refine wpAny_field hz rfl (x := .ref TI) rfl ?_
  apply wpAny_bind
  refine wpAny_seqItems hTI rfl ?_
  show wpAny _ _ (Builtin.SmallTypes.ownedTupleIsFree (.ref z) >>= _) _ _ _
  apply wpAny_bind
  refine z_free hz hT fun h₁ hz₁ hs₁ => ?_
  simp only [Bool.false_eq_true, if_false]
  apply wpAny_bind
  simp only [← Array.forIn_toList, List.forIn_cons, List.forIn_nil]
  apply wpAny_bind
  apply wpAny_bind
  apply wpAny_holding
  show wpAny _ _ (Builtin.SmallTypes.nextOf (.ref i1) >>= _) _ _ _
  apply wpAny_bind
  refine wpAny_nextOf_list_item (h1.extBut hs₁.extBut D.i1z) (hl1.extBut hs₁.extBut D.l1z) hx fun h₂ h1₂ hs₂ => wpAny_pure ?_
  refine wpAny_pure ?_
  apply wpAny_bind
  apply wpAny_bind
  apply wpAny_holding
  show wpAny _ _ (Builtin.SmallTypes.nextOf (.ref i2) >>= _) _ _ _
  apply wpAny_bind
  refine wpAny_nextOf_list_item ((h2.extBut hs₁.extBut D.i2z).extBut hs₂.extBut D.i12.symm) ((hl2.extBut hs₁.extBut D.l2z).extBut hs₂.extBut D.l2i1) hy fun h₃ h2₃ hs₃ => wpAny_pure ?_
  refine wpAny_pure (wpAny_pure ?_)
  have hsz : h₃.objs.size = s.heap.objs.size := by rw [hs₃.1, hs₂.1, hs₁.1]
  apply wpAny_bind
  refine wpAny_newTuple ?_ (by show 2 ≤ sizeLine; decide)
  have z3 : IsZ h₃ z TI TO (rawInt T) true := hs₃.extBut _ _ D.i2z.symm (hs₂.extBut _ _ D.i1z.symm hz₁)
  refine wpAny_pure ⟨_, rfl, ?_⟩
  show Q (.ref h₃.objs.size) _
  rw [hsz]
  refine q _ (Heap.get?_push_of_some _ z3) ((h1₂.extBut hs₃.extBut D.i12).at fun o e => Heap.get?_push_of_some _ e) (h2₃.at fun o e => Heap.get?_push_of_some _ e) ?_ ?_ fun c o c1 c2 c3 e => Heap.get?_push_of_some _ (hs₃.extBut _ _ c3 (hs₂.extBut _ _ c2 (hs₁.extBut _ _ c1 e)))
  · rw [← hsz]
    exact Heap.get?_push_size _ rfl
  · rw [Heap.size_push, hsz]
theorem z_pyNext_out {z TI TO i1 i2 l1 l2 T : Addr} {k1 k2 : Nat} {xs ys : Array Value} {x y : Value} {f : Bool} {oT : Obj} {Q : Option Value → Shared → Prop} (D : ZipApart z TI TO i1 i2 l1 l2) (hz : IsZ s.heap z TI TO (rawInt T) f) (hT : s.heap.get? T = some oT)
    (hTI : IsPair s.heap TI (.ref i1) (.ref i2)) (h1 : s.heap.IsListIter i1 l1 k1) (h2 : s.heap.IsListIter i2 l2 k2) (hl1 : s.heap.IsList l1 xs) (hl2 : s.heap.IsList l2 ys) (hx : xs[k1]? = some x) (hy : ys[k2]? = some y)
    (q : ∀ h', IsZ h' z TI TO (rawInt T) true → h'.IsListIter i1 l1 (k1 + 1) → h'.IsListIter i2 l2 (k2 + 1) → IsPair h' s.heap.objs.size x y → h'.objs.size = s.heap.objs.size + 1 → (∀ c o, c ≠ z → c ≠ i1 → c ≠ i2 → s.heap.get? c = some o → h'.get? c = some o) → Q (some (.ref s.heap.objs.size)) { s with heap := h' }) :
    wpAny (model P w) A (pyNext (.ref z)) Q E s := by
  have ty : s.TypeIs (.ref z) "zip" := ⟨_, hz, rfl⟩
  unfold pyNext
  apply wpAny_bind
  apply wpAny_attempt
  refine wpAny_callSpecial?_slot (name := Str.ofString "__next__") ty F.slot_zip_next ?_
  refine wpAny_call_entry F.slot_zip_next ty F.entry_zip_next ?_ (F.args_zip_next_1 _)
  exact z_next_out D hz hT hTI h1 h2 hl1 hl2 hx hy fun h' a1 a2 a3 a4 a5 a6 => wpAny_pure (q h' a1 a2 a3 a4 a5 a6)
theorem z_end_out {z TI TO i1 i2 l1 l2 T : Addr} {k1 : Nat} {xs : Array Value} {f : Bool} {oT : Obj} {Q : Option Value → Shared → Prop} (hh : A.handled = none) (D : ZipApart z TI TO i1 i2 l1 l2) (hz : IsZ s.heap z TI TO (rawInt T) f) (hT : s.heap.get? T = some oT)
    (hTI : IsPair s.heap TI (.ref i1) (.ref i2)) (h1 : s.heap.IsListIter i1 l1 k1) (hl1 : s.heap.IsList l1 xs) (hx : xs[k1]? = none)
    (q : ∀ h', (∀ c o, c ≠ z → c ≠ i1 → s.heap.get? c = some o → h'.get? c = some o) → Q none { s with heap := h' }) :
    wpAny (model P w) A (pyNext (.ref z)) Q E s := by
  have ty : s.TypeIs (.ref z) "zip" := ⟨_, hz, rfl⟩
  unfold pyNext
  apply wpAny_bind
  apply wpAny_attempt
  refine wpAny_callSpecial?_slot (name := Str.ofString "__next__") ty F.slot_zip_next ?_
  refine wpAny_call_entry F.slot_zip_next ty F.entry_zip_next ?_ (F.args_zip_next_1 _)
  show wpAny _ _ (field (.ref z) 2 >>= _) _ _ _
  apply wpAny_bind
  refine wpAny_field hz rfl (x := .bool false) rfl ?_
  show wpAny _ _ (field (.ref z) 3 >>= _) _ _ _
  apply wpAny_bind
  refine wpAny_field hz rfl (x := .ref TI) rfl ?_
  apply wpAny_bind
  refine wpAny_seqItems hTI rfl ?_
  show wpAny _ _ (Builtin.SmallTypes.ownedTupleIsFree (.ref z) >>= _) _ _ _
  apply wpAny_bind
  refine z_free hz hT fun h₁ hz₁ hs₁ => ?_
  simp only [Bool.false_eq_true, if_false]
  apply wpAny_bind
  simp only [← Array.forIn_toList, List.forIn_cons, List.forIn_nil]
  apply wpAny_bind
  apply wpAny_bind
  apply wpAny_holding
  show wpAny _ _ (Builtin.SmallTypes.nextOf (.ref i1) >>= _) _ _ _
  apply wpAny_bind
  refine wpAny_nextOf_list_end hh (h1.extBut hs₁.extBut D.i1z) (hl1.extBut hs₁.extBut D.l1z) hx fun h₂ e hs₂ he => ?_
  obtain ⟨o, ho, hc⟩ := he
  apply wpAny_bind
  refine wpAny_isInstance (T := "StopIteration") (b := true) ⟨o, ho, hc⟩ isSubtype_stop ?_
  exact wpAny_pure (q h₂ fun c o c1 c2 e => hs₂ c o c2 (hs₁.extBut c o c1 e))
/-- the pairs that were made -/
structure MadeZ (xs ys : Array Value) (lo : Addr) (h : Heap) (as : List Addr) : Prop where
  rise : as.Pairwise (· < ·)
  above : ∀ a ∈ as, lo < a
  pairs : ∀ (j : Nat) a, as[j]? = some a → ∃ x y, xs[j]? = some x ∧ ys[j]? = some y ∧ IsPair h a x y
/-- where the zip stands -/
def ZAt (h : Heap) (z TI TO i1 i2 : Addr) (l1 l2 : Addr) (i : Nat) (as : List Addr) : Prop := IsPair h TI (.ref i1) (.ref i2) ∧ (∃ a b, IsPair h TO a b) ∧ h.IsListIter i1 l1 i ∧ h.IsListIter i2 l2 i ∧
  ((i = 0 ∧ IsZ h z TI TO .none false) ∨ ∃ T f, T ∈ as ∧ IsZ h z TI TO (rawInt T) f)
theorem z_loop {S z TI TO i1 i2 l1 l2 : Addr} {xs ys : Array Value} (hh : A.handled = none) (D : ZipApart z TI TO i1 i2 l1 l2) (hxy : xs.size = ys.size) (hSz : S ≠ z) (hSI : S ≠ TI) (hSO : S ≠ TO) (hS1 : S ≠ i1) (hS2 : S ≠ i2) (hSa : S ≠ l1) (hSb : S ≠ l2)
    (lo : Addr) (hlo : z ≤ lo ∧ TI ≤ lo ∧ TO ≤ lo ∧ i1 ≤ lo ∧ i2 ≤ lo ∧ S ≤ lo) (hn : xs.size ≤ sizeLine) (res : Value) {h₁ : Heap} {R : Result → Shared → Prop}
    (hR : ∀ h' tk acc c as, (∀ b o, b ≠ S → b ≠ z → b ≠ TO → b ≠ i1 → b ≠ i2 → h₁.get? b = some o → h'.get? b = some o) → h'.get? S = some { cls := .type "list", dict := none, data := .seq acc c, slots := #[] } → as.length = xs.size → MadeZ xs ys lo h' as →
      acc.toList = as.map Value.ref → R (.ok (.ret res)) { s with heap := h', toks := tk }) :
    ∀ (k i : Nat) (h : Heap) (tk c : Nat) (acc : Array Value) (as : List Addr), xs.size - i = k → i ≤ xs.size → ZAt h z TI TO i1 i2 l1 l2 i as → h.IsList l1 xs → h.IsList l2 ys → (∀ b o, b ≠ S → b ≠ z → b ≠ TO → b ≠ i1 → b ≠ i2 → h₁.get? b = some o → h.get? b = some o) →
      h.get? S = some { cls := .type "list", dict := none, data := .seq acc c, slots := #[] } → acc.toList = as.map Value.ref → as.length = i → MadeZ xs ys lo h as → lo < h.objs.size →
      codeAny (model P w) A (.builtin "list.extend.loop" ⟨[.ref S, .ref z, res], []⟩) R { s with heap := h, toks := tk } := by
  have far : ∀ u : Addr, lo < u → u ≠ z ∧ u ≠ TO ∧ u ≠ i1 ∧ u ≠ i2 ∧ u ≠ S := fun u hu => ⟨Nat.ne_of_gt (Nat.lt_of_le_of_lt hlo.1 hu), Nat.ne_of_gt (Nat.lt_of_le_of_lt hlo.2.2.1 hu), Nat.ne_of_gt (Nat.lt_of_le_of_lt hlo.2.2.2.1 hu), Nat.ne_of_gt (Nat.lt_of_le_of_lt hlo.2.2.2.2.1 hu), Nat.ne_of_gt (Nat.lt_of_le_of_lt hlo.2.2.2.2.2 hu)⟩
  intro k
  induction k with
  | zero =>
    intro i h tk c acc as hk hi hz hl1 hl2 keep hS hacc hal hG hls
    obtain ⟨hTI, ⟨a, b, hTO⟩, g1, g2, st⟩ := hz
    have xe : xs[i]? = none := Array.getElem?_eq_none (by omega)
    have fin : ∀ h', (∀ c o, c ≠ z → c ≠ TO → c ≠ i1 → c ≠ i2 → h.get? c = some o → h'.get? c = some o) → R (.ok (.ret res)) { s with heap := h', toks := tk } := fun h' kp => by
      refine hR h' tk acc c as (fun b o n1 n2 n3 n4 n5 e => kp b o n2 n3 n4 n5 (keep b o n1 n2 n3 n4 n5 e)) (kp S _ hSz hSO hS1 hS2 hS) (by omega) ⟨hG.rise, hG.above, fun j a hj => ?_⟩ hacc
      obtain ⟨x, y, e1, e2, e3⟩ := hG.pairs j a hj
      obtain ⟨f1, f2, f3, f4, _⟩ := far a (hG.above a (List.mem_of_getElem? hj))
      exact ⟨x, y, e1, e2, kp a _ f1 f2 f3 f4 e3⟩
    refine codeAny_builtin F.entry_extend_loop ?_
    rw [Around.under_plainId F.plain_extend_loop _]
    show wpAny _ A.in1 (pyNext (.ref z) >>= _) _ _ _
    apply wpAny_bind
    rcases st with ⟨rfl, hz0⟩ | ⟨T, f, hT, hz1⟩
    · exact wpAny_pyNext_zip_end (s := { s with heap := h, toks := tk }) (A := A.in1) hh D hz0 hTI hTO g1 g2 hl1 hl2 (.inl xe) fun h' kp => wpAny_pure (fin h' kp)
    · obtain ⟨j, hj⟩ := List.mem_iff_getElem?.mp hT
      obtain ⟨x, y, _, _, e3⟩ := hG.pairs j T hj
      exact z_end_out (s := { s with heap := h, toks := tk }) (A := A.in1) hh D hz1 e3 hTI g1 hl1 xe fun h' kp => wpAny_pure (fin h' fun c o n1 _ n3 _ e => kp c o n1 n3 e)
  | succ k ih =>
    intro i h tk c acc as hk hi hz hl1 hl2 keep hS hacc hal hG hls
    obtain ⟨hTI, ⟨a, b, hTO⟩, g1, g2, st⟩ := hz
    have hlt : i < xs.size := by omega
    have hx := Array.getElem?_eq_getElem hlt
    have hy := Array.getElem?_eq_getElem (show i < ys.size by omega)
    have hsz : acc.size = i := by rw [← Array.length_toList, hacc, List.length_map, hal]
    have hSl : S < h.objs.size := Heap.lt_size hS
    refine codeAny_builtin F.entry_extend_loop ?_
    rw [Around.under_plainId F.plain_extend_loop _]
    show wpAny _ A.in1 (pyNext (.ref z) >>= _) _ _ _
    apply wpAny_bind
    -- one more pair
    have more : ∀ (h' : Heap) (f : Bool) (T : Addr), T ∈ as ++ [h.objs.size] → IsZ h' z TI TO (rawInt T) f → (∃ a b, IsPair h' TO a b) → h'.IsListIter i1 l1 (i + 1) → h'.IsListIter i2 l2 (i + 1) → IsPair h' h.objs.size xs[i] (ys[i]'(by omega)) → h'.objs.size = h.objs.size + 1 →
        (∀ c o, c ≠ z → c ≠ TO → c ≠ i1 → c ≠ i2 → h.get? c = some o → h'.get? c = some o) →
        wpAny (model P w) A.in1 (updateSeq S (·.push (Value.ref h.objs.size)) >>= fun _ => again (.builtin "list.extend.loop" ⟨[.ref S, .ref z, res], []⟩)) (fun fin s' => match fin with | .done f => R (.ok f) s' | .again c' => c'.quiet = true ∧ codeAny (model P w) A c' R s') (fun e s' => R (.error e) s') { s with heap := h', toks := tk } := by
      intro h' f T hT hz' hTO' g1' g2' hp hsz' kp
      have hS' := kp S _ hSz hSO hS1 hS2 hS
      have up : ∀ b o, b ≠ S → h'.get? b = some o → (h'.update S (Obj.mapSeq (·.push (Value.ref h.objs.size)))).get? b = some o := fun b o hb e => (Heap.get?_update_other _ _ (Ne.symm hb)).trans e
      apply wpAny_bind
      refine wpAny_updateSeq hS' rfl (wpAny_pure ⟨plainId_quiet F.plain_extend_loop _, ?_⟩) (by rw [hsz]; omega) (by show (acc.push (Value.ref h.objs.size)).size ≤ sizeLine + 1; rw [Array.size_push, hsz]; omega)
      refine ih (i + 1) _ tk _ (acc.push (Value.ref h.objs.size)) (as ++ [h.objs.size]) (by omega) hlt ?_ ?_ ?_ (fun b o n1 n2 n3 n4 n5 e => up b o n1 (kp b o n2 n3 n4 n5 (keep b o n1 n2 n3 n4 n5 e))) (Heap.get?_update_self _ hS' rfl) (by rw [Array.toList_push, hacc, List.map_append]; rfl) (by rw [List.length_append, hal]; rfl) ⟨?_, ?_, ?_⟩ ?_
      · obtain ⟨p, q, hpq⟩ := hTO'
        exact ⟨up _ _ hSI.symm (kp _ _ D.TIz D.TITO D.TIi1 D.TIi2 hTI), ⟨p, q, up _ _ hSO.symm hpq⟩, g1'.at fun o e => up _ o hS1.symm e, g2'.at fun o e => up _ o hS2.symm e, .inr ⟨T, f, hT, up _ _ hSz.symm hz'⟩⟩
      · exact hl1.at fun o e => up _ o hSa.symm (kp _ o D.l1z D.l1TO D.l1i1 D.l1i2 e)
      · exact hl2.at fun o e => up _ o hSb.symm (kp _ o D.l2z D.l2TO D.l2i1 D.l2i2 e)
      · refine List.pairwise_append.mpr ⟨hG.rise, List.pairwise_singleton _ _, fun u hu v hv => ?_⟩
        rw [List.mem_singleton.mp hv]
        obtain ⟨j, hj⟩ := List.mem_iff_getElem?.mp hu
        obtain ⟨_, _, _, _, e3⟩ := hG.pairs j u hj
        exact Heap.lt_size e3
      · intro u hu
        rcases List.mem_append.mp hu with hu | hu
        · exact hG.above u hu
        · rw [List.mem_singleton.mp hu]
          exact hls
      · intro j u hj
        by_cases hjl : j < as.length
        · rw [List.getElem?_append_left hjl] at hj
          obtain ⟨x, y, e1, e2, e3⟩ := hG.pairs j u hj
          obtain ⟨f1, f2, f3, f4, f5⟩ := far u (hG.above u (List.mem_of_getElem? hj))
          exact ⟨x, y, e1, e2, up u _ f5 (kp u _ f1 f2 f3 f4 e3)⟩
        · rw [List.getElem?_append_right (by omega)] at hj
          have hj2 := (List.getElem?_eq_some_iff.mp hj).1
          have ej : j = as.length := by
            simp only [List.length_cons, List.length_nil] at hj2
            omega
          subst ej
          rw [Nat.sub_self] at hj
          obtain rfl := Option.some.inj hj
          subst hal
          exact ⟨_, _, hx, hy, up _ _ (Nat.ne_of_gt hSl) hp⟩
      · have e := up _ _ (Nat.ne_of_gt hSl) hp
        exact Nat.lt_trans hls (Heap.lt_size e)
    rcases st with ⟨rfl, hz0⟩ | ⟨T, f, hT, hz1⟩
    · refine wpAny_pyNext_zip_item (s := { s with heap := h, toks := tk }) (A := A.in1) D hz0 hTI hTO g1 g2 hl1 hl2 hx hy fun h' b1 b2 b3 b4 b5 b6 b7 => ?_
      exact more h' false h.objs.size (List.mem_append_right _ List.mem_cons_self) b1 ⟨_, _, b2⟩ b3 b4 b5 b6 b7
    · obtain ⟨j, hj⟩ := List.mem_iff_getElem?.mp hT
      obtain ⟨x, y, _, _, e3⟩ := hG.pairs j T hj
      refine z_pyNext_out (s := { s with heap := h, toks := tk }) (A := A.in1) D hz1 e3 hTI g1 g2 hl1 hl2 hx hy fun h' b1 b2 b3 b4 b5 b6 => ?_
      exact more h' true T (List.mem_append_left _ hT) b1 ⟨_, _, b6 _ _ D.TOz D.TOi1 D.TOi2 hTO⟩ b2 b3 b4 b5 fun c o n1 _ n3 n4 e => b6 c o n1 n3 n4 e
theorem z_nolen : typeLookup (.type "zip") "__len__" = pure none := by
  rw [typeLookup_type, builtinLookup_eq_fast]
  kernel_rfl
theorem z_nohint : typeLookup (.type "zip") "__length_hint__" = pure none := by
  rw [typeLookup_type, builtinLookup_eq_fast]
  kernel_rfl
theorem z_hint {z : Addr} {Q : Bool → Shared → Prop} (hT : s.TypeIs (.ref z) "zip") (q : Q true s) : wpAny (model P w) A (Builtin.List.listLengthHint (.ref z)) Q E s := by
  unfold Builtin.List.listLengthHint
  apply wpAny_bind
  refine wpAny_specialOf hT z_nolen ?_
  refine wpAny_ite_split (fun h => absurd h (by decide)) (fun _ => ?_)
  refine wpAny_ite_split (fun h => absurd h (by decide)) (fun _ => ?_)
  apply wpAny_bind
  refine wpAny_specialOf hT z_nohint ?_
  exact wpAny_pure q
theorem z_extend {S z TI TO i1 i2 l1 l2 : Addr} {xs ys : Array Value} (hh : A.handled = none) (D : ZipApart z TI TO i1 i2 l1 l2) (hxy : xs.size = ys.size) (hSz : S ≠ z) (hSI : S ≠ TI) (hSO : S ≠ TO) (hS1 : S ≠ i1) (hS2 : S ≠ i2) (hSa : S ≠ l1) (hSb : S ≠ l2)
    (lo : Addr) (hlo : z ≤ lo ∧ TI ≤ lo ∧ TO ≤ lo ∧ i1 ≤ lo ∧ i2 ≤ lo ∧ S ≤ lo) (hls : lo < s.heap.objs.size) (hn : xs.size ≤ sizeLine) (res : Value) {R : Result → Shared → Prop} {c₀ : Nat}
    (hz : ZAt s.heap z TI TO i1 i2 l1 l2 0 []) (hz0 : IsZ s.heap z TI TO .none false) (hl1 : s.heap.IsList l1 xs) (hl2 : s.heap.IsList l2 ys) (hS : s.heap.get? S = some { cls := .type "list", data := .seq #[] c₀ })
    (hR : ∀ h' tk acc c as, (∀ b o, b ≠ S → b ≠ z → b ≠ TO → b ≠ i1 → b ≠ i2 → s.heap.get? b = some o → h'.get? b = some o) → h'.get? S = some { cls := .type "list", dict := none, data := .seq acc c, slots := #[] } → as.length = xs.size → MadeZ xs ys lo h' as →
      acc.toList = as.map Value.ref → R (.ok (.ret res)) { s with heap := h', toks := tk }) :
    wpAny (model P w) A.in1 (Builtin.List.listExtendWith (.ref S) (.ref z) res)
      (fun fin s' => match fin with | .done f => R (.ok f) s' | .again c' => c'.quiet = true ∧ codeAny (model P w) A c' R s') (fun e s' => R (.error e) s') s := by
  have ty : s.TypeIs (.ref z) "zip" := ⟨_, hz0, rfl⟩
  have go : ∀ (h : Heap) (c₁ tk : Nat), (∀ b o, b ≠ S → s.heap.get? b = some o → h.get? b = some o) → lo < h.objs.size → h.get? S = some { cls := .type "list", data := .seq #[] c₁ } →
      codeAny (model P w) A (.builtin "list.extend.loop" ⟨[.ref S, .ref z, res], []⟩) R { s with heap := h, toks := tk } := by
    intro h c₁ tk kp hl hS₁
    obtain ⟨hTI, ⟨a, b, hTO⟩, g1, g2, _⟩ := hz
    refine z_loop (s := s) (h₁ := s.heap) hh D hxy hSz hSI hSO hS1 hS2 hSa hSb lo hlo hn res hR xs.size 0 h tk c₁ #[] [] (Nat.sub_zero _) (Nat.zero_le _) ?_ (hl1.at fun o e => kp _ o hSa.symm e) (hl2.at fun o e => kp _ o hSb.symm e) (fun b o n1 _ _ _ _ e => kp b o n1 e) hS₁ rfl rfl ⟨List.Pairwise.nil, (fun _ z => nomatch z), (fun j a hj => by simp at hj)⟩ hl
    exact ⟨kp _ _ hSI.symm hTI, ⟨a, b, kp _ _ hSO.symm hTO⟩, g1.at fun o e => kp _ o hS1.symm e, g2.at fun o e => kp _ o hS2.symm e, .inl ⟨rfl, kp _ _ hSz.symm hz0⟩⟩
  unfold Builtin.List.listExtendWith
  apply wpAny_bind
  refine wpAny_typeOf (T := "zip") ty ?_
  have e1 : Builtin.List.listSameRef (.ref S) (.ref z) = false := by simp [Builtin.List.listSameRef, hSz]
  have e2 : (Value.type "zip" == Value.type "list") = false := by decide
  have e3 : (Value.type "zip" == Value.type "tuple") = false := by decide
  simp only [e1, e2, e3, Bool.or_false, Bool.false_eq_true, if_false]
  apply wpAny_bind
  refine wpAny_pyIter_slot ty F.slot_zip_iter ?_
  refine wpAny_call_entry F.slot_zip_iter ty F.entry_zip_iter ?_ (F.args_zip_iter_1 _)
  show wpAny _ _ (ret (.ref z)) _ _ s
  refine wpAny_pure ⟨_, rfl, "zip", _, ty, F.slot_zip_next.lookup, ?_⟩
  apply wpAny_bind
  apply wpAny_holding
  refine z_hint ty ?_
  refine wpAny_ite_split (fun _ => ?_) (fun _ => wpAny_pure ⟨plainId_quiet F.plain_extend_loop _, go _ c₀ _ (fun b o _ e => e) hls hS⟩)
  apply wpAny_bind
  apply wpAny_rule
  apply wpAny_bind
  show wpAny _ _ (updateSeq S (·.push .none) >>= fun _ => updateSeq S (·.pop)) _ _ _
  apply wpAny_bind
  refine wpAny_updateSeq hS rfl ?_
  have hS₂ := Heap.get?_update_self (Obj.mapSeq (·.push Value.none)) hS rfl
  refine wpAny_updateSeq (hz := by seq_fits) hS₂ rfl ?_
  have hS₃ := Heap.get?_update_self (Obj.mapSeq (·.pop)) hS₂ rfl
  refine wpAny_pure ⟨plainId_quiet F.plain_extend_loop _, go _ _ _ (fun b o hb e => ?_) ?_ hS₃⟩
  · exact (Heap.get?_update_other _ _ (Ne.symm hb)).trans ((Heap.get?_update_other _ _ (Ne.symm hb)).trans e)
  · rw [Heap.size_update, Heap.size_update]
    exact hls
theorem z_list {z TI TO i1 i2 l1 l2 : Addr} {xs ys : Array Value} (hh : A.handled = none) (D : ZipApart z TI TO i1 i2 l1 l2) (hxy : xs.size = ys.size) (hn : xs.size ≤ sizeLine) {Q : Value → Shared → Prop}
    (hz : ZAt s.heap z TI TO i1 i2 l1 l2 0 []) (hz0 : IsZ s.heap z TI TO .none false) (hl1 : s.heap.IsList l1 xs) (hl2 : s.heap.IsList l2 ys)
    (q : ∀ h' tk acc c as, (∀ b o, b ≠ z → b ≠ TO → b ≠ i1 → b ≠ i2 → s.heap.get? b = some o → h'.get? b = some o) → h'.get? s.heap.objs.size = some { cls := .type "list", dict := none, data := .seq acc c, slots := #[] } → as.length = xs.size → MadeZ xs ys s.heap.objs.size h' as →
      acc.toList = as.map Value.ref → Q (.ref s.heap.objs.size) { s with heap := h', toks := tk }) :
    wpAny (model P w) A (call (.type "list") [.ref z]) Q E s := by
  refine callType_codes (Q₁ := fun obj s₁ => obj = .ref s.heap.objs.size ∧ s₁ = { s with heap := s.heap.push { cls := .type "list", data := .seq #[] } }) F.called_list (F.typeCall_list_1 _) F.entry_list_init (code_list_new _ ⟨rfl, rfl⟩) ?_
  rintro obj s₁ ⟨rfl, rfl⟩
  have hS : (s.heap.push { cls := .type "list", data := .seq #[] }).get? s.heap.objs.size = some { cls := .type "list", data := .seq #[] } := Heap.get?_push_size _ rfl
  obtain ⟨hTI, ⟨a, b, hTO⟩, g1, g2, _⟩ := id hz
  have lt : ∀ {c : Addr} {o : Obj}, s.heap.get? c = some o → c < s.heap.objs.size := fun e => Heap.lt_size e
  have z1 : i1 < s.heap.objs.size := g1.elim fun o e => lt e.1
  have z2 : i2 < s.heap.objs.size := g2.elim fun o e => lt e.1
  have z3 : l1 < s.heap.objs.size := hl1.elim fun o e => lt e.1
  have z4 : l2 < s.heap.objs.size := hl2.elim fun o e => lt e.1
  refine ⟨⟨_, hS, rfl⟩, F.args_list_init_2 _ _, ?_⟩
  show wpAny _ _ (do let old ← Builtin.List.listItems (.ref s.heap.objs.size); Builtin.List.listUpdate (.ref s.heap.objs.size) (fun _ => #[]); letGo old.toList.reverse; Builtin.List.listExtendWith (.ref s.heap.objs.size) (.ref z) .none) _ _ _
  apply wpAny_bind
  unfold Builtin.List.listItems
  apply wpAny_bind
  refine wpAny_seqItems hS rfl (wpAny_pure ?_)
  show wpAny _ _ (updateSeq s.heap.objs.size (fun _ => #[]) >>= fun _ => letGo (#[] : Array Value).toList.reverse >>= fun _ => Builtin.List.listExtendWith (.ref s.heap.objs.size) (.ref z) .none) _ _ _
  apply wpAny_bind
  refine wpAny_updateSeq hS rfl ?_
  have hS₂ := Heap.get?_update_self (Obj.mapSeq (fun _ => (#[] : Array Value))) hS rfl
  have kp : ∀ b o, s.heap.get? b = some o → ((s.heap.push { cls := .type "list", data := .seq #[] }).update s.heap.objs.size (Obj.mapSeq (fun _ => (#[] : Array Value)))).get? b = some o := fun b o e => (Heap.get?_update_other _ _ (Nat.ne_of_gt (Heap.lt_size e))).trans (Heap.get?_push_of_some _ e)
  apply wpAny_bind
  apply wpAny_letGo
  refine z_extend (A := A.in1) (S := s.heap.objs.size) hh D hxy (Nat.ne_of_gt (lt hz0)) (Nat.ne_of_gt (lt hTI)) (Nat.ne_of_gt (lt hTO)) (Nat.ne_of_gt z1) (Nat.ne_of_gt z2) (Nat.ne_of_gt z3) (Nat.ne_of_gt z4) s.heap.objs.size ⟨Nat.le_of_lt (lt hz0), Nat.le_of_lt (lt hTI), Nat.le_of_lt (lt hTO), Nat.le_of_lt z1, Nat.le_of_lt z2, Nat.le_refl _⟩ ?_ hn .none ?_ (kp _ _ hz0) (hl1.at fun o e => kp _ o e) (hl2.at fun o e => kp _ o e) hS₂ ?_
  · show s.heap.objs.size < ((s.heap.push { cls := .type "list", data := .seq #[] }).update s.heap.objs.size (Obj.mapSeq (fun _ => (#[] : Array Value)))).objs.size
    rw [Heap.size_update, Heap.size_push]
    exact Nat.lt_succ_self _
  · exact ⟨kp _ _ hTI, ⟨a, b, kp _ _ hTO⟩, g1.at fun o e => kp _ o e, g2.at fun o e => kp _ o e, .inl ⟨rfl, kp _ _ hz0⟩⟩
  · intro h' tk acc c as k1 k2 k3 k4 k5
    exact ⟨rfl, q h' tk acc c as (fun b o n1 n2 n3 n4 e => k1 b o (Nat.ne_of_lt (Heap.lt_size e)) n1 n2 n3 n4 (kp b o e)) k2 k3 k4 k5⟩
end lz
theorem paired_of {α β : Type} {F : α → β → Prop} : ∀ {l : List α} {k : List β}, l.length = k.length → (∀ (j : Nat) x y, l[j]? = some x → k[j]? = some y → F x y) → Paired F l k
  | [], [], _, _ => .nil
  | [], _ :: _, h, _ => nomatch h
  | _ :: _, [], h, _ => nomatch h
  | x :: l, y :: k, h, f => .cons (f 0 x y rfl rfl) (paired_of (Nat.succ.inj h) fun j a b ha hb => f (j + 1) a b (by simpa using ha) (by simpa using hb))
section lzr
variable {X : Cx}
def tListZip (K : PySem.W.Frag) (ta : TA) : TE := fun σ H Q => ta σ H fun vs H1 => ∃ a b xs ys, vs = [.ref a, .ref b] ∧ SqL K H1 a xs ∧ SqL K H1 b ys ∧ xs.length = ys.length ∧
  ∀ H' p ts, Same H1 H' → H1 p = none → H' p = some (.lst (ts.map V.ref)) → Paired (fun (t : Addr) (e : V × V) => H' t = some (.tup [e.1, e.2])) ts (xs.zip ys) → Q (.ref p) H'
theorem pe_listZip {e e2 : Expr} {ta : TA} {p p2 pos pos2 : Pos} (hc : X.calm = true) (hg : Gl X "list") (hm : X.mg "list" = none) (hg2 : Gl X "zip") (hm2 : X.mg "zip" = none) (ha : PA X [e, e2] ta)
    (c1 : starEach [.Call (.Name "zip" p2) [e, e2] [] pos2] X.env = (false, eval (.Call (.Name "zip" p2) [e, e2] [] pos2) X.env) :: starEach [] X.env := by rfl)
    (c2 : starEach [e, e2] X.env = (false, eval e X.env) :: starEach [e2] X.env := by rfl) (c3 : (backTo pos2 (starEach [e2] X.env)).any (·.1) = false := by rfl) :
    PE X (.Call (.Name "list" p) [.Call (.Name "zip" p2) [e, e2] [] pos2] [] pos) (tListZip X.K ta) := by
  constructor
  intro pins s σ H Q I h
  refine wpAny_Call_Name_kw (ld_blt I hg hm (by decide +kernel : bootBuiltins "list" = some (.type "list")) ?_)
  refine PyProof.Rows.callWith_type1 ?_ c1 rfl
  rw [c1]
  show wpAny _ _ (spliced ((false, eval (.Call (.Name "zip" p2) [e, e2] [] pos2) X.env) :: backTo pos (starEach [] X.env))) _ _ s
  refine Calls.spliced_cons ?_
  refine Call_ (ld_blt I hg2 hm2 PyProof.Rows.boot_zip (PyProof.Rows.callWith_type1 (thn (ha.run pos2 pins s σ H _ I h) ?_) c2 c3))
  rintro us s1 ⟨vs, H1, I1, r1, a, b, xs, ys, rfl, hx, hy, hxy, q⟩
  match us, r1 with
  | [u1, u2], .cons ra (.cons rb .nil) =>
    cases ra
    cases rb
    obtain ⟨it1, rv1, p1, z1⟩ := I1.list hx
    obtain ⟨it2, rv2, p2', z2⟩ := I1.list hy
    have n1 := rv1.length
    have n2 := rv2.length
    refine call_zip_2 p1.isList p2'.isList fun h' hz hTI hTO g1 g2 hsz hk => ?_
    refine Calls.spliced_nil ?_
    have la : a < s1.heap.objs.size := p1.lt
    have lb : b < s1.heap.objs.size := p2'.lt
    refine z_list (s := { s1 with heap := h' }) (I1.ok.hd hc) (PySem.W.ktu_apart s1.heap.objs.size a b la lb) (by simp; omega) (by simp; omega) ⟨hTI, ⟨_, _, hTO⟩, g1, g2, .inl ⟨rfl, hz⟩⟩ hz (p1.isList.at fun o e => hk _ o e) (p2'.isList.at fun o e => hk _ o e) fun h'' tk acc c as kp hS hal hG hacc => ?_
    have old : ∀ b o, s1.heap.get? b = some o → h''.get? b = some o := fun b o e => by
      have lt := Heap.lt_size e
      exact kp b o (Nat.ne_of_lt (Nat.lt_of_lt_of_le lt (Nat.le_add_right _ _))) (Nat.ne_of_lt (Nat.lt_of_lt_of_le lt (Nat.le_add_right _ _))) (Nat.ne_of_lt lt) (Nat.ne_of_lt (Nat.lt_of_lt_of_le lt (Nat.le_add_right _ _))) (hk b o e)
    have hS5 : s1.heap.objs.size ≤ h'.objs.size := by
      rw [hsz]
      exact Nat.le_add_right _ _
    have J0 : Inv X pins σ H1 { s1 with heap := h'', toks := tk } := I1.kept (t' := tk) old
    have nS : H1 h'.objs.size = none := I1.hok.fresh hS5
    have hl : as.length = xs.length := by
      rw [hal]
      simp
      omega
    have ok1 : ObjOk X.prog X.w (upd H1 h'.objs.size (.lst (as.map V.ref))) h'' h'.objs.size (.lst (as.map V.ref)) := by
      refine ⟨by rw [List.length_map, hl]; exact z1, acc.toList, c, ?_, ?_⟩
      · rw [hacc]
        exact LiI.vals_refs as
      · rw [Array.toArray_toList]
        exact hS
    have J1 : Inv X pins σ (upd H1 h'.objs.size (.lst (as.map V.ref))) { s1 with heap := h'', toks := tk } := J0.take (h' := h'') (t' := tk) (fun b ob _ e => e) (I1.fpOk hS5 nS) ok1
    have nd : as.Nodup := hG.rise.imp fun {a b} (h : a < b) => Nat.ne_of_lt h
    obtain ⟨H2, J2, s2, tp⟩ := L2.DX.takeT (P := fun t vs => ∃ (j : Nat) (e : V × V), as[j]? = some t ∧ (xs.zip ys)[j]? = some e ∧ vs = [e.1, e.2]) I1 as _ J1 nd fun t ht => by
      obtain ⟨j, hj⟩ := List.mem_iff_getElem?.mp ht
      obtain ⟨x, y, e1, e2, e3⟩ := hG.pairs j t hj
      have ab := hG.above t ht
      have hjx : j < xs.length := by
        have := (List.getElem?_eq_some_iff.mp hj).1
        omega
      have ex : it1[j]? = some x := by simpa using e1
      have ey : it2[j]? = some y := by simpa using e2
      obtain ⟨x', hx', rx⟩ := rv1.get (List.getElem?_eq_getElem hjx)
      obtain ⟨y', hy', ry⟩ := rv2.get (List.getElem?_eq_getElem (show j < ys.length by omega))
      rw [hx'] at ex
      rw [hy'] at ey
      obtain rfl := Option.some.inj ex
      obtain rfl := Option.some.inj ey
      refine ⟨Nat.le_trans hS5 (Nat.le_of_lt ab), ?_, [xs[j], ys[j]'(by omega)], ⟨j, (xs[j], ys[j]'(by omega)), hj, ?_, rfl⟩, fun H3 => ⟨by show 2 ≤ sizeLine; decide, [x', y'], .cons rx (.cons ry .nil), ⟨_, e3, rfl, _, rfl⟩⟩⟩
      · rw [upd_ne (Nat.ne_of_gt ab)]
        exact I1.hok.fresh (Nat.le_trans hS5 (Nat.le_of_lt ab))
      · rw [List.getElem?_zip_eq_some]
        exact ⟨List.getElem?_eq_getElem hjx, List.getElem?_eq_getElem (by omega)⟩
    refine ⟨.ref h'.objs.size, H2, J2, rfl, q H2 h'.objs.size as (fun b o e => s2 b o (by rw [upd_ne (ne_of_none e nS)]; exact e)) nS (s2 _ _ upd_same) ?_⟩
    refine paired_of (by rw [List.length_zip]; omega) fun j t e ht he => ?_
    obtain ⟨vs, ⟨j', e', h1, h2, rfl⟩, h3⟩ := tp t (List.mem_of_getElem? ht)
    have : j = j' := by
      have i1 := (List.getElem?_eq_some_iff.mp ht).1
      exact (List.getElem?_inj i1 nd).mp (ht.trans h1.symm)
    subst this
    rw [he] at h2
    obtain rfl := Option.some.inj h2
    exact h3
end lzr
/-! ### tape, digit -/
def spTape (K : PySem.W.Frag) : Sp := fun vs H Q _ => ∃ (S : Addr) (ns : List Int) (st : Int), vs = [.ref S, .int st] ∧ SqL K H S (ns.map V.int) ∧ 0 ≤ st ∧ st ≤ 1000 ∧ ∀ H' p, Same H H' → H p = none → TP H' p → Q (.ref p) H'
theorem ok_tape {f : Addr} {fd : FuncData} {k : Nat} (F : Fun K "_law_tape" "_law_tape" s_law_tape f fd) (ma : mg "abs" = none) (mn : mg "len" = none) : FnOk P w K mg base CX0 (k + 1) f fd ["script", "start"] (spTape K) := by
  refine F.ok sc_law_tape (fun vs H Q E h => ?_) (fun cdv A outer s H vs Q E hr h => ?_)
  · obtain ⟨S, ns, st, rfl, _⟩ := h
    rfl
  · obtain ⟨S, ns, st, rfl, hS, h0, h1, q⟩ := h
    refine ⟨_, pss_cons (ps_set (i := 2) sc_law_tape.nd rfl (.inl rfl) pe_int)
      (pss_mid (ps_if (pt_cmpR op_lt (pv 1) (pe_callB call_len_seq (by rfl) mn PySem.boot_len (pa_cons (pv 0) pa_nil)) (nomark _))
        (pss_one (ps_set (i := 2) sc_law_tape.nd rfl (.inl rfl) (pe_callB call_abs (by rfl) ma (by decide +kernel) (pa_cons (pe_ix ix_list (pv 0) (pv 1) (fun _ _ => rfl)) pa_nil))))
        (pss_one (ps_if (pt_cmpR op_gt (pe_callB call_len_seq (by rfl) mn PySem.boot_len (pa_cons (pv 0) pa_nil)) pe_int (nomark _))
          (pss_one (ps_set (i := 2) sc_law_tape.nd rfl (.inl rfl) (pe_op op_add (pe_op op_mod (pe_callB call_abs (by rfl) ma (by decide +kernel) (pa_cons (pe_ix ix_list (pv 0) (pe_op op_mod (pv 1) (pe_callB call_len_seq (by rfl) mn PySem.boot_len (pa_cons (pv 0) pa_nil))) (fun _ _ => rfl)) pa_nil)) (pe_op op_pow pe_int pe_int)) (pe_op op_mul (pv 1) pe_int)))) pss_nil)))
      (pss_one (ps_ret (pe_lst (pa_cons (pv 2) (pa_cons (pe_op op_add (pe_op op_mod (pe_op op_add (pe_op op_mul (pv 1) pe_int) (pv 2)) pe_int) pe_int) pa_nil)))))), ?_⟩
    refine ⟨fun σ2 H2 => ∃ c : Int, σ2 = [some (.ref S), some (.int st), some (.int c)] ∧ H2 = H, ?_, ?_⟩
    · refine ⟨.int st, rfl, .ref S, rfl, S, _, rfl, .inl hS, st, _, rfl, rfl, _, rfl, ite2 (fun e => ?_) (fun e => ?_)⟩
      · have hl := of_decide_eq_true e
        rw [List.length_map] at hl
        refine ⟨.ref S, rfl, .int st, rfl, S, _, st, _, rfl, rfl, hS, atI_ints h0 hl, _, rfl, ?_⟩
        exact ⟨_, rfl, rfl⟩
      · refine ⟨.ref S, rfl, S, _, rfl, .inl hS, _, 0, rfl, rfl, _, rfl, ite2 (fun e2 => ?_) (fun e2 => ?_)⟩
        · have hpos := of_decide_eq_true e2
          have hp2 : (0 : Int) < ns.length := by
            rw [List.length_map] at hpos
            exact hpos
          refine ⟨.ref S, rfl, .int st, rfl, .ref S, rfl, S, _, rfl, .inl hS, st, _, rfl, rfl, hpos, S, _, _, _, rfl, rfl, hS, atI_ints (Int.emod_nonneg _ (by omega)) (by rw [List.length_map]; exact Int.emod_lt_of_pos _ hp2), _, rfl, ?_⟩
          refine ⟨10, 9, rfl, rfl, ⟨by decide, by decide, by decide⟩, _, _, rfl, rfl, (by show (0 : Int) < 10 ^ 9; decide), .int st, rfl, st, 1000003, rfl, rfl, .inr ⟨by decide, by decide⟩, _, _, rfl, rfl, _, rfl, rfl⟩
        · exact ⟨_, rfl, rfl⟩
    · rintro σ2 H2 ⟨c, rfl, rfl⟩
      refine ⟨.int c, rfl, .int st, rfl, st, 7919, rfl, rfl, .inr ⟨by decide, by decide⟩, .int c, rfl, _, c, rfl, rfl, _, 998244353, rfl, rfl, (by show (0 : Int) < 998244353; decide), _, 1, rfl, rfl, by show 2 ≤ sizeLine; decide, fun p hp => ?_⟩
      exact q _ p (same_new hp) hp ⟨_, _, upd_same⟩
def spDigit : Sp := fun vs H Q _ => ∃ (a : Addr) (m : Int), vs = [.ref a, .int m] ∧ 0 < m ∧ m ≤ 2 ^ 80 ∧ TP H a ∧ ∀ H' z, 0 ≤ z → z < m → TP H' a → But a H H' → Q (.int z) H'
theorem ok_digit {f : Addr} {fd : FuncData} {k : Nat} (F : Fun K "_law_digit" "_law_digit" s_law_digit f fd) : FnOk P w K mg base CX0 (k + 1) f fd ["tape", "many"] spDigit := by
  refine F.ok sc_law_digit (fun vs H Q E h => ?_) (fun cdv A outer s H vs Q E hr h => ?_)
  · obtain ⟨a, m, rfl, _⟩ := h
    rfl
  · obtain ⟨a, m, rfl, hm, hm2, ⟨x, y, ea⟩, q⟩ := h
    refine ⟨_, pss_cons (ps_if (pt_cmpR op_gt (pe_ix ix_list (pv 0) pe_int (fun _ _ => rfl)) pe_int (nomark _))
        (pss_cons (ps_set (i := 2) sc_law_digit.nd rfl (.inl rfl) (pe_op op_mod (pe_ix ix_list (pv 0) pe_int (fun _ _ => rfl)) (pv 1)))
        (pss_cons (ps_asg (pe_op op_fdivW (pe_ix ix_list (pv 0) pe_int (fun _ _ => rfl)) (pv 1)) (pg_sub (pv 0) pe_int set_list))
        (pss_one (ps_ret (pv 2))))) pss_nil)
      (pss_cons (ps_asg (pe_op op_mod (pe_op op_add (pe_op op_mul (pe_ix ix_list (pv 0) pe_int (fun _ _ => rfl)) pe_int) pe_int) pe_int) (pg_sub (pv 0) pe_int set_list))
      (pss_cons (ps_set (i := 3) sc_law_digit.nd rfl (.inl rfl) (pe_op op_mod (pe_op op_mul (pe_ix ix_list (pv 0) pe_int (fun _ _ => rfl)) pe_int) pe_int))
      (pss_one (ps_ret (pe_op op_mod (pe_op op_add (pe_op op_mul (pe_op op_mod (pe_op op_mul (pe_ix ix_list (pv 0) pe_int (fun _ _ => rfl)) (pe_ix ix_list (pv 0) pe_int (fun _ _ => rfl))) pe_int) pe_int) (pv 3)) (pv 1)))))), ?_⟩
    have lA : SqL K H a [.int x, .int y] := .inl (.inl ea)
    have put : ∀ o, But a H (upd H a o) := fun o => But.put
    refine ⟨.ref a, rfl, a, _, 0, .int x, rfl, rfl, lA, rfl, x, 0, rfl, rfl, _, rfl, ite2 (fun e => ?_) (fun e => ?_)⟩
    · refine ⟨.ref a, rfl, a, _, 0, .int x, rfl, rfl, lA, rfl, .int m, rfl, x, m, rfl, rfl, hm, ?_⟩
      refine ⟨.ref a, rfl, a, _, 0, .int x, rfl, rfl, lA, rfl, .int m, rfl, x, m, rfl, rfl, wide_div (b := 81) hm (by omega) (by decide) (by decide), ?_⟩
      refine ⟨.ref a, rfl, a, _, 0, 0, rfl, rfl, ea, rfl, .int (x % m), rfl, ?_⟩
      exact q _ _ (Int.emod_nonneg _ (by omega)) (Int.emod_lt_of_pos _ hm) ⟨x / m, y, upd_same⟩ (put _)
    · refine ⟨.ref a, rfl, a, _, 1, .int y, rfl, rfl, lA, rfl, y, 48271, rfl, rfl, .inr ⟨by decide, by decide⟩, _, 11, rfl, rfl, _, 2147483647, rfl, rfl, (by show (0 : Int) < 2147483647; decide), ?_⟩
      have l0 := Int.emod_nonneg (y * 48271 + 11) (show (2147483647 : Int) ≠ 0 by decide)
      have l1 := Int.emod_lt_of_pos (y * 48271 + 11) (show (0 : Int) < 2147483647 by decide)
      obtain ⟨z, hz⟩ : ∃ z : Int, (y * 48271 + 11) % 2147483647 = z := ⟨_, rfl⟩
      rw [hz] at l0 l1
      refine ⟨.ref a, rfl, a, _, 1, 1, rfl, rfl, ea, rfl, ?_⟩
      refine ⟨.ref a, rfl, a, _, 1, .int z, rfl, rfl, .inl (.inl upd_same), (by rw [← hz]; rfl), z, 40692, rfl, rfl, .inr ⟨by decide, by decide⟩, _, 2147483399, rfl, rfl, (by show (0 : Int) < 2147483399; decide), ?_⟩
      refine ⟨.ref a, rfl, a, _, 1, .int z, rfl, rfl, .inl (.inl upd_same), (by rw [← hz]; rfl), .ref a, rfl, a, _, 1, .int z, rfl, rfl, .inl (.inl upd_same), (by rw [← hz]; rfl), z, z, rfl, rfl, .inr ⟨by omega, by omega⟩, _, 2147483629, rfl, rfl, (by show (0 : Int) < 2147483629; decide), _, 2147483399, rfl, rfl, .inr ⟨by decide, by decide⟩, _, rfl, _, _, rfl, rfl, .int m, rfl, _, m, rfl, rfl, hm, ?_⟩
      exact q _ _ (Int.emod_nonneg _ (by omega)) (Int.emod_lt_of_pos _ hm) ⟨x, z, by rw [← hz]; exact upd_same⟩ (put _)
/-! ### deeds that carry -/
theorem four_calm : ∀ x ∈ (["and", "or", "xor", "not"] : List Str), x ∉ twC := by decide +kernel
def carN : List Deed → Nat
  | [] => 0
  | d :: ds => carN ds + if d.1 ∈ twC then 1 else 0
theorem carN_snoc (d : Deed) : ∀ ds : List Deed, carN (ds ++ [d]) = carN ds + if d.1 ∈ twC then 1 else 0
  | [] => by simp [carN]
  | e :: ds => by
    show carN (ds ++ [d]) + _ = carN ds + _ + _
    rw [carN_snoc d ds]
    omega
theorem carN_le : ∀ ds : List Deed, carN ds ≤ ds.length
  | [] => Nat.le_refl _
  | d :: ds => by
    show carN ds + _ ≤ ds.length + 1
    have := carN_le ds
    split <;> omega
/-! ### a deed off the tape -/
def spTd : Sp := fun vs H Q _ => ∃ (a : Addr) (m lf : Int), vs = [.ref a, .int m, .int lf] ∧ 0 < m ∧ m ≤ 100 ∧ TP H a ∧ ∀ H' r d, DeedOk m d → (lf = 0 → d.1 ∉ twC) → H' r = some (.tup (dV d)) → TP H' a → But a H H' → Q (.ref r) H'
theorem ok_td {f fD : Addr} {fd fdD : FuncData} {k : Nat} (F : Fun K "_law_deed" "_law_deed" s_law_deed f fd) (GD : FnOk P w K mg base CX0 (k + 1) fD fdD ["tape", "many"] spDigit) (kD : PySem.W.keepIn K (.ref fD) = true) (bD : Binds K fdD ["tape", "many"] []) (gD : mg "_law_digit" = some (.ref fD)) :
    FnOk P w K mg base CX0 (k + 2) f fd ["tape", "ahead", "left"] spTd := by
  refine F.ok sc_law_deed (fun vs H Q E h => ?_) (fun cdv A outer s H vs Q E hr h => ?_)
  · obtain ⟨a, m, lf, rfl, _⟩ := h
    rfl
  · obtain ⟨a, m, lf, rfl, hm, hm2, ht, q⟩ := h
    refine ⟨_, pss_cons (ps_set (i := 3) sc_law_deed.nd rfl (.inl rfl) (pe_lst (pa_cons pe_str (pa_cons pe_str (pa_cons pe_str (pa_cons pe_str (pa_cons pe_str (pa_cons pe_str (pa_cons pe_str (pa_cons pe_str (pa_cons pe_str (pa_cons pe_str (pa_cons pe_str (pa_cons pe_str pa_nil))))))))))))))
      (pss_cons (ps_set (i := 4) sc_law_deed.nd rfl (.inl rfl) (pe_ix ix_list (pv 3) (pe_call GD hr (by rfl) gD kD bD .nil pass0 (pa_cons (pv 0) (pa_cons pe_int pa_nil))) (fun _ _ => rfl)))
      (pss_mid (ps_if (PW.pt (pw_and (pt_cmpR op_eq (pv 2) pe_int (nomark _)) (pw_and1 (pt_cmpR op_in_seq (pv 4) (pe_tup (pa_cons pe_str (pa_cons pe_str (pa_cons pe_str (pa_cons pe_str (pa_cons pe_str pa_nil)))))) (by rfl)))))
        (pss_one (ps_set (i := 4) sc_law_deed.nd rfl (.inl rfl) (pe_ix ix_list (pe_lst (pa_cons pe_str (pa_cons pe_str (pa_cons pe_str (pa_cons pe_str pa_nil))))) (pe_call GD hr (by rfl) gD kD bD .nil pass0 (pa_cons (pv 0) (pa_cons pe_int pa_nil))) (fun _ _ => rfl)))) pss_nil)
      (pss_cons (ps_set (i := 5) sc_law_deed.nd rfl (.inl rfl) (pe_lst (pa_cons (pe_call GD hr (by rfl) gD kD bD .nil pass0 (pa_cons (pv 0) (pa_cons (pv 1) pa_nil))) (pa_cons (pe_call GD hr (by rfl) gD kD bD .nil pass0 (pa_cons (pv 0) (pa_cons (pv 1) pa_nil))) pa_nil))))
      (pss_mid (ps_if (pt_cmpR op_eq (pe_call GD hr (by rfl) gD kD bD .nil pass0 (pa_cons (pv 0) (pa_cons pe_int pa_nil))) pe_int (nomark _)) (pss_one (ps_asg (pe_op op_sub (pv 1) pe_int) (pg_sub (pv 5) (pe_call GD hr (by rfl) gD kD bD .nil pass0 (pa_cons (pv 0) (pa_cons pe_int pa_nil))) set_list))) pss_nil)
      (pss_cons (ps_if (pt_cmpR op_in_seq (pv 4) (pe_tup (pa_cons pe_str (pa_cons pe_str (pa_cons pe_str pa_nil)))) (by rfl)) (pss_one (ps_ret (pe_tup (pa_cons (pv 4) pa_nil)))) pss_nil)
      (pss_cons (ps_if (pt_cmpR op_in_seq (pv 4) (pe_tup (pa_cons pe_str (pa_cons pe_str (pa_cons pe_str pa_nil)))) (by rfl)) (pss_one (ps_ret (pe_tup (pa_cons (pv 4) (pa_cons (pe_ix ix_list (pv 5) pe_int (fun _ _ => rfl)) pa_nil))))) pss_nil)
      (pss_one (ps_ret (pe_tup (pa_cons (pv 4) (pa_cons (pe_ix ix_list (pv 5) pe_int (fun _ _ => rfl)) (pa_cons (pe_ix ix_list (pv 5) pe_int (fun _ _ => rfl)) pa_nil)))))))))))), ?_⟩
    refine ⟨by show 12 ≤ sizeLine; decide, fun S hS => ?_⟩
    have nS := ht.ne_new hS
    refine ⟨.ref S, rfl, .ref a, rfl, a, 12, rfl, by decide, by decide, ht.upd nS, fun H1 z z0 z1 t1 b1 => ?_⟩
    have eS1 : H1 S = some (.lst (tw12.map V.str)) := b1 _ _ nS upd_same
    obtain ⟨v, hv, hvm⟩ := atI_in (l := tw12.map V.str) z0 (by show z < 12; exact z1)
    obtain ⟨x, hx, rfl⟩ := mem_strs hvm
    have kp1 : But a H H1 := (But.same (same_new hS)).trans b1
    refine ⟨S, _, z, .str x, rfl, rfl, .inl (.inl eS1), hv, ?_⟩
    refine ⟨fun σ2 H2 => ∃ x, σ2 = [some (.ref a), some (.int m), some (.int lf), some (.ref S), some (.str x), none] ∧ x ∈ tw12 ∧ (lf = 0 → x ∉ twC) ∧ TP H2 a ∧ But a H H2, ?_, ?_⟩
    · refine ⟨.int lf, rfl, rfl, _, rfl, ite2 (fun e => ?_) (fun e => ?_)⟩
      · refine ⟨.str x, rfl, by show 5 ≤ sizeLine; decide, fun T hT => ?_⟩
        have nT := t1.ne_new hT
        refine ⟨T, _, rfl, .inr (SqT.of upd_same), rfl, rfl, _, rfl, ite2 (fun e2 => ?_) (fun e2 => ?_)⟩
        · refine ⟨by show 4 ≤ sizeLine; decide, fun M hM => ?_⟩
          have t2 := t1.upd (o := .tup (twC.map V.str)) nT
          have nM := t2.ne_new hM
          refine ⟨.ref a, rfl, a, 4, rfl, by decide, by decide, t2.upd nM, fun H3 y y0 y1 t3 b3 => ?_⟩
          obtain ⟨v2, hv2, hvm2⟩ := atI_in (l := (["and", "or", "xor", "not"] : List Str).map V.str) y0 (by show y < 4; exact y1)
          obtain ⟨x2, hx2, rfl⟩ := mem_strs hvm2
          refine ⟨M, _, y, .str x2, rfl, rfl, .inl (.inl (b3 _ _ nM upd_same)), hv2, x2, rfl, tw_four x2 hx2, fun _ => four_calm x2 hx2, t3, ?_⟩
          exact ((kp1.trans (But.same (same_new hT))).trans (But.same (same_new hM))).trans b3
        · exact ⟨x, rfl, hx, fun _ z => e2 ((inS x twC).trans (decide_eq_true z)), t1.upd nT, kp1.trans (But.same (same_new hT))⟩
      · exact ⟨x, rfl, hx, fun z => absurd (decide_eq_true (congrArg V.int z)) e, t1, kp1⟩
    · rintro σ2 H2 ⟨x, rfl, hx, hcalm, t2, b2⟩
      refine ⟨.ref a, rfl, .int m, rfl, a, m, rfl, hm, by omega, t2, fun H3 i i0 i1 t3 b3 => ?_⟩
      refine ⟨.ref a, rfl, .int m, rfl, a, m, rfl, hm, by omega, t3, fun H4 j j0 j1 t4 b4 => ?_⟩
      refine ⟨by show 2 ≤ sizeLine; decide, fun M hM => ?_⟩
      have nM := t4.ne_new hM
      have bH : But a H H4 := (b2.trans b3).trans b4
      refine ⟨fun σ5 H5 => ∃ i j : Int, σ5 = [some (.ref a), some (.int m), some (.int lf), some (.ref S), some (.str x), some (.ref M)] ∧ 0 ≤ i ∧ i < m ∧ 0 ≤ j ∧ j < m ∧ H5 M = some (.lst [.int i, .int j]) ∧ TP H5 a ∧ But a H H5, ?_, ?_⟩
      · have bM : But a H (upd H4 M (.lst [.int i, .int j])) := bH.trans (But.same (same_new hM))
        refine ⟨.ref a, rfl, a, 3, rfl, by decide, by decide, t4.upd nM, fun H5 y y0 y1 t5 b5 => ?_⟩
        have eM5 := b5 _ _ nM upd_same
        refine ⟨rfl, _, rfl, ite2 (fun e => ?_) (fun e => ?_)⟩
        · refine ⟨.int m, rfl, m, 1, rfl, rfl, .ref M, rfl, .ref a, rfl, a, 2, rfl, by decide, by decide, t5, fun H6 u u0 u1 t6 b6 => ?_⟩
          have eM6 := b6 _ _ nM eM5
          have old : ∀ o, But a H (upd H6 M o) := fun o b v nb e => by
            have e1 := bH b v nb e
            rw [upd_ne (ne_of_none e1 hM)]
            exact b6 b v nb (b5 b v nb (by rw [upd_ne (ne_of_none e1 hM)]; exact e1))
          have hu : u = 0 ∨ u = 1 := by omega
          rcases hu with rfl | rfl
          · exact ⟨M, _, 0, 0, rfl, rfl, eM6, rfl, m - 1, j, rfl, by omega, by omega, j0, j1, upd_same, t6.upd nM, old _⟩
          · exact ⟨M, _, 1, 1, rfl, rfl, eM6, rfl, i, m - 1, rfl, i0, i1, by omega, by omega, upd_same, t6.upd nM, old _⟩
        · exact ⟨i, j, rfl, i0, i1, j0, j1, eM5, t5, bM.trans b5⟩
      · rintro σ5 H5 ⟨i, j, rfl, i0, i1, j0, j1, eM, t5, b5⟩
        refine ⟨.str x, rfl, by show 3 ≤ sizeLine; decide, fun T hT => ?_⟩
        have nT := t5.ne_new hT
        have sT := same_new (o := .tup [.str "all", .str "one", .str "none"]) hT
        refine ⟨T, _, rfl, .inr (SqT.of upd_same), rfl, rfl, _, rfl, ite2 (fun e => ?_) (fun e => ?_)⟩
        · have hx0 : x ∈ (["all", "one", "none"] : List Str) := of_decide_eq_true ((inS x ["all", "one", "none"]).symm.trans e)
          refine ⟨.str x, rfl, by show 1 ≤ sizeLine; decide, fun r hr => ?_⟩
          have nr := (t5.upd nT).ne_new hr
          exact q _ r (x, []) ⟨tw_zero x hx0, (fun _ z => nomatch z)⟩ hcalm upd_same ((t5.upd nT).upd nr) ((b5.trans (But.same sT)).trans (But.same (same_new hr)))
        · have hx0 : ¬ x ∈ (["all", "one", "none"] : List Str) := fun z => e ((inS x ["all", "one", "none"]).trans (decide_eq_true z))
          refine ⟨.str x, rfl, by show 3 ≤ sizeLine; decide, fun U hU => ?_⟩
          have nU := (t5.upd nT).ne_new hU
          have sU := same_new (o := .tup [.str "not", .str "twice", .str "neg"]) hU
          have t6 := (t5.upd (o := .tup [.str "all", .str "one", .str "none"]) nT).upd (o := .tup [.str "not", .str "twice", .str "neg"]) nU
          have eM6 := sU _ _ (sT _ _ eM)
          refine ⟨U, _, rfl, .inr (SqT.of upd_same), rfl, rfl, _, rfl, ite2 (fun e2 => ?_) (fun e2 => ?_)⟩
          · have hx1 : x ∈ (["not", "twice", "neg"] : List Str) := of_decide_eq_true ((inS x ["not", "twice", "neg"]).symm.trans e2)
            refine ⟨.str x, rfl, .ref M, rfl, M, _, 0, .int i, rfl, rfl, .inl (.inl eM6), rfl, by show 2 ≤ sizeLine; decide, fun r hr => ?_⟩
            have nr := t6.ne_new hr
            refine q _ r (x, [i]) ⟨tw_one x hx1, fun z hz => ?_⟩ hcalm upd_same (t6.upd nr) (((b5.trans (But.same sT)).trans (But.same sU)).trans (But.same (same_new hr)))
            rw [List.mem_singleton.mp hz]
            exact ⟨i0, i1⟩
          · have hx1 : ¬ x ∈ (["not", "twice", "neg"] : List Str) := fun z => e2 ((inS x ["not", "twice", "neg"]).trans (decide_eq_true z))
            have hx2 : (x, (2 : Int)) ∈ fwL := ((tw_two x hx).resolve_left hx0).resolve_left hx1
            refine ⟨.str x, rfl, .ref M, rfl, M, _, 0, .int i, rfl, rfl, .inl (.inl eM6), rfl, .ref M, rfl, M, _, 1, .int j, rfl, rfl, .inl (.inl eM6), rfl, by show 3 ≤ sizeLine; decide, fun r hr => ?_⟩
            have nr := t6.ne_new hr
            refine q _ r (x, [i, j]) ⟨hx2, fun z hz => ?_⟩ hcalm upd_same (t6.upd nr) (((b5.trans (But.same sT)).trans (But.same sU)).trans (But.same (same_new hr)))
            simp only [List.mem_cons, List.not_mem_nil, or_false] at hz
            rcases hz with rfl | rfl
            · exact ⟨i0, i1⟩
            · exact ⟨j0, j1⟩
/-! ### how many carry -/
def spCr (K : PySem.W.Frag) : Sp := fun vs H Q _ => ∃ (L : Addr) (rs : List Addr) (ds : List Deed), vs = [.ref L] ∧ SqL K H L (rs.map V.ref) ∧ DsAt H rs ds ∧ ds.length ≤ 100 ∧ ∀ H', Same H H' → Q (.int (carN ds : Nat)) H'
theorem ok_cr {f : Addr} {fd : FuncData} {k : Nat} (F : Fun K "_law_carrying" "_law_carrying" s_law_carrying f fd) (mn : mg "len" = none) : FnOk P w K mg base CX0 (k + 1) f fd ["deeds"] (spCr K) := by
  refine F.ok sc_law_carrying (fun vs H Q E h => ?_) (fun cdv A outer s H vs Q E hr h => ?_)
  · obtain ⟨L, rs, ds, rfl, _⟩ := h
    rfl
  · obtain ⟨L, rs, ds, rfl, eL, hd, hl, q⟩ := h
    refine ⟨_, pss_one (ps_ret (pe_callB call_len_seq (by rfl) mn PySem.boot_len (pa_cons
      (pe_lc (own := [("deed", 1)]) (g := gName 1) (by rfl) sc_law_carrying.nd (pi_list (pv 0)) (blkOk_by (own := [("deed", 1)]) (N := N_law_carrying) (sc := defScope s_law_carrying) (by decide +kernel))
        (fun _ _ _ _ _ => pg_name (i := 1) sc_law_carrying.nd rfl (Or.inl rfl)) (fun _ _ _ _ _ => pts_one (pt_cmpR (r := rIn K false) op_in_seq (pe_ix (r := rIxT K) ix_tup (pv 1) pe_int (fun _ _ => rfl)) (pe_tup (pa_cons pe_str (pa_cons pe_str (pa_cons pe_str (pa_cons pe_str (pa_cons pe_str pa_nil)))))) (by rfl)))
        (fun _ _ _ _ _ => pv 1)) pa_nil))), ?_⟩
    refine ⟨.ref L, rfl, L, rfl, ⟨_, eL⟩, fun C hC => ?_⟩
    refine lc_list (K := K) (a := L) (xs := rs.map V.ref) (fun i H4 => ∃ ys : List V, ys.length = carN (ds.take i) ∧ H4 C = some (.lst ys) ∧ Same H H4) ⟨[], rfl, upd_same, same_new hC⟩ (fun i H4 _ hp => ?_) (fun i x H4 hx hp => ?_) (fun H4 hp => ?_)
    · obtain ⟨_, _, _, sm⟩ := hp
      exact sm.seq eL
    · obtain ⟨ys, hy, eC, sm⟩ := hp
      have hi : i < rs.length := by
        have := (List.getElem?_eq_some_iff.mp hx).1
        rwa [List.length_map] at this
      have hx' : x = .ref rs[i] := by
        rw [List.getElem?_map, List.getElem?_eq_getElem hi] at hx
        exact (Option.some.inj hx).symm
      subst hx'
      obtain ⟨d, hd1, hd2⟩ := awGet hd (List.getElem?_eq_getElem hi)
      have old : ∀ H6, Same H H6 → ∀ o, Same H (upd H6 C o) := fun H6 s6 o b u e => by
        rw [upd_ne (ne_of_none e hC)]
        exact s6 b u e
      refine ⟨rfl, .ref rs[i], rfl, rs[i], _, 0, .str d.1, rfl, rfl, SqT.of (sm _ _ hd2), dv0 d, by show 5 ≤ sizeLine; decide, fun T hT => ?_⟩
      have sT := sm.trans (same_new (o := .tup [.str "add", .str "sub", .str "twice", .str "neg", .str "one"]) hT)
      have eCT : upd H4 T (.tup [.str "add", .str "sub", .str "twice", .str "neg", .str "one"]) C = some (.lst ys) := same_new hT _ _ eC
      refine ⟨T, _, rfl, .inr (SqT.of upd_same), rfl, rfl, _, rfl, ite2 (fun e => ?_) (fun e => ?_)⟩
      · have hc : d.1 ∈ twC := of_decide_eq_true ((inS d.1 twC).symm.trans e)
        refine ⟨.ref rs[i], rfl, ys, eCT, ?_, ys ++ [.ref rs[i]], ?_, upd_same, old _ sT _⟩
        · have := awLen hd
          have h2 := carN_le (ds.take i)
          rw [List.length_take] at h2
          exact small1000 (by omega)
        · rw [List.length_append, hy, List.take_add_one, hd1, Option.toList_some, carN_snoc, if_pos hc]
          rfl
      · have hc : ¬ d.1 ∈ twC := fun z => e ((inS d.1 twC).trans (decide_eq_true z))
        exact ⟨ys, by rw [hy, List.take_add_one, hd1, Option.toList_some, carN_snoc, if_neg hc]; rfl, eCT, sT⟩
    · obtain ⟨ys, hy, eC, sm⟩ := hp
      rw [List.length_map, awLen hd, List.take_length] at hy
      rw [← hy] at q
      exact ⟨C, ys, rfl, .inl (.inl (.inl eC)), q _ sm⟩
/-! ### a row off the tape -/
def spTr : Sp := fun vs H Q _ => ∃ (a : Addr) (m n lf : Int), vs = [.ref a, .int m, .int n, .int lf] ∧ 1 ≤ m ∧ m ≤ 3 ∧ 0 ≤ n ∧ n ≤ 8 ∧ TP H a ∧
  ∀ H' R ds o, RowAt H' R m ds o → RowOk m ds o → (ds.length : Int) ≤ n → (0 ≤ lf → (carN ds : Int) ≤ lf) → TP H' a → But a H H' → Q (.ref R) H'
theorem ok_tr {f fD fE fC : Addr} {fd fdD fdE fdC : FuncData} {k : Nat} (F : Fun K "_law_row" "_law_row" s_law_row f fd) (GD : FnOk P w K mg base CX0 (k + 1) fD fdD ["tape", "many"] spDigit) (kD : PySem.W.keepIn K (.ref fD) = true)
    (GE : FnOk P w K mg base CX0 (k + 2) fE fdE ["tape", "ahead", "left"] spTd) (kE : PySem.W.keepIn K (.ref fE) = true) (GC : FnOk P w K mg base CX0 (k + 1) fC fdC ["deeds"] (spCr K)) (kC : PySem.W.keepIn K (.ref fC) = true)
    (bD : Binds K fdD ["tape", "many"] []) (bE : Binds K fdE ["tape", "ahead", "left"] []) (bC : Binds K fdC ["deeds"] []) (gD : mg "_law_digit" = some (.ref fD)) (gE : mg "_law_deed" = some (.ref fE)) (gC : mg "_law_carrying" = some (.ref fC))
    (mt : mg "tuple" = none) (mr : mg "range" = none) (mn : mg "len" = none) : FnOk P w K mg base CX0 (k + 3) f fd ["tape", "many", "most", "left"] spTr := by
  refine F.ok sc_law_row (fun vs H Q E h => ?_) (fun cdv A outer s H vs Q E hr h => ?_)
  · obtain ⟨a, m, n, lf, rfl, _⟩ := h
    rfl
  · obtain ⟨a, m, n, lf, rfl, hm, hm2, hn, hn2, ht, q⟩ := h
    have hr1 := hr.mono (show k + 1 ≤ k + 2 by omega)
    refine ⟨_, pss_cons (ps_set (i := 4) sc_law_row.nd rfl (.inl rfl) (pe_lst pa_nil))
      (pss_cons (ps_for PassesOwn.never rfl (pi_range1 (by rfl) mr (pa_cons (pe_call GD hr1 (by rfl) gD kD bD .nil pass0 (pa_cons (pv 0) (pa_cons (pe_op op_add (pv 2) pe_int) pa_nil))) pa_nil)) (pg_name (i := 5) sc_law_row.nd rfl (.inl rfl))
        (pss_one (ps_expr (pe_bm PySem.F.plainAttrs_list PySem.F.slot_list_append PySem.F.type_list_append mt_append (pv 4) (pa_cons (pe_call GE hr (by rfl) gE kE bE .nil pass0 (pa_cons (pv 0) (pa_cons (pe_op op_add (pv 1) (pv 5)) (pa_cons (pe_op op_sub (pv 3) (pe_call GC hr1 (by rfl) gC kC bC .nil pass0 (pa_cons (pv 4) pa_nil))) pa_nil)))) pa_nil)))))
      (pss_cons (ps_set (i := 6) sc_law_row.nd rfl (.inl rfl) (pe_op op_sub (pe_op op_add (pv 1) (pe_callB call_len_seq (by rfl) mn PySem.boot_len (pa_cons (pv 4) pa_nil))) pe_int))
      (pss_mid (ps_if (pt_cmpR op_eq (pe_call GD hr1 (by rfl) gD kD bD .nil pass0 (pa_cons (pv 0) (pa_cons pe_int pa_nil))) pe_int (nomark _)) (pss_one (ps_set (i := 6) sc_law_row.nd rfl (.inl rfl) (pe_call GD hr1 (by rfl) gD kD bD .nil pass0 (pa_cons (pv 0) (pa_cons (pe_op op_add (pv 1) (pe_callB call_len_seq (by rfl) mn PySem.boot_len (pa_cons (pv 4) pa_nil))) pa_nil))))) pss_nil)
      (pss_one (ps_ret (pe_tup (pa_cons (pv 1) (pa_cons (pe_callTy call_tuple_of (by rfl) mt (by decide +kernel) (pa_cons (pv 4) pa_nil)) (pa_cons (pv 6) pa_nil))))))))), ?_⟩
    refine ⟨Nat.zero_le _, fun D hD => ?_⟩
    have nD := ht.ne_new hD
    have sD := same_new (o := .lst []) hD
    refine ⟨.ref a, rfl, .int n, rfl, n, 1, rfl, rfl, a, n + 1, rfl, by omega, by omega, ht.upd nD, fun H1 sz z0 z1 t1 b1 => ?_⟩
    have bH : But a H H1 := (But.same sD).trans b1
    refine ⟨sz, rfl, by omega, by omega, for_range (lo := 0) (n := sz.toNat) (fun i σ H3 => ∃ y rs ds, σ = [some (.ref a), some (.int m), some (.int n), some (.int lf), some (.ref D), y, none] ∧ H3 D = some (.lst (rs.map V.ref)) ∧ DsAt H3 rs ds ∧ ds.length = i ∧ DsOk m ds ∧ (0 ≤ lf → (carN ds : Int) ≤ lf) ∧ TP H3 a ∧ But a H H3)
      ⟨none, [], [], rfl, b1 _ _ nD upd_same, .nil, rfl, ⟨fun k d e => by simp at e⟩, (fun z => z), t1, bH⟩ (fun i σ H3 hi hp => ?_) (fun σ H3 hp => ?_)⟩
    · obtain ⟨y, rs, ds, rfl, eD, hd, hl, ok, hcn, t3, b3⟩ := hp
      refine ⟨.ref D, rfl, .inl ⟨rfl, _, .inl (.inl eD)⟩, .ref a, rfl, .int m, rfl, .int (0 + i), rfl, m, 0 + i, rfl, rfl, .int lf, rfl, .ref D, rfl, D, rs, ds, rfl, .inl (.inl eD), hd, by omega, fun H4 s4 => ?_⟩
      refine ⟨lf, carN ds, rfl, rfl, a, m + (0 + i), lf - carN ds, rfl, by omega, by omega, t3.same s4, fun H5 r d hok hcalm er t5 b5 => ?_⟩
      have eD5 := b5 _ _ nD (s4 _ _ eD)
      refine ⟨D, _, _, rfl, rfl, eD5, ?_, some (.int (0 + i)), rs ++ [r], ds ++ [d], rfl, ?_, ?_, ?_, ?_, ?_, t5.upd nD, ?_⟩
      · rw [List.length_map, awLen hd]
        exact small1000 (by omega)
      · rw [upd_same, List.map_append]
        rfl
      · exact (tups_put eD5).ds (awSnoc (F := fun r d => H5 r = some (.tup (dV d))) er ((b5.tape (t3.same s4)).ds ((Same.tups s4).ds hd)))
      · rw [List.length_append, hl]
        rfl
      · refine dsOk_snoc ok ?_
        rw [hl]
        have : m + (0 + (i : Int)) = m + i := by omega
        rw [this] at hok
        exact hok
      · intro h0
        have h1 := hcn h0
        rw [carN_snoc]
        by_cases hz : d.1 ∈ twC
        · rw [if_pos hz]
          have : ¬ lf - (carN ds : Int) = 0 := fun z => hcalm z hz
          omega
        · rw [if_neg hz]
          omega
      · intro b o nb e
        have nbD : b ≠ D := ne_of_none e hD
        rw [upd_ne nbD]
        exact b5 b o nb (s4 b o (b3 b o nb e))
    · obtain ⟨y, rs, ds, rfl, eD, hd, hl, ok, hcn, t3, b3⟩ := hp
      have elen : ((rs.map V.ref).length : Int) = ds.length := by rw [List.length_map, awLen hd]
      refine ⟨.int m, rfl, .ref D, rfl, D, _, rfl, .inl (.inl (.inl eD)), m, _, rfl, rfl, _, 1, rfl, rfl, ?_⟩
      refine ⟨fun σ4 H4 => ∃ o, σ4 = [some (.ref a), some (.int m), some (.int n), some (.int lf), some (.ref D), y, some (.int o)] ∧ 0 ≤ o ∧ o < m + ds.length ∧ H4 D = some (.lst (rs.map V.ref)) ∧ DsAt H4 rs ds ∧ TP H4 a ∧ But a H H4, ?_, ?_⟩
      · refine ⟨.ref a, rfl, a, 5, rfl, by decide, by decide, t3, fun H4 u u0 u1 t4 b4 => ⟨rfl, _, rfl, ite2 (fun e => ?_) (fun e => ?_)⟩⟩
        · refine ⟨.ref a, rfl, .int m, rfl, .ref D, rfl, D, _, rfl, .inl (.inl (.inl (b4 _ _ nD eD))), m, _, rfl, rfl, a, _, rfl, by omega, by omega, t4, fun H5 o o0 o1 t5 b5 => ?_⟩
          exact ⟨o, rfl, o0, by omega, b5 _ _ nD (b4 _ _ nD eD), ((b4.tape t3).trans (b5.tape t4)).ds hd, t5, (b3.trans b4).trans b5⟩
        · exact ⟨m + ((rs.map V.ref).length : Int) - 1, rfl, by omega, by omega, b4 _ _ nD eD, (b4.tape t3).ds hd, t4, b3.trans b4⟩
      · rintro σ4 H4 ⟨o, rfl, o0, o1, eD4, hd4, t4, b4⟩
        refine ⟨.int m, rfl, .ref D, rfl, D, _, rfl, .inl ⟨.inl (.inl eD4), fun T hT => ?_⟩⟩
        refine ⟨.int o, rfl, by show 3 ≤ sizeLine; decide, fun R hR => ?_⟩
        have s1 : Same H4 (upd H4 T (.tup (rs.map V.ref))) := same_new hT
        have s2 := same_new (o := .tup [.int m, .ref T, .int o]) hR
        exact q _ R ds o ⟨T, rs, upd_same, s2 _ _ upd_same, (Same.tups (s1.trans s2)).ds hd4⟩ ⟨hm, hm2, by omega, ok, o0, by omega⟩ (by omega) hcn (t4.same (s1.trans s2)) (b4.trans (But.same (s1.trans s2)))
/-! ### first_carry -/
def spFc : Sp := fun vs H Q _ => ∃ (R : Addr) (m o : Int) (ds : List Deed), vs = [.ref R] ∧ RowAt H R m ds o ∧ ds.length ≤ 100 ∧ ∀ H' p, Same H H' → H p = none → H' p = some (.tup ((ds.map fcD).map V.int)) → Q (.ref p) H'
theorem ok_fc {f : Addr} {fd : FuncData} {k : Nat} (F : Fun K "first_carry" "first_carry" s_first_carry f fd) (mt : mg "tuple" = none) : FnOk P w K mg base CX0 (k + 1) f fd ["row"] spFc := by
  refine F.ok sc_first_carry (fun vs H Q E h => ?_) (fun cdv A outer s H vs Q E hr h => ?_)
  · obtain ⟨R, m, o, ds, rfl, _⟩ := h
    rfl
  · obtain ⟨R, m, o, ds, rfl, hrow, hl, q⟩ := h
    obtain ⟨D, rs, eR, eD, hd⟩ := id hrow
    refine ⟨_, pss_one (ps_ret (pe_callTy call_tuple_of (by rfl) mt (by decide +kernel) (pa_cons
      (pe_lc (own := [("deed", 1)]) (g := gName 1) (by rfl) sc_first_carry.nd (pi_tup (pe_ix ix_tup (pv 0) pe_int (fun _ _ => rfl))) (blkOk_by (own := [("deed", 1)]) (N := N_first_carry) (sc := defScope s_first_carry) (by decide +kernel))
        (fun _ _ _ _ _ => pg_name (i := 1) sc_first_carry.nd rfl (Or.inl rfl)) (fun _ _ _ _ _ => pts_nil)
        (fun _ _ _ _ _ => pe_ifExp (pt_cmpR (r := rIn K false) op_in_seq (pe_ix (r := rIxT K) ix_tup (pv 1) pe_int (fun _ _ => rfl)) (pe_tup (pa_cons pe_str (pa_cons pe_str pa_nil))) (by rfl)) pe_int pe_int)) pa_nil))), ?_⟩
    refine ⟨.ref R, rfl, R, _, 1, .ref D, rfl, rfl, SqT.of eR, rfl, D, rfl, ⟨_, SqT.of eD⟩, fun L hL => ?_⟩
    refine lc_tup (K := K) (a := D) (xs := rs.map V.ref) (fun i H4 => H4 L = some (.lst (((ds.take i).map fcD).map V.int)) ∧ Same H H4) ⟨upd_same, same_new hL⟩ (fun i H4 _ hp => SqT.of (hp.2 _ _ eD)) (fun i x H4 hx hp => ?_) (fun H4 hp => ?_)
    · obtain ⟨eL, sm⟩ := hp
      have hi : i < rs.length := by
        have := (List.getElem?_eq_some_iff.mp hx).1
        rwa [List.length_map] at this
      have hx' : x = .ref rs[i] := by
        rw [List.getElem?_map, List.getElem?_eq_getElem hi] at hx
        exact (Option.some.inj hx).symm
      subst hx'
      obtain ⟨d, hd1, hd2⟩ := awGet hd (List.getElem?_eq_getElem hi)
      refine ⟨rfl, .ref rs[i], rfl, rs[i], _, 0, .str d.1, rfl, rfl, SqT.of (sm _ _ hd2), dv0 d, by show 2 ≤ sizeLine; decide, fun T hT => ?_⟩
      have sT := same_new (o := .tup [.str "neg", .str "one"]) hT
      have eL2 := sT _ _ eL
      have old : ∀ o, Same H (upd (upd H4 T (.tup [.str "neg", .str "one"])) L o) := fun o b u e => by
        rw [upd_ne (ne_of_none e hL)]
        exact sT b u (sm b u e)
      have small : (((ds.take i).map fcD).map V.int).length < sizeLine := by
        rw [List.length_map, List.length_map, List.length_take]
        exact small1000 (by omega)
      have hin := inS d.1 ["neg", "one"]
      refine ⟨T, _, rfl, .inr (SqT.of upd_same), rfl, rfl, _, rfl, ite2 (fun e => ?_) (fun e => ?_)⟩
      · have hm : d.1 ∈ (["neg", "one"] : List Str) := of_decide_eq_true (hin.symm.trans e)
        have e1 : fcD d = 1 := if_pos hm
        refine ⟨_, eL2, small, ?_, old _⟩
        rw [upd_same, List.take_add_one, hd1]
        simp [e1]
      · have hm : ¬ d.1 ∈ (["neg", "one"] : List Str) := fun z => e (hin.trans (decide_eq_true z))
        have e1 : fcD d = 0 := if_neg hm
        refine ⟨_, eL2, small, ?_, old _⟩
        rw [upd_same, List.take_add_one, hd1]
        simp [e1]
    · obtain ⟨eL, sm⟩ := hp
      rw [List.length_map, awLen hd, List.take_length] at eL
      refine ⟨L, _, rfl, .inl ⟨.inl (.inl eL), fun p hp => ?_⟩⟩
      exact q _ p (sm.trans (same_new hp)) (sm.free hp) upd_same
/-! ### deed_bit, bits_of -/
def spDb (K : PySem.W.Frag) : Sp := fun vs H Q _ => ∃ (r L : Addr) (d : Deed) (told : List Int) (c : Int), vs = [.ref r, .int c, .ref L] ∧ H r = some (.tup (dV d)) ∧ SqL K H L (told.map V.int) ∧ DeedOk told.length d ∧ Q (.int (dbitAt d c told)) H
theorem ok_db {f : Addr} {fd : FuncData} {k : Nat} (F : Fun K "deed_bit" "deed_bit" s_deed_bit f fd) : FnOk P w K mg base CX0 (k + 1) f fd ["deed", "held", "told"] (spDb K) := by
  refine F.ok sc_deed_bit (fun vs H Q E h => ?_) (fun cdv A outer s H vs Q E hr h => ?_)
  · obtain ⟨r, L, d, told, c, rfl, _⟩ := h
    rfl
  · obtain ⟨r, L, d, told, c, rfl, er, eL, ok, q⟩ := h
    refine ⟨_, pss_cons (ps_set (i := 3) sc_deed_bit.nd rfl (.inl rfl) (pe_ix ix_tup (pv 0) pe_int (fun _ _ => rfl)))
      (pss_cons (ps_if (pt_cmpR op_eq (pv 3) pe_str (nomark _)) (pss_one (ps_ret pe_int)) pss_nil)
      (pss_cons (ps_if (pt_cmpR op_eq (pv 3) pe_str (nomark _)) (pss_one (ps_ret pe_int)) pss_nil)
      (pss_cons (ps_if (PW.pt (pw_or (pt_cmpR op_eq (pv 3) pe_str (nomark _)) (pw_or1 (pt_cmpR op_eq (pv 3) pe_str (nomark _))))) (pss_one (ps_ret (pv 1))) pss_nil)
      (pss_cons (ps_set (i := 4) sc_deed_bit.nd rfl (.inl rfl) (pe_ix ix_list (pv 2) (pe_ix ix_tup (pv 0) pe_int (fun _ _ => rfl)) (fun _ _ => rfl)))
      (pss_cons (ps_if (pt_cmpR op_eq (pv 3) pe_str (nomark _)) (pss_one (ps_ret (pe_op op_sub pe_int (pv 4)))) pss_nil)
      (pss_cons (ps_if (pt_cmpR op_eq (pv 3) pe_str (nomark _)) (pss_one (ps_ret (pe_op op_xor (pe_op op_sub pe_int (pv 4)) (pv 1)))) pss_nil)
      (pss_cons (ps_set (i := 5) sc_deed_bit.nd rfl (.inl rfl) (pe_ix ix_list (pv 2) (pe_ix ix_tup (pv 0) pe_int (fun _ _ => rfl)) (fun _ _ => rfl)))
      (pss_cons (ps_if (pt_cmpR op_eq (pv 3) pe_str (nomark _)) (pss_one (ps_ret (pe_op op_and (pv 4) (pv 5)))) pss_nil)
      (pss_cons (ps_if (pt_cmpR op_eq (pv 3) pe_str (nomark _)) (pss_one (ps_ret (pe_op op_or (pv 4) (pv 5)))) pss_nil)
      (pss_cons (ps_if (pt_cmpR op_eq (pv 3) pe_str (nomark _)) (pss_one (ps_ret (pe_op op_xor (pv 4) (pv 5)))) pss_nil)
      (pss_one (ps_ret (pe_op op_xor (pe_op op_xor (pv 4) (pv 5)) (pv 1)))))))))))))), ?_⟩
    unfold dbitAt dbit at q
    refine ⟨.ref r, rfl, r, _, 0, .str d.1, rfl, rfl, SqT.of er, dv0 d, ?_⟩
    refine ⟨.str d.1, rfl, rfl, _, rfl, ite2 (fun e => ?_) (fun n1 => ?_)⟩
    · rw [if_pos (strEq e)] at q
      exact q
    rw [if_neg (strNe n1)] at q
    refine ⟨.str d.1, rfl, rfl, _, rfl, ite2 (fun e => ?_) (fun n2 => ?_)⟩
    · rw [if_pos (strEq e)] at q
      exact q
    rw [if_neg (strNe n2)] at q
    refine ⟨.str d.1, rfl, rfl, _, rfl, ite2 (fun e => ?_) (fun n3 => ?_)⟩
    · rw [if_pos (strEq e)] at q
      exact ⟨.int c, rfl, q⟩
    rw [if_neg (strNe n3)] at q
    refine ⟨.str d.1, rfl, rfl, _, rfl, ite2 (fun e => ?_) (fun n4 => ?_)⟩
    · rw [if_pos (strEq e)] at q
      exact ⟨.int c, rfl, q⟩
    rw [if_neg (strNe n4)] at q
    obtain ⟨i, hi, ai, ei⟩ := arg1 ok (strNe n1) (strNe n3) (strNe n2)
    refine ⟨.ref L, rfl, .ref r, rfl, r, _, 1, .int i, rfl, rfl, SqT.of er, dvN (k := 0) hi, L, _, i, .int (argAt d told 0), rfl, rfl, eL, ei, ?_⟩
    refine ⟨.str d.1, rfl, rfl, _, rfl, ite2 (fun e => ?_) (fun n5 => ?_)⟩
    · rw [if_pos (strEq e)] at q
      exact ⟨.int _, rfl, 1, _, rfl, rfl, q⟩
    rw [if_neg (strNe n5)] at q
    refine ⟨.str d.1, rfl, rfl, _, rfl, ite2 (fun e => ?_) (fun n6 => ?_)⟩
    · rw [if_pos (strEq e)] at q
      exact ⟨.int _, rfl, 1, _, rfl, rfl, .int c, rfl, _, _, rfl, rfl, q⟩
    rw [if_neg (strNe n6)] at q
    obtain ⟨j, hj, aj, ej⟩ := arg2 ok (strNe n1) (strNe n3) (strNe n2) (strNe n5) (strNe n6) (strNe n4)
    refine ⟨.ref L, rfl, .ref r, rfl, r, _, 2, .int j, rfl, rfl, SqT.of er, dvN (k := 1) hj, L, _, j, .int (argAt d told 1), rfl, rfl, eL, ej, ?_⟩
    refine ⟨.str d.1, rfl, rfl, _, rfl, ite2 (fun e => ?_) (fun n7 => ?_)⟩
    · rw [if_pos (strEq e)] at q
      exact ⟨.int _, rfl, .int _, rfl, _, _, rfl, rfl, q⟩
    rw [if_neg (strNe n7)] at q
    refine ⟨.str d.1, rfl, rfl, _, rfl, ite2 (fun e => ?_) (fun n8 => ?_)⟩
    · rw [if_pos (strEq e)] at q
      exact ⟨.int _, rfl, .int _, rfl, _, _, rfl, rfl, q⟩
    rw [if_neg (strNe n8)] at q
    refine ⟨.str d.1, rfl, rfl, _, rfl, ite2 (fun e => ?_) (fun n9 => ?_)⟩
    · rw [if_pos (strEq e)] at q
      exact ⟨.int _, rfl, .int _, rfl, _, _, rfl, rfl, q⟩
    rw [if_neg (strNe n9)] at q
    exact ⟨.int _, rfl, .int _, rfl, _, _, rfl, rfl, .int c, rfl, _, _, rfl, rfl, q⟩
def spBo : Sp := fun vs H Q _ => ∃ (R C B : Addr) (m o : Int) (ds : List Deed) (cs bs : List Int), vs = [.ref R, .ref C, .ref B] ∧ RowAt H R m ds o ∧ DsOk m ds ∧ ds.length ≤ 100 ∧ H C = some (.tup (cs.map V.int)) ∧ cs.length = ds.length ∧ H B = some (.tup (bs.map V.int)) ∧ (bs.length : Int) = m ∧ bs.length ≤ 100 ∧
  ∀ H' p, Same H H' → H p = none → H' p = some (.tup ((bts ds cs bs).map V.int)) → Q (.ref p) H'
theorem ok_bo {f fB : Addr} {fd fdB : FuncData} {k : Nat} (F : Fun K "bits_of" "bits_of" s_bits_of f fd) (GB : FnOk P w K mg base CX0 (k + 1) fB fdB ["deed", "held", "told"] (spDb K)) (kB : PySem.W.keepIn K (.ref fB) = true) (bB : Binds K fdB ["deed", "held", "told"] []) (gB : mg "deed_bit" = some (.ref fB))
    (ml : mg "list" = none) (mt : mg "tuple" = none) (mz : mg "zip" = none) : FnOk P w K mg base CX0 (k + 2) f fd ["row", "carry", "bits"] spBo := by
  refine F.ok sc_bits_of (fun vs H Q E h => ?_) (fun cdv A outer s H vs Q E hr h => ?_)
  · obtain ⟨R, C, B, m, o, ds, cs, bs, rfl, _⟩ := h
    rfl
  · obtain ⟨R, C, B, m, o, ds, cs, bs, rfl, hrow, hok, hds, eC, hcl, eB, hm, hbl, q⟩ := h
    obtain ⟨D, rs, eR, eD, hd⟩ := id hrow
    refine ⟨_, pss_cons (ps_set (i := 3) sc_bits_of.nd rfl (.inl rfl) (pe_callTy call_list_of (by rfl) ml (by decide +kernel) (pa_cons (pv 2) pa_nil)))
      (pss_cons (ps_for PassesOwn.never rfl (RZ.pi_zipA (by rfl) mz (pa_cons (pe_ix ix_tup (pv 0) pe_int (fun _ _ => rfl)) (pa_cons (pv 1) pa_nil))) (pg_tup rfl (pgs_cons (pg_name (i := 4) sc_bits_of.nd rfl (.inl rfl)) (pgs_cons (pg_name (i := 5) sc_bits_of.nd rfl (.inl rfl)) pgs_nil)))
        (pss_one (ps_expr (pe_bm PySem.F.plainAttrs_list PySem.F.slot_list_append PySem.F.type_list_append mt_append (pv 3) (pa_cons (pe_call GB hr (by rfl) gB kB bB .nil pass0 (pa_cons (pv 4) (pa_cons (pv 5) (pa_cons (pv 3) pa_nil)))) pa_nil)))))
      (pss_one (ps_ret (pe_callTy call_tuple_of (by rfl) mt (by decide +kernel) (pa_cons (pv 3) pa_nil))))), ?_⟩
    refine ⟨.ref B, rfl, B, _, rfl, .inr (SqT.of eB), fun L hL => ?_⟩
    have sL := same_new (o := .lst (bs.map V.int)) hL
    have lrs : (rs.map V.ref).length = ds.length := by rw [List.length_map, awLen hd]
    have lcs : (cs.map V.int).length = ds.length := by rw [List.length_map, hcl]
    refine ⟨.ref R, rfl, R, _, 1, .ref D, rfl, rfl, SqT.of (sL _ _ eR), rfl, .ref C, rfl, D, C, _, _, rfl, .inr ⟨SqT.of (sL _ _ eD), SqT.of (sL _ _ eC), RZ.for_zipT (K := K) (xs := rs.map V.ref) (ys := cs.map V.int) (lrs.trans lcs.symm) (fun i σ H3 => ∃ y4 y5, σ = [some (.ref R), some (.ref C), some (.ref B), some (.ref L), y4, y5] ∧ H3 L = some (.lst ((bts (ds.take i) (cs.take i) bs).map V.int)) ∧ Same H H3) ⟨none, none, rfl, by rw [upd_same]; cases ds <;> rfl, sL⟩ (fun i σ H3 hp => ?_) (fun i x y T σ H3 hx hy hp hT => ?_) (fun σ H3 hp => ?_)⟩⟩
    · obtain ⟨_, _, _, _, sm⟩ := hp
      exact ⟨SqT.of (sm _ _ eD), SqT.of (sm _ _ eC)⟩
    · obtain ⟨y4, y5, rfl, e3, sm⟩ := hp
      have hi : i < rs.length := by
        have := (List.getElem?_eq_some_iff.mp hx).1
        rwa [List.length_map] at this
      have hx' : x = .ref rs[i] := by
        rw [List.getElem?_map, List.getElem?_eq_getElem hi] at hx
        exact (Option.some.inj hx).symm
      subst hx'
      obtain ⟨d, hd1, hd2⟩ := awGet hd (List.getElem?_eq_getElem hi)
      obtain ⟨c, hc, rfl⟩ : ∃ c, cs[i]? = some c ∧ y = .int c := by
        rw [List.getElem?_map] at hy
        cases e : cs[i]? with
        | none => rw [e] at hy; cases hy
        | some c => rw [e] at hy; exact ⟨c, rfl, (Option.some.inj hy).symm⟩
      have h2 : i < ds.length := by
        rw [← awLen hd]
        exact hi
      have hlen : (bts (ds.take i) (cs.take i) bs).length = bs.length + i := by
        rw [bts_len (by rw [List.length_take, List.length_take, hcl]), List.length_take, Nat.min_eq_left (Nat.le_of_lt h2)]
      have okd : DeedOk (bts (ds.take i) (cs.take i) bs).length d := by
        rw [hlen]
        have := hok.each i d hd1
        rw [← hm] at this
        exact this
      have sT := same_new (o := .tup [.ref rs[i], .int c]) hT
      have e4 := sT _ _ e3
      refine ⟨T, [.ref rs[i], .int c], rfl, .inl (.inl upd_same), rfl, .ref rs[i], [.int c], rfl, .int c, [], rfl, rfl, ?_⟩
      refine ⟨.ref L, rfl, .inl ⟨rfl, _, .inl (.inl e4)⟩, .ref rs[i], rfl, .int c, rfl, .ref L, rfl, rs[i], L, d, _, c, rfl, sT _ _ (sm _ _ hd2), .inl (.inl e4), okd, L, _, _, rfl, rfl, e4, ?_, some (.ref rs[i]), some (.int c), rfl, ?_, ?_⟩
      · rw [List.length_map, hlen]
        exact small1000 (by omega)
      · rw [upd_same, bts_next hd1 hc, List.map_append]
        rfl
      · intro b u e
        rw [upd_ne (ne_of_none e hL)]
        exact sT b u (sm b u e)
    · obtain ⟨y4, y5, rfl, e3, sm⟩ := hp
      rw [lrs, List.take_length, ← hcl, List.take_length] at e3
      refine ⟨.ref L, rfl, L, _, rfl, .inl ⟨.inl (.inl e3), fun p hp => ?_⟩⟩
      exact q _ p (sm.trans (same_new hp)) (sm.free hp) upd_same
/-! ### two_or_more, deed_carry -/
def spTm : Sp := fun vs H Q _ => ∃ a b c : Int, vs = [.int a, .int b, .int c] ∧ Q (.int ((a + b + c) / 2)) H
theorem ok_tm {f : Addr} {fd : FuncData} {k : Nat} (F : Fun K "two_or_more" "two_or_more" s_two_or_more f fd) : FnOk P w K mg base CX0 (k + 1) f fd ["one", "other", "third"] spTm := by
  refine F.ok sc_two_or_more (fun vs H Q E h => ?_) (fun cdv A outer s H vs Q E hr h => ?_)
  · obtain ⟨a, b, c, rfl, _⟩ := h
    rfl
  · obtain ⟨a, b, c, rfl, q⟩ := h
    refine ⟨_, pss_one (ps_ret (pe_op op_fdiv (pe_op op_add (pe_op op_add (pv 0) (pv 1)) (pv 2)) pe_int)), ?_⟩
    exact ⟨.int a, rfl, .int b, rfl, a, b, rfl, rfl, .int c, rfl, _, c, rfl, rfl, _, 2, rfl, rfl, ⟨by decide, by decide⟩, q⟩
def spDc : Sp := fun vs H Q _ => ∃ (r L : Addr) (d : Deed) (told : List Int) (c : Int), vs = [.ref r, .int c, .ref L] ∧ H r = some (.tup (dV d)) ∧ H L = some (.tup (told.map V.int)) ∧ DeedOk told.length d ∧ Q (.int (dcarAt d c told)) H
theorem ok_dc {f fT : Addr} {fd fdT : FuncData} {k : Nat} (F : Fun K "deed_carry" "deed_carry" s_deed_carry f fd) (GT : FnOk P w K mg base CX0 (k + 1) fT fdT ["one", "other", "third"] spTm) (kT : PySem.W.keepIn K (.ref fT) = true) (bT : Binds K fdT ["one", "other", "third"] []) (gT : mg "two_or_more" = some (.ref fT)) :
    FnOk P w K mg base CX0 (k + 2) f fd ["deed", "held", "told"] spDc := by
  refine F.ok sc_deed_carry (fun vs H Q E h => ?_) (fun cdv A outer s H vs Q E hr h => ?_)
  · obtain ⟨r, L, d, told, c, rfl, _⟩ := h
    rfl
  · obtain ⟨r, L, d, told, c, rfl, er, eL, ok, q⟩ := h
    refine ⟨_, pss_cons (ps_set (i := 3) sc_deed_carry.nd rfl (.inl rfl) (pe_ix ix_tup (pv 0) pe_int (fun _ _ => rfl)))
      (pss_cons (ps_if (pt_cmpR op_eq (pv 3) pe_str (nomark _)) (pss_one (ps_ret (pe_op op_and (pe_op op_sub pe_int (pe_ix ix_tup (pv 2) (pe_ix ix_tup (pv 0) pe_int (fun _ _ => rfl)) (fun _ _ => rfl))) (pv 1)))) pss_nil)
      (pss_cons (ps_if (pt_cmpR op_eq (pv 3) pe_str (nomark _)) (pss_one (ps_ret (pe_ix ix_tup (pv 2) (pe_ix ix_tup (pv 0) pe_int (fun _ _ => rfl)) (fun _ _ => rfl)))) pss_nil)
      (pss_cons (ps_if (pt_cmpR op_eq (pv 3) pe_str (nomark _)) (pss_one (ps_ret (pe_call GT hr (by rfl) gT kT bT .nil pass0 (pa_cons (pe_ix ix_tup (pv 2) (pe_ix ix_tup (pv 0) pe_int (fun _ _ => rfl)) (fun _ _ => rfl)) (pa_cons (pe_ix ix_tup (pv 2) (pe_ix ix_tup (pv 0) pe_int (fun _ _ => rfl)) (fun _ _ => rfl)) (pa_cons (pv 1) pa_nil)))))) pss_nil)
      (pss_cons (ps_if (pt_cmpR op_eq (pv 3) pe_str (nomark _)) (pss_one (ps_ret (pe_call GT hr (by rfl) gT kT bT .nil pass0 (pa_cons (pe_op op_sub pe_int (pe_ix ix_tup (pv 2) (pe_ix ix_tup (pv 0) pe_int (fun _ _ => rfl)) (fun _ _ => rfl))) (pa_cons (pe_ix ix_tup (pv 2) (pe_ix ix_tup (pv 0) pe_int (fun _ _ => rfl)) (fun _ _ => rfl)) (pa_cons (pv 1) pa_nil)))))) pss_nil)
      (pss_one (ps_ret pe_int)))))), ?_⟩
    unfold dcarAt dcar at q
    have lL : SqT K H L (told.map V.int) := SqT.of eL
    refine ⟨.ref r, rfl, r, _, 0, .str d.1, rfl, rfl, SqT.of er, dv0 d, ?_⟩
    refine ⟨.str d.1, rfl, rfl, _, rfl, ite2 (fun e => ?_) (fun n1 => ?_)⟩
    · rw [if_pos (strEq e)] at q
      have e2 := strEq e
      obtain ⟨i, hi, ai, ei⟩ := arg1 ok (by rw [e2]; decide +kernel) (by rw [e2]; decide +kernel) (by rw [e2]; decide +kernel)
      exact ⟨.ref L, rfl, .ref r, rfl, r, _, 1, .int i, rfl, rfl, SqT.of er, dvN (k := 0) hi, L, _, i, _, rfl, rfl, lL, ei, 1, _, rfl, rfl, .int c, rfl, _, _, rfl, rfl, q⟩
    rw [if_neg (strNe n1)] at q
    refine ⟨.str d.1, rfl, rfl, _, rfl, ite2 (fun e => ?_) (fun n2 => ?_)⟩
    · rw [if_pos (strEq e)] at q
      have e2 := strEq e
      obtain ⟨i, hi, ai, ei⟩ := arg1 ok (by rw [e2]; decide +kernel) (by rw [e2]; decide +kernel) (by rw [e2]; decide +kernel)
      exact ⟨.ref L, rfl, .ref r, rfl, r, _, 1, .int i, rfl, rfl, SqT.of er, dvN (k := 0) hi, L, _, i, _, rfl, rfl, lL, ei, q⟩
    rw [if_neg (strNe n2)] at q
    refine ⟨.str d.1, rfl, rfl, _, rfl, ite2 (fun e => ?_) (fun n3 => ?_)⟩
    · rw [if_pos (strEq e)] at q
      have e2 := strEq e
      obtain ⟨i, hi, ai, ei⟩ := arg1 ok (by rw [e2]; decide +kernel) (by rw [e2]; decide +kernel) (by rw [e2]; decide +kernel)
      obtain ⟨j, hj, aj, ej⟩ := arg2 ok (by rw [e2]; decide +kernel) (by rw [e2]; decide +kernel) (by rw [e2]; decide +kernel) (by rw [e2]; decide +kernel) (by rw [e2]; decide +kernel) (by rw [e2]; decide +kernel)
      exact ⟨.ref L, rfl, .ref r, rfl, r, _, 1, .int i, rfl, rfl, SqT.of er, dvN (k := 0) hi, L, _, i, _, rfl, rfl, lL, ei, .ref L, rfl, .ref r, rfl, r, _, 2, .int j, rfl, rfl, SqT.of er, dvN (k := 1) hj, L, _, j, _, rfl, rfl, lL, ej, .int c, rfl, _, _, c, rfl, q⟩
    rw [if_neg (strNe n3)] at q
    refine ⟨.str d.1, rfl, rfl, _, rfl, ite2 (fun e => ?_) (fun n4 => ?_)⟩
    · rw [if_pos (strEq e)] at q
      have e2 := strEq e
      obtain ⟨i, hi, ai, ei⟩ := arg1 ok (by rw [e2]; decide +kernel) (by rw [e2]; decide +kernel) (by rw [e2]; decide +kernel)
      obtain ⟨j, hj, aj, ej⟩ := arg2 ok (by rw [e2]; decide +kernel) (by rw [e2]; decide +kernel) (by rw [e2]; decide +kernel) (by rw [e2]; decide +kernel) (by rw [e2]; decide +kernel) (by rw [e2]; decide +kernel)
      exact ⟨.ref L, rfl, .ref r, rfl, r, _, 1, .int i, rfl, rfl, SqT.of er, dvN (k := 0) hi, L, _, i, _, rfl, rfl, lL, ei, 1, _, rfl, rfl, .ref L, rfl, .ref r, rfl, r, _, 2, .int j, rfl, rfl, SqT.of er, dvN (k := 1) hj, L, _, j, _, rfl, rfl, lL, ej, .int c, rfl, _, _, c, rfl, q⟩
    rw [if_neg (strNe n4)] at q
    exact q
theorem okd_more {m : Int} {i n : Nat} {d : Deed} (h : DeedOk (m + i) d) (hn : m + i ≤ n) : DeedOk n d := ⟨h.word, fun z hz => ⟨(h.ahead z hz).1, by have := (h.ahead z hz).2; omega⟩⟩
/-! ### bits tell values -/
def bitA (t : Nat) (x : Int) : Int := x / 2 ^ t % 2
theorem bitA_bit (t : Nat) (x : Int) : Bit (bitA t x) := by
  have h0 := Int.emod_nonneg (x / 2 ^ t) (show (2 : Int) ≠ 0 by decide)
  have h1 := Int.emod_lt_of_pos (x / 2 ^ t) (show (0 : Int) < 2 by decide)
  unfold bitA Bit
  omega
/-- the bit at p -/
theorem bit_at {V p u k r : Int} (hp : 0 < p) (h : V = p * (2 * u + k) + r) (r0 : 0 ≤ r) (r1 : r < p) : V / p % 2 = k % 2 := by
  have e : V / p = 2 * u + k := by
    rw [h, Int.add_comm, Int.add_mul_ediv_left _ _ (by omega), Int.ediv_eq_zero_of_lt r0 r1, Int.zero_add]
  rw [e]
  omega
theorem bit_val {k : Int} (h : Bit k) : k % 2 = k := by rcases h with rfl | rfl <;> decide
theorem low_next (A : Int) {p : Int} (hp : 0 < p) : A % (2 * p) = p * (A / p % 2) + A % p := by
  have e := Int.mul_ediv_add_emod A p
  have e2 := Int.mul_ediv_add_emod (A / p) 2
  have r0 := Int.emod_nonneg A (show p ≠ 0 by omega)
  have r1 := Int.emod_lt_of_pos A hp
  have hb := bitA_bit 0 (A / p)
  have b : A / p % 2 = 0 ∨ A / p % 2 = 1 := by omega
  have e3 : A = 2 * p * (A / p / 2) + (p * (A / p % 2) + A % p) := by
    have z : p * (A / p) = p * (2 * (A / p / 2) + A / p % 2) := by rw [e2]
    rw [Int.mul_add, ← Int.mul_assoc, Int.mul_comm p 2] at z
    omega
  have s0 : 0 ≤ p * (A / p % 2) + A % p := by rcases b with b | b <;> rw [b] <;> omega
  have s1 : p * (A / p % 2) + A % p < 2 * p := by rcases b with b | b <;> rw [b] <;> omega
  generalize p * (A / p % 2) + A % p = s at e3 s0 s1
  rw [e3, Int.mul_add_emod_self_left, Int.emod_eq_of_lt s0 s1]
/-- what is carried into the bit at p -/
def CI (x : Str) (A B p c : Int) : Prop :=
  if x = "add" then ∃ r, A % p + B % p = p * c + r ∧ 0 ≤ r ∧ r < p
  else if x = "sub" then ∃ r, A % p - B % p = r - p * c ∧ 0 ≤ r ∧ r < p
  else if x = "neg" then ∃ r, -(A % p) = r - p * (1 - c) ∧ 0 ≤ r ∧ r < p
  else if x = "twice" then ∃ r, A % p + A % p = p * c + r ∧ 0 ≤ r ∧ r < p
  else if x = "one" then c = if p = 1 then 1 else 0
  else c = 0
theorem ci_first (d : Deed) (A B : Int) : CI d.1 A B 1 (fcD d) := by
  unfold CI fcD
  rw [Int.emod_one, Int.emod_one]
  by_cases h1 : d.1 = "add"
  · rw [if_pos h1, h1]
    exact ⟨0, by decide, by decide, by decide⟩
  rw [if_neg h1]
  by_cases h2 : d.1 = "sub"
  · rw [if_pos h2, h2]
    exact ⟨0, by decide, by decide, by decide⟩
  rw [if_neg h2]
  by_cases h3 : d.1 = "neg"
  · rw [if_pos h3, h3]
    exact ⟨0, by decide, by decide, by decide⟩
  rw [if_neg h3]
  by_cases h4 : d.1 = "twice"
  · rw [if_pos h4, h4]
    exact ⟨0, by decide, by decide, by decide⟩
  rw [if_neg h4]
  by_cases h5 : d.1 = "one"
  · rw [if_pos h5, h5]
    decide
  rw [if_neg h5, if_neg (by simp [h3, h5])]
theorem ci_next {x : Str} {A B p c : Int} (hp : 0 < p) (hc : Bit c) (h : CI x A B p c) : CI x A B (2 * p) (dcar x (A / p % 2) (B / p % 2) c) := by
  have ba : Bit (A / p % 2) := by unfold Bit; omega
  have bb : Bit (B / p % 2) := by unfold Bit; omega
  have la := low_next A hp
  have lb := low_next B hp
  have a0 := Int.emod_nonneg A (show p ≠ 0 by omega)
  have a1 := Int.emod_lt_of_pos A hp
  generalize A / p % 2 = α at la ba
  generalize B / p % 2 = β at lb bb
  unfold CI at h ⊢
  rw [la, lb]
  generalize A % p = a at h a0 a1
  generalize B % p = b at h
  by_cases h1 : x = "add"
  · subst h1
    rw [if_pos rfl] at h ⊢
    obtain ⟨r, e, r0, r1⟩ := h
    rcases ba with rfl | rfl <;> rcases bb with rfl | rfl <;> rcases hc with rfl | rfl
    · exact ⟨r, by show _ = 2 * p * 0 + r; omega, r0, by omega⟩
    · exact ⟨p + r, by show _ = 2 * p * 0 + (p + r); omega, by omega, by omega⟩
    · exact ⟨p + r, by show _ = 2 * p * 0 + (p + r); omega, by omega, by omega⟩
    · exact ⟨r, by show _ = 2 * p * 1 + r; omega, r0, by omega⟩
    · exact ⟨p + r, by show _ = 2 * p * 0 + (p + r); omega, by omega, by omega⟩
    · exact ⟨r, by show _ = 2 * p * 1 + r; omega, r0, by omega⟩
    · exact ⟨r, by show _ = 2 * p * 1 + r; omega, r0, by omega⟩
    · exact ⟨p + r, by show _ = 2 * p * 1 + (p + r); omega, by omega, by omega⟩
  rw [if_neg h1] at h ⊢
  by_cases h2 : x = "sub"
  · subst h2
    rw [if_pos rfl] at h ⊢
    obtain ⟨r, e, r0, r1⟩ := h
    rcases ba with rfl | rfl <;> rcases bb with rfl | rfl <;> rcases hc with rfl | rfl
    · exact ⟨r, by show _ = r - 2 * p * 0; omega, r0, by omega⟩
    · exact ⟨p + r, by show _ = (p + r) - 2 * p * 1; omega, by omega, by omega⟩
    · exact ⟨p + r, by show _ = (p + r) - 2 * p * 1; omega, by omega, by omega⟩
    · exact ⟨r, by show _ = r - 2 * p * 1; omega, r0, by omega⟩
    · exact ⟨p + r, by show _ = (p + r) - 2 * p * 0; omega, by omega, by omega⟩
    · exact ⟨r, by show _ = r - 2 * p * 0; omega, r0, by omega⟩
    · exact ⟨r, by show _ = r - 2 * p * 0; omega, r0, by omega⟩
    · exact ⟨p + r, by show _ = (p + r) - 2 * p * 1; omega, by omega, by omega⟩
  rw [if_neg h2] at h ⊢
  by_cases h3 : x = "neg"
  · subst h3
    rw [if_pos rfl] at h ⊢
    obtain ⟨r, e, r0, r1⟩ := h
    rcases ba with rfl | rfl <;> rcases hc with rfl | rfl
    · exact ⟨p + r, by show _ = (p + r) - 2 * p * (1 - 0); omega, by omega, by omega⟩
    · exact ⟨r, by show _ = r - 2 * p * (1 - 1); omega, r0, by omega⟩
    · exact ⟨r, by show _ = r - 2 * p * (1 - 0); omega, r0, by omega⟩
    · exact ⟨p + r, by show _ = (p + r) - 2 * p * (1 - 0); omega, by omega, by omega⟩
  rw [if_neg h3] at h ⊢
  by_cases h4 : x = "twice"
  · subst h4
    rw [if_pos rfl] at h ⊢
    obtain ⟨r, e, r0, r1⟩ := h
    rcases ba with rfl | rfl
    · exact ⟨a + a, by show _ = 2 * p * 0 + (a + a); omega, by omega, by omega⟩
    · exact ⟨a + a, by show _ = 2 * p * 1 + (a + a); omega, by omega, by omega⟩
  rw [if_neg h4] at h ⊢
  have hz : dcar x α β c = 0 := by
    unfold dcar
    rw [if_neg h3, if_neg h4, if_neg h1, if_neg h2]
  by_cases h5 : x = "one"
  · rw [if_pos h5, hz, if_neg (by omega)]
  · rw [if_neg h5, hz]
theorem nat_bits {a b t : Nat} : ((a &&& b) / 2 ^ t % 2 = (a / 2 ^ t % 2) &&& (b / 2 ^ t % 2)) ∧ ((a ||| b) / 2 ^ t % 2 = (a / 2 ^ t % 2) ||| (b / 2 ^ t % 2)) ∧ ((a ^^^ b) / 2 ^ t % 2 = (a / 2 ^ t % 2) ^^^ (b / 2 ^ t % 2)) := by
  refine ⟨?_, ?_, ?_⟩
  · rw [← Nat.shiftRight_eq_div_pow, ← Nat.shiftRight_eq_div_pow, ← Nat.shiftRight_eq_div_pow, Nat.shiftRight_and_distrib]
    exact Nat.and_mod_two_pow (n := 1)
  · rw [← Nat.shiftRight_eq_div_pow, ← Nat.shiftRight_eq_div_pow, ← Nat.shiftRight_eq_div_pow, Nat.shiftRight_or_distrib]
    exact Nat.or_mod_two_pow (n := 1)
  · rw [← Nat.shiftRight_eq_div_pow, ← Nat.shiftRight_eq_div_pow, ← Nat.shiftRight_eq_div_pow, Nat.shiftRight_xor_distrib]
    exact Nat.xor_mod_two_pow (n := 1)
theorem cast_bit (a t : Nat) : bitA t (a : Int) = ((a / 2 ^ t % 2 : Nat) : Int) := by
  unfold bitA
  rw [pw_cast]
  omega
theorem bit_land {A B : Int} (t : Nat) (ha : 0 ≤ A) (hb : 0 ≤ B) : bitA t (Builtin.bitAnd A B) = Builtin.bitAnd (bitA t A) (bitA t B) := by
  obtain ⟨a, rfl⟩ := Int.eq_ofNat_of_zero_le ha
  obtain ⟨b, rfl⟩ := Int.eq_ofNat_of_zero_le hb
  rw [cast_bit, cast_bit, bitAnd_pp (Int.natCast_nonneg _) (Int.natCast_nonneg _), bitAnd_pp (Int.natCast_nonneg _) (Int.natCast_nonneg _)]
  simp only [Int.toNat_natCast]
  rw [cast_bit, nat_bits.1]
theorem bit_lor {A B : Int} (t : Nat) (ha : 0 ≤ A) (hb : 0 ≤ B) : bitA t (Builtin.bitOr A B) = Builtin.bitOr (bitA t A) (bitA t B) := by
  obtain ⟨a, rfl⟩ := Int.eq_ofNat_of_zero_le ha
  obtain ⟨b, rfl⟩ := Int.eq_ofNat_of_zero_le hb
  rw [cast_bit, cast_bit, bitOr_nn (Int.natCast_nonneg _) (Int.natCast_nonneg _), bitOr_nn (Int.natCast_nonneg _) (Int.natCast_nonneg _)]
  simp only [Int.toNat_natCast]
  rw [cast_bit, nat_bits.2.1]
theorem bit_lxor {A B : Int} (t : Nat) (ha : 0 ≤ A) (hb : 0 ≤ B) : bitA t (Builtin.bitXor A B) = Builtin.bitXor (bitA t A) (bitA t B) := by
  obtain ⟨a, rfl⟩ := Int.eq_ofNat_of_zero_le ha
  obtain ⟨b, rfl⟩ := Int.eq_ofNat_of_zero_le hb
  rw [cast_bit, cast_bit, Bits.bitXor_pp (Int.natCast_nonneg _) (Int.natCast_nonneg _), Bits.bitXor_pp (Int.natCast_nonneg _) (Int.natCast_nonneg _)]
  simp only [Int.toNat_natCast]
  rw [cast_bit, nat_bits.2.2]
theorem dbit_tells {x : Str} {A B c : Int} {t n : Nat} (hx : x ∈ fwL.map (·.1)) (ht : t < n) (ha : 0 ≤ A) (hb : 0 ≤ B) (hc : Bit c) (h : CI x A B (2 ^ t) c) : dbit x (bitA t A) (bitA t B) c = bitA t (dvalue x A B (2 ^ n)) := by
  have hp := pw_pos t
  have eA := Int.mul_ediv_add_emod A (2 ^ t)
  have eB := Int.mul_ediv_add_emod B (2 ^ t)
  have qa := Int.mul_ediv_add_emod (A / 2 ^ t) 2
  have qb := Int.mul_ediv_add_emod (B / 2 ^ t) 2
  have a0 := Int.emod_nonneg A (show (2 : Int) ^ t ≠ 0 by omega)
  have a1 := Int.emod_lt_of_pos A hp
  have b0 := Int.emod_nonneg B (show (2 : Int) ^ t ≠ 0 by omega)
  have b1 := Int.emod_lt_of_pos B hp
  have ba := bitA_bit t A
  have bb := bitA_bit t B
  obtain ⟨N', hN⟩ : ∃ N' : Int, (2 : Int) ^ n = 2 ^ t * (2 * N') := by
    refine ⟨2 ^ (n - t - 1), ?_⟩
    rw [show n = t + 1 + (n - t - 1) by omega, Int.pow_add, Int.pow_succ, Int.mul_assoc]
    congr 3
    omega
  have land := bit_land t ha hb
  have lor := bit_lor t ha hb
  have lxor := bit_lxor t ha hb
  have tt : bitA t (A + A) = (A + A) / 2 ^ t % 2 := rfl
  rw [hN]
  unfold CI at h
  have p1 : (2 : Int) ^ t = 1 ∨ 2 ≤ (2 : Int) ^ t := by omega
  unfold bitA at ba bb ⊢
  unfold bitA at land lor lxor
  clear tt hN
  generalize (2 : Int) ^ t = p at *
  generalize hα : A / p % 2 = α at *
  generalize hβ : B / p % 2 = β at *
  generalize A % p = a at *
  generalize B % p = b at *
  generalize A / p / 2 = A' at *
  generalize B / p / 2 = B' at *
  have dA : A = p * (2 * A' + α) + a := by rw [qa]; omega
  have dB : B = p * (2 * B' + β) + b := by rw [qb]; omega
  have mA := Int.mul_add p (2 * A') α
  have mB := Int.mul_add p (2 * B') β
  simp only [fwL, List.map_cons, List.map_nil, List.mem_cons, List.not_mem_nil, or_false] at hx
  rcases hx with rfl | rfl | rfl | rfl | rfl | rfl | rfl | rfl | rfl | rfl | rfl
  · show (0 : Int) = 0 / p % 2
    rw [Int.zero_ediv]
    rfl
  · show c = 1 / p % 2
    have hc1 : c = if p = 1 then 1 else 0 := h
    rcases p1 with p1 | p1
    · rw [hc1, if_pos p1, p1]
      decide
    · rw [hc1, if_neg (by omega), Int.ediv_eq_zero_of_lt (by omega) (by omega)]
      rfl
  · show (1 : Int) = (p * (2 * N') - 1) / p % 2
    rw [bit_at (u := N' - 1) (k := 1) (r := p - 1) hp (by rw [Int.mul_add, Int.mul_sub, Int.mul_sub]; omega) (by omega) (by omega)]
    decide
  · show 1 - α = (p * (2 * N') - 1 - A) / p % 2
    have e : p * (2 * (N' - 1 - A') + (1 - α)) = p * (2 * N') - p * (2 * A') - p * α - p := by
      rw [Int.mul_add, Int.mul_sub 2, Int.mul_sub 2, Int.mul_sub p, Int.mul_sub p, Int.mul_sub p]
      omega
    rw [bit_at (u := N' - 1 - A') (k := 1 - α) (r := p - 1 - a) hp (by rw [e]; omega) (by omega) (by omega)]
    rcases ba with rfl | rfl <;> decide
  · show Builtin.bitXor (1 - α) c = (-A) / p % 2
    obtain ⟨r, er, r0, r1⟩ : ∃ r, -a = r - p * (1 - c) ∧ 0 ≤ r ∧ r < p := h
    have e : p * (2 * (-A') + (-α - 1 + c)) = -(p * (2 * A')) - p * α - p * (1 - c) := by
      rw [Int.mul_add, Int.mul_neg, Int.mul_neg, Int.mul_sub, Int.mul_add, Int.mul_sub, Int.mul_neg]
      omega
    rw [bit_at (u := -A') (k := -α - 1 + c) (r := r) hp (by rw [e]; omega) r0 r1]
    rcases ba with rfl | rfl <;> rcases hc with rfl | rfl <;> decide
  · show c = (A + A) / p % 2
    obtain ⟨r, er, r0, r1⟩ : ∃ r, a + a = p * c + r ∧ 0 ≤ r ∧ r < p := h
    have e : p * (2 * (2 * A' + α) + c) = 2 * (p * (2 * A')) + 2 * (p * α) + p * c := by
      rw [Int.mul_add, Int.mul_left_comm, Int.mul_add p]
      omega
    rw [bit_at (u := 2 * A' + α) (k := c) (r := r) hp (by rw [e]; omega) r0 r1, bit_val hc]
  · show Builtin.bitAnd α β = Builtin.bitAnd A B / p % 2
    rw [land]
  · show Builtin.bitOr α β = Builtin.bitOr A B / p % 2
    rw [lor]
  · show Builtin.bitXor α β = Builtin.bitXor A B / p % 2
    rw [lxor]
  · show Builtin.bitXor (Builtin.bitXor α β) c = (A + B) / p % 2
    obtain ⟨r, er, r0, r1⟩ : ∃ r, a + b = p * c + r ∧ 0 ≤ r ∧ r < p := h
    have e : p * (2 * (A' + B') + (α + β + c)) = p * (2 * A') + p * (2 * B') + p * α + p * β + p * c := by
      rw [Int.mul_add 2, Int.mul_add, Int.mul_add p, Int.mul_add p, Int.mul_add p]
      omega
    rw [bit_at (u := A' + B') (k := α + β + c) (r := r) hp (by rw [e]; omega) r0 r1]
    rcases ba with rfl | rfl <;> rcases bb with rfl | rfl <;> rcases hc with rfl | rfl <;> decide
  · show Builtin.bitXor (Builtin.bitXor α β) c = (A - B) / p % 2
    obtain ⟨r, er, r0, r1⟩ : ∃ r, a - b = r - p * c ∧ 0 ≤ r ∧ r < p := h
    have e : p * (2 * (A' - B') + (α - β - c)) = p * (2 * A') - p * (2 * B') + p * α - p * β - p * c := by
      rw [Int.mul_sub 2, Int.mul_add, Int.mul_sub p, Int.mul_sub p, Int.mul_sub p]
      omega
    rw [bit_at (u := A' - B') (k := α - β - c) (r := r) hp (by rw [e]; omega) r0 r1]
    rcases ba with rfl | rfl <;> rcases bb with rfl | rfl <;> rcases hc with rfl | rfl <;> decide
/-! ### rows' bits and carries -/
theorem bit_mod {V : Int} {t n : Nat} (h : t < n) : bitA t (V % 2 ^ n) = bitA t V := by
  obtain ⟨N', hN⟩ : ∃ N' : Int, (2 : Int) ^ n = 2 ^ t * (2 * N') := by
    refine ⟨2 ^ (n - t - 1), ?_⟩
    rw [show n = t + 1 + (n - t - 1) by omega, Int.pow_add, Int.pow_succ, Int.mul_assoc]
    congr 3
    omega
  have hp := pw_pos t
  have e := Int.mul_ediv_add_emod V (2 ^ n)
  have e1 := Int.mul_ediv_add_emod (V % 2 ^ n) (2 ^ t)
  have r0 := Int.emod_nonneg (V % 2 ^ n) (show (2 : Int) ^ t ≠ 0 by omega)
  have r1 := Int.emod_lt_of_pos (V % 2 ^ n) hp
  unfold bitA
  have z : V / 2 ^ t % 2 = (V % 2 ^ n / 2 ^ t) % 2 := by
    refine bit_at (u := N' * (V / 2 ^ n)) (k := V % 2 ^ n / 2 ^ t) (r := V % 2 ^ n % 2 ^ t) hp ?_ r0 r1
    have e2 : (2 : Int) ^ t * (2 * (N' * (V / 2 ^ n))) = 2 ^ n * (V / 2 ^ n) := by rw [hN, Int.mul_assoc, Int.mul_assoc]
    rw [Int.mul_add, e2]
    omega
  exact z.symm
theorem vals_pre {N : Int} : ∀ (ds : List Deed) (t : List Int), (vals N ds t).take t.length = t
  | [], t => List.take_length
  | d :: ds, t => by
    have h := vals_pre ds (t ++ [dval N d t]) (N := N)
    show (vals N ds (t ++ [dval N d t])).take t.length = t
    have h2 : ((vals N ds (t ++ [dval N d t])).take (t ++ [dval N d t]).length).take t.length = t := by
      rw [h]
      exact List.take_left
    rw [List.take_take, List.length_append, Nat.min_eq_left (by omega)] at h2
    exact h2
theorem vals_at {N : Int} {ds : List Deed} {xs : List Int} (i : Nat) (hi : i ≤ ds.length) : vals N (ds.take i) xs = (vals N ds xs).take (xs.length + i) := by
  have e : vals N ds xs = vals N (ds.drop i) (vals N (ds.take i) xs) := by rw [← vals_append, List.take_append_drop]
  have l : (vals N (ds.take i) xs).length = xs.length + i := by rw [vals_len, List.length_take, Nat.min_eq_left hi]
  rw [e, ← l, vals_pre]
theorem ix_lt {d : Deed} {n : Nat} (h : DeedOk n d) (hn : 1 ≤ n) (k : Nat) : (d.2.getD k 0).toNat < n := by
  rw [List.getD_eq_getElem?_getD]
  cases e : d.2[k]? with
  | none => exact hn
  | some i =>
    obtain ⟨h0, h1⟩ := h.ahead i (List.mem_of_getElem? e)
    show i.toNat < n
    omega
theorem arg_map {d : Deed} {told : List Int} (f : Int → Int) (h : DeedOk told.length d) (hn : 1 ≤ told.length) (k : Nat) : argAt d (told.map f) k = f (argAt d told k) := by
  have hi := ix_lt h hn k
  unfold argAt
  generalize (d.2.getD k 0).toNat = j at hi
  rw [List.getD_eq_getElem?_getD, List.getD_eq_getElem?_getD, List.getElem?_map, List.getElem?_eq_getElem hi]
  rfl
theorem arg_take {d : Deed} {v : List Int} {n : Nat} (h : DeedOk n d) (hn : 1 ≤ n) (hv : n ≤ v.length) (k : Nat) : argAt d (v.take n) k = argAt d v k := by
  have hi := ix_lt h hn k
  unfold argAt
  generalize (d.2.getD k 0).toNat = j at hi
  rw [List.getD_eq_getElem?_getD, List.getD_eq_getElem?_getD, List.getElem?_take, if_pos hi]
/-- the carries into bit t -/
structure CIs (v : List Int) (t : Nat) (ds : List Deed) (cs : List Int) : Prop where
  len : cs.length = ds.length
  each : ∀ (k : Nat) d c, ds[k]? = some d → cs[k]? = some c → CI d.1 (argAt d v 0) (argAt d v 1) (2 ^ t) c ∧ Bit c
theorem cis_first (v : List Int) (ds : List Deed) : CIs v 0 ds (ds.map fcD) where
  len := List.length_map ..
  each := fun k d c hd hc => by
    rw [List.getElem?_map, hd] at hc
    obtain rfl := Option.some.inj hc
    refine ⟨ci_first d _ _, ?_⟩
    unfold fcD
    split
    · exact bit1
    · exact bit0
theorem cis_bits {m n t : Nat} {ds : List Deed} {xs cs : List Int} (ok : DsOk m ds) (hm : xs.length = m) (m1 : 1 ≤ m) (hx : ∀ x ∈ xs, 0 ≤ x ∧ x < 2 ^ n) (ht : t < n) (h : CIs (vals (2 ^ n) ds xs) t ds cs) : bts ds cs (xs.map (bitA t)) = (vals (2 ^ n) ds xs).map (bitA t) := by
  have vr := vals_range (pw_pos n) ds xs hx
  have vl := vals_len (size := 2 ^ n) ds xs
  have key : ∀ i, i ≤ ds.length → bts (ds.take i) (cs.take i) (xs.map (bitA t)) = ((vals (2 ^ n) ds xs).take (xs.length + i)).map (bitA t) := by
    intro i
    induction i with
    | zero =>
      intro _
      rw [Nat.add_zero, vals_pre]
      cases ds <;> rfl
    | succ i ih =>
      intro hi
      have hd : ds[i]? = some ds[i] := List.getElem?_eq_getElem (by omega)
      have hc : cs[i]? = some (cs[i]'(by rw [h.len]; omega)) := List.getElem?_eq_getElem _
      obtain ⟨h1, h2⟩ := h.each i _ _ hd hc
      generalize ds[i] = d at hd h1
      generalize cs[i]'(by rw [h.len]; omega) = c at hc h1 h2
      have okd : DeedOk ((xs.length + i : Nat) : Int) d := by
        have := ok.each i d hd
        rw [hm]
        have e : ((m + i : Nat) : Int) = (m : Int) + (i : Int) := by omega
        rw [e]
        exact this
      have pl : ((vals (2 ^ n) ds xs).take (xs.length + i)).length = xs.length + i := by
        rw [List.length_take, vl]
        omega
      rw [bts_next hd hc, ih (by omega), ← vals_at (i + 1) hi, vals_next hd, vals_at i (by omega), List.map_append]
      congr 1
      show [dbitAt d c _] = [bitA t (dval (2 ^ n) d _)]
      unfold dbitAt dval
      rw [arg_map _ (by rw [pl]; exact okd) (by omega), arg_map _ (by rw [pl]; exact okd) (by omega), arg_take okd (by omega) (by omega), arg_take okd (by omega) (by omega), bit_mod ht]
      rw [dbit_tells (List.mem_map.mpr ⟨_, okd.word, rfl⟩) ht (arg_nn (fun x hx => (vr x hx).1) d 0) (arg_nn (fun x hx => (vr x hx).1) d 1) h2 h1]
  have e := key ds.length (Nat.le_refl _)
  rw [List.take_length, ← h.len, List.take_length, h.len, ← vl, List.take_length] at e
  exact e
theorem cis_next {m n t : Nat} {ds : List Deed} {xs cs : List Int} (ok : DsOk m ds) (hm : xs.length = m) (m1 : 1 ≤ m) (h : CIs (vals (2 ^ n) ds xs) t ds cs) : CIs (vals (2 ^ n) ds xs) (t + 1) ds (nxt ds cs ((vals (2 ^ n) ds xs).map (bitA t))) where
  len := nxt_len h.len.symm
  each := fun k d c hd hc => by
    unfold nxt at hc
    rw [List.getElem?_zipWith, hd] at hc
    cases e : cs[k]? with
    | none => rw [e] at hc; simp at hc
    | some c0 =>
      rw [e] at hc
      obtain rfl : dcarAt d c0 ((vals (2 ^ n) ds xs).map (bitA t)) = c := by simpa using hc
      obtain ⟨h1, h2⟩ := h.each k d c0 hd e
      have kl := (List.getElem?_eq_some_iff.mp hd).1
      have okd : DeedOk (vals (2 ^ n) ds xs).length d := by
        rw [vals_len]
        refine ⟨(ok.each k d hd).word, fun i hi => ?_⟩
        have := (ok.each k d hd).ahead i hi
        omega
      have l1 : 1 ≤ (vals (2 ^ n) ds xs).length := by
        rw [vals_len]
        omega
      unfold dcarAt
      rw [arg_map _ okd l1, arg_map _ okd l1]
      refine ⟨?_, dcar_bit (bitA_bit _ _) (bitA_bit _ _) h2⟩
      rw [Int.pow_succ, Int.mul_comm]
      exact ci_next (pw_pos t) h2 h1
/-- the carry come to by the words' bits -/
def crry (ds : List Deed) (xs : List Int) : Nat → List Int
  | 0 => ds.map fcD
  | t + 1 => nxt ds (crry ds xs t) (bts ds (crry ds xs t) (xs.map (bitA t)))
theorem crry_ok {m n : Nat} {ds : List Deed} {xs : List Int} (ok : DsOk m ds) (hm : xs.length = m) (m1 : 1 ≤ m) (hx : ∀ x ∈ xs, 0 ≤ x ∧ x < 2 ^ n) : ∀ t, t ≤ n → CIs (vals (2 ^ n) ds xs) t ds (crry ds xs t)
  | 0, _ => cis_first _ ds
  | t + 1, h => by
    have ih := crry_ok ok hm m1 hx t (by omega)
    show CIs _ (t + 1) ds (nxt ds (crry ds xs t) (bts ds (crry ds xs t) (xs.map (bitA t))))
    rw [cis_bits ok hm m1 hx (by omega) ih]
    exact cis_next ok hm m1 ih
theorem crry_bits {m n t : Nat} {ds : List Deed} {xs : List Int} (ok : DsOk m ds) (hm : xs.length = m) (m1 : 1 ≤ m) (hx : ∀ x ∈ xs, 0 ≤ x ∧ x < 2 ^ n) (ht : t < n) : bts ds (crry ds xs t) (xs.map (bitA t)) = (vals (2 ^ n) ds xs).map (bitA t) :=
  cis_bits ok hm m1 hx ht (crry_ok ok hm m1 hx t (by omega))
/-! ### the carries that come -/
inductive Rch (m : Nat) (ds : List Deed) : List Int → Prop
  | first : Rch m ds (ds.map fcD)
  | next {c bs : List Int} : Rch m ds c → bs.length = m → (∀ x ∈ bs, Bit x) → Rch m ds (nxt ds c (bts ds c bs))
theorem crry_rch (ds : List Deed) (xs : List Int) : ∀ t, Rch xs.length ds (crry ds xs t)
  | 0 => .first
  | t + 1 => .next (crry_rch ds xs t) (List.length_map ..) fun x hx => by
    obtain ⟨y, _, rfl⟩ := List.mem_map.mp hx
    exact bitA_bit t y
/-- bits, none where nothing carries -/
def Shp : List Deed → List Int → Prop
  | [], [] => True
  | d :: ds, c :: cs => Bit c ∧ (d.1 ∉ twC → c = 0) ∧ Shp ds cs
  | _, _ => False
theorem Shp.len : ∀ {ds : List Deed} {cs : List Int}, Shp ds cs → cs.length = ds.length
  | [], [], _ => rfl
  | [], _ :: _, h => h.elim
  | _ :: _, [], h => h.elim
  | _ :: _, _ :: _, h => congrArg (· + 1) (Shp.len h.2.2)
theorem Shp.bits : ∀ {ds : List Deed} {cs : List Int}, Shp ds cs → ∀ c ∈ cs, Bit c
  | [], [], _ => (fun _ z => nomatch z)
  | [], _ :: _, h => h.elim
  | _ :: _, [], h => h.elim
  | _ :: _, _ :: _, h => fun c hc => by
    rcases List.mem_cons.mp hc with rfl | hc
    · exact h.1
    · exact Shp.bits h.2.2 c hc
theorem calm_first {d : Deed} (h : d.1 ∉ twC) : fcD d = 0 := by
  unfold fcD
  rw [if_neg]
  intro z
  simp only [List.mem_cons, List.not_mem_nil, or_false] at z
  simp only [twC, List.mem_cons, List.not_mem_nil, or_false, not_or] at h
  rcases z with z | z
  · exact h.2.2.2.1 z
  · exact h.2.2.2.2 z
theorem calm_car {x : Str} (h : x ∉ twC) (a b c : Int) : dcar x a b c = 0 := by
  simp only [twC, List.mem_cons, List.not_mem_nil, or_false, not_or] at h
  obtain ⟨h1, h2, h3, h4, h5⟩ := h
  unfold dcar
  rw [if_neg h4, if_neg h3, if_neg h1, if_neg h2]
theorem shp_first : ∀ ds : List Deed, Shp ds (ds.map fcD)
  | [] => trivial
  | d :: ds => ⟨(by unfold fcD; split; exact bit1; exact bit0), calm_first, shp_first ds⟩
theorem shp_nxt {told : List Int} (hb : ∀ x ∈ told, Bit x) : ∀ {ds : List Deed} {cs : List Int}, Shp ds cs → Shp ds (nxt ds cs told)
  | [], [], _ => trivial
  | [], _ :: _, h => h.elim
  | _ :: _, [], h => h.elim
  | d :: ds, c :: cs, h => ⟨dcar_bit (argAt_bit hb d 0) (argAt_bit hb d 1) h.1, fun z => calm_car z _ _ _, shp_nxt hb h.2.2⟩
theorem rch_shp {m : Nat} {ds : List Deed} : ∀ {c : List Int}, Rch m ds c → Shp ds c := by
  intro c h
  induction h with
  | first => exact shp_first ds
  | next h hl hb ih => exact shp_nxt (bts_bits hb ih.bits) ih
def univ : List Deed → List (List Int)
  | [] => [[]]
  | d :: ds => if d.1 ∈ twC then (univ ds).map (0 :: ·) ++ (univ ds).map (1 :: ·) else (univ ds).map (0 :: ·)
theorem univ_len : ∀ ds : List Deed, (univ ds).length = 2 ^ carN ds
  | [] => rfl
  | d :: ds => by
    have ih := univ_len ds
    unfold univ carN
    by_cases h : d.1 ∈ twC
    · rw [if_pos h, if_pos h, List.length_append, List.length_map, List.length_map, ih, Nat.pow_succ]
      omega
    · rw [if_neg h, if_neg h, List.length_map, ih]
      rfl
theorem shp_univ : ∀ {ds : List Deed} {cs : List Int}, Shp ds cs → cs ∈ univ ds
  | [], [], _ => List.mem_cons_self
  | [], _ :: _, h => h.elim
  | _ :: _, [], h => h.elim
  | d :: ds, c :: cs, h => by
    have ih := shp_univ h.2.2
    unfold univ
    by_cases hd : d.1 ∈ twC
    · rw [if_pos hd]
      rcases h.1 with rfl | rfl
      · exact List.mem_append_left _ (List.mem_map.mpr ⟨cs, ih, rfl⟩)
      · exact List.mem_append_right _ (List.mem_map.mpr ⟨cs, ih, rfl⟩)
    · rw [if_neg hd, h.2.1 hd]
      exact List.mem_map.mpr ⟨cs, ih, rfl⟩
theorem pigeon {α : Type} [DecidableEq α] : ∀ (l D : List α), l.Nodup → (∀ x ∈ l, x ∈ D) → l.length ≤ D.length
  | [], _, _, _ => Nat.zero_le _
  | x :: l, D, nd, h => by
    rw [List.nodup_cons] at nd
    have hx := h x List.mem_cons_self
    have ih := pigeon l (D.erase x) nd.2 fun y hy => (List.mem_erase_of_ne (fun e : y = x => nd.1 (by rw [← e]; exact hy))).mpr (h y (List.mem_cons_of_mem _ hy))
    rw [List.length_erase_of_mem hx] at ih
    have := List.length_pos_of_mem hx
    rw [List.length_cons]
    omega
/-! ### all bits -/
theorem walk_gen {J : It} {n : Nat} {G : Hp → Prop} {Y : Nat → Hp → V → Hp → Prop} (w : Walk J n G Y) {g : TG} {σ0 : L2.St} {B : (Hp → Prop) → L2.St → Hp → Prop} {H0 : Hp} {Qd : Hp → Prop} (Pv : Nat → Hp → Prop) (h0 : Pv 0 H0)
    (hG : ∀ i H, i ≤ n → Pv i H → G H) (hs : ∀ i x H H', i < n → Pv i H → Y i H x H' → g x σ0 H' fun σ2 H2 => B (Pv (i + 1)) σ2 H2) (hd : ∀ H, Pv n H → Qd H) :
    ∃ W : Nat → Nat → Hp → Prop, (∃ m, W 0 m H0) ∧ ∀ i m H, W i m H → (J.stop i H ∧ Qd H) ∨ (J.go i H ∧ ∃ Nx : Hp → Prop, (∀ H', Nx H' → ∃ m', m' < m ∧ W (i + 1) m' H') ∧ ∀ x H', J.yld i H x H' → g x σ0 H' fun σ2 H2 => B Nx σ2 H2) := by
  refine ⟨fun i m H => m = n - i ∧ i ≤ n ∧ Pv i H, ⟨n, by simp, Nat.zero_le _, h0⟩, ?_⟩
  rintro i m H ⟨rfl, hi, q⟩
  by_cases lt : i < n
  · exact .inr ⟨w.goes i H lt (hG i H hi q), Pv (i + 1), fun H' z => ⟨n - (i + 1), by omega, rfl, lt, z⟩, fun x H' y => hs i x H H' lt q (w.yields i H x H' lt (hG i H hi q) y)⟩
  · obtain rfl : i = n := by omega
    exact .inl ⟨w.stops H (hG i H hi q), hd H q⟩
def ext2 (l : List (List Int)) : List (List Int) := l.flatMap fun b => [b ++ [0], b ++ [1]]
def allB : Nat → List (List Int)
  | 0 => [[]]
  | m + 1 => ext2 (allB m)
theorem ext2_len (l : List (List Int)) : (ext2 l).length = 2 * l.length := by
  unfold ext2
  induction l with
  | nil => rfl
  | cons b l ih => rw [List.flatMap_cons, List.length_append, ih, List.length_cons]; simp; omega
theorem allB_len : ∀ m, (allB m).length = 2 ^ m
  | 0 => rfl
  | m + 1 => by
    show (ext2 (allB m)).length = _
    rw [ext2_len, allB_len m, Nat.pow_succ]
    omega
theorem allB_ok : ∀ m, ∀ bs ∈ allB m, bs.length = m ∧ ∀ x ∈ bs, Bit x
  | 0, bs, h => by
    rw [List.mem_singleton.mp h]
    exact ⟨rfl, (fun _ z => nomatch z)⟩
  | m + 1, bs, h => by
    obtain ⟨b, hb, h2⟩ := List.mem_flatMap.mp h
    obtain ⟨h3, h4⟩ := allB_ok m b hb
    simp only [List.mem_cons, List.not_mem_nil, or_false] at h2
    rcases h2 with rfl | rfl
    · refine ⟨by rw [List.length_append, h3]; rfl, fun x hx => ?_⟩
      rcases List.mem_append.mp hx with hx | hx
      · exact h4 x hx
      · rw [List.mem_singleton.mp hx]
        exact bit0
    · refine ⟨by rw [List.length_append, h3]; rfl, fun x hx => ?_⟩
      rcases List.mem_append.mp hx with hx | hx
      · exact h4 x hx
      · rw [List.mem_singleton.mp hx]
        exact bit1
theorem allB_all : ∀ m, ∀ bs : List Int, bs.length = m → (∀ x ∈ bs, Bit x) → bs ∈ allB m
  | 0, bs, h, _ => by
    rw [List.eq_nil_of_length_eq_zero h]
    exact List.mem_cons_self
  | m + 1, bs, h, hb => by
    have hne : bs ≠ [] := fun e => by rw [e] at h; simp at h
    have e := List.dropLast_concat_getLast hne
    have h1 : bs.dropLast ∈ allB m := allB_all m _ (by rw [List.length_dropLast, h]; rfl) fun x hx => hb x ((List.dropLast_sublist bs).subset hx)
    refine List.mem_flatMap.mpr ⟨_, h1, ?_⟩
    rcases hb _ (List.getLast_mem hne) with z | z
    · rw [z] at e
      exact List.mem_cons.mpr (.inl e.symm)
    · rw [z] at e
      exact List.mem_cons.mpr (.inr (List.mem_singleton.mpr e.symm))
/-- tuples of ints -/
abbrev TAt (H : Hp) : List Addr → List (List Int) → Prop := Paired fun f bs => H f = some (.tup (bs.map V.int))
theorem tat_stay {H H' : Hp} (t : TupsStay H H') {fs : List Addr} {l : List (List Int)} (h : TAt H fs l) : TAt H' fs l := awMap (fun f b e => t f _ e) h
def spAll : Sp := fun vs H Q _ => ∃ m : Nat, vs = [.int (m : Int)] ∧ m ≤ 3 ∧ ∀ H' p fs, Same H H' → H p = none → H' p = some (.lst (fs.map V.ref)) → TAt H' fs (allB m) → Q (.ref p) H'
theorem ok_all {f : Addr} {fd : FuncData} {k : Nat} (F : Fun K "all_bits" "all_bits" s_all_bits f fd) (mr : mg "range" = none) : FnOk P w K mg base CX0 (k + 1) f fd ["many"] spAll := by
  refine F.ok sc_all_bits (fun vs H Q E h => ?_) (fun cdv A outer s H vs Q E hr h => ?_)
  · obtain ⟨m, rfl, _⟩ := h
    rfl
  · obtain ⟨m, rfl, m3, q⟩ := h
    refine ⟨_, pss_cons (ps_set (i := 1) sc_all_bits.nd rfl (.inl rfl) (pe_lst (pa_cons (pe_tup pa_nil) pa_nil)))
      (pss_cons (ps_for PassesOwn.never rfl (pi_range1 (by rfl) mr (pa_cons (pv 0) pa_nil)) (pg_name (i := 2) sc_all_bits.nd rfl (.inl rfl))
        (pss_one (ps_setLc2 (i := 1) (own := [("bits", 3), ("bit", 4)]) (vs1 := [4]) (g := gName 3) (g1 := gName 4) (wi1 := iTup K (tTup (tCons (tC (.int 0)) (tCons (tC (.int 1)) tNil)))) (by rfl) sc_all_bits.nd rfl rfl (sw_true rfl rfl rfl (by decide +kernel)) (pi_list (pv 1)) (blkOk_by (own := [("bits", 3), ("bit", 4)]) (N := N_all_bits) (sc := defScope s_all_bits) (by decide +kernel)) (by decide)
          (fun _ _ _ _ _ => pg_name (i := 3) sc_all_bits.nd rfl (Or.inl rfl)) (fun _ _ _ _ _ => pts_nil) (fun _ _ _ _ _ => pi_tup (pe_tup (pa_cons pe_int (pa_cons pe_int pa_nil))))
          (fun _ _ _ _ _ => pg_name (i := 4) sc_all_bits.nd rfl (Or.inl rfl)) (fun _ _ _ _ _ => pts_nil) (fun _ _ _ _ _ => pe_op op_catZ (pv 3) (pe_tup (pa_cons (pv 4) pa_nil))))))
      (pss_one (ps_ret (pv 1)))), ?_⟩
    refine ⟨by show 0 ≤ sizeLine; decide, fun T hT => ⟨by show 1 ≤ sizeLine; decide, fun L hL => ?_⟩⟩
    have s1 := same_new (o := .tup []) hT
    have s2 := same_new (o := .lst [.ref T]) hL
    refine ⟨.int m, rfl, m, rfl, by omega, by omega, for_range (lo := 0) (n := m) (fun i σ H3 => ∃ y2 F1 fs, σ = [some (.int (m : Int)), some (.ref F1), y2, none, none] ∧ H F1 = none ∧ H3 F1 = some (.lst (fs.map V.ref)) ∧ TAt H3 fs (allB i) ∧ Same H H3) ⟨none, L, [T], rfl, s1.free hL, upd_same, .cons (s2 _ _ upd_same) .nil, s1.trans s2⟩ (fun i σ H3 hi hp => ?_) (fun σ H3 hp => ?_)⟩
    · obtain ⟨y2, F1, fs, rfl, nF, eF, hf, sm⟩ := hp
      have fl : fs.length ≤ 8 := by
        rw [awLen hf, allB_len]
        exact Nat.le_trans (Nat.pow_le_pow_right (by decide) (show i ≤ 3 by omega)) (by decide)
      refine ⟨.ref F1, rfl, F1, rfl, ⟨_, .inl (.inl eF)⟩, fun M hM => ?_⟩
      refine walk_gen (walk_list (K := K) (a := F1) (xs := fs.map V.ref)) (fun j H4 => ∃ gs, H4 M = some (.lst (gs.map V.ref)) ∧ TAt H4 gs (ext2 ((allB i).take j)) ∧ Same H3 H4) ⟨[], upd_same, .nil, same_new hM⟩ (fun j H4 _ hp => ?_) (fun j x H4 H5 hj hp hy => ?_) (fun H4 hp => ?_)
      · obtain ⟨_, _, _, s4⟩ := hp
        exact .inl (.inl (s4 _ _ eF))
      · obtain ⟨gs, eM, hg, s4⟩ := hp
        obtain ⟨rfl, hx⟩ := hy
        have hj2 : j < fs.length := by rwa [List.length_map] at hj
        have hx' : x = .ref fs[j] := by
          rw [List.getElem?_map, List.getElem?_eq_getElem hj2] at hx
          exact (Option.some.inj hx).symm
        subst hx'
        obtain ⟨b, hb1, hb2⟩ := awGet hf (List.getElem?_eq_getElem hj2)
        have bl : b.length = i := (allB_ok i b (List.mem_of_getElem? hb1)).1
        refine ⟨rfl, by show 2 ≤ sizeLine; decide, fun U hU => ?_⟩
        have sU := same_new (o := .tup [.int 0, .int 1]) hU
        refine ⟨U, rfl, ⟨_, SqT.of upd_same⟩, ?_⟩
        refine walk_gen (walk_tup (K := K) (a := U) (xs := [.int 0, .int 1])) (fun t H6 => ∃ gs, H6 M = some (.lst (gs.map V.ref)) ∧ TAt H6 gs (ext2 ((allB i).take j) ++ [b ++ [0], b ++ [1]].take t) ∧ TupsStay (upd H5 U (.tup [.int 0, .int 1])) H6 ∧ Same H3 H6) ⟨gs, sU _ _ eM, (by rw [List.take_zero, List.append_nil]; exact tat_stay (Same.tups sU) hg), (fun _ _ e => e), s4.trans sU⟩ (fun t H6 _ hp => ?_) (fun t x H6 H7 ht hp hy => ?_) (fun H6 hp => ?_)
        · obtain ⟨_, _, _, t6, _⟩ := hp
          exact SqT.of (t6 _ _ upd_same)
        · obtain ⟨gs, eM6, hg6, t6, s6⟩ := hp
          obtain ⟨rfl, hx⟩ := hy
          obtain ⟨z, rfl, hz⟩ : ∃ z : Int, x = .int z ∧ [b ++ [0], b ++ [1]].take (t + 1) = [b ++ [0], b ++ [1]].take t ++ [b ++ [z]] := by
            have ht2 : t = 0 ∨ t = 1 := by
              have : t < 2 := ht
              omega
            rcases ht2 with rfl | rfl
            · exact ⟨0, (Option.some.inj hx).symm, rfl⟩
            · exact ⟨1, (Option.some.inj hx).symm, rfl⟩
          have eb := s6 _ _ (hb2)
          refine ⟨rfl, .ref fs[j], rfl, .int z, rfl, by show 1 ≤ sizeLine; decide, fun U2 hU2 => ?_⟩
          have sU2 := same_new (o := .tup [.int z]) hU2
          refine ⟨fs[j], U2, _, _, rfl, rfl, sU2 _ _ eb, upd_same, by rw [List.length_map]; exact Nat.le_of_lt (small1000 (by show b.length + 1 ≤ 1000; omega)), fun p H8 s8 ep => ?_⟩
          have s78 := sU2.trans s8
          have eM8 := s78 _ _ eM6
          have gl := awLen hg6
          have gl2 : gs.length ≤ 18 := by
            rw [gl, List.length_append, ext2_len, List.length_take]
            have e1 : (allB i).length = fs.length := (awLen hf).symm
            have e2 : ([b ++ [0], b ++ [1]].take t).length ≤ 2 := by
              rw [List.length_take]
              exact Nat.min_le_right _ _
            omega
          have tp := tups_put (o := .lst (gs.map V.ref ++ [V.ref p])) eM8
          refine ⟨_, eM8, by rw [List.length_map]; exact small1000 (by omega), gs ++ [p], ?_, ?_, ?_, ?_⟩
          · rw [upd_same, List.map_append]
            rfl
          · rw [hz, ← List.append_assoc]
            refine tat_stay tp (awSnoc (F := fun f (bs : List Int) => H8 f = some (.tup (bs.map V.int))) ?_ (tat_stay (Same.tups s78) hg6))
            rw [ep, List.map_append]
            rfl
          · exact (t6.trans (Same.tups s78)).trans tp
          · intro c u e
            rw [upd_ne (ne_of_none e hM)]
            exact s78 c u (s6 c u e)
        · obtain ⟨gs, eM6, hg6, t6, s6⟩ := hp
          refine ⟨gs, eM6, ?_, s6⟩
          have e1 : ext2 ((allB i).take (j + 1)) = ext2 ((allB i).take j) ++ [b ++ [0], b ++ [1]] := by
            rw [List.take_add_one, hb1]
            unfold ext2
            rw [List.flatMap_append]
            rfl
          rw [e1]
          exact hg6
      · obtain ⟨gs, eM, hg, s4⟩ := hp
        refine ⟨some (.int (0 + i)), M, gs, rfl, sm.free hM, eM, ?_, sm.trans s4⟩
        rw [List.length_map, awLen hf, List.take_length] at hg
        exact hg
    · obtain ⟨y2, F1, fs, rfl, nF, eF, hf, sm⟩ := hp
      exact ⟨.ref F1, rfl, q _ F1 fs sm nF eF hf⟩
/-! ### carry_behind, steps, kept_steps -/
def spCb : Sp := fun vs H Q _ => ∃ (R C T : Addr) (m o : Int) (ds : List Deed) (cs told : List Int), vs = [.ref R, .ref C, .ref T] ∧ RowAt H R m ds o ∧ DsOk m ds ∧ ds.length ≤ 100 ∧ H C = some (.tup (cs.map V.int)) ∧ cs.length = ds.length ∧ H T = some (.tup (told.map V.int)) ∧ (told.length : Int) = m + ds.length ∧
  ∀ H' p, Same H H' → H p = none → H' p = some (.tup ((nxt ds cs told).map V.int)) → Q (.ref p) H'
theorem ok_cb {f fC : Addr} {fd fdC : FuncData} {k : Nat} (F : Fun K "carry_behind" "carry_behind" s_carry_behind f fd)
    (GC : FnOk P w K mg base CX0 (k + 2) fC fdC ["deed", "held", "told"] spDc) (kC : PySem.W.keepIn K (.ref fC) = true) (bC : Binds K fdC ["deed", "held", "told"] []) (gC : mg "deed_carry" = some (.ref fC)) (mt : mg "tuple" = none) (mz : mg "zip" = none) : FnOk P w K mg base CX0 (k + 3) f fd ["row", "carry", "told"] spCb := by
  refine F.ok sc_carry_behind (fun vs H Q E h => ?_) (fun cdv A outer s H vs Q E hr h => ?_)
  · obtain ⟨R, C, T, m, o, ds, cs, told, rfl, _⟩ := h
    rfl
  · obtain ⟨R, C, T, m, o, ds, cs, told, rfl, hrow, hok, hds, eC, hcl, eT, htl, q⟩ := h
    obtain ⟨D, rs, eR, eD, hd⟩ := id hrow
    refine ⟨_, pss_one (ps_ret (pe_callTy call_tuple_of (by rfl) mt (by decide +kernel) (pa_cons
        (pe_lc (own := [("deed", 3), ("held", 4)]) (g := gTup K 2 (gCons (gName 3) (gCons (gName 4) gNil))) (by rfl) sc_carry_behind.nd (RZ.pi_zipA (by rfl) mz (pa_cons (pe_ix ix_tup (pv 0) pe_int (fun _ _ => rfl)) (pa_cons (pv 1) pa_nil))) (blkOk_by (own := [("deed", 3), ("held", 4)]) (N := N_carry_behind) (sc := defScope s_carry_behind) (by decide +kernel))
          (fun _ _ _ _ _ => pg_tup rfl (pgs_cons (pg_name (i := 3) sc_carry_behind.nd rfl (.inl rfl)) (pgs_cons (pg_name (i := 4) sc_carry_behind.nd rfl (.inl rfl)) pgs_nil))) (fun _ _ _ _ _ => pts_nil)
          (fun _ _ _ _ _ => pe_call GC hr (by rfl) gC kC bC .nil pass0 (pa_cons (pv 3) (pa_cons (pv 4) (pa_cons (pv 2) pa_nil))))) pa_nil))), ?_⟩
    have lrs : (rs.map V.ref).length = ds.length := by rw [List.length_map, awLen hd]
    have lcs : (cs.map V.int).length = ds.length := by rw [List.length_map, hcl]
    refine ⟨.ref R, rfl, R, _, 1, .ref D, rfl, rfl, SqT.of eR, rfl, .ref C, rfl, D, C, _, _, rfl, .inr ⟨SqT.of eD, SqT.of eC, fun L hL => ?_⟩⟩
    refine lc_it (walk_zipT (K := K) (a := D) (b := C) (xs := rs.map V.ref) (ys := cs.map V.int) (lrs.trans lcs.symm)) (fun i H4 => H4 L = some (.lst (((nxt ds cs told).take i).map V.int)) ∧ Same H H4) ⟨upd_same, same_new hL⟩ (fun i H4 _ hp => ⟨SqT.of (hp.2 _ _ eD), SqT.of (hp.2 _ _ eC)⟩) (fun i x H4 H5 hi hp hy => ?_) (fun H4 hp => ?_)
    · obtain ⟨eL, sm⟩ := hp
      obtain ⟨U, x1, x2, rfl, hU, rfl, g1, g2⟩ := hy
      have hi2 : i < rs.length := by rwa [List.length_map] at hi
      have hx' : x1 = .ref rs[i] := by
        have g1' : (rs.map V.ref)[i]? = some x1 := g1
        rw [List.getElem?_map, List.getElem?_eq_getElem hi2] at g1'
        exact (Option.some.inj g1').symm
      subst hx'
      obtain ⟨d, hd1, hd2⟩ := awGet hd (List.getElem?_eq_getElem hi2)
      obtain ⟨c, hc, rfl⟩ : ∃ c, cs[i]? = some c ∧ x2 = .int c := by
        have g2' : (cs.map V.int)[i]? = some x2 := g2
        rw [List.getElem?_map] at g2'
        cases e : cs[i]? with
        | none => rw [e] at g2'; cases g2'
        | some c => rw [e] at g2'; exact ⟨c, rfl, (Option.some.inj g2').symm⟩
      have h2 : i < ds.length := by
        rw [← awLen hd]
        exact hi2
      have okd : DeedOk told.length d := okd_more (hok.each i d hd1) (by omega)
      have sU := same_new (o := .tup [.ref rs[i], .int c]) hU
      refine ⟨U, [.ref rs[i], .int c], rfl, .inl (.inl upd_same), rfl, .ref rs[i], [.int c], rfl, .int c, [], rfl, rfl, rfl, ?_⟩
      refine ⟨.ref rs[i], rfl, .int c, rfl, .ref T, rfl, rs[i], T, d, _, c, rfl, sU _ _ (sm _ _ hd2), sU _ _ (sm _ _ eT), okd, _, sU _ _ eL, ?_, ?_, ?_⟩
      · rw [List.length_map, List.length_take, nxt_len hcl.symm]
        exact small1000 (by omega)
      · rw [upd_same, nxt_next hd1 hc, List.map_append]
        rfl
      · intro b u e
        rw [upd_ne (ne_of_none e hL)]
        exact sU b u (sm b u e)
    · obtain ⟨eL, sm⟩ := hp
      rw [lrs, ← nxt_len (t := told) hcl.symm, List.take_length] at eL
      refine ⟨L, _, rfl, .inl ⟨.inl (.inl eL), fun p hp => ?_⟩⟩
      exact q _ p (sm.trans (same_new hp)) (sm.free hp) upd_same
/-- the steps of a carry: for all bits the bit of out and the next carry -/
def stp (m : Nat) (ds : List Deed) (o : Int) (cs : List Int) : List (Int × List Int) := (allB m).map fun bs => ((bts ds cs bs).getD o.toNat 0, nxt ds cs (bts ds cs bs))
theorem stp_len (m : Nat) (ds : List Deed) (o : Int) (cs : List Int) : (stp m ds o cs).length = 2 ^ m := by
  unfold stp
  rw [List.length_map, allB_len]
abbrev StAt (H : Hp) : List Addr → List (Int × List Int) → Prop := Paired fun q e => ∃ c, H q = some (.tup [.int e.1, .ref c]) ∧ H c = some (.tup (e.2.map V.int))
theorem stat_stay {H H' : Hp} (t : TupsStay H H') {ps : List Addr} {l : List (Int × List Int)} (h : StAt H ps l) : StAt H' ps l := awMap (fun q e z => z.elim fun c y => ⟨c, t _ _ y.1, t _ _ y.2⟩) h
def spSt : Sp := fun vs H Q _ => ∃ (R C : Addr) (m : Nat) (o : Int) (ds : List Deed) (cs : List Int), vs = [.ref R, .ref C] ∧ RowAt H R m ds o ∧ RowOk m ds o ∧ H C = some (.tup (cs.map V.int)) ∧ cs.length = ds.length ∧
  ∀ H' p ps, Same H H' → H p = none → H' p = some (.lst (ps.map V.ref)) → StAt H' ps (stp m ds o cs) → Q (.ref p) H'
theorem ok_st {f fA fB fC : Addr} {fd fdA fdB fdC : FuncData} {k : Nat} (F : Fun K "steps" "steps" s_steps f fd)
    (GA : FnOk P w K mg base CX0 (k + 1) fA fdA ["many"] spAll) (kA : PySem.W.keepIn K (.ref fA) = true) (bA : Binds K fdA ["many"] []) (gA : mg "all_bits" = some (.ref fA))
    (GB : FnOk P w K mg base CX0 (k + 2) fB fdB ["row", "carry", "bits"] spBo) (kB : PySem.W.keepIn K (.ref fB) = true) (bB : Binds K fdB ["row", "carry", "bits"] []) (gB : mg "bits_of" = some (.ref fB))
    (GC : FnOk P w K mg base CX0 (k + 3) fC fdC ["row", "carry", "told"] spCb) (kC : PySem.W.keepIn K (.ref fC) = true) (bC : Binds K fdC ["row", "carry", "told"] []) (gC : mg "carry_behind" = some (.ref fC)) : FnOk P w K mg base CX0 (k + 4) f fd ["row", "carry"] spSt := by
  refine F.ok sc_steps (fun vs H Q E h => ?_) (fun cdv A outer s H vs Q E hr h => ?_)
  · obtain ⟨R, C, m, o, ds, cs, rfl, _⟩ := h
    rfl
  · obtain ⟨R, C, m, o, ds, cs, rfl, hrow, hok, eC, hcl, q⟩ := h
    obtain ⟨D, rs, eR, eD, hd⟩ := id hrow
    have r1 := hr.mono (show k + 1 ≤ k + 3 by omega)
    have r2 := hr.mono (show k + 2 ≤ k + 3 by omega)
    refine ⟨_, pss_cons (ps_set (i := 2) sc_steps.nd rfl (.inl rfl) (pe_lst pa_nil))
      (pss_cons (ps_for PassesOwn.never rfl (pi_list (pe_call GA r1 (by rfl) gA kA bA .nil pass0 (pa_cons (pe_ix ix_tup (pv 0) pe_int (fun _ _ => rfl)) pa_nil))) (pg_name (i := 3) sc_steps.nd rfl (.inl rfl))
        (pss_cons (ps_set (i := 4) sc_steps.nd rfl (.inl rfl) (pe_call GB r2 (by rfl) gB kB bB .nil pass0 (pa_cons (pv 0) (pa_cons (pv 1) (pa_cons (pv 3) pa_nil)))))
        (pss_one (ps_expr (pe_bm PySem.F.plainAttrs_list PySem.F.slot_list_append PySem.F.type_list_append mt_append (pv 2) (pa_cons (pe_tup (pa_cons (pe_ix ix_tup (pv 4) (pe_ix ix_tup (pv 0) pe_int (fun _ _ => rfl)) (fun _ _ => rfl)) (pa_cons (pe_call GC hr (by rfl) gC kC bC .nil pass0 (pa_cons (pv 0) (pa_cons (pv 1) (pa_cons (pv 4) pa_nil)))) pa_nil))) pa_nil))))))
      (pss_one (ps_ret (pv 2)))), ?_⟩
    have m1 := hok.m1
    have m3 := hok.m3
    have l8 := hok.len
    refine ⟨Nat.zero_le _, fun L hL => ?_⟩
    have sL := same_new (o := .lst []) hL
    refine ⟨.ref R, rfl, R, _, 0, .int m, rfl, rfl, SqT.of (sL _ _ eR), rfl, m, rfl, by omega, fun H1 B fs s1 nB eB hf => ?_⟩
    have nLB : B ≠ L := fun z => by rw [z, upd_same] at nB; cases nB
    have fl : fs.length = 2 ^ m := by rw [awLen hf, allB_len]
    have f8 : fs.length ≤ 8 := by
      rw [fl]
      exact Nat.le_trans (Nat.pow_le_pow_right (by decide) (show m ≤ 3 by omega)) (by decide)
    have old : ∀ H5 o, Same H H5 → Same H (upd H5 L o) := fun H5 o s5 b u e => by
      rw [upd_ne (ne_of_none e hL)]
      exact s5 b u e
    refine ⟨B, rfl, ⟨_, .inl (.inl eB)⟩, for_list (K := K) (a := B) (xs := fs.map V.ref) (fun i σ H3 => ∃ y3 y4 ps, σ = [some (.ref R), some (.ref C), some (.ref L), y3, y4] ∧ H3 L = some (.lst (ps.map V.ref)) ∧ StAt H3 ps ((stp m ds o cs).take i) ∧ H3 B = some (.lst (fs.map V.ref)) ∧ TAt H3 fs (allB m) ∧ Same H H3)
      ⟨none, none, [], rfl, s1 _ _ upd_same, .nil, eB, hf, sL.trans s1⟩ (fun i σ H3 _ hp => ?_) (fun i x σ H3 hx hp => ?_) (fun σ H3 hp => ?_)⟩
    · obtain ⟨_, _, _, _, _, _, e, _⟩ := hp
      exact .inl (.inl e)
    · obtain ⟨y3, y4, ps, rfl, eL, hs, eB3, hf3, s3⟩ := hp
      have hi : i < fs.length := by
        have := (List.getElem?_eq_some_iff.mp hx).1
        rwa [List.length_map] at this
      have hx' : x = .ref fs[i] := by
        rw [List.getElem?_map, List.getElem?_eq_getElem hi] at hx
        exact (Option.some.inj hx).symm
      subst hx'
      obtain ⟨bs, hb1, hb2⟩ := awGet hf3 (List.getElem?_eq_getElem hi)
      obtain ⟨bl, bb⟩ := allB_ok m bs (List.mem_of_getElem? hb1)
      refine ⟨.ref R, rfl, .ref C, rfl, .ref fs[i], rfl, R, C, fs[i], m, o, ds, cs, bs, rfl, (Same.tups s3).row hrow, hok.deeds, by omega, s3 _ _ eC, hcl, hb2, by rw [bl], by omega, fun H4 T s4 nT eT => ?_⟩
      have tl : (bts ds cs bs).length = m + ds.length := by rw [bts_len hcl.symm, bl]
      have o0 := hok.o0
      have o1 := hok.o1
      refine ⟨.ref L, rfl, .inl ⟨rfl, _, .inl (.inl (s4 _ _ eL))⟩, .ref T, rfl, .ref R, rfl, R, _, 2, .int o, rfl, rfl, SqT.of (s4 _ _ (s3 _ _ eR)), rfl, T, _, o, _, rfl, rfl, SqT.of eT, atI_ints o0 (by omega), ?_⟩
      refine ⟨.ref R, rfl, .ref C, rfl, .ref T, rfl, R, C, T, m, o, ds, cs, _, rfl, (Same.tups (s3.trans s4)).row hrow, hok.deeds, by omega, s4 _ _ (s3 _ _ eC), hcl, eT, by rw [tl]; omega, fun H5 N s5 nN eN => ?_⟩
      refine ⟨by show 2 ≤ sizeLine; decide, fun p hp => ?_⟩
      have sp := same_new (o := .tup [.int ((bts ds cs bs).getD o.toNat 0), .ref N]) hp
      have s46 := (s4.trans s5).trans sp
      have eL6 := s46 _ _ eL
      have e1 : (stp m ds o cs)[i]? = some ((bts ds cs bs).getD o.toNat 0, nxt ds cs (bts ds cs bs)) := by
        unfold stp
        rw [List.getElem?_map, hb1]
        rfl
      have pl := awLen hs
      rw [List.length_take] at pl
      have tp := tups_put (o := .lst (ps.map V.ref ++ [V.ref p])) eL6
      refine ⟨L, _, _, rfl, rfl, eL6, ?_, some (.ref fs[i]), some (.ref T), ps ++ [p], rfl, ?_, ?_, ?_, ?_, ?_⟩
      · rw [List.length_map]
        exact small1000 (by omega)
      · rw [upd_same, List.map_append]
        rfl
      · rw [List.take_add_one, e1]
        exact stat_stay tp (awSnoc (F := fun (q : Addr) (e : Int × List Int) => ∃ c, (upd H5 p (.tup [.int ((bts ds cs bs).getD o.toNat 0), .ref N])) q = some (.tup [.int e.1, .ref c]) ∧ (upd H5 p (.tup [.int ((bts ds cs bs).getD o.toNat 0), .ref N])) c = some (.tup (e.2.map V.int))) ⟨N, upd_same, sp _ _ eN⟩ (stat_stay (Same.tups s46) hs))
      · rw [upd_ne nLB]
        exact s46 _ _ eB3
      · exact tat_stay tp (tat_stay (Same.tups s46) hf3)
      · exact old _ _ (s3.trans s46)
    · obtain ⟨y3, y4, ps, rfl, eL, hs, eB3, hf3, s3⟩ := hp
      rw [List.length_map, fl, ← stp_len m ds o cs, List.take_length] at hs
      exact ⟨.ref L, rfl, q _ L ps s3 hL eL hs⟩
/-! ### dicts by lists of ints -/
abbrev kI (c : List Int) : List Key := c.map Sum.inl
theorem kI_V (c : List Int) : (kI c).map kV = c.map V.int := by
  rw [List.map_map]
  rfl
theorem ints_inj : ∀ {a b : List Int}, a.map V.int = b.map V.int → a = b
  | [], [], _ => rfl
  | [], _ :: _, h => nomatch h
  | _ :: _, [], h => nomatch h
  | x :: a, y :: b, h => by
    rw [List.map_cons, List.map_cons, List.cons.injEq] at h
    rw [V.int.inj h.1, ints_inj h.2]
theorem kI_inj {a b : List Int} (h : kI a = kI b) : a = b := by
  have e := congrArg (List.map kV) h
  rw [kI_V, kI_V] at e
  exact ints_inj e
section tab
variable {α : Type}
def emb (f : α → V) (es : List (List Int × α)) : List (List Key × V) := es.map fun e => (kI e.1, f e.2)
def getA (es : List (List Int × α)) (c : List Int) : Option α := (es.find? fun e => decide (e.1 = c)).map (·.2)
def putA (es : List (List Int × α)) (c : List Int) (v : α) : List (List Int × α) := if c ∈ es.map (·.1) then es.map (fun e => if e.1 = c then (e.1, v) else e) else es ++ [(c, v)]
theorem emb_get (f : α → V) (c : List Int) : ∀ es : List (List Int × α), valV (emb f es) (kI c) = (getA es c).map f
  | [] => rfl
  | e :: es => by
    have ih := emb_get f c es
    unfold emb getA at *
    rw [List.map_cons, List.find?_cons]
    by_cases h : e.1 = c
    · rw [valV_pos (show (kI e.1, f e.2).1 = kI c by rw [h]), decide_eq_true h]
      rfl
    · rw [valV_neg (fun z => h (kI_inj z)), decide_eq_false h]
      exact ih
theorem getA_none {c : List Int} : ∀ {es : List (List Int × α)}, getA es c = none ↔ c ∉ es.map (·.1)
  | [] => by simp [getA]
  | e :: es => by
    have ih := getA_none (c := c) (es := es)
    unfold getA at *
    rw [List.find?_cons, List.map_cons, List.mem_cons, not_or]
    by_cases h : e.1 = c
    · simp [h]
    · rw [decide_eq_false h]
      exact ⟨fun z => ⟨fun y => h y.symm, ih.mp z⟩, fun z => ih.mpr z.2⟩
theorem getA_some {c : List Int} {v : α} {es : List (List Int × α)} (h : getA es c = some v) : (c, v) ∈ es := by
  unfold getA at h
  cases e : es.find? fun e => decide (e.1 = c) with
  | none => rw [e] at h; cases h
  | some p =>
    rw [e] at h
    have h1 := List.mem_of_find?_eq_some e
    have h2 : p.1 = c := of_decide_eq_true (List.find?_some (p := fun e : List Int × α => decide (e.1 = c)) e)
    obtain rfl : p.2 = v := Option.some.inj h
    rw [← h2]
    exact h1
theorem getA_of {c : List Int} {v : α} : ∀ {es : List (List Int × α)}, (es.map (·.1)).Nodup → (c, v) ∈ es → getA es c = some v
  | [], _, h => nomatch h
  | e :: es, nd, h => by
    rw [List.map_cons, List.nodup_cons] at nd
    unfold getA
    rw [List.find?_cons]
    rcases List.mem_cons.mp h with h | h
    · rw [← h]
      simp
    · have hne : ¬ e.1 = c := fun z => nd.1 (z ▸ List.mem_map.mpr ⟨_, h, rfl⟩)
      rw [decide_eq_false hne]
      exact getA_of nd.2 h
theorem emb_put (f : α → V) (es : List (List Int × α)) (c : List Int) (v : α) : putK (emb f es) (kI c) (f v) = emb f (putA es c v) := by
  unfold putK putA
  by_cases h : c ∈ es.map (·.1)
  · rw [if_pos h, if_pos]
    · unfold emb
      rw [List.map_map, List.map_map]
      apply List.map_congr_left
      intro e _
      show (if kI e.1 = kI c then (kI e.1, f v) else (kI e.1, f e.2)) = _
      by_cases he : e.1 = c
      · rw [if_pos (congrArg kI he)]
        simp [he]
      · rw [if_neg (fun z => he (kI_inj z))]
        simp [he]
    · rw [List.any_eq_true]
      obtain ⟨e, h1, h2⟩ := List.mem_map.mp h
      exact ⟨(kI e.1, f e.2), List.mem_map.mpr ⟨e, h1, rfl⟩, by simp [h2]⟩
  · rw [if_neg h, if_neg]
    · unfold emb
      rw [List.map_append]
      rfl
    · intro z
      rw [List.any_eq_true] at z
      obtain ⟨p, h1, h2⟩ := z
      obtain ⟨e, h3, rfl⟩ := List.mem_map.mp h1
      exact h (List.mem_map.mpr ⟨e, h3, kI_inj (of_decide_eq_true h2)⟩)
theorem putA_keys {es : List (List Int × α)} {c : List Int} {v : α} : (putA es c v).map (·.1) = if c ∈ es.map (·.1) then es.map (·.1) else es.map (·.1) ++ [c] := by
  unfold putA
  split
  · rw [List.map_map]
    apply List.map_congr_left
    intro e _
    show (if e.1 = c then (e.1, v) else e).1 = e.1
    split <;> rfl
  · rw [List.map_append]
    rfl
theorem putA_nodup {es : List (List Int × α)} {c : List Int} {v : α} (h : (es.map (·.1)).Nodup) : ((putA es c v).map (·.1)).Nodup := by
  rw [putA_keys]
  split
  · exact h
  · rename_i hn
    rw [List.nodup_append]
    refine ⟨h, by simp, fun a ha b hb => ?_⟩
    rw [List.mem_singleton.mp hb]
    exact fun z => hn (z ▸ ha)
theorem mem_putA {es : List (List Int × α)} {c : List Int} {v : α} {e : List Int × α} : e ∈ putA es c v ↔ e = (c, v) ∨ (e ∈ es ∧ e.1 ≠ c) := by
  unfold putA
  by_cases h : c ∈ es.map (·.1)
  · rw [if_pos h, List.mem_map]
    constructor
    · rintro ⟨a, h1, rfl⟩
      by_cases ha : a.1 = c
      · rw [if_pos ha, ha]
        exact .inl rfl
      · rw [if_neg ha]
        exact .inr ⟨h1, ha⟩
    · rintro (rfl | ⟨h1, h2⟩)
      · obtain ⟨a, h1, h2⟩ := List.mem_map.mp h
        exact ⟨a, h1, by rw [if_pos h2, h2]⟩
      · exact ⟨e, h1, if_neg h2⟩
  · rw [if_neg h, List.mem_append, List.mem_singleton]
    constructor
    · rintro (h1 | h1)
      · exact .inr ⟨h1, fun z => h (z ▸ List.mem_map.mpr ⟨e, h1, rfl⟩)⟩
      · exact .inl h1
    · rintro (h1 | h1)
      · exact .inr h1
      · exact .inl h1.1
end tab
/-- few: all keys are bits, as many as there are deeds -/
theorem few_keys {α : Type} {n : Nat} {es : List (List Int × α)} (nd : (es.map (·.1)).Nodup) (hb : ∀ e ∈ es, e.1.length = n ∧ ∀ x ∈ e.1, Bit x) (hn : n ≤ 8) : es.length ≤ 256 := by
  have h := pigeon (es.map (·.1)) (allB n) nd fun c hc => by
    obtain ⟨e, he, rfl⟩ := List.mem_map.mp hc
    exact allB_all n _ (hb e he).1 (hb e he).2
  rw [List.length_map, allB_len] at h
  exact Nat.le_trans h (Nat.le_trans (Nat.pow_le_pow_right (by decide) hn) (by decide))
/-! ### machines of all carries -/
/-- things come in the order in which they are first met -/
def FOrd {L : Type} (nx : L → List (Int × L)) (cs : List L) : Prop := ∀ (k : Nat) (c : L), 0 < k → cs[k]? = some c → ∃ (p t : Nat) (a : L) (s : Int × L), p < k ∧ cs[p]? = some a ∧ (nx a)[t]? = some s ∧ s.2 = c ∧
  ∀ (p' t' : Nat) (a' : L) (s' : Int × L), (p' < p ∨ p' = p ∧ t' < t) → cs[p']? = some a' → (nx a')[t']? = some s' → ∃ j, j < k ∧ cs[j]? = some s'.2
theorem FOrd.one {L : Type} {nx : L → List (Int × L)} {c : L} : FOrd nx [c] := fun k c' h1 h2 => by
  have := (List.getElem?_eq_some_iff.mp h2).1
  simp only [List.length_cons, List.length_nil] at this
  omega
theorem FOrd.push {L : Type} {nx : L → List (Int × L)} {cs : List L} (h : FOrd nx cs) {p t : Nat} {a : L} {s : Int × L} (hp : cs[p]? = some a) (hs : (nx a)[t]? = some s)
    (all : ∀ (p' t' : Nat) (a' : L) (s' : Int × L), (p' < p ∨ p' = p ∧ t' < t) → cs[p']? = some a' → (nx a')[t']? = some s' → ∃ j : Nat, cs[j]? = some s'.2) : FOrd nx (cs ++ [s.2]) := by
  have pl := (List.getElem?_eq_some_iff.mp hp).1
  have up : ∀ (i : Nat) (x : L), cs[i]? = some x → (cs ++ [s.2])[i]? = some x := fun i x e => by rw [List.getElem?_append_left (List.getElem?_eq_some_iff.mp e).1]; exact e
  have dn : ∀ (i : Nat) (x : L), i < cs.length → (cs ++ [s.2])[i]? = some x → cs[i]? = some x := fun i x hi e => by rwa [List.getElem?_append_left hi] at e
  intro k c hk hc
  by_cases hl : k < cs.length
  · obtain ⟨p1, t1, a1, s1, e1, e2, e3, e4, e5⟩ := h k c hk (dn k c hl hc)
    refine ⟨p1, t1, a1, s1, e1, up _ _ e2, e3, e4, fun p' t' a' s' h1 h2 h3 => ?_⟩
    obtain ⟨j, g1, g2⟩ := e5 p' t' a' s' h1 (dn p' a' (by omega) h2) h3
    exact ⟨j, g1, up _ _ g2⟩
  · have kl := (List.getElem?_eq_some_iff.mp hc).1
    rw [List.length_append] at kl
    simp only [List.length_cons, List.length_nil] at kl
    have ek : k = cs.length := by omega
    subst ek
    rw [List.getElem?_append_right (Nat.le_refl _), Nat.sub_self] at hc
    refine ⟨p, t, a, s, pl, up _ _ hp, hs, Option.some.inj hc, fun p' t' a' s' h1 h2 h3 => ?_⟩
    obtain ⟨j, g⟩ := all p' t' a' s' h1 (dn p' a' (by omega) h2) h3
    exact ⟨j, (List.getElem?_eq_some_iff.mp g).1, up _ _ g⟩
theorem nd_idx {L : Type} {cs : List L} (nd : cs.Nodup) {i j : Nat} {x : L} (h1 : cs[i]? = some x) (h2 : cs[j]? = some x) : i = j := by
  have l1 := (List.getElem?_eq_some_iff.mp h1).1
  exact (List.getElem?_inj l1 nd).mp (h1.trans h2.symm)
/-- there is one such order only -/
theorem ford_pre {L : Type} {nx : L → List (Int × L)} {cs cs' : List L} (nd : cs.Nodup) (nd' : cs'.Nodup) (h0 : cs[0]? = cs'[0]?) (f : FOrd nx cs) (f' : FOrd nx cs') :
    ∀ (n k : Nat) (c c' : L), k < n → cs[k]? = some c → cs'[k]? = some c' → c = c'
  | 0, _, _, _, h, _, _ => absurd h (Nat.not_lt_zero _)
  | n + 1, k, c, c', hk, e, e' => by
    have ih := ford_pre nd nd' h0 f f' n
    by_cases hz : k = 0
    · subst hz
      rw [e, e'] at h0
      exact Option.some.inj h0
    have kl := (List.getElem?_eq_some_iff.mp e).1
    have kl' := (List.getElem?_eq_some_iff.mp e').1
    have to : ∀ (j : Nat) (x : L), j < k → cs[j]? = some x → cs'[j]? = some x := fun j x hj ex => by
      have e2 : cs'[j]? = some cs'[j] := List.getElem?_eq_getElem (by omega)
      rw [e2, ih j x _ (by omega) ex e2]
    have fro : ∀ (j : Nat) (x : L), j < k → cs'[j]? = some x → cs[j]? = some x := fun j x hj ex => by
      have e2 : cs[j]? = some cs[j] := List.getElem?_eq_getElem (by omega)
      rw [e2, ih j _ x (by omega) e2 ex]
    obtain ⟨p, t, a, s, a1, a2, a3, a4, a5⟩ := f k c (by omega) e
    obtain ⟨q, u, b, r, b1, b2, b3, b4, b5⟩ := f' k c' (by omega) e'
    rcases Nat.lt_trichotomy p q with h | h | h
    · obtain ⟨j, g1, g2⟩ := b5 p t a s (.inl h) (to p a a1 a2) a3
      rw [a4] at g2
      have := nd_idx nd (fro j c g1 g2) e
      omega
    · subst h
      have hab := to p a a1 a2
      rw [b2] at hab
      obtain rfl := Option.some.inj hab
      rcases Nat.lt_trichotomy t u with h | h | h
      · obtain ⟨j, g1, g2⟩ := b5 p t b s (.inr ⟨rfl, h⟩) b2 a3
        rw [a4] at g2
        have := nd_idx nd (fro j c g1 g2) e
        omega
      · subst h
        rw [a3] at b3
        rw [← a4, ← b4, Option.some.inj b3]
      · obtain ⟨j, g1, g2⟩ := a5 p u b r (.inr ⟨rfl, h⟩) a2 b3
        rw [b4] at g2
        have := nd_idx nd' (to j c' g1 g2) e'
        omega
    · obtain ⟨j, g1, g2⟩ := a5 q u b r (.inl h) (fro q b b1 b2) b3
      rw [b4] at g2
      have := nd_idx nd' (to j c' g1 g2) e'
      omega
theorem ford_len {L : Type} {nx : L → List (Int × L)} {cs cs' : List L} (nd : cs.Nodup) (nd' : cs'.Nodup) (h0 : cs[0]? = cs'[0]?) (f : FOrd nx cs) (f' : FOrd nx cs') (cl : ∀ a ∈ cs, ∀ s ∈ nx a, s.2 ∈ cs) (pos : 0 < cs.length) : cs'.length ≤ cs.length := by
  apply Nat.le_of_not_lt
  intro hl
  have e' : cs'[cs.length]? = some cs'[cs.length] := List.getElem?_eq_getElem hl
  obtain ⟨p, t, a, s, a1, a2, a3, a4, _⟩ := f' _ _ pos e'
  have ep : cs[p]? = some cs[p] := List.getElem?_eq_getElem a1
  have := ford_pre nd nd' h0 f f' (p + 1) p _ _ (Nat.lt_succ_self _) ep a2
  have m1 := cl cs[p] (List.getElem_mem a1) s (by rw [this]; exact List.mem_of_getElem? a3)
  obtain ⟨j, hj⟩ := List.mem_iff_getElem?.mp m1
  have jl := (List.getElem?_eq_some_iff.mp hj).1
  have ej : cs'[j]? = some cs'[j] := List.getElem?_eq_getElem (by omega)
  have := ford_pre nd nd' h0 f f' (j + 1) j _ _ (Nat.lt_succ_self _) hj ej
  have h3 := nd_idx nd' (x := s.2) (by rw [ej, ← this]) (by rw [e', a4])
  omega
theorem ford_eq {L : Type} {nx : L → List (Int × L)} {cs cs' : List L} (nd : cs.Nodup) (nd' : cs'.Nodup) (h0 : cs[0]? = cs'[0]?) (f : FOrd nx cs) (f' : FOrd nx cs') (cl : ∀ a ∈ cs, ∀ s ∈ nx a, s.2 ∈ cs) (cl' : ∀ a ∈ cs', ∀ s ∈ nx a, s.2 ∈ cs') (pos : 0 < cs.length) (pos' : 0 < cs'.length) : cs = cs' := by
  have l1 := ford_len nd nd' h0 f f' cl pos
  have l2 := ford_len nd' nd h0.symm f' f cl' pos'
  refine List.ext_getElem (by omega) fun i h1 h2 => ?_
  exact ford_pre nd nd' h0 f f' (i + 1) i _ _ (Nat.lt_succ_self _) (List.getElem?_eq_getElem h1) (List.getElem?_eq_getElem h2)
abbrev MRow := List (Int × Int)
abbrev PrAt (H : Hp) : List Addr → MRow → Prop := Paired fun q e => H q = some (.tup [.int e.1, .int e.2])
theorem prat_stay {H H' : Hp} (t : TupsStay H H') {qs : List Addr} {r : MRow} (h : PrAt H qs r) : PrAt H' qs r := awMap (fun q e z => t _ _ z) h
def RowL (H : Hp) (l : Addr) (row : MRow) : Prop := ∃ qs, H l = some (.lst (qs.map V.ref)) ∧ PrAt H qs row
abbrev MacL (H : Hp) : List Addr → List MRow → Prop := Paired (RowL H)
theorem macl_stay {H H' : Hp} (t : TupsStay H H') : ∀ {ls : List Addr} {mac : List MRow}, (∀ l ∈ ls, ∀ xs, H l = some (.lst xs) → H' l = some (.lst xs)) → MacL H ls mac → MacL H' ls mac
  | _, _, _, .nil => .nil
  | _, _, k, .cons ⟨qs, h1, h2⟩ h => .cons ⟨qs, k _ List.mem_cons_self _ h1, prat_stay t h2⟩ (macl_stay t (fun l hl => k l (List.mem_cons_of_mem _ hl)) h)
def kC (c : List Int) : NestedKey := .tup (c.map .num)
theorem nums_inj : ∀ {a b : List Int}, a.map NestedKey.num = b.map NestedKey.num → a = b
  | [], [], _ => rfl
  | [], _ :: _, h => nomatch h
  | _ :: _, [], h => nomatch h
  | x :: a, y :: b, h => by
    rw [List.map_cons, List.map_cons, List.cons.injEq] at h
    rw [NestedKey.num.inj h.1, nums_inj h.2]
theorem kC_inj {a b : List Int} (h : kC a = kC b) : a = b := nums_inj (NestedKey.tup.inj h)
theorem nums_depth : ∀ c : List Int, NestedKey.depthAll (c.map .num) = 0
  | [] => by simp [NestedKey.depthAll]
  | x :: c => by simp [NestedKey.depthAll, NestedKey.depth, nums_depth c]
theorem kC_depth (c : List Int) : (kC c).depth ≤ 8 := by
  unfold kC
  simp [NestedKey.depth, nums_depth c]
theorem nks_ints (H : Hp) : ∀ c : List Int, NkAll H (c.map .num) (c.map V.int)
  | [] => .nil
  | x :: c => .cons (.num x) (nks_ints H c)
theorem nks_eq {H : Hp} : ∀ {c : List Int} {xs : List V}, NkAll H (c.map .num) xs → xs = c.map V.int
  | [], _, h => by
    cases h
    rfl
  | x :: c, _, h => by
    cases h with
    | cons h1 h2 =>
      cases h1
      rw [nks_eq h2]
      rfl
theorem keyC {H : Hp} {b : Addr} {c : List Int} (h : H b = some (.tup (c.map V.int))) : KeyN H (.ref b) (kC c) := ⟨.tup h (nks_ints H c), kC_depth c, b, rfl⟩
theorem keyC_tup {H : Hp} {b : Addr} {c : List Int} (h : KeyN H (.ref b) (kC c)) : H b = some (.tup (c.map V.int)) := by
  obtain ⟨h1, _⟩ := h
  unfold kC at h1
  cases h1 with
  | tup e hs =>
    rw [nks_eq hs] at e
    exact e
/-- a row of the machine of all carries -/
abbrev RowM (cs : List (List Int)) : MRow → List (Int × List Int) → Prop := Paired fun e s => e.1 = s.1 ∧ ∃ j : Nat, e.2 = (j : Int) ∧ cs[j]? = some s.2
structure WM (m : Nat) (ds : List Deed) (o : Int) (cs : List (List Int)) (mac : List MRow) : Prop where
  nd : cs.Nodup
  first : cs[0]? = some (ds.map fcD)
  bits : ∀ c ∈ cs, c.length = ds.length ∧ ∀ x ∈ c, Bit x
  each : ∀ (i : Nat) row, mac[i]? = some row → ∃ c, cs[i]? = some c ∧ RowM cs row (stp m ds o c)
  fo : FOrd (stp m ds o) cs
theorem few_cs {n : Nat} {cs : List (List Int)} (nd : cs.Nodup) (hb : ∀ c ∈ cs, c.length = n ∧ ∀ x ∈ c, Bit x) (hn : n ≤ 8) : cs.length ≤ 256 := by
  have h := pigeon cs (allB n) nd fun c hc => allB_all n _ (hb c hc).1 (hb c hc).2
  rw [allB_len] at h
  exact Nat.le_trans h (Nat.le_trans (Nat.pow_le_pow_right (by decide) hn) (by decide))
theorem keys_nd {cs : List (List Int)} {ts : List WT} (h : (ts.map (·.1)).Nodup) (e : ts.map (·.1) = cs.map kC) : cs.Nodup := by
  rw [e] at h
  exact List.Pairwise.imp (fun {a b} z y => z (congrArg kC y)) (List.pairwise_map.mp h)
theorem keys_at {cs : List (List Int)} {ts : List WT} (e : ts.map (·.1) = cs.map kC) {i : Nat} {t : WT} (h : ts[i]? = some t) : ∃ c, cs[i]? = some c ∧ t.1 = kC c := by
  have h1 : (ts.map (·.1))[i]? = some t.1 := by rw [List.getElem?_map, h]; rfl
  rw [e, List.getElem?_map] at h1
  cases hc : cs[i]? with
  | none => rw [hc] at h1; cases h1
  | some c => rw [hc] at h1; exact ⟨c, rfl, (Option.some.inj h1).symm⟩
theorem keys_len {cs : List (List Int)} {ts : List WT} (e : ts.map (·.1) = cs.map kC) : ts.length = cs.length := by
  have := congrArg List.length e
  rwa [List.length_map, List.length_map] at this
def spWh : Sp := fun vs H Q _ => ∃ (R : Addr) (m : Nat) (o : Int) (ds : List Deed), vs = [.ref R] ∧ RowAt H R m ds o ∧ RowOk m ds o ∧
  ∀ H' p ls cs mac, Same H H' → H p = none → H' p = some (.lst (ls.map V.ref)) → MacL H' ls mac → WM m ds o cs mac → mac.length = cs.length → Q (.ref p) H'
theorem ok_wh {f fA fF fS fI fM C : Addr} {fd fdA fdF fdS fdI fdM : FuncData} {k : Nat} (F : Fun K "whole_machine" "whole_machine" s_whole_machine f fd) (T : WCls K mg C)
    (GA : FnOk P w K mg base CX0 (k + 1) fA fdA ["many"] spAll) (kA : PySem.W.keepIn K (.ref fA) = true) (bA : Binds K fdA ["many"] []) (gA : mg "all_bits" = some (.ref fA))
    (GF : FnOk P w K mg base CX0 (k + 1) fF fdF ["row"] spFc) (kF : PySem.W.keepIn K (.ref fF) = true) (bF : Binds K fdF ["row"] []) (gF : mg "first_carry" = some (.ref fF))
    (GS : FnOk P w K mg base CX0 (k + 4) fS fdS ["row", "carry"] spSt) (kS : PySem.W.keepIn K (.ref fS) = true) (bS : Binds K fdS ["row", "carry"] []) (gS : mg "steps" = some (.ref fS))
    (MK : Mk K C fI) (GI : FnOk P w K mg base CX0 (k + 1) fI fdI ["self", "first"] (spWi P w C)) (bI : Binds K fdI ["self", "first"] [])
    (MM : Meth K C "meet" fM) (GM : FnOk P w K mg base CX0 (k + 1) fM fdM ["self", "thing", "ahead", "bits"] (spWm P w C)) (bM : Binds K fdM ["self", "thing", "ahead", "bits"] [])
    (mn : mg "len" = none) (mz : mg "zip" = none) : FnOk P w K mg base CX0 (k + 5) f fd ["row"] spWh := by
  refine F.ok sc_whole_machine (fun vs H Q E h => ?_) (fun cdv A outer s H vs Q E hr h => ?_)
  · obtain ⟨R, m, o, ds, rfl, _⟩ := h
    rfl
  · obtain ⟨R, m, o, ds, rfl, hrow, hok, q⟩ := h
    obtain ⟨D, rs, eR, eD, hd⟩ := id hrow
    have r1 := hr.mono (show k + 1 ≤ k + 4 by omega)
    have r2 := hr.mono (show k + 1 + 1 ≤ k + 4 by omega)
    refine ⟨_, pss_cons (ps_set (i := 1) sc_whole_machine.nd rfl (.inl rfl) (pe_call GA r1 (by rfl) gA kA bA .nil pass0 (pa_cons (pe_ix ix_tup (pv 0) pe_int (fun _ _ => rfl)) pa_nil)))
      (pss_cons (ps_set (i := 2) sc_whole_machine.nd rfl (.inl rfl) (pe_make MK GI r2 (by rfl) T.mgC bI .nil pass0 (pa_cons (pe_call GF r1 (by rfl) gF kF bF .nil pass0 (pa_cons (pv 0) pa_nil)) pa_nil)))
      (pss_cons (ps_set (i := 3) sc_whole_machine.nd rfl (.inl rfl) (pe_lst pa_nil))
      (pss_cons (ps_while PassesOwn.never (pt_cmpR op_lt (pe_callB call_len_seq (by rfl) mn PySem.boot_len (pa_cons (pv 3) pa_nil)) (pe_callB call_len_seq (by rfl) mn PySem.boot_len (pa_cons (pe_fld (pv 2) rfl) pa_nil)) (nomark _))
        (pss_cons (ps_set (i := 4) sc_whole_machine.nd rfl (.inl rfl) (pe_callB call_len_seq (by rfl) mn PySem.boot_len (pa_cons (pv 3) pa_nil)))
        (pss_cons (ps_set (i := 5) sc_whole_machine.nd rfl (.inl rfl) (pe_ix ix_list (pe_fld (pv 2) rfl) (pv 4) (fun _ _ => rfl)))
        (pss_cons (ps_set (i := 6) sc_whole_machine.nd rfl (.inl rfl) (pe_lst pa_nil))
        (pss_cons (ps_for PassesOwn.never rfl (pi_zip (by rfl) mz (pa_cons (pv 1) (pa_cons (pe_call GS hr (by rfl) gS kS bS .nil pass0 (pa_cons (pv 0) (pa_cons (pv 5) pa_nil))) pa_nil))) (pg_tup rfl (pgs_cons (pg_name (i := 7) sc_whole_machine.nd rfl (.inl rfl)) (pgs_cons (pg_tup rfl (pgs_cons (pg_name (i := 8) sc_whole_machine.nd rfl (.inl rfl)) (pgs_cons (pg_name (i := 9) sc_whole_machine.nd rfl (.inl rfl)) pgs_nil))) pgs_nil)))
          (pss_one (ps_expr (pe_bm PySem.F.plainAttrs_list PySem.F.slot_list_append PySem.F.type_list_append mt_append (pv 6) (pa_cons (pe_tup (pa_cons (pv 8) (pa_cons (pe_meth (pv 2) T.cl MM GM r1 bM .nil pass0 (pa_cons (pv 9) (pa_cons (pv 4) (pa_cons (pv 7) pa_nil)))) pa_nil))) pa_nil)))))
        (pss_one (ps_expr (pe_bm PySem.F.plainAttrs_list PySem.F.slot_list_append PySem.F.type_list_append mt_append (pv 3) (pa_cons (pv 6) pa_nil)))))))))
      (pss_one (ps_ret (pv 3)))))), ?_⟩
    have l8 := hok.len
    have m3 := hok.m3
    refine ⟨.ref R, rfl, R, _, 0, .int m, rfl, rfl, SqT.of eR, rfl, m, rfl, by omega, fun H1 Ch fs s1 nCh eCh hf => ?_⟩
    have fl : fs.length = 2 ^ m := by rw [awLen hf, allB_len]
    refine ⟨.ref R, rfl, R, m, o, ds, rfl, (Same.tups s1).row hrow, by omega, fun H2 Fi s2 nFi eFi => ?_⟩
    intro Wk dx nWk ndx nex
    have tW : TupsStay H2 (upd (upd H2 dx (.own Wk)) Wk (.ins C dx [])) := fun c xs e => by
      rw [upd_ne (ne_of_none e nWk), upd_ne (ne_of_none e ndx)]
      exact e
    have kW : ∀ c u, H2 c = some u → upd (upd H2 dx (.own Wk)) Wk (.ins C dx []) c = some u := fun c u e => by
      rw [upd_ne (ne_of_none e nWk), upd_ne (ne_of_none e ndx)]
      exact e
    refine ⟨Wk, dx, Fi, kC (ds.map fcD), rfl, upd_same, keyC (tW _ _ eFi), fun H3 M N W hw nM nN nW kp => ⟨rfl, ?_⟩⟩
    have s3 : Same H2 H3 := fun c u e => kp c u (ne_of_none e nWk) (kW c u e)
    have s13 := (s1.trans s2).trans s3
    have back : ∀ a : Addr, upd (upd H2 dx (.own Wk)) Wk (.ins C dx []) a = none → H2 a = none := fun a h => by
      cases e : H2 a with
      | none => rfl
      | some u => rw [kW a u e] at h; cases h
    have hM2 := back _ nM
    have hN2 := back _ nN
    have hW2 := back _ nW
    have hM0 : H M = none := (s1.trans s2).free hM2
    have hN0 : H N = none := (s1.trans s2).free hN2
    have hW0 : H W = none := (s1.trans s2).free hW2
    have eCh2 := s2 _ _ eCh
    have nChM : Ch ≠ M := ne_of_none eCh2 hM2
    have nChN : Ch ≠ N := ne_of_none eCh2 hN2
    have nChW : Ch ≠ W := ne_of_none eCh2 hW2
    refine ⟨Nat.zero_le _, fun Mc hMc => ?_⟩
    have sMc := same_new (o := .lst []) hMc
    have nMM : Mc ≠ M := fun z => by rw [z, hw.met] at hMc; cases hMc
    have nMN : Mc ≠ N := fun z => by rw [z, hw.num.ob] at hMc; cases hMc
    have nMW : Mc ≠ W := fun z => by obtain ⟨ws, e, _⟩ := hw.ways; rw [z, e] at hMc; cases hMc
    have nMCh : Mc ≠ Ch := fun z => by rw [z, s3 _ _ eCh2] at hMc; cases hMc
    have hMc0 : H Mc = none := s13.free hMc
    refine ⟨fun n σ H4 => ∃ y4 y5 y6 y7 y8 y9 cs ts wy ls mac, σ = [some (.ref R), some (.ref Ch), some (.ref Wk), some (.ref Mc), y4, y5, y6, y7, y8, y9] ∧ WalkAt P w C H4 Wk M N W ts wy ∧ ts.map (·.1) = cs.map kC ∧ WM m ds o cs mac ∧ mac.length ≤ cs.length ∧ H4 Mc = some (.lst (ls.map V.ref)) ∧ MacL H4 ls mac ∧ (∀ l ∈ ls, l ≠ M ∧ l ≠ N ∧ l ≠ W ∧ l ≠ Mc) ∧ H4 Ch = some (.lst (fs.map V.ref)) ∧ TAt H4 fs (allB m) ∧ Same H H4 ∧ n = 257 - mac.length,
      ⟨_, none, none, none, none, none, none, [ds.map fcD], [(kC (ds.map fcD), Fi)], [(0, [])], [], [], rfl, hw.same sMc, rfl, ⟨by simp, rfl, fun c hc => ?_, fun i row h => by simp at h, FOrd.one⟩, Nat.zero_le _, upd_same, .nil, (fun _ z => nomatch z), sMc _ _ (s3 _ _ eCh2), tat_stay (Same.tups ((s2.trans s3).trans sMc)) hf, s13.trans sMc, rfl⟩, fun n σ H4 hp => ?_⟩
    · rw [List.mem_singleton.mp hc]
      have sh := shp_first ds
      exact ⟨sh.len, sh.bits⟩
    obtain ⟨y4, y5, y6, y7, y8, y9, cs, ts, wy, ls, mac, rfl, hw4, ek, wm, ml, eMc, hmac, lsne, eCh4, hf4, s4, rfl⟩ := hp
    obtain ⟨dxw, ob4⟩ := hw4.ob
    have csl := keys_len ek
    have few := few_cs wm.nd wm.bits l8
    have mll := awLen hmac
    refine ⟨.ref Mc, rfl, Mc, _, rfl, .inl (.inl (.inl eMc)), .ref Wk, rfl, Wk, C, dxw, _, _, rfl, ob4, T.cl, T.nM, wF_met _ _ _, M, _, rfl, .inl (.inl (.inl hw4.met)), _, _, rfl, rfl, _, rfl, ite2 (fun e => ?_) (fun e => ?_)⟩
    · have lt : mac.length < cs.length := by
        have := of_decide_eq_true e
        rw [List.length_map, List.length_map] at this
        omega
      refine ⟨fun σ' H' => ∃ m', m' < 257 - mac.length ∧ (∃ y4 y5 y6 y7 y8 y9 cs ts wy ls mac, σ' = [some (.ref R), some (.ref Ch), some (.ref Wk), some (.ref Mc), y4, y5, y6, y7, y8, y9] ∧ WalkAt P w C H' Wk M N W ts wy ∧ ts.map (·.1) = cs.map kC ∧ WM m ds o cs mac ∧ mac.length ≤ cs.length ∧ H' Mc = some (.lst (ls.map V.ref)) ∧ MacL H' ls mac ∧ (∀ l ∈ ls, l ≠ M ∧ l ≠ N ∧ l ≠ W ∧ l ≠ Mc) ∧ H' Ch = some (.lst (fs.map V.ref)) ∧ TAt H' fs (allB m) ∧ Same H H' ∧ m' = 257 - mac.length), fun σ' H' z => z, ?_⟩
      have lenI : ((ls.map V.ref).length : Int) = ((mac.length : Nat) : Int) := by rw [List.length_map, mll]
      refine ⟨.ref Mc, rfl, Mc, _, rfl, .inl (.inl (.inl eMc)), ?_⟩
      rw [lenI]
      have hti : mac.length < ts.length := by omega
      obtain ⟨c0, hc0, ht1⟩ := keys_at ek (List.getElem?_eq_getElem hti)
      have hkey := hw4.keys _ (List.getElem_mem hti)
      rw [ht1] at hkey
      have ecb := keyC_tup hkey
      obtain ⟨c0l, c0b⟩ := wm.bits c0 (List.mem_of_getElem? hc0)
      refine ⟨.ref Wk, rfl, Wk, C, dxw, _, _, rfl, ob4, T.cl, T.nM, wF_met _ _ _, .int _, rfl, M, _, _, .ref (ts[mac.length]).2, rfl, rfl, .inl (.inl hw4.met), atI_nat (by rw [List.getElem?_map, List.getElem?_eq_getElem hti]; rfl), ?_⟩
      generalize (ts[mac.length]).2 = cb at ecb
      refine ⟨Nat.zero_le _, fun St hSt => ?_⟩
      have sSt := same_new (o := .lst []) hSt
      have nSM : St ≠ M := fun z => by rw [z, hw4.met] at hSt; cases hSt
      have nSN : St ≠ N := fun z => by rw [z, hw4.num.ob] at hSt; cases hSt
      have nSW : St ≠ W := fun z => by obtain ⟨ws, e, _⟩ := hw4.ways; rw [z, e] at hSt; cases hSt
      have nSMc : St ≠ Mc := fun z => by rw [z, eMc] at hSt; cases hSt
      have nSCh : St ≠ Ch := fun z => by rw [z, eCh4] at hSt; cases hSt
      have nSWk : St ≠ Wk := fun z => by rw [z, ob4] at hSt; cases hSt
      have nSls : ∀ l ∈ ls, l ≠ St := fun l hl z => by
        obtain ⟨i, hi⟩ := List.mem_iff_getElem?.mp hl
        obtain ⟨row, _, qs, h1, _⟩ := awGet hmac hi
        rw [z, hSt] at h1
        cases h1
      have hSt0 : H St = none := s4.free hSt
      refine ⟨.ref Ch, rfl, .ref R, rfl, .ref cb, rfl, R, cb, m, o, ds, c0, rfl, (Same.tups (s4.trans sSt)).row hrow, hok, sSt _ _ ecb, c0l, fun H5 Sp ps s5 nSp eSp hps => ?_⟩
      have s45 := sSt.trans s5
      have psl : ps.length = 2 ^ m := by rw [awLen hps, stp_len]
      have nSpM : Sp ≠ M := fun z => by rw [z, sSt _ _ hw4.met] at nSp; cases nSp
      have nSpN : Sp ≠ N := fun z => by rw [z, sSt _ _ hw4.num.ob] at nSp; cases nSp
      have nSpW : Sp ≠ W := fun z => by obtain ⟨ws, e, _⟩ := hw4.ways; rw [z, sSt _ _ e] at nSp; cases nSp
      have nSpS : Sp ≠ St := fun z => by rw [z, upd_same] at nSp; cases nSp
      have eCh5 := s45 _ _ eCh4
      have p8 : 2 ^ m ≤ 8 := Nat.le_trans (Nat.pow_le_pow_right (by decide) (show m ≤ 3 by omega)) (by decide)
      refine ⟨Ch, Sp, _, _, rfl, .inl (.inl eCh5), .inl (.inl eSp), for_it (walk_zip (K := K) (a := Ch) (b := Sp) (xs := fs.map V.ref) (ys := ps.map V.ref) (n := 2 ^ m) (by rw [List.length_map, List.length_map, fl, psl, Nat.min_self])) (fun j σ H6 => ∃ y7 y8 y9 cs' ts' wy' qs row, σ = [some (.ref R), some (.ref Ch), some (.ref Wk), some (.ref Mc), some (.int ((mac.length : Nat) : Int)), some (.ref cb), some (.ref St), y7, y8, y9] ∧ WalkAt P w C H6 Wk M N W ts' wy' ∧ ts'.map (·.1) = cs'.map kC ∧ (∀ (i : Nat) c, cs[i]? = some c → cs'[i]? = some c) ∧ (∀ c ∈ cs', c.length = ds.length ∧ ∀ x ∈ c, Bit x) ∧ FOrd (stp m ds o) cs' ∧ H6 St = some (.lst (qs.map V.ref)) ∧ PrAt H6 qs row ∧ RowM cs' row ((stp m ds o c0).take j) ∧ ∀ b u, b ≠ M → b ≠ N → b ≠ W → b ≠ St → H5 b = some u → H6 b = some u)
        ⟨y7, y8, y9, cs, ts, wy, [], [], rfl, hw4.same s45, ek, fun _ _ z => z, wm.bits, wm.fo, s5 _ _ upd_same, .nil, .nil, fun _ _ _ _ _ _ z => z⟩ (fun j σ H6 _ hp => ?_) (fun j x σ H6 H7 hj hp hy => ?_) (fun σ H6 hp => ?_)⟩
      · obtain ⟨_, _, _, _, _, _, _, _, _, _, _, _, _, _, _, _, _, st⟩ := hp
        exact ⟨.inl (.inl (st _ _ nChM nChN nChW nSCh.symm eCh5)), .inl (.inl (st _ _ nSpM nSpN nSpW nSpS eSp))⟩
      · obtain ⟨y7, y8, y9, cs', ts', wy', qs, row, rfl, hw6, ek6, pre, bit6, fo6, eSt6, hpr, hrm, st⟩ := hp
        obtain ⟨U, x1, x2, rfl, hU, rfl, g1, g2⟩ := hy
        have tup5 : ∀ b xs, H5 b = some (.tup xs) → H6 b = some (.tup xs) := fun b xs e => st b _ (ne_of e (s45 _ _ hw4.met) (fun y => nomatch y)) (ne_of e (s45 _ _ hw4.num.ob) (fun y => nomatch y)) (by obtain ⟨ws, e2, _⟩ := hw4.ways; exact ne_of e (s45 _ _ e2) (fun y => nomatch y)) (ne_of e (s5 _ _ upd_same) (fun y => nomatch y)) e
        have hjf : j < fs.length := by omega
        have hjp : j < ps.length := by omega
        have e1 : x1 = .ref fs[j] := by
          have g1' : (fs.map V.ref)[j]? = some x1 := g1
          rw [List.getElem?_map, List.getElem?_eq_getElem hjf] at g1'
          exact (Option.some.inj g1').symm
        have e2 : x2 = .ref ps[j] := by
          have g2' : (ps.map V.ref)[j]? = some x2 := g2
          rw [List.getElem?_map, List.getElem?_eq_getElem hjp] at g2'
          exact (Option.some.inj g2').symm
        subst e1 e2
        obtain ⟨bs, hb1, hb2⟩ := awGet hf4 (List.getElem?_eq_getElem hjf)
        obtain ⟨sb, hs1, ac, hs2, hs3⟩ := awGet hps (List.getElem?_eq_getElem hjp)
        have sU := same_new (o := .tup [.ref fs[j], .ref ps[j]]) hU
        have eb7 := sU _ _ (tup5 _ _ (s45 _ _ hb2))
        have e27 := sU _ _ (tup5 _ _ hs2)
        have e37 := sU _ _ (tup5 _ _ hs3)
        refine ⟨U, [.ref fs[j], .ref ps[j]], rfl, .inl (.inl upd_same), rfl, .ref fs[j], [.ref ps[j]], rfl, .ref ps[j], [], rfl, ps[j], [.int sb.1, .ref ac], rfl, .inl (.inl e27), rfl, .int sb.1, [.ref ac], rfl, .ref ac, [], rfl, rfl, rfl, ?_⟩
        have nUs : U ≠ St := fun z => by rw [z, eSt6] at hU; cases hU
        obtain ⟨dx6, ob6⟩ := hw6.ob
        have hw7 := hw6.same sU
        have l6 := keys_len ek6
        have few6 := few_cs (keys_nd hw6.nd ek6) bit6 l8
        refine ⟨.ref St, rfl, .inl ⟨rfl, _, .inl (.inl (sU _ _ eSt6))⟩, .int sb.1, rfl, .ref Wk, rfl, Wk, dx6, _, rfl, sU _ _ ob6, wF_meet _ _ _, .ref ac, rfl, .int ((mac.length : Nat) : Int), rfl, .ref fs[j], rfl, Wk, M, N, W, ac, fs[j], ts', wy', kC sb.2, ((mac.length : Nat) : Int), bs, rfl, hw7, keyC e37, eb7, by omega, fun H8 ts2 wy2 ix hw8 hix hcase kp8 => ?_⟩
        refine ⟨by show 2 ≤ sizeLine; decide, fun Pq hPq => ?_⟩
        have sP := same_new (o := .tup [.int sb.1, .int ((ix : Nat) : Int)]) hPq
        have eSt8 := kp8 _ _ nSM nSN nSW (sU _ _ eSt6)
        have hrl := awLen hpr
        have hrl2 := awLen hrm
        rw [List.length_take, stp_len] at hrl2
        have s8t : TupsStay H6 (upd H8 Pq (.tup [.int sb.1, .int ((ix : Nat) : Int)])) := fun b xs e => by
          have e7 := sU _ _ e
          obtain ⟨ws7, ew7, _⟩ := hw7.ways
          exact sP _ _ (kp8 b _ (ne_of e7 hw7.met (fun y => nomatch y)) (ne_of e7 hw7.num.ob (fun y => nomatch y)) (ne_of e7 ew7 (fun y => nomatch y)) e7)
        have nPS : Pq ≠ St := fun z => by rw [z, eSt8] at hPq; cases hPq
        have eSt9 := sP _ _ eSt8
        have tS := tups_put (o := .lst (qs.map V.ref ++ [V.ref Pq])) eSt9
        -- the carries so far
        obtain ⟨cs2, ek2, pre2, bit2, fo2, hcx⟩ : ∃ cs2 : List (List Int), ts2.map (·.1) = cs2.map kC ∧ (∀ (i : Nat) c, cs'[i]? = some c → cs2[i]? = some c) ∧ (∀ c ∈ cs2, c.length = ds.length ∧ ∀ x ∈ c, Bit x) ∧ FOrd (stp m ds o) cs2 ∧ cs2[ix]? = some sb.2 := by
          obtain ⟨b', hb'⟩ := hix
          rcases hcase with ⟨rfl, rfl⟩ | ⟨rfl, rfl, rfl, _⟩
          · obtain ⟨c, hc, ec⟩ := keys_at ek6 hb'
            exact ⟨cs', ek6, fun _ _ z => z, bit6, fo6, by rw [hc, kC_inj ec]⟩
          · refine ⟨cs' ++ [sb.2], by rw [List.map_append, List.map_append, ek6]; rfl, fun i c z => ?_, fun c hc => ?_, fo6.push (pre _ _ hc0) hs1 fun p' t' a' s' g1 g2 g3 => ?_, ?_⟩
            · rw [List.getElem?_append_left (List.getElem?_eq_some_iff.mp z).1]
              exact z
            · rcases List.mem_append.mp hc with hc | hc
              · exact bit6 c hc
              · rw [List.mem_singleton.mp hc]
                obtain ⟨bs', h1, e⟩ := List.mem_map.mp (List.mem_of_getElem? hs1)
                rw [← e]
                exact ⟨nxt_len c0l.symm, nxt_bits (bts_bits (allB_ok m bs' h1).2 c0b) c0b⟩
            · rcases g1 with g1 | ⟨rfl, g1⟩
              · obtain ⟨c, w1, w2⟩ := wm.each p' _ (List.getElem?_eq_getElem g1)
                have w3 := pre _ _ w1
                rw [g2] at w3
                obtain rfl := Option.some.inj w3
                obtain ⟨e, _, _, j', _, w6⟩ := awGet2 w2 g3
                exact ⟨j', pre _ _ w6⟩
              · have w3 := pre _ _ hc0
                rw [g2] at w3
                obtain rfl := Option.some.inj w3
                obtain ⟨e, _, _, j', _, w6⟩ := awGet2 hrm (show (List.take j (stp m ds o a'))[t']? = some s' by rw [List.getElem?_take_of_lt g1]; exact g3)
                exact ⟨j', w6⟩
            · rw [l6, List.getElem?_append_right (Nat.le_refl _), Nat.sub_self]
              rfl
        refine ⟨St, _, _, rfl, rfl, eSt9, ?_, _, _, _, cs2, ts2, wy2, qs ++ [Pq], row ++ [(sb.1, ((ix : Nat) : Int))], rfl, ?_, ek2, fun i c z => pre2 i c (pre i c z), bit2, fo2, ?_, ?_, ?_, ?_⟩
        · rw [List.length_map]
          exact small1000 (by omega)
        · refine (hw8.same sP).stay tS fun c u hc e => ?_
          rw [upd_ne ?_]
          · exact e
          · rcases hc with rfl | rfl | rfl | rfl
            · exact nSWk.symm
            · exact nSM.symm
            · exact nSN.symm
            · exact nSW.symm
        · rw [upd_same, List.map_append]
          rfl
        · exact awSnoc (F := fun (q : Addr) (e : Int × Int) => (upd (upd H8 Pq (.tup [.int sb.1, .int ((ix : Nat) : Int)])) St (.lst (qs.map V.ref ++ [V.ref Pq]))) q = some (.tup [.int e.1, .int e.2])) (tS _ _ upd_same) (prat_stay tS (prat_stay s8t hpr))
        · rw [List.take_add_one, hs1]
          exact awSnoc (F := fun (e : Int × Int) (s : Int × List Int) => e.1 = s.1 ∧ ∃ j : Nat, e.2 = (j : Int) ∧ cs2[j]? = some s.2) ⟨rfl, ix, rfl, hcx⟩ (awMap (fun e s z => ⟨z.1, z.2.elim fun i y => ⟨i, y.1, pre2 i _ y.2⟩⟩) hrm)
        · intro b u n1 n2 n3 n4 e
          rw [upd_ne n4]
          exact sP _ _ (kp8 b u n1 n2 n3 (sU _ _ (st b u n1 n2 n3 n4 e)))
      · obtain ⟨y7, y8, y9, cs', ts', wy', qs, row, rfl, hw6, ek6, pre, bit6, fo6, eSt6, hpr, hrm, st⟩ := hp
        rw [← stp_len m ds o c0, List.take_length] at hrm
        have eMc6 := st _ _ nMM nMN nMW nSMc.symm (s45 _ _ eMc)
        have tup5 : TupsStay H5 H6 := fun b xs e => st b _ (ne_of e (s45 _ _ hw4.met) (fun y => nomatch y)) (ne_of e (s45 _ _ hw4.num.ob) (fun y => nomatch y)) (by obtain ⟨ws, e2, _⟩ := hw4.ways; exact ne_of e (s45 _ _ e2) (fun y => nomatch y)) (ne_of e (s5 _ _ upd_same) (fun y => nomatch y)) e
        have t46 : TupsStay H4 H6 := (Same.tups s45).trans tup5
        have tM := tups_put (o := .lst (ls.map V.ref ++ [V.ref St])) eMc6
        refine ⟨.ref Mc, rfl, .inl ⟨rfl, _, .inl (.inl eMc6)⟩, .ref St, rfl, Mc, _, _, rfl, rfl, eMc6, ?_, _, ?_, _, _, _, _, _, _, cs', ts', wy', ls ++ [St], mac ++ [row], rfl, ?_, ek6, ⟨keys_nd hw6.nd ek6, pre _ _ wm.first, bit6, fun i r hi => ?_, fo6⟩, ?_, ?_, ?_, fun l hl => ?_, ?_, tat_stay tM (tat_stay t46 hf4), ?_, rfl⟩
        · rw [List.length_map]
          exact small1000 (by omega)
        · rw [List.length_append]
          show 257 - (mac.length + 1) < 257 - mac.length
          omega
        · refine hw6.stay tM fun c u hc e => ?_
          rw [upd_ne ?_]
          · exact e
          · obtain ⟨dx6, ob6⟩ := hw6.ob
            rcases hc with rfl | rfl | rfl | rfl
            · exact ne_of ob6 eMc6 (fun y => nomatch y)
            · exact nMM.symm
            · exact nMN.symm
            · exact nMW.symm
        · by_cases hil : i < mac.length
          · rw [List.getElem?_append_left hil] at hi
            obtain ⟨c, h1, h2⟩ := wm.each i r hi
            exact ⟨c, pre _ _ h1, awMap (fun e s z => ⟨z.1, z.2.elim fun i y => ⟨i, y.1, pre i _ y.2⟩⟩) h2⟩
          · rw [List.getElem?_append_right (by omega)] at hi
            have hi2 := (List.getElem?_eq_some_iff.mp hi).1
            simp only [List.length_cons, List.length_nil] at hi2
            have ei : i = mac.length := by omega
            subst ei
            rw [Nat.sub_self] at hi
            obtain rfl := Option.some.inj hi
            exact ⟨c0, pre _ _ hc0, hrm⟩
        · rw [List.length_append]
          have h1 := (List.getElem?_eq_some_iff.mp (pre _ _ hc0)).1
          show mac.length + 1 ≤ cs'.length
          omega
        · rw [upd_same, List.map_append]
          rfl
        · refine awSnoc (F := RowL (upd H6 Mc (.lst (ls.map V.ref ++ [V.ref St])))) ⟨qs, ?_, prat_stay tM hpr⟩ (macl_stay (t46.trans tM) (fun l hl xs e => ?_) hmac)
          · rw [upd_ne nSMc]
            exact eSt6
          · obtain ⟨l1, l2, l3, l4⟩ := lsne l hl
            rw [upd_ne l4]
            exact st _ _ l1 l2 l3 (nSls l hl) (s45 _ _ e)
        · rcases List.mem_append.mp hl with hl | hl
          · exact lsne l hl
          · rw [List.mem_singleton.mp hl]
            exact ⟨nSM, nSN, nSW, nSMc⟩
        · rw [upd_ne nMCh.symm]
          exact st _ _ nChM nChN nChW nSCh.symm eCh5
        · intro b u e
          have e5 := s45 _ _ (s4 b u e)
          rw [upd_ne (ne_of_none e hMc0)]
          exact st b u (ne_of_none e hM0) (ne_of_none e hN0) (ne_of_none e hW0) (ne_of_none e hSt0) e5
    · have nlt : ¬ mac.length < cs.length := fun z => e (by
        apply decide_eq_true
        rw [List.length_map, List.length_map]
        omega)
      exact ⟨.ref Mc, rfl, q H4 Mc ls cs mac s4 hMc0 eMc hmac wm (by omega)⟩
/-! ### numbered -/
abbrev zs (ns : List Nat) : List Int := ns.map Int.ofNat
structure NumOf (ks : List NestedKey) (ns : List Nat) : Prop where
  len : ns.length = ks.length
  inj : ∀ (i j a : Nat) x y, ns[i]? = some a → ns[j]? = some a → ks[i]? = some x → ks[j]? = some y → x = y
  rg : ∀ i v : Nat, ns[i]? = some (v + 1) → ∃ j, j < i ∧ ns[j]? = some v
  same : ∀ (i j : Nat), ks[i]? = ks[j]? → ns[i]? = ns[j]?
structure FI (ks : List NestedKey) (i : Nat) (us : List NestedKey) : Prop where
  nd : us.Nodup
  all : ∀ (j : Nat) k, j < i → ks[j]? = some k → k ∈ us
  src : ∀ k ∈ us, ∃ j, j < i ∧ ks[j]? = some k
  rg : ∀ (v j : Nat) k, us[v + 1]? = some k → ks[j]? = some k → ∃ j' k', j' < j ∧ us[v]? = some k' ∧ ks[j']? = some k'
  len : us.length ≤ i
theorem FI.zero {ks : List NestedKey} : FI ks 0 [] := ⟨.nil, (fun j k h => absurd h (Nat.not_lt_zero _)), (fun _ z => nomatch z), (fun v j k h => by simp at h), Nat.le_refl _⟩
theorem FI.old {ks us : List NestedKey} {i : Nat} {k : NestedKey} (h : FI ks i us) (hk : ks[i]? = some k) (hm : k ∈ us) : FI ks (i + 1) us := by
  refine ⟨h.nd, fun j k' hj e => ?_, fun k' hk' => ?_, h.rg, Nat.le_succ_of_le h.len⟩
  · by_cases hji : j = i
    · rw [hji, hk] at e
      exact Option.some.inj e ▸ hm
    · exact h.all j k' (by omega) e
  · obtain ⟨j, h1, h2⟩ := h.src k' hk'
    exact ⟨j, by omega, h2⟩
theorem FI.new {ks us : List NestedKey} {i : Nat} {k : NestedKey} (h : FI ks i us) (hk : ks[i]? = some k) (hm : k ∉ us) : FI ks (i + 1) (us ++ [k]) := by
  refine ⟨?_, fun j k' hj e => ?_, fun k' hk' => ?_, fun v j k' hv e => ?_, by rw [List.length_append]; exact Nat.succ_le_succ h.len⟩
  · rw [List.nodup_append]
    refine ⟨h.nd, by simp, fun a ha b hb => ?_⟩
    rw [List.mem_singleton.mp hb]
    exact fun z => hm (z ▸ ha)
  · by_cases hji : j = i
    · rw [hji, hk] at e
      rw [← Option.some.inj e]
      simp
    · exact List.mem_append_left _ (h.all j k' (by omega) e)
  · rcases List.mem_append.mp hk' with h1 | h1
    · obtain ⟨j, h2, h3⟩ := h.src k' h1
      exact ⟨j, by omega, h3⟩
    · rw [List.mem_singleton.mp h1]
      exact ⟨i, by omega, hk⟩
  · by_cases hl : v + 1 < us.length
    · rw [List.getElem?_append_left hl] at hv
      obtain ⟨j', k2, h1, h2, h3⟩ := h.rg v j k' hv e
      exact ⟨j', k2, h1, by rw [List.getElem?_append_left (by omega)]; exact h2, h3⟩
    · rw [List.getElem?_append_right (by omega)] at hv
      have hv0 : v + 1 - us.length = 0 := by
        have := (List.getElem?_eq_some_iff.mp hv).1
        simp at this
        exact this
      rw [hv0] at hv
      have hkk : k = k' := by simpa using hv
      subst hkk
      have hlv : v < us.length := by omega
      obtain ⟨j', h1, h2⟩ := h.src us[v] (List.getElem_mem hlv)
      refine ⟨j', us[v], ?_, by rw [List.getElem?_append_left hlv, List.getElem?_eq_getElem hlv], h2⟩
      by_cases hji : j < i
      · exact absurd (h.all j k hji e) hm
      · omega
def idxN (us : List NestedKey) (k : NestedKey) : Nat := us.findIdx fun u => decide (u = k)
theorem idxN_at {us : List NestedKey} {k : NestedKey} (h : k ∈ us) : us[idxN us k]? = some k := by
  have hl : idxN us k < us.length := List.findIdx_lt_length_of_exists ⟨k, h, by simp⟩
  rw [List.getElem?_eq_getElem hl]
  exact congrArg some (of_decide_eq_true (List.findIdx_getElem (w := hl)))
theorem FI.done {ks us : List NestedKey} (h : FI ks ks.length us) : NumOf ks (ks.map (idxN us)) := by
  have key : ∀ (i a : Nat), (ks.map (idxN us))[i]? = some a → ∃ x, ks[i]? = some x ∧ us[a]? = some x := fun i a e => by
    rw [List.getElem?_map] at e
    cases hx : ks[i]? with
    | none => rw [hx] at e; cases e
    | some x =>
      rw [hx] at e
      have e' : idxN us x = a := Option.some.inj e
      exact ⟨x, rfl, e' ▸ idxN_at (h.all i x (List.getElem?_eq_some_iff.mp hx).1 hx)⟩
  refine ⟨List.length_map _, fun i j a x y h1 h2 h3 h4 => ?_, fun i v e => ?_, fun i j e => by rw [List.getElem?_map, List.getElem?_map, e]⟩
  · obtain ⟨x', e1, e2⟩ := key i a h1
    obtain ⟨y', e3, e4⟩ := key j a h2
    rw [h3] at e1
    rw [h4] at e3
    rw [Option.some.inj e1, Option.some.inj e3]
    exact Option.some.inj (e2.symm.trans e4)
  · obtain ⟨x, e1, e2⟩ := key i _ e
    obtain ⟨j', k', h1, h2, h3⟩ := h.rg v i x e2 e1
    refine ⟨j', h1, ?_⟩
    rw [List.getElem?_map, h3]
    have hk' := h.all j' k' (List.getElem?_eq_some_iff.mp h3).1 h3
    have := idxN_at hk'
    exact congrArg some ((List.getElem?_inj (List.getElem?_eq_some_iff.mp this).1 h.nd).mp (this.trans h2.symm))
theorem NumOf.le {ks : List NestedKey} {ns : List Nat} (h : NumOf ks ns) : ∀ (v i : Nat), ns[i]? = some v → v ≤ i
  | 0, _, _ => Nat.zero_le _
  | v + 1, i, e => by
    obtain ⟨j, h1, h2⟩ := h.rg i v e
    have := h.le v j h2
    omega
abbrev KeysAt (H : Hp) : List Addr → List NestedKey → Prop := Paired fun b k => KeyN H (.ref b) k
theorem keysat_stay {H H' : Hp} (t : TupsStay H H') {bs : List Addr} {ks : List NestedKey} (h : KeysAt H bs ks) : KeysAt H' bs ks := awMap (fun b k z => keyn_stay t z) h
def spNu : Sp := fun vs H Q _ => ∃ (L : Addr) (bs : List Addr) (ks : List NestedKey), vs = [.ref L] ∧ H L = some (.lst (bs.map V.ref)) ∧ KeysAt H bs ks ∧ bs.length ≤ 256 ∧
  ∀ H' p ns, Same H H' → H p = none → H' p = some (.lst ((zs ns).map V.int)) → NumOf ks ns → Q (.ref p) H'
theorem ok_nu {f : Addr} {fd : FuncData} {k : Nat} (F : Fun K "numbered" "numbered" s_numbered f fd) (mn : mg "len" = none) : FnOk P w K mg base CX0 (k + 1) f fd ["looks"] spNu := by
  refine F.ok sc_numbered (fun vs H Q E h => ?_) (fun cdv A outer s H vs Q E hr h => ?_)
  · obtain ⟨L, bs, ks, rfl, _⟩ := h
    rfl
  · obtain ⟨L, bs, ks, rfl, eL, hk, hl, q⟩ := h
    refine ⟨_, pss_cons (ps_set (i := 1) sc_numbered.nd rfl (.inr rfl) (pe_ndnew (P := P) (w := w) rfl rfl))
      (pss_cons (ps_for PassesOwn.never rfl (pi_list (pv 0)) (pg_name (i := 2) sc_numbered.nd rfl (.inl rfl))
        (pss_one (ps_expr (pe_nsetd (P := P) (w := w) rfl rfl hr.units (pv 1) (pa_cons (pv 2) (pa_cons (pe_callB (call_lenN (P := P) (w := w) rfl rfl) (by rfl) mn PySem.boot_len (pa_cons (pv 1) pa_nil)) pa_nil))))))
      (pss_one (ps_ret (pe_lc (own := [("look", 2)]) (g := gName 2) (by rfl) sc_numbered.nd (pi_list (pv 0)) (blkOk_by (own := [("look", 2)]) (N := N_numbered) (sc := defScope s_numbered) (by decide +kernel))
        (fun _ _ _ _ _ => pg_name (i := 2) sc_numbered.nd rfl (Or.inl rfl)) (fun _ _ _ _ _ => pts_nil) (fun _ _ _ _ _ => pe_ndget (P := P) (w := w) rfl rfl hr.units (pv 1) (pv 2) (fun _ _ => rfl)))))), ?_⟩
    intro N hN
    have sN := same_new (o := NDO P w N []) hN
    have nLN : L ≠ N := ne_of_none eL hN
    have kl := awLen hk
    refine ⟨.ref L, rfl, L, rfl, ⟨_, .inl (.inl (sN _ _ eL))⟩, for_list (K := K) (a := L) (xs := bs.map V.ref) (fun i σ H3 => ∃ y2 ts, σ = [some (.ref L), some (.ref N), y2] ∧ ND P w H3 N (numE ts) ∧ FI ks i (ts.map (·.1)) ∧ Same H H3)
      ⟨none, [], rfl, nd_nil, FI.zero, sN⟩ (fun i σ H3 _ hp => ?_) (fun i x σ H3 hx hp => ?_) (fun σ H3 hp => ?_)⟩
    · obtain ⟨_, _, _, _, _, s3⟩ := hp
      exact .inl (.inl (s3 _ _ eL))
    · obtain ⟨y2, ts, rfl, nd3, fi, s3⟩ := hp
      have hi : i < bs.length := by
        have := (List.getElem?_eq_some_iff.mp hx).1
        rwa [List.length_map] at this
      have hx' : x = .ref bs[i] := by
        rw [List.getElem?_map, List.getElem?_eq_getElem hi] at hx
        exact (Option.some.inj hx).symm
      subst hx'
      obtain ⟨key, hk1, hk2⟩ := awGet hk (List.getElem?_eq_getElem hi)
      have hk3 := keyn_stay (Same.tups s3) hk2
      have tl := fi.len
      rw [List.length_map] at tl
      refine ⟨.ref N, rfl, ⟨N, _, rfl, nd3⟩, .ref bs[i], rfl, .ref N, rfl, N, _, rfl, nd3, N, _, key, bs[i], _, rfl, rfl, nd3, hk3, ?_, fun y hy => ?_, fun hn => ?_⟩
      · rw [numE_len]
        exact small1000 (by omega)
      · obtain ⟨b, hb⟩ := getN_some hy
        obtain ⟨j, t, ht, he⟩ := numE_mem hb
        have : key ∈ ts.map (·.1) := List.mem_map.mpr ⟨t, List.mem_of_getElem? ht, (Prod.mk.inj he).1.symm⟩
        exact ⟨some (.ref bs[i]), ts, rfl, nd3, fi.old hk1 this, s3⟩
      · have nm : key ∉ ts.map (·.1) := fun z => by
          obtain ⟨t, h1, h2⟩ := List.mem_map.mp z
          obtain ⟨j, hj⟩ := List.mem_iff_getElem?.mp h1
          have := numE_some (k := key) (b := t.2) fi.nd (by rw [hj, ← h2])
          rw [hn] at this
          cases this
        refine ⟨some (.ref bs[i]), ts ++ [(key, bs[i])], rfl, ?_, ?_, fun b u e => ?_⟩
        · rw [numE_snoc, numE_len]
          exact nd_put nd3 hk3
        · rw [List.map_append]
          exact fi.new hk1 nm
        · rw [upd_ne (ne_of_none e hN)]
          exact s3 b u e
    · obtain ⟨y2, ts, rfl, nd3, fi, s3⟩ := hp
      rw [List.length_map, kl] at fi
      refine ⟨.ref L, rfl, L, rfl, ⟨_, .inl (.inl (s3 _ _ eL))⟩, fun D hD => ?_⟩
      refine lc_it (walk_list (K := K) (a := L) (xs := bs.map V.ref)) (fun i H4 => H4 D = some (.lst ((zs ((ks.map (idxN (ts.map (·.1)))).take i)).map V.int)) ∧ Same H3 H4) ⟨upd_same, same_new hD⟩ (fun i H4 _ hp => .inl (.inl (hp.2 _ _ (s3 _ _ eL)))) (fun i x H4 H5 hi hp hy => ?_) (fun H4 hp => ?_)
      · obtain ⟨eD, s4⟩ := hp
        obtain ⟨rfl, hx⟩ := hy
        have hi2 : i < bs.length := by rwa [List.length_map] at hi
        have hx' : x = .ref bs[i] := by
          rw [List.getElem?_map, List.getElem?_eq_getElem hi2] at hx
          exact (Option.some.inj hx).symm
        subst hx'
        obtain ⟨key, hk1, hk2⟩ := awGet hk (List.getElem?_eq_getElem hi2)
        have hm := fi.all i key (by omega) hk1
        have hat := idxN_at hm
        obtain ⟨t, ht1, ht2⟩ : ∃ t, ts[idxN (ts.map (·.1)) key]? = some t ∧ t.1 = key := by
          rw [List.getElem?_map] at hat
          cases ht : ts[idxN (ts.map (·.1)) key]? with
          | none => rw [ht] at hat; cases hat
          | some t => rw [ht] at hat; exact ⟨t, rfl, Option.some.inj hat⟩
        have hg := numE_some (k := key) (b := t.2) fi.nd (by rw [ht1, ← ht2])
        refine ⟨rfl, .ref N, rfl, .ref bs[i], rfl, N, _, key, _, rfl, nd_same nd3 s4, keyn_stay (Same.tups (s3.trans s4)) hk2, hg, _, eD, ?_, ?_, fun b u e => ?_⟩
        · rw [List.length_map, List.length_map, List.length_take]
          exact small1000 (by omega)
        · rw [upd_same, List.take_add_one, List.getElem?_map, hk1]
          simp [zs]
        · rw [upd_ne (ne_of_none e hD)]
          exact s4 b u e
      · obtain ⟨eD, s4⟩ := hp
        rw [List.length_map, kl, ← List.length_map (f := idxN (ts.map (·.1))), List.take_length] at eD
        exact q H4 D _ (s3.trans s4) (s3.free hD) eD fi.done
/-! ### kinds_of_states -/
abbrev RG (ns : List Nat) : Prop := ∀ i v : Nat, ns[i]? = some (v + 1) → ∃ j, j < i ∧ ns[j]? = some v
abbrev Finer (ns ps : List Nat) : Prop := ∀ i j a x y : Nat, ns[i]? = some a → ns[j]? = some a → ps[i]? = some x → ps[j]? = some y → x = y
theorem rg_down {ps : List Nat} (rg : RG ps) : ∀ d v i : Nat, ps[i]? = some (v + d) → ∃ j : Nat, ps[j]? = some v
  | 0, v, i, h => ⟨i, h⟩
  | d + 1, v, i, h => by
    obtain ⟨j, _, h2⟩ := rg i (v + d) h
    exact rg_down rg d v j h2
theorem coarse {ps ns : List Nat} {M m : Nat} (hl : ps.length = ns.length) (rgp : RG ps) (hM : M ∈ ps) (hm : ∀ x ∈ ns, x ≤ m) (hle : m ≤ M) (ref : Finer ns ps) : Finer ps ns := by
  have at_ : ∀ v, v ≤ M → ∃ i : Nat, ps[i]? = some v := fun v hv => by
    obtain ⟨i, hi⟩ := List.mem_iff_getElem?.mp hM
    exact rg_down rgp (M - v) v i (by rw [hi]; congr 1; omega)
  let r : Nat → Nat := fun v => ps.findIdx fun u => decide (u = v)
  have hr : ∀ v, v ≤ M → ps[r v]? = some v := fun v hv => by
    obtain ⟨i, hi⟩ := at_ v hv
    have hlt : r v < ps.length := List.findIdx_lt_length_of_exists ⟨v, List.mem_of_getElem? hi, by simp⟩
    rw [List.getElem?_eq_getElem hlt]
    exact congrArg some (of_decide_eq_true (List.findIdx_getElem (w := hlt)))
  have hn : ∀ v, v ≤ M → ∃ a, ns[r v]? = some a ∧ ns.getD (r v) 0 = a := fun v hv => by
    have hlt : r v < ns.length := by
      rw [← hl]
      exact (List.getElem?_eq_some_iff.mp (hr v hv)).1
    exact ⟨ns[r v], List.getElem?_eq_getElem hlt, by simp [List.getD, List.getElem?_eq_getElem hlt]⟩
  have nd : ((List.range (M + 1)).map fun v => ns.getD (r v) 0).Nodup := by
    refine List.pairwise_map.mpr (List.Pairwise.imp_of_mem (fun {a b} ha hb hab z => hab ?_) List.nodup_range)
    rw [List.mem_range] at ha hb
    obtain ⟨x, h1, h2⟩ := hn a (by omega)
    obtain ⟨y, h3, h4⟩ := hn b (by omega)
    rw [h2, h4] at z
    subst z
    exact ref _ _ x a b h1 h3 (hr a (by omega)) (hr b (by omega))
  have cov : ∀ x, x ∈ ns → ∃ v, v ≤ M ∧ ns[r v]? = some x := fun x hx => by
    by_cases h : x ∈ (List.range (M + 1)).map fun v => ns.getD (r v) 0
    · obtain ⟨v, h1, h2⟩ := List.mem_map.mp h
      rw [List.mem_range] at h1
      obtain ⟨a, h3, h4⟩ := hn v (by omega)
      exact ⟨v, by omega, by rw [h3, ← h4, ← h2]⟩
    · exfalso
      have := pigeon (x :: (List.range (M + 1)).map fun v => ns.getD (r v) 0) (List.range (M + 1)) (List.nodup_cons.mpr ⟨h, nd⟩) fun y hy => by
        rw [List.mem_range]
        rcases List.mem_cons.mp hy with rfl | hy
        · have := hm _ hx
          omega
        · obtain ⟨v, h1, h2⟩ := List.mem_map.mp hy
          rw [List.mem_range] at h1
          obtain ⟨a, h3, h4⟩ := hn v (by omega)
          have := hm a (List.mem_of_getElem? h3)
          have h2' : ns.getD (r v) 0 = y := h2
          omega
      rw [List.length_cons, List.length_map, List.length_range] at this
      omega
  intro i j a x y h1 h2 h3 h4
  obtain ⟨v, v1, v2⟩ := cov x (List.mem_of_getElem? h3)
  obtain ⟨u, u1, u2⟩ := cov y (List.mem_of_getElem? h4)
  have e1 := ref i (r v) x a v h3 v2 h1 (hr v v1)
  have e2 := ref j (r u) y a u h4 u2 h2 (hr u u1)
  have : v = u := by omega
  subst this
  rw [v2] at u2
  exact Option.some.inj u2
abbrev beh (ns : List Nat) (row : MRow) : List Int := row.map fun e => ((ns.getD e.2.toNat 0 : Nat) : Int)
structure MacOk (mac : List MRow) : Prop where
  pos : 0 < mac.length
  few : mac.length ≤ 256
  rows : ∀ row ∈ mac, row.length ≤ 8
  ends : ∀ row ∈ mac, ∀ e ∈ row, ∃ j : Nat, e.2 = (j : Int) ∧ j < mac.length
/-- states that tell alike for ever -/
def Alk (mac : List MRow) (R : Nat → Nat → Prop) : Prop := ∀ i j, R i j → ∃ r s, mac[i]? = some r ∧ mac[j]? = some s ∧ Paired (fun (e e' : Int × Int) => e.1 = e'.1 ∧ R e.2.toNat e'.2.toNat) r s
theorem alk_bits {R : Nat → Nat → Prop} : ∀ {r s : MRow}, Paired (fun (e e' : Int × Int) => e.1 = e'.1 ∧ R e.2.toNat e'.2.toNat) r s → r.map (·.1) = s.map (·.1)
  | _, _, .nil => rfl
  | _, _, .cons h1 h2 => by rw [List.map_cons, List.map_cons, h1.1, alk_bits h2]
theorem alk_beh {ns : List Nat} {R : Nat → Nat → Prop} (h : ∀ i j, R i j → ns[i]? = ns[j]?) : ∀ {r s : MRow}, Paired (fun (e e' : Int × Int) => e.1 = e'.1 ∧ R e.2.toNat e'.2.toNat) r s → beh ns r = beh ns s
  | _, _, .nil => rfl
  | _, _, .cons h1 h2 => by
    have e := alk_beh h h2
    unfold beh at e ⊢
    rw [List.map_cons, List.map_cons, e, List.getD_eq_getElem?_getD, List.getD_eq_getElem?_getD, h _ _ h1.2]
structure KOk (mac : List MRow) (ns : List Nat) : Prop where
  len : ns.length = mac.length
  rg : RG ns
  bits : ∀ (i j a : Nat) r s, ns[i]? = some a → ns[j]? = some a → mac[i]? = some r → mac[j]? = some s → r.map (·.1) = s.map (·.1)
  next : ∀ (i j a : Nat) r s, ns[i]? = some a → ns[j]? = some a → mac[i]? = some r → mac[j]? = some s → beh ns r = beh ns s
  crs : ∀ R, Alk mac R → ∀ i j, R i j → ns[i]? = ns[j]?
structure KInv (mac : List MRow) (ns : List Nat) (many : Nat) : Prop where
  len : ns.length = mac.length
  rg : RG ns
  bits : ∀ (i j a : Nat) r s, ns[i]? = some a → ns[j]? = some a → mac[i]? = some r → mac[j]? = some s → r.map (·.1) = s.map (·.1)
  prev : many = 0 ∨ ∃ (ps : List Nat) (M : Nat), ps.length = mac.length ∧ RG ps ∧ M ∈ ps ∧ many = M + 1 ∧ Finer ns ps ∧ ∀ (i j a : Nat) r s, ns[i]? = some a → ns[j]? = some a → mac[i]? = some r → mac[j]? = some s → beh ps r = beh ps s
  crs : ∀ R, Alk mac R → ∀ i j, R i j → ns[i]? = ns[j]?
theorem rg_le {ns : List Nat} (rg : RG ns) : ∀ (v i : Nat), ns[i]? = some v → v ≤ i
  | 0, _, _ => Nat.zero_le _
  | v + 1, i, e => by
    obtain ⟨j, h1, h2⟩ := rg i v e
    have := rg_le rg v j h2
    omega
theorem KInv.done {mac : List MRow} {ns : List Nat} {many m : Nat} (h : KInv mac ns many) (ok : MacOk mac) (hm : ∀ x ∈ ns, x ≤ m) (hle : m + 1 ≤ many) : KOk mac ns := by
  refine ⟨h.len, h.rg, h.bits, fun i j a r s h1 h2 h3 h4 => ?_, h.crs⟩
  rcases h.prev with e | ⟨ps, M, lp, rgp, hM, rfl, fin, nx⟩
  · omega
  have co := coarse (lp.trans h.len.symm) rgp hM hm (by omega) fin
  have e1 := nx i j a r s h1 h2 h3 h4
  apply List.ext_getElem?
  intro t
  have lr := congrArg List.length (h.bits i j a r s h1 h2 h3 h4)
  rw [List.length_map, List.length_map] at lr
  have e2 := congrArg (fun l : List Int => l[t]?) e1
  rw [List.getElem?_map, List.getElem?_map]
  by_cases ht : t < r.length
  · have ht2 : t < s.length := by omega
    have e3 : (beh ps r)[t]? = (beh ps s)[t]? := e2
    rw [List.getElem?_map, List.getElem?_map, List.getElem?_eq_getElem ht, List.getElem?_eq_getElem ht2] at e3
    rw [List.getElem?_eq_getElem ht, List.getElem?_eq_getElem ht2]
    obtain ⟨x, hx, lx⟩ := ok.ends r (List.mem_of_getElem? h3) r[t] (List.getElem_mem ht)
    obtain ⟨y, hy, ly⟩ := ok.ends s (List.mem_of_getElem? h4) s[t] (List.getElem_mem ht2)
    have e4 : ((ps.getD r[t].2.toNat 0 : Nat) : Int) = ((ps.getD s[t].2.toNat 0 : Nat) : Int) := Option.some.inj e3
    show some ((ns.getD r[t].2.toNat 0 : Nat) : Int) = some ((ns.getD s[t].2.toNat 0 : Nat) : Int)
    rw [hx, hy, Int.toNat_natCast, Int.toNat_natCast] at e4 ⊢
    have hl := h.len
    have px : ps[x]? = some ps[x] := List.getElem?_eq_getElem (by omega)
    have py : ps[y]? = some ps[y] := List.getElem?_eq_getElem (by omega)
    have nx : ns[x]? = some ns[x] := List.getElem?_eq_getElem (by omega)
    have ny : ns[y]? = some ns[y] := List.getElem?_eq_getElem (by omega)
    rw [List.getD_eq_getElem?_getD, List.getD_eq_getElem?_getD, px, py] at e4
    rw [List.getD_eq_getElem?_getD, List.getD_eq_getElem?_getD, nx, ny]
    have e6 : ((ps[x] : Nat) : Int) = ((ps[y] : Nat) : Int) := by simpa using e4
    have e5 : ps[x] = ps[y] := by omega
    have := co x y _ _ _ px (e5 ▸ py) nx ny
    simp [this]
  · rw [List.getElem?_eq_none (by omega), List.getElem?_eq_none (by omega)]
theorem KInv.first {mac : List MRow} {ns : List Nat} (h : NumOf (mac.map fun row => kC (row.map (·.1))) ns) : KInv mac ns 0 := by
  refine ⟨by rw [h.len, List.length_map], h.rg, fun i j a r s h1 h2 h3 h4 => ?_, .inl rfl, fun R hR i j hij => ?_⟩
  · exact kC_inj (h.inj i j a _ _ h1 h2 (by rw [List.getElem?_map, h3]; rfl) (by rw [List.getElem?_map, h4]; rfl))
  · obtain ⟨r, s, h1, h2, h3⟩ := hR i j hij
    exact h.same i j (by rw [List.getElem?_map, List.getElem?_map, h1, h2, Option.map_some, Option.map_some, alk_bits h3])
def kZ (n : Nat) (c : List Int) : NestedKey := .tup [.num (n : Int), kC c]
theorem kZ_inj {n n' : Nat} {c c' : List Int} (h : kZ n c = kZ n' c') : n = n' ∧ c = c' := by
  unfold kZ at h
  have h1 := NestedKey.tup.inj h
  rw [List.cons.injEq, List.cons.injEq] at h1
  have h2 := NestedKey.num.inj h1.1
  exact ⟨by omega, kC_inj h1.2.1⟩
theorem kZ_depth (n : Nat) (c : List Int) : (kZ n c).depth ≤ 8 := by
  unfold kZ kC
  simp [NestedKey.depth, NestedKey.depthAll, nums_depth c]
theorem keyZ {H : Hp} {t b : Addr} {n : Nat} {c : List Int} (h1 : H t = some (.tup [.int (n : Int), .ref b])) (h2 : H b = some (.tup (c.map V.int))) : KeyN H (.ref t) (kZ n c) :=
  ⟨.tup h1 (.cons (.num _) (.cons (.tup h2 (nks_ints H c)) .nil)), kZ_depth n c, t, rfl⟩
theorem KInv.step {mac : List MRow} {ns ns' : List Nat} {many m : Nat} (h : KInv mac ns many) (hm : m ∈ ns) (hn : NumOf ((ns.zip mac).map fun e => kZ e.1 (beh ns e.2)) ns') : KInv mac ns' (m + 1) := by
  have zl : (ns.zip mac).length = mac.length := by rw [List.length_zip, h.len, Nat.min_self]
  have key : ∀ (i j a x y : Nat) r s, ns'[i]? = some a → ns'[j]? = some a → ns[i]? = some x → ns[j]? = some y → mac[i]? = some r → mac[j]? = some s → x = y ∧ beh ns r = beh ns s := fun i j a x y r s h1 h2 h3 h4 h5 h6 => by
    have z1 : (ns.zip mac)[i]? = some (x, r) := List.getElem?_zip_eq_some.mpr ⟨h3, h5⟩
    have z2 : (ns.zip mac)[j]? = some (y, s) := List.getElem?_zip_eq_some.mpr ⟨h4, h6⟩
    exact kZ_inj (hn.inj i j a _ _ h1 h2 (by rw [List.getElem?_map, z1]; rfl) (by rw [List.getElem?_map, z2]; rfl))
  have at_ : ∀ (i : Nat) r, mac[i]? = some r → ∃ x : Nat, ns[i]? = some x := fun i r e => by
    have := (List.getElem?_eq_some_iff.mp e).1
    have hl := h.len
    exact ⟨_, List.getElem?_eq_getElem (by omega)⟩
  refine ⟨by rw [hn.len, List.length_map, zl], hn.rg, fun i j a r s h1 h2 h3 h4 => ?_, .inr ⟨ns, m, h.len, h.rg, hm, rfl, fun i j a x y h1 h2 h3 h4 => ?_, fun i j a r s h1 h2 h3 h4 => ?_⟩, fun R hR i j hij => ?_⟩
  · obtain ⟨x, hx⟩ := at_ i r h3
    obtain ⟨y, hy⟩ := at_ j s h4
    obtain ⟨rfl, _⟩ := key i j a x y r s h1 h2 hx hy h3 h4
    exact h.bits i j x r s hx hy h3 h4
  · have l1 := (List.getElem?_eq_some_iff.mp h3).1
    have l2 := (List.getElem?_eq_some_iff.mp h4).1
    have hl := h.len
    exact (key i j a x y _ _ h1 h2 h3 h4 (List.getElem?_eq_getElem (by omega)) (List.getElem?_eq_getElem (by omega))).1
  · obtain ⟨x, hx⟩ := at_ i r h3
    obtain ⟨y, hy⟩ := at_ j s h4
    exact (key i j a x y r s h1 h2 hx hy h3 h4).2
  · obtain ⟨r, s, h1, h2, h3⟩ := hR i j hij
    obtain ⟨x, hx⟩ := at_ i r h1
    have hy : ns[j]? = some x := (h.crs R hR i j hij).symm.trans hx
    have z1 : (ns.zip mac)[i]? = some (x, r) := List.getElem?_zip_eq_some.mpr ⟨hx, h1⟩
    have z2 : (ns.zip mac)[j]? = some (x, s) := List.getElem?_zip_eq_some.mpr ⟨hy, h2⟩
    exact hn.same i j (by rw [List.getElem?_map, List.getElem?_map, z1, z2, Option.map_some, Option.map_some, alk_beh (h.crs R hR) h3])
def spKi : Sp := fun vs H Q _ => ∃ (p : Addr) (ls : List Addr) (mac : List MRow), vs = [.ref p] ∧ H p = some (.lst (ls.map V.ref)) ∧ MacL H ls mac ∧ MacOk mac ∧
  ∀ H' q ns, Same H H' → H q = none → H' q = some (.lst ((zs ns).map V.int)) → KOk mac ns → Q (.ref q) H'
def KSt (H : Hp) (p : Addr) (mac : List MRow) (n : Nat) (σ : L2.St) (H4 : Hp) : Prop := ∃ y3 y4 y5 y6 Kd ns many, σ = [some (.ref p), some (.ref Kd), some (.int ((many : Nat) : Int)), y3, y4, y5, y6] ∧ H4 Kd = some (.lst ((zs ns).map V.int)) ∧ KInv mac ns many ∧ Same H H4 ∧ H Kd = none ∧ n = 300 - many
theorem mem_zs {ns : List Nat} {m : Int} (h : m ∈ zs ns) : ∃ k : Nat, k ∈ ns ∧ m = (k : Int) := by
  obtain ⟨k, h1, h2⟩ := List.mem_map.mp h
  exact ⟨k, h1, h2.symm⟩
theorem macl_same {H H' : Hp} (s : Same H H') {ls : List Addr} {mac : List MRow} (h : MacL H ls mac) : MacL H' ls mac := macl_stay (Same.tups s) (fun l _ xs e => s _ _ e) h
abbrev TupsAt (H : Hp) : List Addr → List (List Int) → Prop := Paired fun b c => H b = some (.tup (c.map V.int))
abbrev rTupOf (K : PySem.W.Frag) : List V → Hp → VK → Prop := fun xs H Q => ∃ p ys, xs = [.ref p] ∧ ((SqL K H p ys ∧ ∀ l, H l = none → Q (.ref l) (upd H l (.tup ys))) ∨ (SqT K H p ys ∧ Q (.ref p) H))
abbrev scKa : Scope := ⟨.function, [(".0", .local), ("state", .local), ("tuple", .globalImplicit)], false, false, []⟩
abbrev scKb : Scope := ⟨.function, [(".0", .local), ("state", .local), ("tuple", .globalImplicit), ("kinds", .cell)], false, false, []⟩
abbrev scKc : Scope := ⟨.function, [(".0", .local), ("bit", .local), ("after", .local), ("kinds", .free)], false, false, []⟩
theorem ok_ki {f fN : Addr} {fd fdN : FuncData} {k : Nat} (F : Fun K "kinds_of_states" "kinds_of_states" s_kinds_of_states f fd)
    (GN : FnOk P w K mg base CX0 (k + 1) fN fdN ["looks"] spNu) (kN : PySem.W.keepIn K (.ref fN) = true) (bN : Binds K fdN ["looks"] []) (gN : mg "numbered" = some (.ref fN))
    (mx : mg "max" = none) (mt : mg "tuple" = none) (ml : mg "list" = none) (mz : mg "zip" = none) : FnOk P w K mg base CX0 (k + 2) f fd ["machine"] spKi := by
  refine F.ok sc_kinds_of_states (fun vs H Q E h => ?_) (fun cdv A outer s H vs Q E hr h => ?_)
  · obtain ⟨p, ls, mac, rfl, _⟩ := h
    rfl
  · obtain ⟨p, ls, mac, rfl, ep, hmac, ok, q⟩ := h
    refine ⟨_, pss_cons (ps_set (i := 1) sc_kinds_of_states.nd rfl (.inr rfl) (pe_call GN hr (by rfl) gN kN bN .nil pass0 (pa_cons
        (pe_lc (own := [("state", 6)]) (g := gName 6) (by rfl) sc_kinds_of_states.nd (pi_list (pv 0)) (blkOk_by (own := [("state", 6)]) (N := N_kinds_of_states) (sc := defScope s_kinds_of_states) (by decide +kernel))
          (fun _ _ _ _ _ => pg_name (i := 6) sc_kinds_of_states.nd rfl (Or.inl rfl)) (fun _ _ _ _ _ => pts_nil)
          (fun _ _ _ _ _ => pe_callTy (T := "tuple") (r := rTupOf K) call_tuple_of (by rfl) mt (by decide +kernel) (pa_cons
            (pe_lc (wi := iList K (tVar 6)) (own := [("bit", 4), ("after", 5)]) (g := gTup K 2 (gCons (gName 4) (gCons (gName 5) gNil))) (by rfl) sc_kinds_of_states.nd (pi_list (pv 6)) (blkOk_by (own := [("bit", 4), ("after", 5)]) (N := N_kinds_of_states) (sc := scKa) (by decide +kernel))
              (fun _ _ _ _ _ => pg_tup rfl (pgs_cons (pg_name (i := 4) sc_kinds_of_states.nd rfl (.inl rfl)) (pgs_cons (pg_name (i := 5) sc_kinds_of_states.nd rfl (.inl rfl)) pgs_nil))) (fun _ _ _ _ _ => pts_nil)
              (fun _ _ _ _ _ => pv 4)) pa_nil))) pa_nil)))
      (pss_cons (ps_set (i := 2) sc_kinds_of_states.nd rfl (.inl rfl) pe_int)
      (pss_cons (ps_while PassesOwn.never (pt_cmpR op_lt (pv 2) (pe_op op_add (pe_callB (cr_max rfl) (by rfl) mx (by decide +kernel) (pa_cons (pv 1) pa_nil)) pe_int) (nomark _))
        (pss_cons (ps_set (i := 2) sc_kinds_of_states.nd rfl (.inl rfl) (pe_op op_add (pe_callB (cr_max rfl) (by rfl) mx (by decide +kernel) (pa_cons (pv 1) pa_nil)) pe_int))
        (pss_cons (ps_setLc (i := 3) (own := [("state", 6)]) (g := gName 6) (by rfl) sc_kinds_of_states.nd rfl rfl (sw_true rfl rfl rfl (by decide +kernel)) (pi_list (pv 0)) (blkOk_by (own := [("state", 6)]) (N := N_kinds_of_states) (sc := defScope s_kinds_of_states) (by decide +kernel))
          (fun _ _ _ _ _ => pg_name (i := 6) sc_kinds_of_states.nd rfl (Or.inl rfl)) (fun _ _ _ _ _ => pts_nil)
          (fun _ _ _ _ _ => pe_callTy (T := "tuple") (r := rTupOf K) call_tuple_of (by rfl) mt (by decide +kernel) (pa_cons
            (pe_lc (wi := iList K (tVar 6)) (own := [("bit", 4), ("after", 5)]) (g := gTup K 2 (gCons (gName 4) (gCons (gName 5) gNil))) (by rfl) sc_kinds_of_states.nd (pi_list (pv 6)) (by exact blkOk_by (own := [("bit", 4), ("after", 5)]) (N := N_kinds_of_states) (sc := scKb) (scope := scKc) (by decide +kernel))
              (fun _ _ _ _ _ => pg_tup rfl (pgs_cons (pg_name (i := 4) sc_kinds_of_states.nd rfl (.inl rfl)) (pgs_cons (pg_name (i := 5) sc_kinds_of_states.nd rfl (.inl rfl)) pgs_nil))) (fun _ _ _ _ _ => pts_nil)
              (fun _ _ _ _ _ => pe_ix (r := rIxL K) ix_list (pv 1) (pv 5) (fun _ _ => rfl))) pa_nil)))
        (pss_one (ps_set (i := 1) sc_kinds_of_states.nd rfl (.inr rfl) (pe_call GN hr (by rfl) gN kN bN .nil pass0 (pa_cons (pe_listZip (by rfl) (by rfl) ml (by rfl) mz (pa_cons (pv 1) (pa_cons (pv 3) pa_nil))) pa_nil)))))))
      (pss_one (ps_ret (pv 1))))), ?_⟩
    have lml := awLen hmac
    have few := ok.few
    -- the bits of the states
    refine ⟨.ref p, rfl, p, rfl, ⟨_, .inl (.inl ep)⟩, fun D hD => ?_⟩
    refine lc_it (walk_list (K := K) (a := p) (xs := ls.map V.ref)) (fun i H4 => ∃ bs, H4 D = some (.lst (bs.map V.ref)) ∧ TupsAt H4 bs ((mac.map fun row => row.map (·.1)).take i) ∧ Same H H4) ⟨[], upd_same, .nil, same_new hD⟩ (fun i H4 _ hp => ?_) (fun i x H4 H5 hi hp hy => ?_) (fun H4 hp => ?_)
    · obtain ⟨_, _, _, s4⟩ := hp
      exact .inl (.inl (s4 _ _ ep))
    · obtain ⟨bs, eD, hb, s4⟩ := hp
      obtain ⟨rfl, hx⟩ := hy
      have hi2 : i < ls.length := by rwa [List.length_map] at hi
      have hx' : x = .ref ls[i] := by
        rw [List.getElem?_map, List.getElem?_eq_getElem hi2] at hx
        exact (Option.some.inj hx).symm
      subst hx'
      obtain ⟨row, hr1, hr2⟩ := awGet hmac (List.getElem?_eq_getElem hi2)
      obtain ⟨qs, eq, hq⟩ := hr2
      have rm := List.mem_of_getElem? hr1
      have r8 := ok.rows row rm
      have ql := awLen hq
      have bl := awLen hb
      rw [List.length_take] at bl
      refine ⟨rfl, .ref ls[i], rfl, ls[i], rfl, ⟨_, .inl (.inl (s4 _ _ eq))⟩, fun G hG => ?_⟩
      refine lc_it (walk_list (K := K) (a := ls[i]) (xs := qs.map V.ref)) (fun t H6 => H6 G = some (.lst (((row.take t).map (·.1)).map V.int)) ∧ Same H5 H6) ⟨upd_same, same_new hG⟩ (fun t H6 _ hp => .inl (.inl (hp.2 _ _ (s4 _ _ eq)))) (fun t x H6 H7 ht hp hy => ?_) (fun H6 hp => ?_)
      · obtain ⟨eG, s6⟩ := hp
        obtain ⟨rfl, hx⟩ := hy
        have ht2 : t < qs.length := by rwa [List.length_map] at ht
        have hx' : x = .ref qs[t] := by
          rw [List.getElem?_map, List.getElem?_eq_getElem ht2] at hx
          exact (Option.some.inj hx).symm
        subst hx'
        obtain ⟨e, he1, he2⟩ := awGet hq (List.getElem?_eq_getElem ht2)
        have gl : ((row.take t).map (·.1)).length < sizeLine := by
          rw [List.length_map, List.length_take]
          exact small1000 (by omega)
        refine ⟨qs[t], [.int e.1, .int e.2], rfl, .inl (.inl (s6 _ _ (s4 _ _ he2))), rfl, .int e.1, [.int e.2], rfl, .int e.2, [], rfl, rfl, rfl, .int e.1, rfl, _, eG, ?_, ?_, fun b u z => ?_⟩
        · rw [List.length_map]
          exact gl
        · rw [upd_same, List.take_add_one, he1]
          simp
        · rw [upd_ne (ne_of_none z hG)]
          exact s6 b u z
      · obtain ⟨eG, s6⟩ := hp
        rw [List.length_map, ql, List.take_length] at eG
        refine ⟨G, _, rfl, .inl ⟨.inl (.inl eG), fun T hT => ?_⟩⟩
        have sT := same_new (o := .tup ((row.map (·.1)).map V.int)) hT
        have eD2 := (s6.trans sT) _ _ eD
        have tp := tups_put (o := .lst (bs.map V.ref ++ [V.ref T])) eD2
        refine ⟨_, eD2, ?_, bs ++ [T], ?_, ?_, fun b u z => ?_⟩
        · rw [List.length_map]
          exact small1000 (by omega)
        · rw [upd_same, List.map_append]
          rfl
        · rw [List.take_add_one, List.getElem?_map, hr1]
          exact awMap (fun b c z => tp _ _ z) (awSnoc (F := fun (b : Addr) (c : List Int) => (upd H6 T (.tup ((row.map (·.1)).map V.int))) b = some (.tup (c.map V.int))) upd_same (awMap (fun b c z => sT _ _ (s6 _ _ z)) hb))
        · rw [upd_ne (ne_of_none z hD)]
          exact sT _ _ (s6 _ _ (s4 b u z))
    · obtain ⟨bs, eD, hb, s4⟩ := hp
      have hb' : TupsAt H4 bs (mac.map fun row => row.map (·.1)) := by
        rw [List.length_map, lml, ← List.length_map (as := mac) (f := fun row => row.map (·.1)), List.take_length] at hb
        exact hb
      have bl : bs.length = mac.length := by rw [awLen hb', List.length_map]
      have hks : KeysAt H4 bs (mac.map fun row => kC (row.map (·.1))) := paired_of (by rw [bl, List.length_map]) fun j b key h1 h2 => by
        obtain ⟨c, h3, h4⟩ := awGet hb' h1
        rw [List.getElem?_map] at h2 h3
        cases hj : mac[j]? with
        | none => rw [hj] at h2; cases h2
        | some row =>
          rw [hj] at h2 h3
          rw [← Option.some.inj h2]
          rw [← Option.some.inj h3] at h4
          exact keyC h4
      refine ⟨D, bs, _, rfl, eD, hks, by omega, fun H5 Kd ns s5 nK eK hn => ?_⟩
      have nK0 := s4.free nK
      refine ⟨KSt H p mac, ⟨_, none, none, none, none, Kd, ns, 0, rfl, eK, KInv.first hn, s4.trans s5, nK0, rfl⟩, fun n σ H6 hp => ?_⟩
      obtain ⟨y3, y4, y5, y6, Kd, ns, many, rfl, eK, ki, s6, nK0, rfl⟩ := hp
      have nl : 0 < ns.length := by
        rw [ki.len]
        exact ok.pos
      refine ⟨.int many, rfl, .ref Kd, rfl, Kd, zs ns, rfl, .inl (.inl eK), by rwa [List.length_map], fun mI hmI hxI => ?_⟩
      obtain ⟨m, hm, rfl⟩ := mem_zs hmI
      have hx : ∀ x ∈ ns, x ≤ m := fun x hx => by
        have := hxI (x : Int) (List.mem_map.mpr ⟨x, hx, rfl⟩)
        omega
      have m256 : m < 256 := by
        obtain ⟨i, hi⟩ := List.mem_iff_getElem?.mp hm
        have h1 := rg_le ki.rg m i hi
        have h2 := (List.getElem?_eq_some_iff.mp hi).1
        have h3 := ki.len
        omega
      refine ⟨_, _, rfl, rfl, _, _, rfl, rfl, _, rfl, ite2 (fun e => ?_) (fun e => ?_)⟩
      · have lt : many < m + 1 := by
          have := of_decide_eq_true e
          omega
        refine ⟨fun σ' H' => ∃ m', m' < 300 - many ∧ KSt H p mac m' σ' H', fun σ' H' z => z, ?_⟩
        refine ⟨.ref Kd, rfl, Kd, zs ns, rfl, .inl (.inl eK), by rwa [List.length_map], fun mJ hmJ hxJ => ?_⟩
        obtain rfl : mJ = (m : Int) := by
          have h1 := hxI mJ hmJ
          have h2 := hxJ _ hmI
          omega
        refine ⟨_, _, rfl, rfl, ?_⟩
        refine ⟨.ref p, rfl, p, rfl, ⟨_, .inl (.inl (s6 _ _ ep))⟩, fun D hD => ?_⟩
        have hmac' := macl_same s6 hmac
        refine lc_it (walk_list (K := K) (a := p) (xs := ls.map V.ref)) (fun i H7 => ∃ bs, H7 D = some (.lst (bs.map V.ref)) ∧ TupsAt H7 bs ((mac.map (beh ns)).take i) ∧ Same H6 H7) ⟨[], upd_same, .nil, same_new hD⟩ (fun i H7 _ hp => ?_) (fun i x H7 H8 hi hp hy => ?_) (fun H7 hp => ?_)
        · obtain ⟨_, _, _, s7⟩ := hp
          exact .inl (.inl (s7 _ _ (s6 _ _ ep)))
        · obtain ⟨bs, eD, hb, s7⟩ := hp
          obtain ⟨rfl, hx⟩ := hy
          have hi2 : i < ls.length := by rwa [List.length_map] at hi
          have hx' : x = .ref ls[i] := by
            rw [List.getElem?_map, List.getElem?_eq_getElem hi2] at hx
            exact (Option.some.inj hx).symm
          subst hx'
          obtain ⟨row, hr1, hr2⟩ := awGet hmac' (List.getElem?_eq_getElem hi2)
          obtain ⟨qs, eq, hq⟩ := hr2
          have rm := List.mem_of_getElem? hr1
          have r8 := ok.rows row rm
          have ql := awLen hq
          have bl := awLen hb
          rw [List.length_take] at bl
          refine ⟨rfl, .ref ls[i], rfl, ls[i], rfl, ⟨_, .inl (.inl (s7 _ _ eq))⟩, fun G hG => ?_⟩
          refine lc_it (walk_list (K := K) (a := ls[i]) (xs := qs.map V.ref)) (fun t H9 => H9 G = some (.lst ((beh ns (row.take t)).map V.int)) ∧ Same H8 H9) ⟨upd_same, same_new hG⟩ (fun t H9 _ hp => .inl (.inl (hp.2 _ _ (s7 _ _ eq)))) (fun t x H9 H10 ht hp hy => ?_) (fun H9 hp => ?_)
          · obtain ⟨eG, s9⟩ := hp
            obtain ⟨rfl, hx⟩ := hy
            have ht2 : t < qs.length := by rwa [List.length_map] at ht
            have hx' : x = .ref qs[t] := by
              rw [List.getElem?_map, List.getElem?_eq_getElem ht2] at hx
              exact (Option.some.inj hx).symm
            subst hx'
            obtain ⟨e, he1, he2⟩ := awGet hq (List.getElem?_eq_getElem ht2)
            obtain ⟨j, hj1, hj2⟩ := ok.ends row rm e (List.mem_of_getElem? he1)
            have jn : j < ns.length := by
              rw [ki.len]
              exact hj2
            have gd : ns.getD e.2.toNat 0 = ns[j] := by
              rw [hj1, Int.toNat_natCast]
              simp [List.getD, List.getElem?_eq_getElem jn]
            refine ⟨qs[t], [.int e.1, .int e.2], rfl, .inl (.inl (s9 _ _ (s7 _ _ he2))), rfl, .int e.1, [.int e.2], rfl, .int e.2, [], rfl, rfl, rfl, .ref Kd, rfl, .int e.2, rfl, Kd, _, e.2, .int ((ns[j] : Nat) : Int), rfl, rfl, .inl (.inl (s9 _ _ (s7 _ _ eK))), ?_, _, eG, ?_, ?_, fun b u z => ?_⟩
            · rw [hj1]
              exact atI_nat (by rw [List.getElem?_map, List.getElem?_map, List.getElem?_eq_getElem jn]; rfl)
            · rw [List.length_map, List.length_map, List.length_take]
              exact small1000 (by omega)
            · rw [upd_same, List.take_add_one, he1]
              simp [beh, ← gd]
            · rw [upd_ne (ne_of_none z hG)]
              exact s9 b u z
          · obtain ⟨eG, s9⟩ := hp
            rw [List.length_map, ql, List.take_length] at eG
            refine ⟨G, _, rfl, .inl ⟨.inl (.inl eG), fun T hT => ?_⟩⟩
            have sT := same_new (o := .tup ((beh ns row).map V.int)) hT
            have eD2 := (s9.trans sT) _ _ eD
            have tp := tups_put (o := .lst (bs.map V.ref ++ [V.ref T])) eD2
            refine ⟨_, eD2, ?_, bs ++ [T], ?_, ?_, fun b u z => ?_⟩
            · rw [List.length_map]
              exact small1000 (by omega)
            · rw [upd_same, List.map_append]
              rfl
            · rw [List.take_add_one, List.getElem?_map, hr1]
              exact awMap (fun b c z => tp _ _ z) (awSnoc (F := fun (b : Addr) (c : List Int) => (upd H9 T (.tup ((beh ns row).map V.int))) b = some (.tup (c.map V.int))) upd_same (awMap (fun b c z => sT _ _ (s9 _ _ z)) hb))
            · rw [upd_ne (ne_of_none z hD)]
              exact sT _ _ (s9 _ _ (s7 b u z))
        · obtain ⟨bs, eD, hb, s7⟩ := hp
          have hb' : TupsAt H7 bs (mac.map (beh ns)) := by
            rw [List.length_map, lml, ← List.length_map (as := mac) (f := beh ns), List.take_length] at hb
            exact hb
          have bl : bs.length = mac.length := by rw [awLen hb', List.length_map]
          have kl := ki.len
          refine ⟨.ref Kd, rfl, .ref D, rfl, Kd, D, _, _, rfl, .inl (.inl (s7 _ _ eK)), .inl (.inl eD), by rw [List.length_map, List.length_map, List.length_map]; omega, fun H8 Z ts s8 nZ eZ hz => ?_⟩
          have tl : ts.length = mac.length := by
            rw [awLen hz, List.length_zip, List.length_map, List.length_map, List.length_map]
            omega
          have hks : KeysAt H8 ts ((ns.zip mac).map fun e => kZ e.1 (beh ns e.2)) := paired_of (by rw [tl, List.length_map, List.length_zip]; omega) fun j t key h1 h2 => by
            obtain ⟨e, h3, h4⟩ := awGet hz h1
            rw [List.getElem?_map] at h2
            have hj : j < mac.length := by
              have := (List.getElem?_eq_some_iff.mp h1).1
              omega
            have n1 : ns[j]? = some ns[j] := List.getElem?_eq_getElem (by omega)
            have m1 : mac[j]? = some mac[j] := List.getElem?_eq_getElem hj
            have b1 : bs[j]? = some bs[j] := List.getElem?_eq_getElem (by omega)
            have z1 : (ns.zip mac)[j]? = some (ns[j], mac[j]) := List.getElem?_zip_eq_some.mpr ⟨n1, m1⟩
            rw [z1] at h2
            obtain rfl := Option.some.inj h2
            have z2 : (((zs ns).map V.int).zip (bs.map V.ref))[j]? = some (.int ((ns[j] : Nat) : Int), .ref bs[j]) := List.getElem?_zip_eq_some.mpr ⟨by rw [List.getElem?_map, List.getElem?_map, n1]; rfl, by rw [List.getElem?_map, b1]; rfl⟩
            rw [z2] at h3
            obtain rfl := Option.some.inj h3
            obtain ⟨c, h5, h6⟩ := awGet hb' b1
            rw [List.getElem?_map, m1] at h5
            obtain rfl := Option.some.inj h5
            exact keyZ h4 (s8 _ _ h6)
          refine ⟨Z, ts, _, rfl, eZ, hks, by omega, fun H9 Kd2 ns2 s9 nK2 eK2 hn2 => ?_⟩
          have s69 := (s7.trans s8).trans s9
          exact ⟨300 - (m + 1), by omega, some (.ref D), y4, y5, y6, Kd2, ns2, m + 1, rfl, eK2, ki.step hm hn2, s6.trans s69, (s6.trans (s7.trans s8)).free nK2, rfl⟩
      · have ge : m + 1 ≤ many := by
          have : ¬ ((many : Int) < (m : Int) + 1) := fun z => e (decide_eq_true z)
          omega
        exact ⟨.ref Kd, rfl, q H6 Kd ns s6 nK0 eK (ki.done ok hx ge)⟩
/-! ### least_machine -/
abbrev low (ns : List Nat) (row : MRow) : MRow := row.map fun e => (e.1, ((ns.getD e.2.toNat 0 : Nat) : Int))
theorem low_eq {ns : List Nat} : ∀ {r s : MRow}, r.map (·.1) = s.map (·.1) → beh ns r = beh ns s → low ns r = low ns s
  | [], [], _, _ => rfl
  | [], _ :: _, h, _ => nomatch h
  | _ :: _, [], h, _ => nomatch h
  | x :: r, y :: s, h1, h2 => by
    simp only [beh, List.map_cons, List.cons.injEq] at h1 h2
    simp only [low, List.map_cons, List.cons.injEq]
    exact ⟨Prod.ext h1.1 h2.1, low_eq h1.2 h2.2⟩
/-- a machine walks along with the carries of a row -/
def Sim (m : Nat) (ds : List Deed) (o : Int) (lm : List MRow) (S : List Int → Nat → Prop) : Prop :=
  S (ds.map fcD) 0 ∧ ∀ c k, S c k → ∃ row, lm[k]? = some row ∧ Paired (fun (e : Int × Int) (s : Int × List Int) => e.1 = s.1 ∧ ∃ j : Nat, e.2 = (j : Int) ∧ S s.2 j) row (stp m ds o c)
structure LInv (mac : List MRow) (ns : List Nat) (lm : List MRow) (i : Nat) : Prop where
  each : ∀ (k : Nat) row, lm[k]? = some row → ∃ (i0 : Nat) (r : MRow), ns[i0]? = some k ∧ mac[i0]? = some r ∧ row = low ns r
  all : ∀ j k : Nat, j < i → ns[j]? = some k → k < lm.length
  len : lm.length ≤ i
theorem LInv.new {mac lm : List MRow} {ns : List Nat} {i : Nat} {r : MRow} (h : LInv mac ns lm i) (hk : ns[i]? = some lm.length) (hr : mac[i]? = some r) : LInv mac ns (lm ++ [low ns r]) (i + 1) := by
  refine ⟨fun k row e => ?_, fun j k hj e => ?_, by rw [List.length_append]; exact Nat.succ_le_succ h.len⟩
  · by_cases hl : k < lm.length
    · rw [List.getElem?_append_left hl] at e
      exact h.each k row e
    · rw [List.getElem?_append_right (by omega)] at e
      have h2 := (List.getElem?_eq_some_iff.mp e).1
      simp only [List.length_cons, List.length_nil] at h2
      have ek : k = lm.length := by omega
      subst ek
      rw [Nat.sub_self] at e
      exact ⟨i, r, hk, hr, (Option.some.inj e).symm⟩
  · rw [List.length_append]
    show k < lm.length + 1
    by_cases hji : j = i
    · subst hji
      rw [hk] at e
      have := Option.some.inj e
      omega
    · have := h.all j k (by omega) e
      omega
theorem LInv.old {mac lm : List MRow} {ns : List Nat} {i k : Nat} (h : LInv mac ns lm i) (rg : RG ns) (hk : ns[i]? = some k) (hn : k ≠ lm.length) : LInv mac ns lm (i + 1) := by
  refine ⟨h.each, fun j k' hj e => ?_, Nat.le_succ_of_le h.len⟩
  by_cases hji : j = i
  · subst hji
    rw [hk] at e
    obtain rfl := Option.some.inj e
    cases k with
    | zero => omega
    | succ v =>
      obtain ⟨j', h1, h2⟩ := rg j v hk
      have := h.all j' v h1 h2
      omega
  · exact h.all j k' (by omega) e
theorem LInv.sim {mac lm : List MRow} {ns : List Nat} {m : Nat} {ds : List Deed} {o : Int} {cs : List (List Int)} (h : LInv mac ns lm ns.length) (kk : KOk mac ns) (wm : WM m ds o cs mac) (hl : mac.length = cs.length) (pos : 0 < mac.length) :
    Sim m ds o lm fun c k => ∃ i : Nat, cs[i]? = some c ∧ ns[i]? = some k := by
  have nl := kk.len
  refine ⟨⟨0, wm.first, ?_⟩, fun c k => ?_⟩
  · have h0 : ns[0]? = some ns[0] := List.getElem?_eq_getElem (by omega)
    have := rg_le kk.rg _ _ h0
    rw [h0]
    congr 1
    omega
  · rintro ⟨i, h1, h2⟩
    have il := (List.getElem?_eq_some_iff.mp h2).1
    have kl := h.all i k il h2
    obtain ⟨i0, r0, a1, a2, a3⟩ := h.each k lm[k] (List.getElem?_eq_getElem kl)
    have hr : mac[i]? = some mac[i] := List.getElem?_eq_getElem (by omega)
    obtain ⟨c', b1, b2⟩ := wm.each i _ hr
    rw [h1] at b1
    obtain rfl := Option.some.inj b1
    have e1 := kk.bits i0 i k r0 _ a1 h2 a2 hr
    have e2 := kk.next i0 i k r0 _ a1 h2 a2 hr
    refine ⟨_, List.getElem?_eq_getElem kl, ?_⟩
    rw [a3, low_eq e1 e2]
    refine paired_of (by rw [List.length_map, awLen b2]) fun t e s g1 g2 => ?_
    rw [List.getElem?_map] at g1
    cases hx : (mac[i]'(by omega))[t]? with
    | none => rw [hx] at g1; cases g1
    | some x =>
      rw [hx] at g1
      obtain ⟨s', g3, g4, j, g5, g6⟩ := awGet b2 hx
      rw [g2] at g3
      obtain rfl := Option.some.inj g3
      obtain rfl := Option.some.inj g1
      have jl := (List.getElem?_eq_some_iff.mp g6).1
      have nj : ns[j]? = some ns[j] := List.getElem?_eq_getElem (by omega)
      refine ⟨g4, ns.getD x.2.toNat 0, rfl, j, g6, ?_⟩
      rw [g5, Int.toNat_natCast, List.getD_eq_getElem?_getD, nj]
      rfl
theorem wm_ok {m : Nat} {ds : List Deed} {o : Int} {cs : List (List Int)} {mac : List MRow} (wm : WM m ds o cs mac) (hl : mac.length = cs.length) (hm : m ≤ 3) (hn : ds.length ≤ 8) : MacOk mac := by
  have pos : 0 < cs.length := (List.getElem?_eq_some_iff.mp wm.first).1
  refine ⟨by omega, by rw [hl]; exact few_cs wm.nd wm.bits hn, fun row hr => ?_, fun row hr e he => ?_⟩
  · obtain ⟨i, hi⟩ := List.mem_iff_getElem?.mp hr
    obtain ⟨c, _, h2⟩ := wm.each i row hi
    rw [awLen h2, stp_len]
    exact Nat.le_trans (Nat.pow_le_pow_right (by decide) hm) (by decide)
  · obtain ⟨i, hi⟩ := List.mem_iff_getElem?.mp hr
    obtain ⟨c, _, h2⟩ := wm.each i row hi
    obtain ⟨t, ht⟩ := List.mem_iff_getElem?.mp he
    obtain ⟨s, _, _, j, h3, h4⟩ := awGet h2 ht
    exact ⟨j, h3, by rw [hl]; exact (List.getElem?_eq_some_iff.mp h4).1⟩
structure LmOk (m : Nat) (ds : List Deed) (o : Int) (lm : List MRow) : Prop where
  sim : ∃ S, Sim m ds o lm S
  few : lm.length ≤ 256
  src : ∃ cs mac ns, WM m ds o cs mac ∧ mac.length = cs.length ∧ KOk mac ns ∧ LInv mac ns lm ns.length
def spLm : Sp := fun vs H Q _ => ∃ (R : Addr) (m : Nat) (o : Int) (ds : List Deed), vs = [.ref R] ∧ RowAt H R m ds o ∧ RowOk m ds o ∧
  ∀ H' p ls lm, Same H H' → H p = none → H' p = some (.lst (ls.map V.ref)) → MacL H' ls lm → LmOk m ds o lm → Q (.ref p) H'
theorem ok_lm {f fW fK : Addr} {fd fdW fdK : FuncData} {k : Nat} (F : Fun K "least_machine" "least_machine" s_least_machine f fd)
    (GW : FnOk P w K mg base CX0 (k + 5) fW fdW ["row"] spWh) (kW : PySem.W.keepIn K (.ref fW) = true) (bW : Binds K fdW ["row"] []) (gW : mg "whole_machine" = some (.ref fW))
    (GK : FnOk P w K mg base CX0 (k + 2) fK fdK ["machine"] spKi) (kK : PySem.W.keepIn K (.ref fK) = true) (bK : Binds K fdK ["machine"] []) (gK : mg "kinds_of_states" = some (.ref fK))
    (mn : mg "len" = none) (mz : mg "zip" = none) : FnOk P w K mg base CX0 (k + 6) f fd ["row"] spLm := by
  refine F.ok sc_least_machine (fun vs H Q E h => ?_) (fun cdv A outer s H vs Q E hr h => ?_)
  · obtain ⟨R, m, o, ds, rfl, _⟩ := h
    rfl
  · obtain ⟨R, m, o, ds, rfl, hrow, hok, q⟩ := h
    have r2 := hr.mono (show k + 2 ≤ k + 5 by omega)
    refine ⟨_, pss_cons (ps_set (i := 1) sc_least_machine.nd rfl (.inl rfl) (pe_call GW hr (by rfl) gW kW bW .nil pass0 (pa_cons (pv 0) pa_nil)))
      (pss_cons (ps_set (i := 2) sc_least_machine.nd rfl (.inr rfl) (pe_call GK r2 (by rfl) gK kK bK .nil pass0 (pa_cons (pv 1) pa_nil)))
      (pss_cons (ps_set (i := 3) sc_least_machine.nd rfl (.inl rfl) (pe_lst pa_nil))
      (pss_cons (ps_for PassesOwn.never rfl (pi_zip (by rfl) mz (pa_cons (pv 2) (pa_cons (pv 1) pa_nil))) (pg_tup rfl (pgs_cons (pg_name (i := 4) sc_least_machine.nd rfl (.inl rfl)) (pgs_cons (pg_name (i := 5) sc_least_machine.nd rfl (.inl rfl)) pgs_nil)))
        (pss_one (ps_if (pt_cmpR op_eq (pv 4) (pe_callB call_len_seq (by rfl) mn PySem.boot_len (pa_cons (pv 3) pa_nil)) (nomark _))
          (pss_one (ps_expr (pe_bm PySem.F.plainAttrs_list PySem.F.slot_list_append PySem.F.type_list_append mt_append (pv 3) (pa_cons
            (pe_lc (own := [("bit", 6), ("after", 7)]) (g := gTup K 2 (gCons (gName 6) (gCons (gName 7) gNil))) (by rfl) sc_least_machine.nd (pi_list (pv 5)) (blkOk_by (own := [("bit", 6), ("after", 7)]) (N := N_least_machine) (sc := defScope s_least_machine) (by decide +kernel))
              (fun _ _ _ _ _ => pg_tup rfl (pgs_cons (pg_name (i := 6) sc_least_machine.nd rfl (.inl rfl)) (pgs_cons (pg_name (i := 7) sc_least_machine.nd rfl (.inl rfl)) pgs_nil))) (fun _ _ _ _ _ => pts_nil)
              (fun _ _ _ _ _ => pe_tup (pa_cons (pv 6) (pa_cons (pe_ix (r := rIxL K) ix_list (pv 2) (pv 7) (fun _ _ => rfl)) pa_nil)))) pa_nil)))) pss_nil)))
      (pss_one (ps_ret (pv 3)))))), ?_⟩
    refine ⟨.ref R, rfl, R, m, o, ds, rfl, hrow, hok, fun H1 p ls cs mac s1 np ep hmac wm hl => ?_⟩
    have ok := wm_ok wm hl (by have := hok.m3; omega) hok.len
    have few := ok.few
    have lml := awLen hmac
    refine ⟨.ref p, rfl, p, ls, mac, rfl, ep, hmac, ok, fun H2 Kd ns s2 nK eK kk => ?_⟩
    have nl := kk.len
    refine ⟨Nat.zero_le _, fun L hL => ?_⟩
    have sL := same_new (o := .lst []) hL
    have nLK : Kd ≠ L := ne_of_none eK hL
    have ep2 := s2 _ _ ep
    have npL : p ≠ L := ne_of_none ep2 hL
    have hmac2 := macl_same s2 hmac
    refine ⟨.ref Kd, rfl, .ref p, rfl, Kd, p, _, _, rfl, .inl (.inl (sL _ _ eK)), .inl (.inl (sL _ _ ep2)), for_it (walk_zip (K := K) (a := Kd) (b := p) (xs := (zs ns).map V.int) (ys := ls.map V.ref) (n := ns.length) (by rw [List.length_map, List.length_map, List.length_map]; omega)) (fun i σ H3 => ∃ y4 y5 y6 y7 ms lm, σ = [some (.ref R), some (.ref p), some (.ref Kd), some (.ref L), y4, y5, y6, y7] ∧ H3 L = some (.lst (ms.map V.ref)) ∧ MacL H3 ms lm ∧ LInv mac ns lm i ∧ (∀ l ∈ ms, l ≠ L) ∧ ∀ b u, H2 b = some u → H3 b = some u)
      ⟨none, none, none, none, [], [], rfl, upd_same, .nil, ⟨fun k row e => by simp at e, fun j k hj => absurd hj (Nat.not_lt_zero _), Nat.le_refl _⟩, (fun _ z => nomatch z), sL⟩ (fun i σ H3 _ hp => ?_) (fun i x σ H3 H4 hi hp hy => ?_) (fun σ H3 hp => ?_)⟩
    · obtain ⟨_, _, _, _, _, _, _, _, _, _, _, st⟩ := hp
      exact ⟨.inl (.inl (st _ _ eK)), .inl (.inl (st _ _ ep2))⟩
    · obtain ⟨y4, y5, y6, y7, ms, lm, rfl, eL, hms, li, nms, st⟩ := hp
      obtain ⟨U, x1, x2, rfl, hU, rfl, g1, g2⟩ := hy
      have hil : i < ls.length := by omega
      have e1 : x1 = .int ((ns[i] : Nat) : Int) := by
        have g1' : ((zs ns).map V.int)[i]? = some x1 := g1
        rw [List.getElem?_map, List.getElem?_map, List.getElem?_eq_getElem hi] at g1'
        exact (Option.some.inj g1').symm
      have e2 : x2 = .ref ls[i] := by
        have g2' : (ls.map V.ref)[i]? = some x2 := g2
        rw [List.getElem?_map, List.getElem?_eq_getElem hil] at g2'
        exact (Option.some.inj g2').symm
      subst e1 e2
      have sU := same_new (o := .tup [.int ((ns[i] : Nat) : Int), .ref ls[i]]) hU
      have eLU := sU _ _ eL
      have mll := awLen hms
      have lil := li.len
      refine ⟨U, [.int ((ns[i] : Nat) : Int), .ref ls[i]], rfl, .inl (.inl upd_same), rfl, .int ((ns[i] : Nat) : Int), [.ref ls[i]], rfl, .ref ls[i], [], rfl, rfl, ?_⟩
      refine ⟨.int ((ns[i] : Nat) : Int), rfl, .ref L, rfl, L, _, rfl, .inl (.inl (.inl eLU)), rfl, _, rfl, ite2 (fun e => ?_) (fun e => ?_)⟩
      · have hk : ns[i]? = some lm.length := by
          rw [List.getElem?_eq_getElem hi]
          have := V.int.inj (of_decide_eq_true e)
          rw [List.length_map] at this
          congr 1
          omega
        obtain ⟨row, hr1, qs, eq, hq⟩ := awGet hmac2 (List.getElem?_eq_getElem hil)
        have rm := List.mem_of_getElem? hr1
        have r8 := ok.rows row rm
        have ql := awLen hq
        have st2 : ∀ b u, H2 b = some u → upd H3 U (.tup [.int ((ns[i] : Nat) : Int), .ref ls[i]]) b = some u := fun b u z => sU _ _ (st b u z)
        refine ⟨.ref L, rfl, .inl ⟨rfl, _, .inl (.inl eLU)⟩, .ref ls[i], rfl, ls[i], rfl, ⟨_, .inl (.inl (st2 _ _ eq))⟩, fun G hG => ?_⟩
        refine lc_it (walk_list (K := K) (a := ls[i]) (xs := qs.map V.ref)) (fun t H6 => ∃ ws, H6 G = some (.lst (ws.map V.ref)) ∧ PrAt H6 ws ((low ns row).take t) ∧ Same (upd H3 U (.tup [.int ((ns[i] : Nat) : Int), .ref ls[i]])) H6) ⟨[], upd_same, .nil, same_new hG⟩ (fun t H6 _ hp => ?_) (fun t x H6 H7 ht hp hy => ?_) (fun H6 hp => ?_)
        · obtain ⟨_, _, _, s6⟩ := hp
          exact .inl (.inl (s6 _ _ (st2 _ _ eq)))
        · obtain ⟨ws, eG, hw, s6⟩ := hp
          obtain ⟨rfl, hx⟩ := hy
          have ht2 : t < qs.length := by rwa [List.length_map] at ht
          have hx' : x = .ref qs[t] := by
            rw [List.getElem?_map, List.getElem?_eq_getElem ht2] at hx
            exact (Option.some.inj hx).symm
          subst hx'
          obtain ⟨e, he1, he2⟩ := awGet hq (List.getElem?_eq_getElem ht2)
          obtain ⟨j, hj1, hj2⟩ := ok.ends row rm e (List.mem_of_getElem? he1)
          have jn : j < ns.length := by omega
          have gd : ns.getD e.2.toNat 0 = ns[j] := by
            rw [hj1, Int.toNat_natCast]
            simp [List.getD, List.getElem?_eq_getElem jn]
          have wl := awLen hw
          rw [List.length_take] at wl
          refine ⟨qs[t], [.int e.1, .int e.2], rfl, .inl (.inl (s6 _ _ (st2 _ _ he2))), rfl, .int e.1, [.int e.2], rfl, .int e.2, [], rfl, rfl, rfl, .int e.1, rfl, .ref Kd, rfl, .int e.2, rfl, Kd, _, e.2, .int ((ns[j] : Nat) : Int), rfl, rfl, .inl (.inl (s6 _ _ (st2 _ _ eK))), ?_, by show 2 ≤ sizeLine; decide, fun T hT => ?_⟩
          · rw [hj1]
            exact atI_nat (by rw [List.getElem?_map, List.getElem?_map, List.getElem?_eq_getElem jn]; rfl)
          have sT := same_new (o := .tup [.int e.1, .int ((ns[j] : Nat) : Int)]) hT
          have eG2 := sT _ _ eG
          have tp := tups_put (o := .lst (ws.map V.ref ++ [V.ref T])) eG2
          refine ⟨_, eG2, ?_, ws ++ [T], ?_, ?_, fun b u z => ?_⟩
          · rw [List.length_map]
            exact small1000 (by omega)
          · rw [upd_same, List.map_append]
            rfl
          · rw [List.take_add_one, List.getElem?_map, he1, Option.map_some, gd]
            exact prat_stay tp (awSnoc (F := fun (q : Addr) (e' : Int × Int) => (upd H7 T (.tup [.int e.1, .int ((ns[j] : Nat) : Int)])) q = some (.tup [.int e'.1, .int e'.2])) upd_same (prat_stay (Same.tups sT) hw))
          · rw [upd_ne (ne_of_none z hG)]
            exact sT _ _ (s6 b u z)
        · obtain ⟨ws, eG, hw, s6⟩ := hp
          rw [List.length_map, ql, ← List.length_map (as := row) (f := fun e => (e.1, ((ns.getD e.2.toNat 0 : Nat) : Int))), List.take_length] at hw
          have eL6 := s6 _ _ eLU
          have tp := tups_put (o := .lst (ms.map V.ref ++ [V.ref G])) eL6
          have nGL : G ≠ L := fun z => by rw [z, eLU] at hG; cases hG
          refine ⟨L, _, _, rfl, rfl, eL6, ?_, _, _, _, _, ms ++ [G], lm ++ [low ns row], rfl, ?_, ?_, li.new hk hr1, fun l hl => ?_, fun b u z => ?_⟩
          · rw [List.length_map]
            exact small1000 (by omega)
          · rw [upd_same, List.map_append]
            rfl
          · refine awSnoc (F := RowL (upd H6 L (.lst (ms.map V.ref ++ [V.ref G])))) ⟨ws, ?_, prat_stay tp hw⟩ (macl_stay ((Same.tups (sU.trans s6)).trans tp) (fun l hl xs z => ?_) hms)
            · rw [upd_ne nGL]
              exact eG
            · rw [upd_ne (nms l hl)]
              exact s6 _ _ (sU _ _ z)
          · rcases List.mem_append.mp hl with hl | hl
            · exact nms l hl
            · rw [List.mem_singleton.mp hl]
              exact nGL
          · rw [upd_ne (ne_of_none z hL)]
            exact s6 _ _ (st2 b u z)
      · have hk : ns[i] ≠ lm.length := fun z => e (by
          apply decide_eq_true
          rw [List.length_map, mll, z])
        exact ⟨_, _, _, _, ms, lm, rfl, eLU, macl_same sU hms, li.old kk.rg (List.getElem?_eq_getElem hi) hk, nms, fun b u z => sU _ _ (st b u z)⟩
    · obtain ⟨y4, y5, y6, y7, ms, lm, rfl, eL, hms, li, nms, st⟩ := hp
      have lil := li.len
      exact ⟨.ref L, rfl, q H3 L ms lm (fun b u z => st _ _ (s2 _ _ (s1 b u z))) ((s1.trans s2).free hL) eL hms ⟨⟨_, li.sim kk wm hl ok.pos⟩, by omega, cs, mac, ns, wm, hl, kk, li⟩⟩
/-! ### told_by -/
theorem bit_and1 {x : Int} (h : 0 ≤ x) : Builtin.bitAnd x 1 = x % 2 := by
  obtain ⟨a, rfl⟩ := Int.eq_ofNat_of_zero_le h
  rw [bitAnd_pp (Int.natCast_nonneg _) (by decide)]
  simp only [Int.toNat_natCast]
  show ((a &&& 1 : Nat) : Int) = _
  rw [Nat.and_one_is_mod]
  omega
def atb (bs : List Int) : Int := bs.foldl (fun a b => 2 * a + b) 0
theorem atb_snoc (bs : List Int) (b : Int) : atb (bs ++ [b]) = 2 * atb bs + b := by
  unfold atb
  rw [List.foldl_append]
  rfl
theorem ext2_at : ∀ {l : List (List Int)} {j : Nat} {b : List Int}, l[j]? = some b → (ext2 l)[2 * j]? = some (b ++ [0]) ∧ (ext2 l)[2 * j + 1]? = some (b ++ [1])
  | [], j, b, h => by simp at h
  | x :: l, 0, b, h => by
    have : x = b := by simpa using h
    subst this
    exact ⟨rfl, rfl⟩
  | x :: l, j + 1, b, h => by
    have h' : l[j]? = some b := by simpa using h
    have ih := ext2_at h'
    have e : ext2 (x :: l) = (x ++ [0]) :: (x ++ [1]) :: ext2 l := rfl
    rw [e]
    have e1 : 2 * (j + 1) = 2 * j + 1 + 1 := by omega
    have e2 : 2 * (j + 1) + 1 = 2 * j + 1 + 1 + 1 := by omega
    constructor
    · rw [e1, List.getElem?_cons_succ, List.getElem?_cons_succ]
      exact ih.1
    · rw [e2, List.getElem?_cons_succ, List.getElem?_cons_succ]
      exact ih.2
theorem allB_at : ∀ (m : Nat) (bs : List Int), bs.length = m → (∀ x ∈ bs, Bit x) → ∃ j : Nat, atb bs = (j : Int) ∧ (allB m)[j]? = some bs
  | 0, bs, h, _ => by
    rw [List.eq_nil_of_length_eq_zero h]
    exact ⟨0, rfl, rfl⟩
  | m + 1, bs, h, hb => by
    have hne : bs ≠ [] := fun e => by rw [e] at h; simp at h
    have e := List.dropLast_concat_getLast hne
    obtain ⟨j, h1, h2⟩ := allB_at m bs.dropLast (by rw [List.length_dropLast, h]; rfl) fun x hx => hb x ((List.dropLast_sublist bs).subset hx)
    obtain ⟨h3, h4⟩ := ext2_at h2
    rcases hb _ (List.getLast_mem hne) with z | z
    · refine ⟨2 * j, ?_, ?_⟩
      · rw [← e, atb_snoc, h1, z]
        omega
      · rw [← e, z]
        exact h3
    · refine ⟨2 * j + 1, ?_, ?_⟩
      · rw [← e, atb_snoc, h1, z]
        omega
      · rw [← e, z]
        exact h4
abbrev atv (t : Nat) (xs : List Int) : Int := atb (xs.map (bitA t))
theorem sim_worth {m n : Nat} {ds : List Deed} {o : Int} {lm : List MRow} {xs : List Int} {S : List Int → Nat → Prop} (sm : Sim m ds o lm S) (ok : DsOk m ds) (hm : xs.length = m) (m1 : 1 ≤ m) (hx : ∀ x ∈ xs, 0 ≤ x ∧ x < 2 ^ n) (o0 : 0 ≤ o) (o1 : o < m + ds.length) :
    ∀ t k v, t < n → (S (crry ds xs t) k ∧ v = (vals (2 ^ n) ds xs).getD o.toNat 0 % 2 ^ t) → ∃ row j b k', lm[k]? = some row ∧ atv t xs = ((j : Nat) : Int) ∧ row[j]? = some (b, ((k' : Nat) : Int)) ∧ Bit b ∧ (S (crry ds xs (t + 1)) k' ∧ v + b * 2 ^ t = (vals (2 ^ n) ds xs).getD o.toNat 0 % 2 ^ (t + 1)) := by
  rintro t k v ht ⟨hS, rfl⟩
  obtain ⟨row, h1, h2⟩ := sm.2 _ _ hS
  obtain ⟨j, h3, h4⟩ := allB_at m (xs.map (bitA t)) (by rw [List.length_map, hm]) fun x hx => by
    obtain ⟨y, _, rfl⟩ := List.mem_map.mp hx
    exact bitA_bit t y
  have e1 : (stp m ds o (crry ds xs t))[j]? = some ((bts ds (crry ds xs t) (xs.map (bitA t))).getD o.toNat 0, nxt ds (crry ds xs t) (bts ds (crry ds xs t) (xs.map (bitA t)))) := by
    unfold stp
    rw [List.getElem?_map, h4]
    rfl
  have jl : j < row.length := by
    rw [awLen h2]
    exact (List.getElem?_eq_some_iff.mp e1).1
  obtain ⟨s, g1, g2, k', g3, g4⟩ := awGet h2 (List.getElem?_eq_getElem jl)
  rw [e1] at g1
  obtain rfl := Option.some.inj g1
  have cb := crry_bits ok hm m1 hx ht
  have vl := vals_len (size := 2 ^ n) ds xs
  have ol : o.toNat < (vals (2 ^ n) ds xs).length := by
    rw [vl, hm]
    omega
  have eb : row[j].1 = bitA t ((vals (2 ^ n) ds xs).getD o.toNat 0) := by
    rw [g2, cb, List.getD_eq_getElem?_getD, List.getD_eq_getElem?_getD, List.getElem?_map, List.getElem?_eq_getElem ol]
    rfl
  refine ⟨row, j, row[j].1, k', h1, h3, ?_, ?_, g4, ?_⟩
  · rw [List.getElem?_eq_getElem jl, ← g3]
  · rw [eb]
    exact bitA_bit _ _
  · rw [eb]
    generalize (vals (2 ^ n) ds xs).getD o.toNat 0 = W
    have h := low_next W (pw_pos t)
    rw [Int.mul_comm 2, ← Int.pow_succ] at h
    unfold bitA
    rw [h, Int.mul_comm, Int.add_comm]
    first | done | omega
/-! ### rows, as numbers -/
structure Rw where
  m : Int
  ds : List Deed
  o : Int
abbrev RwAt (H : Hp) (a : Addr) (r : Rw) : Prop := RowAt H a r.m r.ds r.o
abbrev RwsAt (H : Hp) : List Addr → List Rw → Prop := Paired (RwAt H)
abbrev RwOk (r : Rw) : Prop := RowOk r.m r.ds r.o
theorem stayRws {H H' : Hp} (t : TupsStay H H') {as : List Addr} {rws : List Rw} (h : RwsAt H as rws) : RwsAt H' as rws := awMap (fun _ _ e => t.row e) h
theorem awAt0 {as : List Addr} {a : Addr} {l : List Addr} (h : as = a :: l) : atI (as.map V.ref) 0 = some (.ref a) := by
  subst h
  exact atI_nat (j := 0) rfl
theorem row0 {m o : Int} {D : Addr} : atI [V.int m, .ref D, .int o] 0 = some (.int m) := atI_nat (j := 0) rfl
def rLen (K : PySem.W.Frag) : List V → Hp → VK → Prop := fun xs H Q => ∃ p ys, xs = [.ref p] ∧ (SqL K H p ys ∨ SqT K H p ys) ∧ Q (.int ys.length) H
/-! ### refusals raised -/
theorem app_len (x y : Str) : (x ++ y).length = x.length + y.length := by
  rw [TL.len_tl, TL.tl_append, List.length_append, ← TL.len_tl, ← TL.len_tl]
theorem js_len {acc y : Str} {a b : Nat} (h1 : acc.length ≤ a) (h2 : y.length ≤ b) (h : a + b ≤ 1000) : (acc ++ y).length ≤ sizeLine ∧ (acc ++ y).length ≤ a + b := by
  rw [app_len, sizeLine_eq]
  omega
theorem iX_len {i : Int} (h : i.natAbs < 10 ^ 3) : (Str.ofString (toString i)).length ≤ 4 := by
  rw [PySem.ofString_length]
  exact int_text_length_le10 (k := 3) (by decide) h
theorem log_small {i : Int} (h : i.natAbs < 1000) : i.natAbs.log2 < 1920 := by
  by_cases e : i.natAbs = 0
  · rw [e]; decide
  · have := (Nat.log2_lt (k := 10) e).mpr (Nat.lt_trans h (by decide))
    omega
theorem neT {x y : Int} (h : (!decide (V.int x = V.int y)) = true) : ¬ x = y := fun e => by
  rw [decide_eq_true (congrArg V.int e)] at h
  cases h
theorem neF {x y : Int} (h : ¬ (!decide (V.int x = V.int y)) = true) : x = y := by
  by_cases e : x = y
  · exact e
  · exfalso
    apply h
    rw [decide_eq_false (fun z => e (V.int.inj z))]
    rfl
/-- a class of the program whose instances are raised -/
structure Rai (K : PySem.W.Frag) (mg : Str → Option Value) (x : Str) (C : Addr) : Prop where
  q : PySem.W.excIn K C [.type "ValueError", .type "Exception", .type "BaseException", .type "object"] "ValueError.__new__" = true
  g : mg x = some (.ref C)
  k : PySem.W.keepIn K (.ref C) = true
  s : PySem.W.subIn K (.ref C) (.type "BaseException") = some true
  t : PySem.W.typeIn K (.ref C) = some (.type "type")
/-! ### all words -/
def ob (ds : List Deed) (o : Int) (c bs : List Int) : Int := (bts ds c bs).getD o.toNat 0
def nc (ds : List Deed) (c bs : List Int) : List Int := nxt ds c (bts ds c bs)
def wsum (t : Nat) : Nat → (List Int → Nat) → Nat
  | 0, f => f []
  | m + 1, f => ((List.range t).map fun (x : Nat) => wsum t m fun r => f ((x : Int) :: r)).sum
def comb (bs ys : List Int) : List Int := List.zipWith (fun b y => b + 2 * y) bs ys
theorem wsum_congr {t : Nat} : ∀ {m : Nat} {f g : List Int → Nat}, (∀ xs, xs.length = m → (∀ x ∈ xs, 0 ≤ x ∧ x < (t : Int)) → f xs = g xs) → wsum t m f = wsum t m g
  | 0, f, g, h => h [] rfl (fun _ z => nomatch z)
  | m + 1, f, g, h => by
    unfold wsum
    congr 1
    refine List.map_congr_left fun x hx => wsum_congr fun xs hl hb => h _ (by rw [List.length_cons, hl]) fun y hy => ?_
    rcases List.mem_cons.mp hy with rfl | hy
    · have := List.mem_range.mp hx
      omega
    · exact hb y hy
theorem sum_add {α : Type} (f g : α → Nat) : ∀ l : List α, (l.map fun x => f x + g x).sum = (l.map f).sum + (l.map g).sum
  | [] => rfl
  | x :: l => by
    rw [List.map_cons, List.map_cons, List.map_cons, List.sum_cons, List.sum_cons, List.sum_cons, sum_add f g l]
    omega
theorem sum_swap {α β : Type} (f : α → β → Nat) : ∀ (l : List α) (k : List β), (l.map fun x => (k.map fun y => f x y).sum).sum = (k.map fun y => (l.map fun x => f x y).sum).sum
  | [], k => by
    rw [List.map_nil, List.sum_nil]
    induction k with
    | nil => rfl
    | cons y k ih => rw [List.map_cons, List.sum_cons, ← ih]; rfl
  | x :: l, k => by
    rw [List.map_cons, List.sum_cons, sum_swap f l k, ← sum_add]
    rfl
theorem wsum_sum {α : Type} (t : Nat) (L : List α) : ∀ (m : Nat) (f : α → List Int → Nat), wsum t m (fun xs => (L.map fun a => f a xs).sum) = (L.map fun a => wsum t m (f a)).sum
  | 0, _ => rfl
  | m + 1, f => by
    show ((List.range t).map fun (x : Nat) => wsum t m fun r => (L.map fun a => f a ((x : Int) :: r)).sum).sum = _
    have : (fun (x : Nat) => wsum t m fun r => (L.map fun a => f a ((x : Int) :: r)).sum) = fun (x : Nat) => (L.map fun a => wsum t m fun r => f a ((x : Int) :: r)).sum := funext fun x => wsum_sum t L m fun a r => f a ((x : Int) :: r)
    rw [this, sum_swap]
    rfl
theorem range_two (g : Nat → Nat) : ∀ t : Nat, ((List.range (2 * t)).map g).sum = ((List.range t).map fun y => g (2 * y) + g (2 * y + 1)).sum
  | 0 => rfl
  | t + 1 => by
    have e : 2 * (t + 1) = 2 * t + 1 + 1 := by omega
    rw [e, List.range_succ, List.range_succ, List.range_succ, List.map_append, List.map_append, List.map_append, List.sum_append, List.sum_append, List.sum_append, range_two g t]
    simp
    omega
theorem ext2_sum (g : List Int → Nat) : ∀ l : List (List Int), ((ext2 l).map g).sum = (l.map fun b => g (b ++ [0]) + g (b ++ [1])).sum
  | [] => rfl
  | b :: l => by
    show ((([b ++ [0], b ++ [1]] : List (List Int)) ++ ext2 l).map g).sum = _
    rw [List.map_append, List.sum_append, ext2_sum g l, List.map_cons, List.sum_cons]
    simp
theorem allB_front : ∀ (m : Nat) (g : List Int → Nat), ((allB (m + 1)).map g).sum = ((allB m).map fun bs => g (0 :: bs) + g (1 :: bs)).sum
  | 0, g => by
    show ((ext2 [[]]).map g).sum = _
    rw [ext2_sum]
    rfl
  | m + 1, g => by
    have e : allB (m + 1 + 1) = ext2 (allB (m + 1)) := rfl
    rw [e, ext2_sum, allB_front m, show allB (m + 1) = ext2 (allB m) from rfl, ext2_sum]
    congr 1
    refine List.map_congr_left fun bs _ => ?_
    show g (0 :: (bs ++ [0])) + g (0 :: (bs ++ [1])) + (g (1 :: (bs ++ [0])) + g (1 :: (bs ++ [1]))) = g (0 :: (bs ++ [0])) + g (1 :: (bs ++ [0])) + (g (0 :: (bs ++ [1])) + g (1 :: (bs ++ [1])))
    omega
theorem wsum_two (t : Nat) : ∀ (m : Nat) (f : List Int → Nat), wsum (2 * t) m f = ((allB m).map fun bs => wsum t m fun ys => f (comb bs ys)).sum
  | 0, f => by
    show f [] = ([[]].map fun bs => wsum t 0 fun ys => f (comb bs ys)).sum
    simp [wsum, comb]
  | m + 1, f => by
    rw [allB_front]
    show ((List.range (2 * t)).map fun (x : Nat) => wsum (2 * t) m fun r => f ((x : Int) :: r)).sum = _
    rw [range_two]
    have e1 : ∀ x : Nat, wsum (2 * t) m (fun r => f ((x : Int) :: r)) = ((allB m).map fun bs => wsum t m fun ys => f ((x : Int) :: comb bs ys)).sum := fun x => wsum_two t m fun r => f ((x : Int) :: r)
    have e2 : (fun (y : Nat) => wsum (2 * t) m (fun r => f (((2 * y : Nat) : Int) :: r)) + wsum (2 * t) m (fun r => f (((2 * y + 1 : Nat) : Int) :: r))) = fun (y : Nat) => ((allB m).map fun bs => (wsum t m fun ys => f (((2 * y : Nat) : Int) :: comb bs ys)) + wsum t m fun ys => f (((2 * y + 1 : Nat) : Int) :: comb bs ys)).sum := funext fun y => by
      rw [e1, e1, ← sum_add]
    rw [e2, sum_swap]
    congr 1
    refine List.map_congr_left fun bs _ => ?_
    show _ = ((List.range t).map fun (y : Nat) => wsum t m fun r => f (comb (0 :: bs) ((y : Int) :: r))).sum + ((List.range t).map fun (y : Nat) => wsum t m fun r => f (comb (1 :: bs) ((y : Int) :: r))).sum
    rw [← sum_add]
    congr 1
    refine List.map_congr_left fun y _ => ?_
    have a0 : ((2 * y : Nat) : Int) = 0 + 2 * (y : Int) := by omega
    have a1 : ((2 * y + 1 : Nat) : Int) = 1 + 2 * (y : Int) := by omega
    rw [a0, a1]
    rfl
theorem wsum_one : ∀ m : Nat, wsum 1 m (fun _ => 1) = 1
  | 0 => rfl
  | m + 1 => by
    show ((List.range 1).map fun (_ : Nat) => wsum 1 m fun _ => 1).sum = 1
    rw [wsum_one m]
    rfl
theorem wsum_zero (t : Nat) : ∀ m : Nat, wsum t m (fun _ => 0) = 0
  | 0 => rfl
  | m + 1 => by
    show ((List.range t).map fun (_ : Nat) => wsum t m fun _ => 0).sum = 0
    rw [wsum_zero t m, List.map_const', List.sum_replicate_nat, Nat.mul_zero]
theorem comb_mod : ∀ {bs ys : List Int}, bs.length = ys.length → (∀ x ∈ bs, Bit x) → (comb bs ys).map (· % 2) = bs ∧ (comb bs ys).map (· / 2) = ys
  | [], [], _, _ => ⟨rfl, rfl⟩
  | [], _ :: _, h, _ => by simp at h
  | _ :: _, [], h, _ => by simp at h
  | b :: bs, y :: ys, h, hb => by
    obtain ⟨h1, h2⟩ := comb_mod (bs := bs) (ys := ys) (by simpa using h) fun x hx => hb x (List.mem_cons_of_mem _ hx)
    have hbb := hb b List.mem_cons_self
    have e1 : (b + 2 * y) % 2 = b := by rcases hbb with rfl | rfl <;> omega
    have e2 : (b + 2 * y) / 2 = y := by rcases hbb with rfl | rfl <;> omega
    refine ⟨?_, ?_⟩
    · show (b + 2 * y) % 2 :: (comb bs ys).map (· % 2) = _
      rw [h1, e1]
    · show (b + 2 * y) / 2 :: (comb bs ys).map (· / 2) = _
      rw [h2, e2]
theorem bits_eq {v u : Int} : ∀ (w : Nat), (∀ s, s < w → bitA s v = bitA s u) → v % 2 ^ w = u % 2 ^ w
  | 0, _ => by
    rw [Int.pow_zero, Int.emod_one, Int.emod_one]
  | w + 1, h => by
    have ih := bits_eq w fun s hs => h s (by omega)
    have hb := h w (by omega)
    have e1 := low_next v (pw_pos w)
    have e2 := low_next u (pw_pos w)
    rw [Int.mul_comm 2, ← Int.pow_succ] at e1 e2
    unfold bitA at hb
    rw [e1, e2, ih, hb]
/-! ### xs[::-1] -/
section revs
variable {X : Cx} {e st : Expr} {te ts : TE} {pos p2 : Pos}
theorem range_get {α : Type} : ∀ l : List α, (List.range l.length).filterMap (l[·]?) = l
  | [] => rfl
  | x :: l => by
    rw [List.length_cons, List.range_succ_eq_map, List.filterMap_cons]
    show x :: ((List.range l.length).map Nat.succ).filterMap _ = _
    rw [List.filterMap_map]
    congr 1
    exact range_get l
theorem fm_congr {α β : Type} {f g : α → Option β} : ∀ l : List α, (∀ x ∈ l, f x = g x) → l.filterMap f = l.filterMap g
  | [], _ => rfl
  | x :: l, h => by
    rw [List.filterMap_cons, List.filterMap_cons, h x List.mem_cons_self, fm_congr l fun y hy => h y (List.mem_cons_of_mem _ hy)]
theorem slicePick_rev (its : List Value) : slicePick its.toArray none none (some (-1)) = its.reverse.toArray := by
  unfold slicePick
  congr 1
  have hb : sliceBounds none none (some (-1)) its.toArray.size = ((its.length : Int) - 1, -1, -1) := by
    simp [sliceBounds]
  rw [hb]
  unfold sliceRange
  have hc : (if (-1 : Int) > 0 then (if ((its.length : Int) - 1) < -1 then (-1 - ((its.length : Int) - 1) + -1 - 1) / -1 else 0) else (if ((its.length : Int) - 1) > -1 then (((its.length : Int) - 1) - -1 - -1 - 1) / (- -1) else 0)) = (its.length : Int) := by
    rw [if_neg (by decide)]
    by_cases h : ((its.length : Int) - 1) > -1
    · rw [if_pos h, show (- -1 : Int) = 1 by decide, Int.ediv_one]
      omega
    · rw [if_neg h]
      omega
  show ((List.range (if (-1 : Int) > 0 then (if ((its.length : Int) - 1) < -1 then (-1 - ((its.length : Int) - 1) + -1 - 1) / -1 else 0) else (if ((its.length : Int) - 1) > -1 then (((its.length : Int) - 1) - -1 - -1 - 1) / (- -1) else 0)).toNat).map fun (k : Nat) => ((its.length : Int) - 1 + -1 * (k : Int)).toNat).filterMap (its.toArray[·]?) = its.reverse
  rw [hc, Int.toNat_natCast, List.filterMap_map]
  have e := range_get its.reverse
  rw [List.length_reverse] at e
  refine Eq.trans (fm_congr _ fun k hk => ?_) e
  have hk' := List.mem_range.mp hk
  show its.toArray[((its.length : Int) - 1 + -1 * (k : Int)).toNat]? = its.reverse[k]?
  rw [List.getElem?_toArray, List.getElem?_reverse hk']
  congr 1
  omega
def tRev (K : PySem.W.Frag) (te ts : TE) : TE := fun σ H Q => te σ H fun x H1 => ts σ H1 fun y H2 => ∃ a xs, y = .int (-1) ∧ x = .ref a ∧ SqL K H2 a xs ∧ ∀ p, H2 p = none → Q (.ref p) (upd H2 p (.lst xs.reverse))
theorem pe_rev (he : PE X e te) (hs : PE X st ts) : PE X (.Subscript e (.Slice none none (some st) p2) pos) (tRev X.K te ts) := by
  refine ⟨fun pins s σ H Q I h => ?_⟩
  refine Subscript_ (thn (he.run pins s σ H _ I h) ?_)
  rintro v s1 ⟨x, H1, I1, r1, q1⟩
  apply wpAny_Slice
  rw [evalPart_none]
  refine wpAny_pure ?_
  refine wpAny_pure ?_
  rw [evalPart_some]
  refine thn (hs.run pins s1 σ H1 _ I1 q1) ?_
  rintro vs s3 ⟨y, H3, I3, ry, a, xs, rfl, rfl, hx, q3⟩
  obtain ⟨tk, rfl⟩ := ry
  cases r1
  have I4 : Inv X pins σ H3 { s3 with heap := s3.heap.push { cls := .type "slice", data := .fields #[.none, .none, .int (-1) tk] } } := I3.kept (t' := s3.toks) fun b ob q => Heap.get?_push_of_some _ q
  obtain ⟨its, r, ht, hz⟩ := I4.list hx
  have hlen := r.length
  show wpAny (model X.prog X.w) X.A (subscriptTail e (.Slice none none (some st) p2) (.ref a) (.ref s3.heap.objs.size)) (EP X pins σ Q) X.xe { s3 with heap := s3.heap.push { cls := .type "slice", data := .fields #[.none, .none, .int (-1) tk] } }
  refine tail_any (ops := [.ref a, .ref s3.heap.objs.size]) ht.isList.typeIs slot_list_getitem.lookup ?_ (by with_unfolding_all rfl)
  refine wpAny_getItem_list_slice ht.isList (Heap.IsSliceOf.new ..) .none .none (.int (-1) tk) (by decide) ?_ (by rw [List.size_toArray] <;> omega)
  rw [slicePick_rev]
  refine ⟨.ref _, _, I4.laid (t' := s3.toks) (o := .lst xs.reverse) (fun b ob q => Heap.get?_push_of_some _ q) (Nat.le_refl _) ?_, rfl, q3 _ ?_⟩
  · exact ⟨by rw [List.length_reverse]; exact hz, _, 0, r.reverse, Heap.get?_push_size _ rfl⟩
  · exact I4.hok.fresh (Nat.le_refl _)
end revs
/-! ### enumerate of a tuple -/
section enumt
set_option maxHeartbeats 1000000 in
theorem meets_enum1 {v : Value} {o : Obj} {H : Heap → Prop} (B : Begins v o H) :
    Meets (Builtin.«enumerate.__new__» ⟨[.type "enumerate", v], []⟩) (fun _ R s => H s.heap ∧
      R (.ok (.ret (.ref (s.heap.push o).objs.size))) { s with heap := (s.heap.push o).push { cls := .type "enumerate", data := .fields #[.none, .bool false, .ref s.heap.objs.size, rawInt 0, .none, .none] } }) :=
  .of_wp fun prog w A R s h => by
    obtain ⟨hp, g, d, tk, os⟩ := s; obtain ⟨h1, h⟩ := h
    have hsub := sub_enumerate
    have q1 : ∀ {A' : Around} {E : Value → Shared → Prop} {Q : Value → Shared → Prop}, Q (.ref hp.objs.size) ⟨hp.push o, g, d, tk, os⟩ → wpAny (model prog w) A' (pyIter v) Q E ⟨hp, g, d, tk, os⟩ :=
      fun q => B.iter prog w _ _ ⟨hp, g, d, tk, os⟩ _ h1 q
    wp_walk using q1
    refine wpAny_stack_any fun st => wpAny_pure ?_
    split
    · rename_i c _ _ _ _ _
      cases (c == Value.type "enumerate")
      · wp_walk using q1
        exact ⟨_, rfl, h⟩
      · wp_walk using q1
        exact ⟨_, rfl, h⟩
    · wp_walk using q1
      exact ⟨_, rfl, h⟩
theorem enum1 {prog : Program} {w : World} {A : Around} {E : Value → Shared → Prop} {s : Shared} {v : Value} {o : Obj} {H : Heap → Prop} {Q : Value → Shared → Prop} (B : Begins v o H) (h1 : H s.heap)
    (h : ∀ h', IsEnum h' (s.heap.objs.size + 1) s.heap.objs.size 0 .none → h'.get? s.heap.objs.size = some o → h'.objs.size = s.heap.objs.size + 2 →
      (∀ b o, s.heap.get? b = some o → h'.get? b = some o) → Q (.ref (s.heap.objs.size + 1)) { s with heap := h' }) :
    wpAny (model prog w) A (call (.type "enumerate") [v]) Q E s := by
  refine callType_new F.called_enumerate (by decide) (F.typeCall_enumerate_1 _) (F.newCall_enumerate_1 _) (fun obj => F.args_object_init_2 obj _) F.entry_enumerate_new
    (meets_enum1 B) ⟨h1, ?_⟩
  have hz : (s.heap.push o).objs.size = s.heap.objs.size + 1 := Heap.size_push ..
  show _ ∧ _
  rw [hz]
  have he : IsEnum ((s.heap.push o).push { cls := .type "enumerate", data := .fields #[.none, .bool false, .ref s.heap.objs.size, rawInt 0, .none, .none] }) (s.heap.objs.size + 1) s.heap.objs.size 0 .none := by
    have := Heap.get?_push_size (s.heap.push o) (o := { cls := .type "enumerate", data := .fields #[.none, .bool false, .ref s.heap.objs.size, rawInt 0, .none, .none] }) rfl
    rw [hz] at this; exact this
  refine ⟨⟨_, he, rfl⟩, h _ he (Heap.get?_push_of_some _ (Heap.get?_push_size _ B.free)) (by rw [Heap.size_push, hz]) fun b o x => Heap.get?_push_of_some _ (Heap.get?_push_of_some _ x)⟩
def IteT (K : PySem.W.Frag) (a : Addr) : It :=
  ⟨fun i H => ∃ (xs : List V) (x : V), SqT K H a xs ∧ xs[i]? = some x, fun i H v H' => ∃ T x, v = .ref T ∧ H T = none ∧ H' = upd H T (.tup [.int (i : Nat), x]) ∧ ∀ xs, SqT K H a xs → xs[i]? = some x, fun i H => ∃ xs : List V, SqT K H a xs ∧ xs.length = i⟩
theorem turn_enumT {elts : List Expr} {kk : Nat} {tpos : Pos} (a e it : Addr) (na : a ≠ it) (ne : e ≠ a) :
    Turn P w K (.Tuple elts kk tpos) (IteT K a) [e, it] e (fun i h => (∃ old, IsEnum h e it ((i : Nat) : Int) old) ∧ h.IsTupleIter it a i ∧ e ≠ it) where
  mem := by simp
  obj := fun i h st b hb => by
    obtain ⟨⟨old, he⟩, ⟨o, ho, hc, hd⟩, _⟩ := st
    have e' : b = e ∨ b = it := by simpa using hb
    rcases e' with z | z
    · rw [z]; exact ⟨_, he, fun v q => nomatch q⟩
    · rw [z]; exact ⟨o, ho, fun v q => by rw [hd] at q; cases q⟩
  keep := fun i h h' st k => let ⟨⟨old, he⟩, hi, hne⟩ := st; ⟨⟨old, k e (by simp) _ he⟩, hi.at fun o q => k it (by simp) o q, hne⟩
  item := by
    intro X hP hw hK hc i pins s σ H E I hf st hg
    subst hP hw hK
    obtain ⟨⟨old, he⟩, hit, hne⟩ := st
    obtain ⟨xs, x, hq, hx⟩ := hg
    obtain ⟨its, rv, p, hz⟩ := I.tuple hq
    obtain ⟨u, hu, ru⟩ := rv.get hx
    have hel : e < s.heap.objs.size := Heap.lt_size he
    have hil : it < s.heap.objs.size := by obtain ⟨_, q, _⟩ := hit; exact Heap.lt_size q
    have hh : X.A.in1.handled = none := I.ok.hd hc
    have l1 : i < its.toArray.size := by
      have := (List.getElem?_eq_some_iff.mp hu).1
      simpa using this
    refine wpAny_pyNext_enum_itemD (Draws.tuple hh it a na its.toArray) he ⟨hit, p⟩ l1 hne (by simp [hne, ne]) fun v h' tk g ho hit' hT hsz hk => ?_
    have ev : v = u := by
      have g1' : its.toArray[i]? = some v := g
      have e : its[i]? = some v := by simpa using g1'
      rw [hu] at e
      exact (Option.some.inj e).symm
    subst ev
    refine ⟨_, rfl, wpAny_letOwnedTupleGo_enum (s := { s with heap := h', toks := tk + 1 }) ho fun h'' he' sb => ?_⟩
    have hT2 : h''.get? s.heap.objs.size = some { cls := .type "tuple", data := .seq #[.int i tk, v] } := (sb.2 _ (Nat.ne_of_gt hel)).trans hT
    have new : ObjOk X.prog X.w (upd H s.heap.objs.size (.tup [.int (i : Nat), x])) h'' s.heap.objs.size (.tup [.int (i : Nat), x]) :=
      ⟨by show 2 ≤ sizeLine; decide, [.int i tk, v], .cons ⟨_, rfl⟩ (.cons ru .nil), ⟨_, hT2, rfl, _, rfl⟩⟩
    have I1 : Inv X pins σ (upd H s.heap.objs.size (.tup [.int (i : Nat), x])) { s with heap := h'', toks := tk + 1 } :=
      I.turnedNew (ch := [e, it]) (fun b ob hb q => (sb.2 b (fun z => hb (by simp [z]))).trans (hk b ob (fun z => hb (by simp [z])) (fun z => hb (by simp [z])) q)) hf (Nat.le_refl _) new
    refine ⟨.ref s.heap.objs.size, _, I1, rfl, ⟨_, x, rfl, I.hok.fresh (Nat.le_refl _), rfl, fun ys hy => by rw [I.tuple_inj hy hq]; exact hx⟩, ⟨⟨v, ?_⟩, hit'.1.at fun o q => (sb.2 it (Ne.symm hne)).trans q, hne⟩, fun b hb => ?_⟩
    · have e1 : ((i + 1 : Nat) : Int) = (i : Int) + 1 := by omega
      rw [e1]; exact he'
    · have hb' : b < s.heap.objs.size := by
        have e' : b = e ∨ b = it := by simpa using hb
        rcases e' with z | z
        · rw [z]; exact hel
        · rw [z]; exact hil
      rw [upd_ne (Nat.ne_of_lt hb')]
      exact (hf b hb).1
  done := by
    intro X hP hw hK hc i pins s σ H E I hf st hg
    subst hP hw hK
    obtain ⟨⟨old, he⟩, hit, hne⟩ := st
    obtain ⟨xs, hq, hx⟩ := hg
    obtain ⟨its, rv, p, hz⟩ := I.tuple hq
    obtain ⟨f0, f1, f2, f3, f4, f5⟩ := hf it (by simp)
    have hl := rv.length
    have hh : X.A.in1.handled = none := I.ok.hd hc
    have ei : i = its.toArray.size := by rw [List.size_toArray]; omega
    exact wpAny_pyNext_enum_endD (Draws.tuple hh it a na its.toArray) he ⟨by rw [← ei]; exact hit, p⟩ fun h' eb => ⟨rfl, I.turned (t' := s.toks) (fun b o hb q => eb b o hb q) f0 f1 f3 f4 f5⟩
  self := fun A i s Q E st h => let ⟨⟨_, he⟩, _⟩ := st; wpAny_pyIter_enum he h
def iEnumT (K : PySem.W.Frag) (ta : TA) : TI := fun σ H R => ta σ H fun vs H1 => ∃ a xs, vs = [.ref a] ∧ SqT K H1 a xs ∧ R (IteT K a) H1
theorem pi_enumT {X : Cx} {e : Expr} {ta : TA} {p pos tpos : Pos} {elts : List Expr} {kk : Nat} (hg : Gl X "enumerate") (hm : X.mg "enumerate" = none) (ha : PA X [e] ta) (hs : starEach [e] X.env = [(false, eval e X.env)] := by rfl) :
    PI X (.Tuple elts kk tpos) (.Call (.Name "enumerate" p) [e] [] pos) (iEnumT X.K ta) := by
  refine ⟨fun pins s σ H R I h => ?_⟩
  refine Call_ (ld_blt I hg hm boot_enumerate (PyProof.Rows.callWith_type1 (thn (ha.run pos pins s σ H _ I h) fun us s1 ⟨vs, H1, I1, r1, q1⟩ => ?_) hs rfl))
  obtain ⟨a, xs, ex, hq, q⟩ := q1
  subst ex
  cases r1 with
  | cons r rr =>
    cases rr
    cases r
    obtain ⟨its, rv, p', hz⟩ := I1.tuple hq
    have lb : a < s1.heap.objs.size := by
      obtain ⟨o2, e2, _⟩ := id p'
      exact Heap.lt_size e2
    refine enum1 (begins_tuple a its.toArray) p' fun h' he hit hsz hk => wpAny_pyIter_enum he ?_
    have I2 : Inv X pins σ H1 { s1 with heap := h' } := I1.kept (t' := s1.toks) hk
    refine ⟨s1.heap.objs.size + 1, [s1.heap.objs.size + 1, s1.heap.objs.size], _, _, H1, rfl, I2, turn_enumT a (s1.heap.objs.size + 1) s1.heap.objs.size (Nat.ne_of_lt lb) (Nat.ne_of_gt (Nat.lt_succ_of_lt lb)), ⟨⟨.none, he⟩, ⟨_, hit, rfl, rfl⟩, Nat.succ_ne_self _⟩, fun b hb => ?_, q⟩
    have e' : b = s1.heap.objs.size + 1 ∨ b = s1.heap.objs.size := by simpa using hb
    have hle : s1.heap.objs.size ≤ b := by
      rcases e' with z | z
      · rw [z]; exact Nat.le_succ _
      · rw [z]; exact Nat.le_refl _
    exact I1.fpOk hle (I1.hok.fresh hle)
theorem walk_enumT {a : Addr} {xs : List V} : Walk (IteT K a) xs.length (fun H => SqT K H a xs) (YPair (fun i => some (.int (i : Nat))) (fun i => xs[i]?)) where
  goes := fun i H hi q => ⟨xs, xs[i], q, List.getElem?_eq_getElem hi⟩
  stops := fun H q => ⟨xs, q, rfl⟩
  yields := fun i H v H2 hi q y => by
    obtain ⟨T, x, h1, h2, h3, h4⟩ := y
    exact ⟨T, .int (i : Nat), x, h1, h2, h3, rfl, h4 xs q⟩
end enumt
/-! ### words by columns (the mathematics of sec_wof) -/
def colW : List (List Int) → Nat → Int
  | [], _ => 0
  | c :: cs, j => c.getD j 0 + 2 * colW cs j
theorem colW_snoc (c : List Int) (j : Nat) : ∀ cs : List (List Int), colW (cs ++ [c]) j = colW cs j + c.getD j 0 * 2 ^ cs.length
  | [] => by
    show c.getD j 0 + 2 * 0 = 0 + c.getD j 0 * 1
    omega
  | d :: cs => by
    show d.getD j 0 + 2 * colW (cs ++ [c]) j = d.getD j 0 + 2 * colW cs j + c.getD j 0 * 2 ^ (cs.length + 1)
    have e : c.getD j 0 * 2 ^ (cs.length + 1) = 2 * (c.getD j 0 * 2 ^ cs.length) := by rw [Int.pow_succ, ← Int.mul_assoc, Int.mul_comm]
    rw [colW_snoc c j cs, e]
    omega
/-- the words whose bits are told by columns -/
def wofL (m : Nat) (cs : List (List Int)) : List Int := (List.range m).map (colW cs)
theorem wofL_len (m : Nat) (cs : List (List Int)) : (wofL m cs).length = m := by
  unfold wofL
  rw [List.length_map, List.length_range]
/-- the first so many words have taken in a further column -/
def wofP (m : Nat) (cs : List (List Int)) (c : List Int) (k : Nat) : List Int := (List.range m).map fun j => if j < k then colW (cs ++ [c]) j else colW cs j
theorem wofP_zero (m : Nat) (cs : List (List Int)) (c : List Int) : wofP m cs c 0 = wofL m cs := by
  unfold wofP wofL
  exact List.map_congr_left fun j _ => if_neg (Nat.not_lt_zero _)
theorem wofP_all (m : Nat) (cs : List (List Int)) (c : List Int) : wofP m cs c m = wofL m (cs ++ [c]) := by
  unfold wofP wofL
  exact List.map_congr_left fun j hj => if_pos (List.mem_range.mp hj)
theorem wofP_next {m : Nat} {cs : List (List Int)} {c : List Int} {k : Nat} (hk : k < m) : wofP m cs c (k + 1) = (wofP m cs c k).set k (colW cs k + c.getD k 0 * 2 ^ cs.length) := by
  have l : ∀ n, (wofP m cs c n).length = m := fun n => by
    unfold wofP
    rw [List.length_map, List.length_range]
  refine List.ext_getElem? fun i => ?_
  by_cases hi : i < m
  · by_cases e : i = k
    · subst e
      rw [List.getElem?_set_self (by rw [l]; exact hi)]
      unfold wofP
      rw [List.getElem?_map, List.getElem?_range hi]
      show some (if i < i + 1 then _ else _) = _
      rw [if_pos (by omega), colW_snoc]
    · rw [List.getElem?_set_ne (by omega)]
      unfold wofP
      rw [List.getElem?_map, List.getElem?_map, List.getElem?_range hi]
      show some (if i < k + 1 then _ else _) = some (if i < k then _ else _)
      by_cases h2 : i < k
      · rw [if_pos (by omega), if_pos h2]
      · rw [if_neg (by omega), if_neg h2]
  · rw [List.getElem?_eq_none (by rw [l]; omega), List.getElem?_eq_none (by rw [List.length_set, l]; omega)]
def rIxN (K : PySem.W.Frag) : V → V → Hp → VK → Prop := fun x y H Q => ∃ p xs i v, x = .ref p ∧ y = .int i ∧ 0 ≤ i ∧ SqL K H p xs ∧ atI xs i = some v ∧ Q v H
theorem get_listN {X : Cx} : PGet X (rIxN X.K) := by
  intro pins s σ H o i ov iv Q I ro ri h
  obtain ⟨p, xs, i, z, rfl, rfl, h0, hq, he, q⟩ := h
  cases ro
  obtain ⟨t, rfl⟩ := ri
  obtain ⟨its, r, pl, hz⟩ := I.list hq
  obtain ⟨j, h1, h2, h3, h4, h5⟩ := atI_get he
  obtain ⟨w, ew, rw'⟩ := r.get h2
  have hl := r.length
  have hn := line63
  have fin : EP X pins σ Q w s := ⟨z, H, I, rw', q⟩
  have hj : i.toNat = j := by
    rw [seqIndex_of h0 h5] at h1
    exact Option.some.inj h1
  exact wpAny_getItem_list pl.isList h0 (by omega) (by rw [hj]; simpa using ew) fin
/-! ### words told by columns: their bits, the carries on the way -/
theorem colW_range {j : Nat} : ∀ {cs : List (List Int)}, (∀ c ∈ cs, Bit (c.getD j 0)) → 0 ≤ colW cs j ∧ colW cs j < 2 ^ cs.length
  | [], _ => ⟨Int.le_refl _, by show (0 : Int) < 1; decide⟩
  | c :: cs, h => by
    obtain ⟨a, b⟩ := colW_range (cs := cs) fun x hx => h x (List.mem_cons_of_mem _ hx)
    have hb := h c List.mem_cons_self
    have e : (2 : Int) ^ (c :: cs).length = 2 * 2 ^ cs.length := by rw [List.length_cons, Int.pow_succ, Int.mul_comm]
    rw [e]
    show 0 ≤ c.getD j 0 + 2 * colW cs j ∧ c.getD j 0 + 2 * colW cs j < 2 * 2 ^ cs.length
    rcases hb with z | z <;> rw [z] <;> omega
theorem colW_bit {j : Nat} : ∀ {cs : List (List Int)} {t : Nat} {c : List Int}, (∀ c ∈ cs, Bit (c.getD j 0)) → cs[t]? = some c → bitA t (colW cs j) = c.getD j 0
  | [], _, _, _, e => by simp at e
  | c :: cs, 0, d, h, e => by
    obtain rfl : c = d := Option.some.inj e
    have hb := h c List.mem_cons_self
    show (c.getD j 0 + 2 * colW cs j) / 1 % 2 = c.getD j 0
    rcases hb with z | z <;> rw [z] <;> omega
  | c :: cs, t + 1, d, h, e => by
    have ih := colW_bit (cs := cs) (t := t) (c := d) (j := j) (fun x hx => h x (List.mem_cons_of_mem _ hx)) (by simpa using e)
    have hb := h c List.mem_cons_self
    rw [← ih]
    unfold bitA
    show (c.getD j 0 + 2 * colW cs j) / 2 ^ (t + 1) % 2 = colW cs j / 2 ^ t % 2
    have e2 : (2 : Int) ^ (t + 1) = 2 * 2 ^ t := by rw [Int.pow_succ, Int.mul_comm]
    rw [e2, ← Int.ediv_ediv_of_nonneg (by decide)]
    have e3 : (c.getD j 0 + 2 * colW cs j) / 2 = colW cs j := by rcases hb with z | z <;> rw [z] <;> omega
    rw [e3]
theorem wofL_bits {m t : Nat} {cs : List (List Int)} {c : List Int} (h : ∀ c ∈ cs, c.length = m ∧ ∀ x ∈ c, Bit x) (e : cs[t]? = some c) : (wofL m cs).map (bitA t) = c := by
  have bt : ∀ (j : Nat) c, c ∈ cs → Bit (c.getD j 0) := fun j c hc => by
    rw [List.getD_eq_getElem?_getD]
    cases e : c[j]? with
    | none => exact bit0
    | some y => exact (h c hc).2 y (List.mem_of_getElem? e)
  obtain ⟨cl, _⟩ := h c (List.mem_of_getElem? e)
  refine List.ext_getElem? fun i => ?_
  unfold wofL
  rw [List.map_map, List.getElem?_map]
  by_cases hi : i < m
  · rw [List.getElem?_range hi]
    show some (bitA t (colW cs i)) = c[i]?
    rw [colW_bit (fun c hc => bt i c hc) e, List.getElem?_eq_getElem (by omega), List.getD_eq_getElem?_getD, List.getElem?_eq_getElem (by omega)]
    rfl
  · rw [List.getElem?_eq_none (by rw [List.length_range]; omega), List.getElem?_eq_none (by omega)]
    rfl
theorem wofL_range {m : Nat} {cs : List (List Int)} (h : ∀ c ∈ cs, c.length = m ∧ ∀ x ∈ c, Bit x) : ∀ x ∈ wofL m cs, 0 ≤ x ∧ x < 2 ^ cs.length := by
  intro x hx
  obtain ⟨j, _, rfl⟩ := List.mem_map.mp hx
  refine colW_range fun c hc => ?_
  rw [List.getD_eq_getElem?_getD]
  cases e : c[j]? with
  | none => exact bit0
  | some y => exact (h c hc).2 y (List.mem_of_getElem? e)
/-- the carry behind some columns -/
def runC (ds : List Deed) : List Int → List (List Int) → List Int
  | c, [] => c
  | c, b :: bs => runC ds (nc ds c b) bs
theorem runC_snoc (ds : List Deed) (b : List Int) : ∀ (bs : List (List Int)) (c : List Int), runC ds c (bs ++ [b]) = nc ds (runC ds c bs) b
  | [], _ => rfl
  | x :: bs, c => runC_snoc ds b bs (nc ds c x)
theorem crry_run {m : Nat} {ds : List Deed} {cs : List (List Int)} (h : ∀ c ∈ cs, c.length = m ∧ ∀ x ∈ c, Bit x) : ∀ t, t ≤ cs.length → crry ds (wofL m cs) t = runC ds (ds.map fcD) (cs.take t)
  | 0, _ => rfl
  | t + 1, ht => by
    have e : cs[t]? = some cs[t] := List.getElem?_eq_getElem (by omega)
    rw [List.take_add_one, e]
    show nxt ds (crry ds (wofL m cs) t) (bts ds (crry ds (wofL m cs) t) ((wofL m cs).map (bitA t))) = runC ds (ds.map fcD) (cs.take t ++ [cs[t]])
    rw [runC_snoc, crry_run h t (by omega), wofL_bits h e]
    rfl
/-! ### list(d.items()) of dicts whose keys are numbers or texts -/
def rItemsK : V → List V → Hp → VK → Prop := fun x xs H Q => ∃ (a : Addr) (kvs : List (Key × V)), x = .ref a ∧ xs = [] ∧ H a = some (.dK kvs) ∧ ∀ p, H p = none → Q (.ref p) (upd H p (L2.DX.itemsO p a))
theorem mt_itemsK {X : Cx} : MtR X "dict.items" rItemsK := by
  intro pins s σ H x xs v us Q I rx rxs h
  obtain ⟨a, kvs, rfl, rfl, ha, q⟩ := h
  cases rx
  cases rxs
  obtain ⟨z, hd, vs, kv, dof⟩ := dk_of I.hok ha
  obtain ⟨es, ep, raw, sz, ent⟩ := dof.raw
  refine DT.callItems (es := es) (ep := ep) hd raw ?_
  have hf : H s.heap.objs.size = none := I.hok.fresh (Nat.le_refl _)
  exact ⟨.ref s.heap.objs.size, upd H s.heap.objs.size (L2.DX.itemsO s.heap.objs.size a), I.laid (t' := s.toks) (fun b u e => Heap.get?_push_of_some _ e) (Nat.le_refl _) (L2.DX.itemsO_ok (Heap.get?_push_size _ rfl)), rfl, q _ hf⟩
def rListIt : List V → Hp → VK → Prop := fun vs H Q => ∃ (p a : Addr) (kvs : List (Key × V)), vs = [.ref p] ∧ H p = some (L2.DX.itemsO p a) ∧ H a = some (.dK kvs) ∧
  ∀ (H' : Hp) (l : Addr) (ts : List Addr), Same H H' → H l = none → H' l = some (.lst (ts.map V.ref)) → Paired (fun (t : Addr) (kv : Key × V) => H' t = some (.tup [kV kv.1, kv.2])) ts kvs → Q (.ref l) H'
theorem key_rel {k : Key} {u : Value} (h : keyIs k u = true) : RelV (kV k) u := by
  rcases keyIs_shape h with ⟨i, t, rfl, rfl⟩ | ⟨x, t, rfl, rfl⟩
  · exact ⟨t, rfl⟩
  · exact ⟨t, rfl⟩
theorem pairedJ {α β : Type} {F : α → β → Prop} : ∀ {as : List α} {bs : List β}, as.length = bs.length → (∀ (j : Nat) a b, as[j]? = some a → bs[j]? = some b → F a b) → Paired F as bs
  | [], [], _, _ => .nil
  | [], _ :: _, h, _ => by cases h
  | _ :: _, [], h, _ => by cases h
  | a :: as, b :: bs, h, f => .cons (f 0 a b rfl rfl) (pairedJ (by simpa using h) fun j x y hx hy => f (j + 1) x y hx hy)
theorem cr_listItems {X : Cx} (hc : X.calm = true) : CallR X (.type "list") rListIt := by
  intro pins s σ H xs us Q I r h
  obtain ⟨p, a, kvs, rfl, hp, ha, q⟩ := h
  obtain rfl := Vals.ref1 r
  have view : s.heap.IsItemsView p a := (show ObjOk X.prog X.w H s.heap p (L2.DX.itemsO p a) from I.hok p _ hp).1
  obtain ⟨z, hd, vs, kv, dof⟩ := dk_of I.hok ha
  obtain ⟨es, ep, raw, sz, ent⟩ := dof.raw
  have lk : kvs.length = vs.length := Paired.length kv
  have hh : X.A.handled = none := I.ok.hd hc
  refine PySem.W.dil_call (es := es) (ep := ep) hh view raw (by omega) fun h' tk acc c as hk hS hlen hG hacc => ?_
  have nd : as.Nodup := List.Pairwise.imp (fun h => Nat.ne_of_lt h) hG.rise
  have I1 : Inv X pins σ H { s with heap := h', toks := tk } := I.kept (t' := tk) hk
  have hn0 : H s.heap.objs.size = none := I.hok.fresh (Nat.le_refl _)
  have hln : (as.map V.ref).length ≤ sizeLine := by
    rw [List.length_map]
    omega
  have rv : Vals (as.map V.ref) acc.toList := by
    rw [hacc]
    exact L2.vals_maps (fun z : Addr => V.ref z) (fun z => Value.ref z) as fun _ _ => rfl
  have I2 : Inv X pins σ (upd H s.heap.objs.size (.lst (as.map V.ref))) { s with heap := h', toks := tk } :=
    I1.take (h' := h') (t' := tk) (fun b ob _ e => e) (I.fpOk (Nat.le_refl _) hn0) ⟨hln, acc.toList, c, rv, by rw [Array.toArray_toList]; exact hS⟩
  obtain ⟨H2, I3, g, qt⟩ := L2.DX.takeT (P := fun b xs => ∃ (j : Nat) (e : Key × V), as[j]? = some b ∧ kvs[j]? = some e ∧ xs = [kV e.1, e.2]) I as _ I2 nd fun b hb => by
    obtain ⟨j, hj⟩ := List.mem_iff_getElem?.mp hb
    obtain ⟨hje, hg⟩ := hG.pairs j b hj
    have hjk : j < kvs.length := by omega
    have hkj : kvs[j]? = some kvs[j] := List.getElem?_eq_getElem hjk
    obtain ⟨y, hy, e1, e2⟩ := awGet kv hkj
    obtain ⟨k1, k2⟩ := ent j hje y.1 y.2 hy
    have hbl : s.heap.objs.size ≤ b := Nat.le_of_lt (hG.above b hb)
    refine ⟨hbl, ?_, [kV kvs[j].1, kvs[j].2], ⟨j, kvs[j], hj, hkj, rfl⟩, fun H3 => ⟨(by rw [sizeLine_eq]; show 2 ≤ 16777216; omega), [es[j].key, es[j].val], .cons (key_rel (by rw [e1]; exact k1)) (.cons (by rw [k2]; exact e2) .nil), ⟨_, hg, rfl, 0, rfl⟩⟩⟩
    rw [upd_ne (Nat.ne_of_gt (hG.above b hb))]
    exact I.hok.fresh hbl
  have gr : ∀ b o, H b = some o → H2 b = some o := fun b o e => g b o (by rw [upd_ne (ne_of_none e hn0)]; exact e)
  refine ⟨.ref s.heap.objs.size, H2, I3, rfl, q H2 s.heap.objs.size as gr hn0 (g _ _ upd_same) (pairedJ (by omega) fun j t e hj he => ?_)⟩
  obtain ⟨xs, ⟨i, e', i1, i2, ev⟩, hH⟩ := qt t (List.mem_of_getElem? hj)
  have eij : j = i := (List.getElem?_inj (List.getElem?_eq_some_iff.mp hj).1 nd).mp (hj.trans i1.symm)
  subst eij
  have ee : e' = e := Option.some.inj (i2.symm.trans he)
  rw [ev, ee] at hH
  exact hH
/-! ### the greatest amount, by packed numbers -/
theorem ib_le {x : Int} {n : Nat} (h : x.natAbs < 2 ^ n) : Builtin.Int.intBits x ≤ n := by
  unfold Builtin.Int.intBits
  split
  · exact Nat.zero_le _
  · rename_i ne
    have : x.natAbs.log2 < n := (Nat.log2_lt (by simpa using ne)).mpr h
    omega
theorem snoc_ind {α : Type} {p : List α → Prop} (h0 : p []) (hs : ∀ l a, p l → p (l ++ [a])) (l : List α) : p l := by
  have h : ∀ r : List α, p r.reverse := fun r => by
    induction r with
    | nil => exact h0
    | cons a r ih =>
      rw [List.reverse_cons]
      exact hs _ _ ih
  have := h l.reverse
  rwa [List.reverse_reverse] at this
def pkG (w : Nat) (g : Int) (bs : List Int) : Int := bs.foldl (fun a b => a * 2 ^ w + b) g
theorem pkG_snoc (w : Nat) (g : Int) (bs : List Int) (b : Int) : pkG w g (bs ++ [b]) = pkG w g bs * 2 ^ w + b := by
  unfold pkG
  rw [List.foldl_append]
  rfl
theorem pkG_lin (w : Nat) : ∀ (bs : List Int) (g : Int), pkG w g bs = g * (2 ^ w) ^ bs.length + pkG w 0 bs
  | [], g => by
    show g = g * (2 ^ w) ^ 0 + 0
    rw [Int.pow_zero, Int.mul_one, Int.add_zero]
  | b :: bs, g => by
    have e1 := pkG_lin w bs (g * 2 ^ w + b)
    have e2 := pkG_lin w bs (0 * 2 ^ w + b)
    show pkG w (g * 2 ^ w + b) bs = g * (2 ^ w) ^ (bs.length + 1) + pkG w (0 * 2 ^ w + b) bs
    rw [e1, e2, Int.pow_succ, Int.zero_mul, Int.zero_add, Int.add_mul, Int.mul_assoc, Int.mul_comm ((2 : Int) ^ w) ((2 ^ w) ^ bs.length), Int.add_assoc]
theorem pkG_nat {w : Nat} (hw : w ≤ 60) {g : Int} {k : Nat} (hg : g.natAbs < 2 ^ k) : ∀ bs : List Int, (∀ b ∈ bs, Bit b) → (pkG w g bs).natAbs < 2 ^ (k + 61 * bs.length) := by
  refine snoc_ind (fun _ => hg) fun bs b ih => ?_
  · intro hb
    have i1 := ih fun x hx => hb x (List.mem_append_left _ hx)
    have b1 := hb b (List.mem_append_right _ List.mem_cons_self)
    rw [pkG_snoc, List.length_append]
    have p : (2 : Nat) ^ w ≤ 2 ^ 60 := Nat.pow_le_pow_right (by decide) hw
    have e : 2 ^ (k + 61 * (bs.length + [b].length)) = 2 ^ (k + 61 * bs.length) * 2 ^ 61 := by
      rw [← Nat.pow_add]
      congr 1
    rw [e]
    have t : (pkG w g bs * 2 ^ w + b).natAbs ≤ (pkG w g bs).natAbs * 2 ^ w + 1 := by
      have h1 : (pkG w g bs * 2 ^ w + b).natAbs ≤ (pkG w g bs * 2 ^ w).natAbs + b.natAbs := Int.natAbs_add_le _ _
      have h2 : (pkG w g bs * 2 ^ w).natAbs = (pkG w g bs).natAbs * 2 ^ w := by rw [Int.natAbs_mul, Int.natAbs_pow]; rfl
      have h3 : b.natAbs ≤ 1 := by rcases b1 with rfl | rfl <;> decide
      omega
    have t2 : (pkG w g bs).natAbs * 2 ^ w ≤ (pkG w g bs).natAbs * 2 ^ 60 := Nat.mul_le_mul_left _ p
    have t3 : 2 ^ (k + 61 * bs.length) * 2 ^ 61 = 2 ^ (k + 61 * bs.length) * 2 ^ 60 * 2 := by rw [Nat.mul_assoc]
    have t4 : ((pkG w g bs).natAbs + 1) * 2 ^ 60 ≤ 2 ^ (k + 61 * bs.length) * 2 ^ 60 := Nat.mul_le_mul_right _ i1
    rw [Nat.add_mul, Nat.one_mul] at t4
    rw [t3]
    have : 0 < (2 : Nat) ^ 60 := by decide
    omega
/-- what comes of a step -/
def entX (A : List MRow) (s : Nat) (bs : List Int) : Int × Int := (A.getD s []).getD (atb bs).toNat (0, 0)
/-- the packed amount and words of a path -/
def sumX (A : List MRow) (w : Nat) : Nat → List (List Int) → Int
  | _, [] => 0
  | s, c :: cs => pkG w (entX A s c).1 c + 2 * sumX A w (entX A s c).2.toNat cs
/-- the amount of a path -/
def amtX (A : List MRow) : Nat → List (List Int) → Int
  | _, [] => 0
  | s, c :: cs => (entX A s c).1 + 2 * amtX A (entX A s c).2.toNat cs
theorem pk_lin2 (w : Nat) (f g h : Nat → Int) (e : ∀ j, f j = g j + 2 * h j) : ∀ m : Nat, pkG w 0 ((List.range m).map f) = pkG w 0 ((List.range m).map g) + 2 * pkG w 0 ((List.range m).map h)
  | 0 => rfl
  | m + 1 => by
    have ih := pk_lin2 w f g h e m
    rw [List.range_succ, List.map_append, List.map_append, List.map_append]
    show pkG w 0 (_ ++ [f m]) = pkG w 0 (_ ++ [g m]) + 2 * pkG w 0 (_ ++ [h m])
    rw [pkG_snoc, pkG_snoc, pkG_snoc, ih, e m, Int.add_mul, Int.mul_add, Int.mul_assoc]
    omega
theorem cols_range {m : Nat} {c : List Int} (h : c.length = m) : c = (List.range m).map fun j => c.getD j 0 := by
  apply List.ext_getElem?
  intro i
  rw [List.getElem?_map]
  by_cases hi : i < m
  · rw [List.getElem?_range hi, List.getElem?_eq_getElem (by omega)]
    show some c[i] = some (c.getD i 0)
    rw [List.getD_eq_getElem?_getD, List.getElem?_eq_getElem (by omega)]
    rfl
  · rw [List.getElem?_eq_none (by omega), List.getElem?_eq_none (by rw [List.length_range]; omega)]
    rfl
theorem sum_amt {A : List MRow} {w m : Nat} : ∀ (cs : List (List Int)) (s : Nat), (∀ c ∈ cs, c.length = m) → sumX A w s cs = amtX A s cs * (2 ^ w) ^ m + pkG w 0 (wofL m cs)
  | [], s, _ => by
    have e : pkG w 0 (wofL m []) = 0 := by
      unfold wofL
      have := pk_lin2 w (colW []) (fun _ => 0) (fun _ => 0) (fun _ => rfl) m
      have z : colW [] = fun _ => (0 : Int) := by
        funext j
        rfl
      rw [z] at this ⊢
      omega
    show 0 = 0 * _ + _
    rw [e, Int.zero_mul]
    rfl
  | c :: cs, s, h => by
    have ih := sum_amt (A := A) (w := w) (m := m) cs (entX A s c).2.toNat fun x hx => h x (List.mem_cons_of_mem _ hx)
    have hc := h c List.mem_cons_self
    have e : pkG w 0 (wofL m (c :: cs)) = pkG w 0 c + 2 * pkG w 0 (wofL m cs) := by
      unfold wofL
      rw [pk_lin2 w (colW (c :: cs)) (fun j => c.getD j 0) (colW cs) (fun j => rfl) m, ← cols_range hc]
    show pkG w _ c + 2 * sumX A w _ cs = ((entX A s c).1 + 2 * amtX A _ cs) * _ + _
    rw [ih, e, pkG_lin w c, hc, Int.add_mul, Int.mul_add, Int.mul_assoc]
    omega
/-- the words packed are below the amount's place -/
theorem pk_rng (w : Nat) : ∀ (l : List Int), (∀ x ∈ l, 0 ≤ x ∧ x < 2 ^ w) → 0 ≤ pkG w 0 l ∧ pkG w 0 l < (2 ^ w) ^ l.length := by
  refine snoc_ind (fun _ => ⟨Int.le_refl _, by show (0 : Int) < (2 ^ w) ^ 0; rw [Int.pow_zero]; decide⟩) fun l b ih => ?_
  · intro h
    obtain ⟨i1, i2⟩ := ih fun x hx => h x (List.mem_append_left _ hx)
    obtain ⟨b0, b1⟩ := h b (List.mem_append_right _ List.mem_cons_self)
    rw [pkG_snoc, List.length_append]
    have p := pw_pos w
    refine ⟨by have := Int.mul_nonneg i1 (Int.le_of_lt p); omega, ?_⟩
    show _ < (2 ^ w) ^ (l.length + 1)
    rw [Int.pow_succ]
    have : (pkG w 0 l + 1) * 2 ^ w ≤ (2 ^ w) ^ l.length * 2 ^ w := Int.mul_le_mul_of_nonneg_right i2 (Int.le_of_lt p)
    rw [Int.add_mul, Int.one_mul] at this
    omega
/-- the greatest packed number of so many steps -/
def BestX (A : List MRow) (w m t s : Nat) (v : Int) : Prop := (∃ cs : List (List Int), cs.length = t ∧ (∀ c ∈ cs, c ∈ allB m) ∧ sumX A w s cs = v) ∧ ∀ cs : List (List Int), cs.length = t → (∀ c ∈ cs, c ∈ allB m) → sumX A w s cs ≤ v
/-- the ways of a state: by each bits one that brings no less -/
structure WayX (A : List MRow) (w m s : Nat) (ways : List (Int × Int)) : Prop where
  ne : ways ≠ []
  len : ways.length ≤ 8
  from' : ∀ e ∈ ways, ∃ c ∈ allB m, e.1 = (entX A s c).2 ∧ e.2 = pkG w (entX A s c).1 c
  all : ∀ c ∈ allB m, ∃ e ∈ ways, e.1 = (entX A s c).2 ∧ pkG w (entX A s c).1 c ≤ e.2
theorem best_first (A : List MRow) (w m s : Nat) : BestX A w m 0 s 0 := by
  refine ⟨⟨[], rfl, (fun _ z => nomatch z), rfl⟩, fun cs h _ => ?_⟩
  rw [List.length_eq_zero_iff.mp h]
  exact Int.le_refl _
theorem best_next {A : List MRow} {w m t s : Nat} {ways : List (Int × Int)} {best : List Int} {v : Int} (hw : WayX A w m s ways) (hb : ∀ s' v', best[s']? = some v' → BestX A w m t s' v') (hr : ∀ e ∈ ways, ∃ s' : Nat, e.1 = (s' : Int) ∧ s' < best.length)
    (hv : v ∈ ways.map fun e => 2 * best.getD e.1.toNat 0 + e.2) (hm : ∀ y ∈ ways.map fun e => 2 * best.getD e.1.toNat 0 + e.2, y ≤ v) : BestX A w m (t + 1) s v := by
  have gb : ∀ e ∈ ways, BestX A w m t e.1.toNat (best.getD e.1.toNat 0) := fun e he => by
    obtain ⟨s', e1, e2⟩ := hr e he
    refine hb _ _ ?_
    rw [e1, Int.toNat_natCast, List.getD_eq_getElem?_getD, List.getElem?_eq_getElem e2]
    rfl
  refine ⟨?_, fun cs hl hc => ?_⟩
  · obtain ⟨e, he, rfl⟩ := List.mem_map.mp hv
    obtain ⟨c, hc, e1, e2⟩ := hw.from' e he
    obtain ⟨cs, l, h1, h2⟩ := (gb e he).1
    refine ⟨c :: cs, by rw [List.length_cons, l], fun x hx => ?_, ?_⟩
    · rcases List.mem_cons.mp hx with rfl | hx
      · exact hc
      · exact h1 x hx
    · show pkG w _ c + 2 * sumX A w _ cs = 2 * _ + e.2
      rw [e2, ← e1, h2]
      omega
  · match cs, hl with
    | c :: cs, hl =>
      obtain ⟨e, he, e1, e2⟩ := hw.all c (hc c List.mem_cons_self)
      have b2 := (gb e he).2 cs (by simpa using hl) fun x hx => hc x (List.mem_cons_of_mem _ hx)
      have := hm _ (List.mem_map.mpr ⟨e, he, rfl⟩)
      show pkG w _ c + 2 * sumX A w _ cs ≤ v
      rw [← e1]
      omega
/-- what is unpacked of the greatest one: the greatest amount, words of it -/
theorem best_amt {A : List MRow} {w m : Nat} {v : Int} (h : BestX A w m w 0 v) : ∃ cs : List (List Int), cs.length = w ∧ (∀ c ∈ cs, c ∈ allB m) ∧ v = amtX A 0 cs * (2 ^ w) ^ m + pkG w 0 (wofL m cs) ∧ ∀ cs' : List (List Int), cs'.length = w → (∀ c ∈ cs', c ∈ allB m) → amtX A 0 cs' ≤ amtX A 0 cs := by
  obtain ⟨⟨cs, l, hc, e⟩, hm⟩ := h
  have ok : ∀ cs : List (List Int), (∀ c ∈ cs, c ∈ allB m) → ∀ c ∈ cs, c.length = m ∧ ∀ x ∈ c, Bit x := fun cs h c hc => allB_ok m c (h c hc)
  have rg : ∀ cs : List (List Int), cs.length = w → (∀ c ∈ cs, c ∈ allB m) → 0 ≤ pkG w 0 (wofL m cs) ∧ pkG w 0 (wofL m cs) < (2 ^ w) ^ m := fun cs l h => by
    have r := wofL_range (ok cs h)
    rw [l] at r
    have := pk_rng w (wofL m cs) r
    rwa [wofL_len] at this
  have es := sum_amt (A := A) (w := w) cs 0 fun c h => (ok cs hc c h).1
  refine ⟨cs, l, hc, by rw [← e, es], fun cs' l' hc' => ?_⟩
  have le := hm cs' l' hc'
  rw [← e, es, sum_amt (A := A) (w := w) cs' 0 fun c h => (ok cs' hc' c h).1] at le
  obtain ⟨a0, a1⟩ := rg cs l hc
  obtain ⟨b0, b1⟩ := rg cs' l' hc'
  have p : (0 : Int) < (2 ^ w) ^ m := by
    have : (0 : Int) ≤ _ := a0
    omega
  false_or_by_contra
  rename_i ng
  have : (amtX A 0 cs + 1) * (2 ^ w) ^ m ≤ amtX A 0 cs' * (2 ^ w) ^ m := Int.mul_le_mul_of_nonneg_right (by omega) (Int.le_of_lt p)
  rw [Int.add_mul, Int.one_mul] at this
  omega
/-! ### packed, unpacked -/
def spPk : Sp := fun vs H Q _ => ∃ (B : Addr) (w : Nat) (g : Int) (bs : List Int), vs = [.int (w : Int), .int g, .ref B] ∧ H B = some (.tup (bs.map V.int)) ∧ w ≤ 60 ∧ g.natAbs ≤ 2 ∧ bs.length ≤ 3 ∧ (∀ b ∈ bs, Bit b) ∧ Q (.int (pkG w g bs)) H
theorem ok_pk {f : Addr} {fd : FuncData} {k : Nat} (F : Fun K "packed" "packed" s_packed f fd) : FnOk P w K mg base CX0 (k + 1) f fd ["width", "gain", "bits"] spPk := by
  refine F.ok sc_packed (fun vs H Q E h => ?_) (fun cdv A outer s H vs Q E hr h => ?_)
  · obtain ⟨B, w', g, bs, rfl, _⟩ := h
    rfl
  · obtain ⟨B, n, g, bs, rfl, eB, n60, hg, b3, hb, q⟩ := h
    refine ⟨_, pss_cons (ps_set (i := 3) sc_packed.nd rfl (.inl rfl) (pv 1))
      (pss_cons (ps_for PassesOwn.never rfl (pi_tup (pv 2)) (pg_name (i := 4) sc_packed.nd rfl (.inl rfl))
        (pss_one (ps_set (i := 3) sc_packed.nd rfl (.inl rfl) (pe_op op_add (pe_op op_shlN (pv 3) (pv 0)) (pv 4)))))
      (pss_one (ps_ret (pv 3)))), ?_⟩
    refine ⟨.int g, rfl, .ref B, rfl, B, rfl, ⟨_, SqT.of eB⟩, for_tup (K := K) (a := B) (xs := bs.map V.int) (fun i σ H' => ∃ y4, σ = [some (.int (n : Int)), some (.int g), some (.ref B), some (.int (pkG n g (bs.take i))), y4] ∧ H' = H) ⟨none, rfl, rfl⟩ (fun i σ H' _ hp => ?_) (fun i x σ H' hx hp => ?_) (fun σ H' hp => ?_)⟩
    · obtain ⟨_, _, rfl⟩ := hp
      exact SqT.of eB
    · obtain ⟨y4, rfl, rfl⟩ := hp
      rw [List.getElem?_map] at hx
      obtain ⟨b, hbi, rfl⟩ := Option.map_eq_some_iff.mp hx
      have bd := pkG_nat n60 (g := g) (k := 2) (Nat.lt_of_le_of_lt hg (by decide)) (bs.take i) fun b h => hb b (List.mem_of_mem_take h)
      have il : (bs.take i).length ≤ 3 := by rw [List.length_take]; omega
      have ib := ib_le bd
      refine ⟨.int _, rfl, .int (n : Int), rfl, ⟨_, n, rfl, rfl, ⟨by omega, by omega⟩, .int b, rfl, _, _, rfl, rfl, some (.int b), ?_, rfl⟩⟩
      rw [List.take_add_one, hbi]
      show _ = [some (V.int (n : Int)), some (V.int g), some (V.ref B), some (V.int (pkG n g (bs.take i ++ [b]))), some (V.int b)]
      rw [pkG_snoc]
      rfl
    · obtain ⟨y4, rfl, rfl⟩ := hp
      rw [List.length_map, List.take_length]
      exact ⟨.int _, rfl, q⟩
def fieldX (w : Nat) (v : Int) (j : Nat) : Int := v / (2 ^ w) ^ j % 2 ^ w
def spUp : Sp := fun vs H Q _ => ∃ (m n : Nat) (v : Int), vs = [.int (m : Int), .int (n : Int), .int v] ∧ m ≤ 3 ∧ n ≤ 60 ∧
  ∀ H' T L, Same H H' → H T = none → H L = none → H' T = some (.tup [.int (v / (2 ^ n) ^ m), .ref L]) → H' L = some (.lst (((List.range m).map (fieldX n v)).reverse.map V.int)) → Q (.ref T) H'
set_option maxHeartbeats 1000000 in
theorem ok_up {f : Addr} {fd : FuncData} {k : Nat} (F : Fun K "unpacked" "unpacked" s_unpacked f fd) (mr : mg "range" = none) : FnOk P w K mg base CX0 (k + 1) f fd ["many", "width", "number"] spUp := by
  refine F.ok sc_unpacked (fun vs H Q E h => ?_) (fun cdv A outer s H vs Q E hr h => ?_)
  · obtain ⟨m, n, v, rfl, _⟩ := h
    rfl
  · obtain ⟨m, n, v, rfl, m3, n60, q⟩ := h
    refine ⟨_, pss_cons (ps_set (i := 3) sc_unpacked.nd rfl (.inl rfl) (pe_lst pa_nil))
      (pss_cons (ps_for PassesOwn.never rfl (pi_range1 (by rfl) mr (pa_cons (pv 0) pa_nil)) (pg_name (i := 4) sc_unpacked.nd rfl (.inl rfl))
        (pss_cons (ps_expr (pe_bm PySem.F.plainAttrs_list PySem.F.slot_list_append PySem.F.type_list_append mt_append (pv 3) (pa_cons (pe_op op_and (pv 2) (pe_op op_sub (pe_op op_shlN pe_int (pv 1)) pe_int)) pa_nil)))
        (pss_one (ps_aug (i := 2) sc_unpacked.nd rfl (.inl rfl) (pv 1) iop_shr))))
      (pss_one (ps_ret (pe_tup (pa_cons (pv 2) (pa_cons (pe_rev (pv 3) (pe_un un_neg pe_int)) pa_nil)))))), ?_⟩
    refine ⟨Nat.zero_le _, fun L0 hL0 => ?_⟩
    have sL := same_new (o := .lst []) hL0
    refine ⟨.int (m : Int), rfl, (m : Int), rfl, by omega, by omega, for_range (lo := 0) (n := ((m : Int)).toNat) (fun i σ H' => ∃ y4, σ = [some (.int (m : Int)), some (.int (n : Int)), some (.int (v / (2 ^ n) ^ i)), some (.ref L0), y4] ∧ H' L0 = some (.lst (((List.range i).map (fieldX n v)).map V.int)) ∧ Same H H') ⟨none, by rw [Int.pow_zero, Int.ediv_one]; rfl, upd_same, sL⟩ (fun i σ H' hi hp => ?_) (fun σ H' hp => ?_)⟩
    · obtain ⟨y4, rfl, eL, s'⟩ := hp
      refine ⟨.ref L0, rfl, .inl ⟨rfl, _, .inl (.inl eL)⟩, .int _, rfl, .int (n : Int), rfl, ⟨1, n, rfl, rfl, ⟨by omega, by have : Builtin.Int.intBits 1 ≤ 1 := ib_le (by decide); omega⟩, _, 1, rfl, rfl, _, _, rfl, rfl, ?_⟩⟩
      refine ⟨L0, _, _, rfl, rfl, eL, ?_, .int _, rfl, .int (n : Int), rfl, _, _, rfl, rfl, (by omega), some (.int (0 + i)), ?_, ?_, ?_⟩
      · rw [List.length_map, List.length_map, List.length_range]
        exact small1000 (by omega)
      · show _ = [some (V.int (m : Int)), some (V.int (n : Int)), some (V.int (v / (2 ^ n) ^ (i + 1))), some (V.ref L0), some (V.int (0 + i))]
        rw [Int.pow_succ, ← Int.ediv_ediv_of_nonneg (Int.pow_nonneg (Int.le_of_lt (pw_pos n)))]
        rfl
      · rw [upd_same, List.range_succ, List.map_append, List.map_append]
        congr 3
        show [V.int (Builtin.bitAnd (v / (2 ^ n) ^ i) (1 * 2 ^ n - 1))] = [V.int (fieldX n v i)]
        rw [Int.one_mul, PySem.W.kbt_mask]
        rfl
      · intro b u e
        rw [upd_ne (ne_of_none e hL0)]
        exact s' b u e
    · obtain ⟨y4, rfl, eL, s'⟩ := hp
      rw [Int.toNat_natCast] at eL
      refine ⟨.int _, rfl, .ref L0, rfl, 1, rfl, L0, _, rfl, rfl, .inl (.inl eL), fun L hL => ?_⟩
      have sR := same_new (o := .lst (((List.range m).map (fieldX n v)).map V.int).reverse) hL
      refine ⟨(by show 2 ≤ sizeLine; decide), fun T hT => ?_⟩
      have sT := same_new (o := .tup [.int (v / (2 ^ n) ^ ((m : Int)).toNat), .ref L]) hT
      refine q _ T L (s'.trans (sR.trans sT)) ((s'.trans sR).free hT) (s'.free hL) ?_ ?_
      · rw [upd_same, Int.toNat_natCast]
      · rw [sT _ _ upd_same, List.map_reverse]
/-! ### best_ways -/
def encW (ws : List (Int × Int)) : List (Key × V) := ws.map fun e => (Sum.inl e.1, V.int e.2)
def putW (ws : List (Int × Int)) (a v : Int) : List (Int × Int) := if (ws.any fun e => decide (e.1 = a)) = true then ws.map (fun e => if e.1 = a then (e.1, v) else e) else ws ++ [(a, v)]
theorem put_enc (ws : List (Int × Int)) (a v : Int) : putK (encW ws) (Sum.inl a) (.int v) = encW (putW ws a v) := by
  have ha : ((encW ws).any fun kv => decide (kv.1 = Sum.inl a)) = ws.any fun e => decide (e.1 = a) := by
    unfold encW
    rw [List.any_map]
    congr 1
    funext e
    show decide ((Sum.inl e.1 : Key) = Sum.inl a) = _
    simp only [Sum.inl.injEq]
  unfold putK putW
  rw [ha]
  split
  · unfold encW
    rw [List.map_map, List.map_map]
    apply List.map_congr_left
    intro e _
    show (if (Sum.inl e.1 : Key) = Sum.inl a then ((Sum.inl e.1 : Key), V.int v) else (Sum.inl e.1, V.int e.2)) = _
    by_cases h : e.1 = a
    · rw [if_pos (by rw [h])]
      show _ = ((Sum.inl (if e.1 = a then (e.1, v) else e).1 : Key), V.int (if e.1 = a then (e.1, v) else e).2)
      rw [if_pos h]
    · rw [if_neg (fun z => h (Sum.inl.inj z))]
      show _ = ((Sum.inl (if e.1 = a then (e.1, v) else e).1 : Key), V.int (if e.1 = a then (e.1, v) else e).2)
      rw [if_neg h]
  · unfold encW
    rw [List.map_append]
    rfl
theorem valW_none {a : Int} : ∀ {ws : List (Int × Int)}, valV (encW ws) (Sum.inl a) = none → ∀ e ∈ ws, ¬ e.1 = a
  | [], _ => (fun _ z => nomatch z)
  | x :: ws, h => by
    intro e he z
    by_cases hx : x.1 = a
    · have : valV (encW (x :: ws)) (Sum.inl a) = some (V.int x.2) := valV_pos (by show (Sum.inl x.1 : Key) = _; rw [hx])
      rw [this] at h
      cases h
    · have e1 : valV (encW (x :: ws)) (Sum.inl a) = valV (encW ws) (Sum.inl a) := valV_neg (fun y => hx (Sum.inl.inj y))
      rw [e1] at h
      rcases List.mem_cons.mp he with rfl | he
      · exact hx z
      · exact valW_none h e he z
theorem valW_some {a : Int} {x : V} : ∀ {ws : List (Int × Int)}, valV (encW ws) (Sum.inl a) = some x → ∃ u, (a, u) ∈ ws ∧ x = .int u
  | [], h => by cases h
  | y :: ws, h => by
    by_cases hx : y.1 = a
    · have e1 : valV (encW (y :: ws)) (Sum.inl a) = some (V.int y.2) := valV_pos (by show (Sum.inl y.1 : Key) = _; rw [hx])
      rw [e1] at h
      exact ⟨y.2, by rw [← hx]; exact List.mem_cons_self, (Option.some.inj h).symm⟩
    · have e1 : valV (encW (y :: ws)) (Sum.inl a) = valV (encW ws) (Sum.inl a) := valV_neg (fun z => hx (Sum.inl.inj z))
      rw [e1] at h
      obtain ⟨u, h1, h2⟩ := valW_some h
      exact ⟨u, List.mem_cons_of_mem _ h1, h2⟩
theorem putW_mem {ws : List (Int × Int)} {a v : Int} : (a, v) ∈ putW ws a v ∧ (∀ e ∈ putW ws a v, e = (a, v) ∨ (e ∈ ws ∧ ¬ e.1 = a)) ∧ ∀ e ∈ ws, ¬ e.1 = a → e ∈ putW ws a v := by
  unfold putW
  split
  · rename_i h
    obtain ⟨x, hx, hxa⟩ := List.any_eq_true.mp h
    have hxa' := of_decide_eq_true hxa
    refine ⟨List.mem_map.mpr ⟨x, hx, by rw [if_pos hxa', hxa']⟩, fun e he => ?_, fun e he hn => List.mem_map.mpr ⟨e, he, by rw [if_neg hn]⟩⟩
    obtain ⟨y, hy, rfl⟩ := List.mem_map.mp he
    by_cases hya : y.1 = a
    · rw [if_pos hya, hya]
      exact .inl rfl
    · rw [if_neg hya]
      exact .inr ⟨hy, hya⟩
  · rename_i h
    refine ⟨List.mem_append_right _ List.mem_cons_self, fun e he => ?_, fun e he _ => List.mem_append_left _ he⟩
    rcases List.mem_append.mp he with he | he
    · refine .inr ⟨he, fun z => h (List.any_eq_true.mpr ⟨e, he, decide_eq_true z⟩)⟩
    · exact .inl (List.mem_singleton.mp he)
theorem putW_nd {ws : List (Int × Int)} {a v : Int} (nd : (ws.map (·.1)).Nodup) : ((putW ws a v).map (·.1)).Nodup := by
  unfold putW
  split
  · have : (ws.map (fun e => if e.1 = a then (e.1, v) else e)).map (·.1) = ws.map (·.1) := by
      rw [List.map_map]
      apply List.map_congr_left
      intro e _
      show (if e.1 = a then (e.1, v) else e).1 = e.1
      split <;> rfl
    rw [this]
    exact nd
  · rename_i h
    rw [List.map_append]
    refine List.nodup_append.mpr ⟨nd, by simp, fun x hx y hy z => ?_⟩
    obtain ⟨e, he, rfl⟩ := List.mem_map.mp hx
    have hy' : y = a := List.mem_singleton.mp hy
    exact h (List.any_eq_true.mpr ⟨e, he, decide_eq_true (z.trans hy')⟩)
theorem putW_len {ws : List (Int × Int)} {a v : Int} : (putW ws a v).length ≤ ws.length + 1 := by
  unfold putW
  split
  · rw [List.length_map]
    omega
  · rw [List.length_append]
    exact Nat.le_refl _
structure BwI (w m : Nat) (row : MRow) (i : Nat) (ws : List (Int × Int)) : Prop where
  nd : (ws.map (·.1)).Nodup
  len : ws.length ≤ i
  from' : ∀ e ∈ ws, ∃ (j : Nat) (c : List Int) (g : Int), j < i ∧ (allB m)[j]? = some c ∧ row[j]? = some (g, e.1) ∧ e.2 = pkG w g c
  all : ∀ (j : Nat) (c : List Int) (g a : Int), j < i → (allB m)[j]? = some c → row[j]? = some (g, a) → ∃ e ∈ ws, e.1 = a ∧ pkG w g c ≤ e.2
theorem bw_first (w m : Nat) (row : MRow) : BwI w m row 0 [] := ⟨List.nodup_nil, Nat.le_refl _, (fun _ z => nomatch z), fun j _ _ _ h => absurd h (Nat.not_lt_zero _)⟩
theorem bw_next {w m i : Nat} {row : MRow} {ws : List (Int × Int)} {c : List Int} {g a nv : Int} (h : BwI w m row i ws) (hc : (allB m)[i]? = some c) (hr : row[i]? = some (g, a)) (h1 : nv = pkG w g c ∨ (a, nv) ∈ ws) (h2 : pkG w g c ≤ nv) (h3 : ∀ e ∈ ws, e.1 = a → e.2 ≤ nv) : BwI w m row (i + 1) (putW ws a nv) := by
  obtain ⟨m1, m2, m3⟩ := putW_mem (ws := ws) (a := a) (v := nv)
  refine ⟨putW_nd h.nd, by have := putW_len (ws := ws) (a := a) (v := nv); have := h.len; omega, fun e he => ?_, fun j c' g' a' hj hc' hr' => ?_⟩
  · rcases m2 e he with rfl | ⟨he, _⟩
    · rcases h1 with h1 | h1
      · exact ⟨i, c, g, by omega, hc, hr, h1⟩
      · obtain ⟨j, c', g', q1, q2, q3, q4⟩ := h.from' _ h1
        exact ⟨j, c', g', by omega, q2, q3, q4⟩
    · obtain ⟨j, c', g', q1, q2, q3, q4⟩ := h.from' e he
      exact ⟨j, c', g', by omega, q2, q3, q4⟩
  · by_cases hji : j = i
    · subst hji
      rw [hc] at hc'
      rw [hr] at hr'
      obtain rfl := Option.some.inj hc'
      obtain ⟨rfl, rfl⟩ := Prod.mk.inj (Option.some.inj hr')
      exact ⟨_, m1, rfl, h2⟩
    · obtain ⟨e, he, e1, e2⟩ := h.all j c' g' a' (by omega) hc' hr'
      by_cases hea : e.1 = a
      · exact ⟨_, m1, hea.symm.trans e1, Int.le_trans e2 (h3 e he hea)⟩
      · exact ⟨e, m3 e he hea, e1, e2⟩
theorem pr_enc {H : Hp} : ∀ {ts : List Addr} {ws : List (Int × Int)}, Paired (fun (t : Addr) (kv : Key × V) => H t = some (.tup [kV kv.1, kv.2])) ts (encW ws) → PrAt H ts ws
  | [], [], _ => .nil
  | _ :: _, [], h => nomatch h
  | [], _ :: _, h => nomatch h
  | _ :: _, _ :: _, .cons h t => .cons h (pr_enc t)
def spBw : Sp := fun vs H Q _ => ∃ (C L : Addr) (w m : Nat) (fs : List Addr) (row : MRow), vs = [.int (w : Int), .ref C, .ref L] ∧ H C = some (.lst (fs.map V.ref)) ∧ TAt H fs (allB m) ∧ RowL H L row ∧ row.length = 2 ^ m ∧ m ≤ 3 ∧ w ≤ 60 ∧ (∀ e ∈ row, e.1.natAbs ≤ 2) ∧
  ∀ H' T ws, Same H H' → H T = none → RowL H' T ws → BwI w m row (2 ^ m) ws → Q (.ref T) H'
set_option maxHeartbeats 2000000 in
theorem ok_bw {f fP : Addr} {fd fdP : FuncData} {k : Nat} (F : Fun K "best_ways" "best_ways" s_best_ways f fd) (GP : FnOk P w K mg base CX0 (k + 1) fP fdP ["width", "gain", "bits"] spPk) (kP : PySem.W.keepIn K (.ref fP) = true) (bP : Binds K fdP ["width", "gain", "bits"] []) (gP : mg "packed" = some (.ref fP))
    (mz : mg "zip" = none) (mx : mg "max" = none) (ml : mg "list" = none) : FnOk P w K mg base CX0 (k + 2) f fd ["width", "choices", "pairs"] spBw := by
  refine F.ok sc_best_ways (fun vs H Q E h => ?_) (fun cdv A outer s H vs Q E hr h => ?_)
  · obtain ⟨C, L, w', m, fs, row, rfl, _⟩ := h
    rfl
  · obtain ⟨C, L, n, m, fs, row, rfl, eC, hf, hrow, rl, m3, n60, hg, q⟩ := h
    have hu := hu_of hr
    refine ⟨_, pss_cons (ps_set (i := 3) sc_best_ways.nd rfl (.inl rfl) pe_dnewK)
      (pss_cons (ps_for PassesOwn.never rfl (pi_zip (by rfl) mz (pa_cons (pv 1) (pa_cons (pv 2) pa_nil))) (pg_tup rfl (pgs_cons (pg_name (i := 4) sc_best_ways.nd rfl (.inl rfl)) (pgs_cons (pg_tup rfl (pgs_cons (pg_name (i := 5) sc_best_ways.nd rfl (.inl rfl)) (pgs_cons (pg_name (i := 6) sc_best_ways.nd rfl (.inl rfl)) pgs_nil))) pgs_nil)))
        (pss_cons (ps_set (i := 7) sc_best_ways.nd rfl (.inl rfl) (pe_call GP hr (by rfl) gP kP bP .nil pass0 (pa_cons (pv 0) (pa_cons (pv 5) (pa_cons (pv 4) pa_nil)))))
        (pss_one (ps_dput hu (pv 3) (pv 6) (pe_callB (call_max2 rfl) (by rfl) mx (by decide +kernel) (pa_cons (pv 7) (pa_cons (pe_dget2 hu (pv 3) (pv 6) (pv 7) ⟨rfl, rfl, rfl, rfl⟩) pa_nil))) rfl))))
      (pss_one (ps_ret (pe_callTy (cr_listItems rfl) (by rfl) ml (by decide +kernel) (pa_cons (pe_bm0 PySem.F.plainAttrs_dict PySem.F.slot_dict_items PySem.F.type_dict_items mt_itemsK (pv 3)) pa_nil))))), ?_⟩
    obtain ⟨qs, eL, hq⟩ := id hrow
    have fl : fs.length = 2 ^ m := by rw [awLen hf, allB_len]
    have ql : qs.length = 2 ^ m := by rw [awLen hq, rl]
    have p8 : 2 ^ m ≤ 8 := Nat.le_trans (Nat.pow_le_pow_right (by decide) m3) (by decide)
    intro D hD
    have sD := same_new (o := .dK []) hD
    refine ⟨.ref C, rfl, .ref L, rfl, C, L, _, _, rfl, .inl (.inl (sD _ _ eC)), .inl (.inl (sD _ _ eL)), for_it (walk_zip (K := K) (a := C) (b := L) (xs := fs.map V.ref) (ys := qs.map V.ref) (n := 2 ^ m) (by rw [List.length_map, List.length_map, fl, ql, Nat.min_self])) (fun j σ H8 => ∃ y4 y5 y6 y7 ws, σ = [some (.int (n : Int)), some (.ref C), some (.ref L), some (.ref D), y4, y5, y6, y7] ∧ H8 D = some (.dK (encW ws)) ∧ BwI n m row j ws ∧ Same H H8)
      ⟨none, none, none, none, [], rfl, upd_same, bw_first _ _ _, sD⟩ (fun j σ H8 _ hp => ?_) (fun j x σ H8 H9 hj hp hy => ?_) (fun σ H8 hp => ?_)⟩
    · obtain ⟨_, _, _, _, _, _, _, _, s8⟩ := hp
      exact ⟨.inl (.inl (s8 _ _ eC)), .inl (.inl (s8 _ _ eL))⟩
    · obtain ⟨y4, y5, y6, y7, ws, rfl, eD, bw, s8⟩ := hp
      obtain ⟨U, x1, x2, rfl, hU, rfl, gg1, gg2⟩ := hy
      have hjf : j < fs.length := by omega
      have hjq : j < qs.length := by omega
      have e1 : x1 = .ref fs[j] := by
        have g1' : (fs.map V.ref)[j]? = some x1 := gg1
        rw [List.getElem?_map, List.getElem?_eq_getElem hjf] at g1'
        exact (Option.some.inj g1').symm
      have e2 : x2 = .ref qs[j] := by
        have g2' : (qs.map V.ref)[j]? = some x2 := gg2
        rw [List.getElem?_map, List.getElem?_eq_getElem hjq] at g2'
        exact (Option.some.inj g2').symm
      subst e1 e2
      obtain ⟨c, hc1, hc2⟩ := awGet hf (List.getElem?_eq_getElem hjf)
      obtain ⟨e, he1, he2⟩ := awGet hq (List.getElem?_eq_getElem hjq)
      have sU := same_new (o := .tup [.ref fs[j], .ref qs[j]]) hU
      have ec := sU _ _ (s8 _ _ hc2)
      have ee := sU _ _ (s8 _ _ he2)
      have eDU := sU _ _ eD
      obtain ⟨g, a⟩ := e
      refine ⟨U, [.ref fs[j], .ref qs[j]], rfl, .inl (.inl upd_same), rfl, .ref fs[j], [.ref qs[j]], rfl, .ref qs[j], [], rfl, qs[j], [.int g, .int a], rfl, .inl (.inl ee), rfl, .int g, [.int a], rfl, .int a, [], rfl, rfl, rfl, ?_⟩
      have cb := allB_ok m c (List.mem_of_getElem? hc1)
      refine ⟨.int (n : Int), rfl, .int g, rfl, .ref fs[j], rfl, fs[j], n, g, c, rfl, ec, n60, hg _ (List.mem_of_getElem? he1), by omega, cb.2, ?_⟩
      have wl := bw.len
      have enl : (encW ws).length < sizeLine := by
        unfold encW
        rw [List.length_map]
        exact small1000 (by omega)
      refine ⟨.int (pkG n g c), rfl, .ref D, rfl, D, rfl, .inl ⟨_, .inl eDU⟩, .int a, rfl, .int (pkG n g c), rfl, valV (encW ws) (Sum.inl a), DGet.k (k := Sum.inl a) eDU, ?_⟩
      cases hv : valV (encW ws) (Sum.inl a) with
      | none =>
        refine ⟨pkG n g c, pkG n g c, rfl, .ref D, rfl, .int a, rfl, D, _, rfl, DPut.k (k := Sum.inl a) eDU enl, some (.ref fs[j]), some (.int g), some (.int a), some (.int (pkG n g c)), putW ws a (pkG n g c), rfl, ?_, bw_next bw hc1 he1 (.inl rfl) (Int.le_refl _) (fun e he z => absurd z (valW_none hv e he)), ?_⟩
        · rw [upd_same, if_neg (Int.lt_irrefl _), put_enc]
        · intro b u e
          rw [upd_ne (ne_of_none e hD)]
          exact sU _ _ (s8 b u e)
      | some x =>
        obtain ⟨u, hu1, rfl⟩ := valW_some hv
        obtain ⟨nv, hnv⟩ : ∃ nv : Int, nv = if u > pkG n g c then u else pkG n g c := ⟨_, rfl⟩
        refine ⟨pkG n g c, u, rfl, .ref D, rfl, .int a, rfl, D, _, rfl, DPut.k (k := Sum.inl a) eDU enl, some (.ref fs[j]), some (.int g), some (.int a), some (.int (pkG n g c)), putW ws a nv, rfl, ?_, bw_next bw hc1 he1 ?_ ?_ (fun e he z => ?_), ?_⟩
        · rw [upd_same, ← hnv, put_enc]
        · rw [hnv]
          split
          · exact .inr hu1
          · exact .inl rfl
        · rw [hnv]
          split <;> omega
        · have eq : e = (a, u) := by
            obtain ⟨i1, hi1⟩ := List.mem_iff_getElem?.mp he
            obtain ⟨i2, hi2⟩ := List.mem_iff_getElem?.mp hu1
            have k1 : (ws.map (·.1))[i1]? = some a := by rw [List.getElem?_map, hi1, Option.map_some, z]
            have k2 : (ws.map (·.1))[i2]? = some a := by rw [List.getElem?_map, hi2]; rfl
            have : i1 = i2 := (List.getElem?_inj (List.getElem?_eq_some_iff.mp k1).1 bw.nd).mp (k1.trans k2.symm)
            subst this
            exact Option.some.inj (hi1.symm.trans hi2)
          rw [eq, hnv]
          show u ≤ _
          split <;> omega
        · intro b u e
          rw [upd_ne (ne_of_none e hD)]
          exact sU _ _ (s8 b u e)
    · obtain ⟨y4, y5, y6, y7, ws, rfl, eD, bw, s8⟩ := hp
      refine ⟨.ref D, rfl, .inr (.inr (.inl ⟨rfl, .inl ⟨_, eD⟩⟩)), D, encW ws, rfl, rfl, eD, fun Vw hVw => ?_⟩
      have sV := same_new (o := L2.DX.itemsO Vw D) hVw
      refine ⟨Vw, D, encW ws, rfl, upd_same, sV _ _ eD, fun H' T ts s' nT eT hts => ?_⟩
      exact q H' T ws (s8.trans (sV.trans s')) ((s8.trans sV).free nT) ⟨ts, eT, pr_enc hts⟩ bw
/-! ### pairs of carries (of sec_bfs and sec_alike, alone) -/
abbrev PC := List Int × List Int
def nx2 (ds1 ds2 : List Deed) (q : PC) (bs : List Int) : PC := (nc ds1 q.1 bs, nc ds2 q.2 bs)
/-! ### pairs of carries in the heap -/
def kP (c1 c2 : List Int) : NestedKey := .tup [kC c1, kC c2]
theorem kP_inj {a b c d : List Int} (h : kP a b = kP c d) : a = c ∧ b = d := by
  have h1 := NestedKey.tup.inj h
  rw [List.cons.injEq, List.cons.injEq] at h1
  exact ⟨kC_inj h1.1, kC_inj h1.2.1⟩
def PrC (H : Hp) (p : Addr) (q : PC) : Prop := ∃ A B, H p = some (.tup [.ref A, .ref B]) ∧ H A = some (.tup (q.1.map V.int)) ∧ H B = some (.tup (q.2.map V.int))
theorem PrC.stay {H H' : Hp} {p : Addr} {q : PC} (h : PrC H p q) (t : TupsStay H H') : PrC H' p q := by
  obtain ⟨A, B, e1, e2, e3⟩ := h
  exact ⟨A, B, t _ _ e1, t _ _ e2, t _ _ e3⟩
theorem keyP {H : Hp} {T : Addr} {q : PC} (h : PrC H T q) : KeyN H (.ref T) (kP q.1 q.2) := by
  obtain ⟨A, B, e1, e2, e3⟩ := h
  refine ⟨.tup e1 (.cons (keyC e2).1 (.cons (keyC e3).1 .nil)), ?_, T, rfl⟩
  unfold kP kC
  simp [NestedKey.depth, NestedKey.depthAll, nums_depth]
theorem kC_at {H : Hp} {v : V} {c : List Int} (h : NkAt H (kC c) v) : ∃ A, v = .ref A ∧ H A = some (.tup (c.map V.int)) := by
  unfold kC at h
  cases h with
  | tup e hs => exact ⟨_, rfl, by rw [← nks_eq hs]; exact e⟩
theorem prC_of {H : Hp} {T : Addr} {q : PC} (h : NkAt H (kP q.1 q.2) (.ref T)) : PrC H T q := by
  unfold kP at h
  cases h with
  | tup e hs =>
    cases hs with
    | cons h1 h2 =>
      cases h2 with
      | cons h3 h4 =>
        cases h4
        obtain ⟨A, rfl, eA⟩ := kC_at h1
        obtain ⟨B, rfl, eB⟩ := kC_at h3
        exact ⟨A, B, e, eA, eB⟩
abbrev PtAt (H : Hp) : List Addr → List PC → Prop := Paired (PrC H)
theorem ptat_stay {H H' : Hp} (t : TupsStay H H') {qs : List Addr} {l : List PC} (h : PtAt H qs l) : PtAt H' qs l := awMap (fun _ _ e => e.stay t) h
structure PcOk (ds1 ds2 : List Deed) (q : PC) : Prop where
  l1 : q.1.length = ds1.length
  b1 : ∀ x ∈ q.1, Bit x
  l2 : q.2.length = ds2.length
  b2 : ∀ x ∈ q.2, Bit x
theorem nx2_ok {m : Nat} {ds1 ds2 : List Deed} {q : PC} {bs : List Int} (h : PcOk ds1 ds2 q) (hb : bs ∈ allB m) : PcOk ds1 ds2 (nx2 ds1 ds2 q bs) := by
  have h3 := (allB_ok m bs hb).2
  exact ⟨nxt_len h.l1.symm, nxt_bits (bts_bits h3 h.b1) h.b1, nxt_len h.l2.symm, nxt_bits (bts_bits h3 h.b2) h.b2⟩
theorem pc_first (ds1 ds2 : List Deed) : PcOk ds1 ds2 (ds1.map fcD, ds2.map fcD) := ⟨(rch_shp (crry_rch ds1 [] 0)).len, (rch_shp (crry_rch ds1 [] 0)).bits, (rch_shp (crry_rch ds2 [] 0)).len, (rch_shp (crry_rch ds2 [] 0)).bits⟩
/-- as many pairs as there can be -/
theorem few_pairs {ds1 ds2 : List Deed} {ps : List PC} (nd : ps.Nodup) (h : ∀ q ∈ ps, PcOk ds1 ds2 q) (l1 : ds1.length ≤ 8) (l2 : ds2.length ≤ 8) : ps.length ≤ 65536 := by
  have bn : ∀ n : Nat, ∀ c : List Int, c.length = n → (∀ x ∈ c, Bit x) → c ∈ allB n := fun n c hc hb => allB_all n c hc hb
  have sub : ∀ q ∈ ps, q ∈ (allB ds1.length).flatMap fun a => (allB ds2.length).map fun b => (a, b) := fun q hq => by
    have k := h q hq
    exact List.mem_flatMap.mpr ⟨q.1, bn _ _ k.l1 k.b1, List.mem_map.mpr ⟨q.2, bn _ _ k.l2 k.b2, rfl⟩⟩
  have le := pigeon ps _ nd sub
  have key : ∀ L : List (List Int), (L.flatMap fun a => (allB ds2.length).map fun b => (a, b)).length = L.length * 2 ^ ds2.length := by
    intro L
    induction L with
    | nil => simp
    | cons a L ih =>
      rw [List.flatMap_cons, List.length_append, ih, List.length_map, allB_len, List.length_cons, Nat.succ_mul]
      omega
  rw [key, allB_len] at le
  have p1 : 2 ^ ds1.length ≤ 256 := Nat.le_trans (Nat.pow_le_pow_right (by decide) l1) (by decide)
  have p2 : 2 ^ ds2.length ≤ 256 := Nat.le_trans (Nat.pow_le_pow_right (by decide) l2) (by decide)
  have := Nat.mul_le_mul p1 p2
  omega
/-! ### check_pair -/
def spCp (cP : Addr) : Sp := fun vs H Q E => ∃ (R1 R2 : Addr) (m1 m2 o1 o2 : Int) (ds1 ds2 : List Deed), vs = [.ref R1, .ref R2] ∧ RowAt H R1 m1 ds1 o1 ∧ RowAt H R2 m2 ds2 o2 ∧ RowOk m1 ds1 o1 ∧ RowOk m2 ds2 o2 ∧
  (m1 = m2 → Q .non H) ∧ (¬ m1 = m2 → E (.ref cP) none H)
theorem ok_cp {f cP : Addr} {fd : FuncData} {k : Nat} (F : Fun K "check_pair" "check_pair" s_check_pair f fd) (rP : Rai K mg "NoPair" cP) : FnOk P w K mg base (L2.CX P w) (k + 1) f fd ["row", "other"] (spCp cP) := by
  refine F.okX sc_check_pair (fun vs H Q E h => ?_) (fun cdv A outer s H vs Q E hr h => ?_)
  · obtain ⟨R1, R2, m1, m2, o1, o2, ds1, ds2, rfl, _⟩ := h
    rfl
  · obtain ⟨R1, R2, m1, m2, o1, o2, ds1, ds2, rfl, hr1, hr2, ok1, ok2, q, qE⟩ := h
    obtain ⟨D1, rs1, e1, _, _⟩ := id hr1
    obtain ⟨D2, rs2, e2, _, _⟩ := id hr2
    refine ⟨_, pss_one (ps_if (pt_cmpR op_ne (pe_ix ix_tup (pv 0) pe_int (fun _ _ => rfl)) (pe_ix ix_tup (pv 1) pe_int (fun _ _ => rfl)) (nomark _))
        (pss_one (ps_raise rfl (takes_of rfl rfl rfl rfl) (SkE.pmk_own1 PySem.F.excBase_ValueError rP.q rP.g rP.k (raises_own rP.s rP.t) (by rfl) (pe_joined (.cons pe_str (.cons (pe_fmt (pe_ix ix_tup (pv 0) pe_int (fun _ _ => rfl))) (.cons pe_str (.cons (pe_fmt (pe_ix ix_tup (pv 1) pe_int (fun _ _ => rfl))) (.cons pe_str .nil))))))))) pss_nil), ?_⟩
    have a1 := ok1.m1
    have a3 := ok1.m3
    have b1 := ok2.m1
    have b3 := ok2.m3
    refine ⟨.ref R1, rfl, R1, _, 0, .int m1, rfl, rfl, SqT.of e1, row0, .ref R2, rfl, R2, _, 0, .int m2, rfl, rfl, SqT.of e2, row0, ⟨rfl, _, rfl, ite2 (fun hne => ?_) (fun heq => ?_)⟩⟩
    · have l1 : m1.natAbs < 1000 := by omega
      have l2 : m2.natAbs < 1000 := by omega
      have j0 := js_len (acc := Str.empty) (y := "rows of ") (a := 0) (b := 8) (by decide) (by decide +kernel) (by decide)
      have j1 := js_len j0.2 (b := 4) (iX_len l1) (by decide)
      have j2 := js_len (y := " and of ") j1.2 (b := 8) (by decide +kernel) (by decide)
      have j3 := js_len j2.2 (b := 4) (iX_len l2) (by decide)
      have j4 := js_len (y := " inputs") j3.2 (b := 7) (by decide +kernel) (by decide)
      exact ⟨_, rfl, j0.1, .ref R1, rfl, R1, _, 0, .int m1, rfl, rfl, SqT.of e1, row0, .inr ⟨m1, rfl, log_small l1, _, rfl, j1.1, _, rfl, j2.1, .ref R2, rfl, R2, _, 0, .int m2, rfl, rfl, SqT.of e2, row0, .inr ⟨m2, rfl, log_small l2, _, rfl, j3.1, _, rfl, j4.1, qE (neT hne)⟩⟩⟩
    · exact q (neF heq)
/-! ### pairs of carries as data -/
def cD (c : List Int) : PyData := .tuple (c.map PyData.int)
def pD (q : PC) : PyData := .tuple [cD q.1, cD q.2]
theorem eqvI' : ∀ {l k : List Int}, PyData.eqvAll (l.map PyData.int) (k.map PyData.int) = true → l = k
  | [], [], _ => rfl
  | [], _ :: _, h => by simp [PyData.eqvAll] at h
  | _ :: _, [], h => by simp [PyData.eqvAll] at h
  | x :: l, y :: k, h => by
    simp only [List.map_cons, PyData.eqvAll, Bool.and_eq_true] at h
    have h1 : x = y := by simpa [PyData.eqv] using h.1
    rw [h1, eqvI' h.2]
theorem lay_cD (c : List Int) : (cD c).canLay0 = true ∧ (cD c).depth = 1 := by
  obtain ⟨h1, h2⟩ := lay_ints c
  unfold cD
  simp only [PyData.canLay0, PyData.depth, h1, h2]
  simp
theorem lay_pD (q : PC) : (pD q).canLay0 = true ∧ (pD q).depth = 2 := by
  obtain ⟨a1, a2⟩ := lay_cD q.1
  obtain ⟨b1, b2⟩ := lay_cD q.2
  unfold pD
  simp only [PyData.canLay0, PyData.canLayAll0, PyData.depth, PyData.depthAll, a1, a2, b1, b2]
  simp
theorem shaped_pD (q : PC) : SeqAt.shaped (pD q) = true := by
  obtain ⟨a1, a2⟩ := lay_pD q
  unfold SeqAt.shaped
  rw [a1, a2]
  rfl
theorem lay_pDs : ∀ l : List PC, PyData.canLayAll0 (l.map pD) = true ∧ PyData.depthAll (l.map pD) ≤ 2
  | [] => ⟨by simp only [List.map_nil, PyData.canLayAll0], by simp only [List.map_nil, PyData.depthAll]; decide⟩
  | q :: l => by
    obtain ⟨a1, a2⟩ := lay_pD q
    obtain ⟨b1, b2⟩ := lay_pDs l
    exact ⟨by simp only [List.map_cons, PyData.canLayAll0, a1, b1, Bool.and_self], by simp only [List.map_cons, PyData.depthAll, a2]; omega⟩
theorem shaped_pDs (l : List PC) : SeqAt.shaped (.list (l.map pD)) = true := by
  obtain ⟨a1, a2⟩ := lay_pDs l
  unfold SeqAt.shaped
  simp only [PyData.canLay0, PyData.depth, a1, Bool.true_and]
  exact decide_eq_true (by omega)
theorem eqv_pD (p q : PC) : PyData.eqv (pD p) (pD q) = decide (p = q) := by
  by_cases h : p = q
  · subst h
    rw [decide_eq_true rfl]
    exact SeqAt.eqv_refl _ (SeqAt.canLay_of_shaped (shaped_pD p))
  · rw [decide_eq_false h]
    cases e : PyData.eqv (pD p) (pD q) with
    | false => rfl
    | true =>
      exfalso
      unfold pD cD at e
      simp only [PyData.eqv, PyData.eqvAll, Bool.and_eq_true] at e
      exact h (Prod.ext (eqvI' e.1) (eqvI' e.2.1))
theorem any_pD (q : PC) : ∀ l : List PC, ((l.map pD).any fun z => PyData.eqv z (pD q)) = decide (q ∈ l)
  | [] => rfl
  | p :: l => by
    rw [List.map_cons, List.any_cons, eqv_pD, any_pD q l]
    by_cases h : p = q
    · subst h
      simp
    · have : ¬ q = p := fun z => h z.symm
      simp [h, this]
theorem dp_cD {H : Hp} {a : Addr} {c : List Int} (h : H a = some (.tup (c.map V.int))) : Dp K H (.ref a) (cD c) := .tup (SqT.of h) (dp_ints c)
theorem dp_pD {H : Hp} {p : Addr} {q : PC} (h : PrC H p q) : Dp K H (.ref p) (pD q) := by
  obtain ⟨A, B, e1, e2, e3⟩ := h
  exact .tup (SqT.of e1) (.cons (dp_cD e2) (.cons (dp_cD e3) .nil))
theorem dp_pDs {H : Hp} : ∀ {as : List Addr} {ps : List PC}, PtAt H as ps → DpAll K H (as.map V.ref) (ps.map pD)
  | _, _, .nil => .nil
  | _, _, .cons h t => .cons (dp_pD h) (dp_pDs t)
/-! ### bits of worths (the first part of sec_bfsw) -/
theorem ob_bit {m n t : Nat} {ds : List Deed} {o : Int} {xs : List Int} (ok : RowOk m ds o) (hm : xs.length = m) (hx : ∀ x ∈ xs, 0 ≤ x ∧ x < 2 ^ n) (ht : t < n) : ob ds o (crry ds xs t) (xs.map (bitA t)) = bitA t ((vals (2 ^ n) ds xs).getD o.toNat 0) := by
  have vl := vals_len (size := 2 ^ n) ds xs
  have o0 := ok.o0
  have o1 := ok.o1
  have m1 := ok.m1
  have ol : o.toNat < (vals (2 ^ n) ds xs).length := by
    rw [vl, hm]
    omega
  unfold ob
  rw [crry_bits ok.deeds hm (by omega) hx ht, List.getD_eq_getElem?_getD, List.getD_eq_getElem?_getD, List.getElem?_map, List.getElem?_eq_getElem ol]
  rfl
theorem wr_range {m n : Nat} {ds : List Deed} {o : Int} {xs : List Int} (ok : RowOk m ds o) (hm : xs.length = m) (hx : ∀ x ∈ xs, 0 ≤ x ∧ x < 2 ^ n) : (vals (2 ^ n) ds xs).getD o.toNat 0 % 2 ^ n = (vals (2 ^ n) ds xs).getD o.toNat 0 := by
  have vl := vals_len (size := 2 ^ n) ds xs
  have o0 := ok.o0
  have o1 := ok.o1
  have ol : o.toNat < (vals (2 ^ n) ds xs).length := by
    rw [vl, hm]
    omega
  rw [List.getD_eq_getElem?_getD, List.getElem?_eq_getElem ol]
  obtain ⟨a, b⟩ := vals_range (pw_pos n) ds xs hx _ (List.getElem_mem ol)
  exact Int.emod_eq_of_lt a b
theorem cols_in {m : Nat} {xs : List Int} (hm : xs.length = m) (t : Nat) : xs.map (bitA t) ∈ allB m := allB_all m _ (by rw [List.length_map, hm]) fun x hx => by
  obtain ⟨y, _, rfl⟩ := List.mem_map.mp hx
  exact bitA_bit t y
/-! ### greatest -/
theorem allB_ndX : ∀ {m : Nat}, m ≤ 3 → (allB m).Nodup
  | 0, _ => by decide
  | 1, _ => by decide
  | 2, _ => by decide
  | 3, _ => by decide
  | n + 4, h => by omega
theorem ent_at {A : List MRow} {m s j : Nat} {row : MRow} {c : List Int} {e : Int × Int} (m3 : m ≤ 3) (hs : A[s]? = some row) (hc : (allB m)[j]? = some c) (he : row[j]? = some e) : entX A s c = e := by
  obtain ⟨h1, h2⟩ := allB_ok m c (List.mem_of_getElem? hc)
  obtain ⟨j', e1, e2⟩ := allB_at m c h1 h2
  have : j' = j := (List.getElem?_inj (List.getElem?_eq_some_iff.mp e2).1 (allB_ndX m3)).mp (e2.trans hc.symm)
  subst this
  unfold entX
  rw [e1, Int.toNat_natCast, List.getD_eq_getElem?_getD, List.getD_eq_getElem?_getD, hs]
  show (row[j']?).getD _ = e
  rw [he]
  rfl
theorem bw_way {A : List MRow} {w m s : Nat} {row : MRow} {ws : List (Int × Int)} (m3 : m ≤ 3) (hs : A[s]? = some row) (hl : row.length = 2 ^ m) (h : BwI w m row (2 ^ m) ws) : WayX A w m s ws := by
  have key : ∀ c ∈ allB m, ∃ j : Nat, j < 2 ^ m ∧ (allB m)[j]? = some c := fun c hc => by
    obtain ⟨j, hj⟩ := List.mem_iff_getElem?.mp hc
    exact ⟨j, by have := (List.getElem?_eq_some_iff.mp hj).1; rwa [allB_len] at this, hj⟩
  have all : ∀ c ∈ allB m, ∃ e ∈ ws, e.1 = (entX A s c).2 ∧ pkG w (entX A s c).1 c ≤ e.2 := fun c hc => by
    obtain ⟨j, hj, hjc⟩ := key c hc
    have hr : row[j]? = some row[j] := List.getElem?_eq_getElem (by omega)
    rw [ent_at m3 hs hjc hr]
    exact h.all j c _ _ hj hjc hr
  refine ⟨fun z => ?_, Nat.le_trans h.len (Nat.le_trans (Nat.pow_le_pow_right (by decide) m3) (by decide)), fun e he => ?_, all⟩
  · obtain ⟨c, hc⟩ : ∃ c, c ∈ allB m := by
      have := allB_len m
      have p : 0 < 2 ^ m := Nat.pow_pos (by decide)
      exact ⟨(allB m)[0]'(by omega), List.getElem_mem _⟩
    obtain ⟨e, he, _⟩ := all c hc
    rw [z] at he
    cases he
  · obtain ⟨j, c, g, hj, hc, hr, e2⟩ := h.from' e he
    have := ent_at m3 hs hc hr
    exact ⟨c, List.mem_of_getElem? hc, by rw [this], by rw [this]; exact e2⟩
theorem field_next (w : Nat) (p b : Int) (h : 0 ≤ b ∧ b < 2 ^ w) : (p * 2 ^ w + b) / 2 ^ w = p ∧ (p * 2 ^ w + b) % 2 ^ w = b := by
  have hp := pw_pos w
  rw [Int.add_comm, Int.mul_comm]
  refine ⟨?_, ?_⟩
  · rw [Int.add_mul_ediv_left _ _ (Int.ne_of_gt hp), Int.ediv_eq_zero_of_lt h.1 h.2, Int.zero_add]
  · rw [Int.add_mul_emod_self_left, Int.emod_eq_of_lt h.1 h.2]
theorem unp (w : Nat) (g : Int) : ∀ (l : List Int), (∀ x ∈ l, 0 ≤ x ∧ x < 2 ^ w) → pkG w g l / (2 ^ w) ^ l.length = g ∧ ((List.range l.length).map (fieldX w (pkG w g l))).reverse = l := by
  refine snoc_ind (fun _ => ⟨by show g / (2 ^ w) ^ 0 = g; rw [Int.pow_zero, Int.ediv_one], rfl⟩) fun l b ih h => ?_
  obtain ⟨i1, i2⟩ := ih fun x hx => h x (List.mem_append_left _ hx)
  obtain ⟨f1, f2⟩ := field_next w (pkG w g l) b (h b (List.mem_append_right _ List.mem_cons_self))
  have hp : (0 : Int) ≤ 2 ^ w := Int.le_of_lt (pw_pos w)
  rw [pkG_snoc, List.length_append]
  refine ⟨?_, ?_⟩
  · show _ / (2 ^ w) ^ (l.length + 1) = g
    rw [Int.pow_succ, Int.mul_comm ((2 ^ w) ^ l.length) (2 ^ w), ← Int.ediv_ediv_of_nonneg hp, f1]
    exact i1
  · show ((List.range (l.length + 1)).map _).reverse = _
    rw [List.range_succ_eq_map, List.map_cons, List.reverse_cons, List.map_map]
    have e0 : fieldX w (pkG w g l * 2 ^ w + b) 0 = b := by
      unfold fieldX
      rw [Int.pow_zero, Int.ediv_one]
      exact f2
    have e1 : (List.range l.length).map (fieldX w (pkG w g l * 2 ^ w + b) ∘ Nat.succ) = (List.range l.length).map (fieldX w (pkG w g l)) := by
      apply List.map_congr_left
      intro j _
      show fieldX w (pkG w g l * 2 ^ w + b) (j + 1) = _
      unfold fieldX
      rw [Int.pow_succ, Int.mul_comm ((2 ^ w) ^ j) (2 ^ w), ← Int.ediv_ediv_of_nonneg hp, f1]
    rw [e0, e1, i2]
theorem rep_flat : ∀ n : Nat, (List.replicate n [V.int 0]).flatten = (List.replicate n (0 : Int)).map V.int
  | 0 => rfl
  | n + 1 => by rw [List.replicate_succ, List.flatten_cons, rep_flat n, List.replicate_succ]; rfl
theorem rowl_same {H H' : Hp} (s : Same H H') {l : Addr} {r : MRow} (h : RowL H l r) : RowL H' l r := by
  obtain ⟨qs, e, hq⟩ := h
  exact ⟨qs, s _ _ e, awMap (fun _ _ z => s _ _ z) hq⟩
structure GnOk (m : Nat) (A : List MRow) : Prop where
  ne : 0 < A.length
  few : A.length ≤ 65536
  row : ∀ r ∈ A, r.length = 2 ^ m ∧ ∀ e ∈ r, e.1.natAbs ≤ 2 ∧ ∃ j : Nat, e.2 = (j : Int) ∧ j < A.length
def spGr : Sp := fun vs H Q _ => ∃ (G : Addr) (m w : Nat) (ls : List Addr) (A : List MRow), vs = [.int (m : Int), .int (w : Int), .ref G] ∧ H G = some (.lst (ls.map V.ref)) ∧ MacL H ls A ∧ GnOk m A ∧ m ≤ 3 ∧ w ≤ 60 ∧
  ∀ H' T L cs, Same H H' → H T = none → H L = none → H' T = some (.tup [.int (amtX A 0 cs), .ref L]) → H' L = some (.lst ((wofL m cs).map V.int)) → cs.length = w → (∀ c ∈ cs, c ∈ allB m) → (∀ cs' : List (List Int), cs'.length = w → (∀ c ∈ cs', c ∈ allB m) → amtX A 0 cs' ≤ amtX A 0 cs) → Q (.ref T) H'
abbrev scGa : Scope := ⟨.function, [(".0", .local), ("way", .local), ("max", .globalImplicit), ("best", .cell)], false, false, []⟩
abbrev scGb : Scope := ⟨.function, [(".0", .local), ("after", .local), ("more", .local), ("best", .free)], false, false, []⟩
set_option maxHeartbeats 4000000 in
theorem ok_gr {f fA fW fU : Addr} {fd fdA fdW fdU : FuncData} {k : Nat} (F : Fun K "greatest" "greatest" s_greatest f fd)
    (GA : FnOk P w K mg base CX0 (k + 1) fA fdA ["many"] spAll) (kA : PySem.W.keepIn K (.ref fA) = true) (bA : Binds K fdA ["many"] []) (gA : mg "all_bits" = some (.ref fA))
    (GW : FnOk P w K mg base CX0 (k + 2) fW fdW ["width", "choices", "pairs"] spBw) (kW : PySem.W.keepIn K (.ref fW) = true) (bW : Binds K fdW ["width", "choices", "pairs"] []) (gW : mg "best_ways" = some (.ref fW))
    (GU : FnOk P w K mg base CX0 (k + 1) fU fdU ["many", "width", "number"] spUp) (kU : PySem.W.keepIn K (.ref fU) = true) (bU : Binds K fdU ["many", "width", "number"] []) (gU : mg "unpacked" = some (.ref fU))
    (mr : mg "range" = none) (mn : mg "len" = none) (mx : mg "max" = none) : FnOk P w K mg base CX0 (k + 3) f fd ["many", "width", "gains"] spGr := by
  refine F.ok sc_greatest (fun vs H Q E h => ?_) (fun cdv A' outer s H vs Q E hr h => ?_)
  · obtain ⟨G, m, n, ls, A, rfl, _⟩ := h
    rfl
  · obtain ⟨G, m, n, ls, A, rfl, eG, hA, gn, m3, n60, q⟩ := h
    have r1 := hr.mono (show k + 1 ≤ k + 2 by omega)
    refine ⟨_, pss_cons (ps_set (i := 3) sc_greatest.nd rfl (.inr rfl) (pe_call GA r1 (by rfl) gA kA bA .nil pass0 (pa_cons (pv 0) pa_nil)))
      (pss_cons (ps_setLc (i := 4) (own := [("pairs", 7)]) (g := gName 7) (by rfl) sc_greatest.nd rfl rfl (sw_true rfl rfl rfl (by decide +kernel)) (pi_list (pv 2)) (blkOk_by (own := [("pairs", 7)]) (N := N_greatest) (sc := defScope s_greatest) (by decide +kernel)) (fun _ _ _ _ _ => (pg_name (i := 7) sc_greatest.nd rfl (.inl rfl))) (fun _ _ _ _ _ => pts_nil)
          (fun _ _ _ _ _ => (pe_call GW hr (by rfl) gW kW bW .nil pass0 (pa_cons (pv 1) (pa_cons (pv 3) (pa_cons (pv 7) pa_nil))))))
      (pss_cons (ps_set (i := 5) sc_greatest.nd rfl (.inr rfl) (pe_op op_rep (pe_lst (pa_cons pe_int pa_nil)) (pe_callB call_len_seq (by rfl) mn PySem.boot_len (pa_cons (pv 4) pa_nil))))
      (pss_cons (ps_for PassesOwn.never rfl (pi_range1 (by rfl) mr (pa_cons (pv 1) pa_nil)) (pg_name (i := 6) sc_greatest.nd rfl (.inl rfl))
        (pss_one (ps_set (i := 5) sc_greatest.nd rfl (.inr rfl) (pe_lc (own := [("way", 10)]) (g := gName 10) (by rfl) sc_greatest.nd (pi_list (pv 4)) (blkOk_by (own := [("way", 10)]) (N := N_greatest) (sc := defScope s_greatest) (by decide +kernel)) (fun _ _ _ _ _ => (pg_name (i := 10) sc_greatest.nd rfl (.inl rfl))) (fun _ _ _ _ _ => pts_nil)
          (fun _ _ _ _ _ => (pe_callB (r := rMax K) (cr_max rfl) (by rfl) mx (by decide +kernel) (pa_cons
            (pe_lc (wi := iList K (tVar 10)) (own := [("after", 8), ("more", 9)]) (g := gTup K 2 (gCons (gName 8) (gCons (gName 9) gNil))) (by rfl) sc_greatest.nd (pi_list (pv 10)) (by exact blkOk_by (own := [("after", 8), ("more", 9)]) (N := N_greatest) (sc := scGa) (scope := scGb) (by decide +kernel)) (fun _ _ _ _ _ => (pg_tup rfl (pgs_cons (pg_name (i := 8) sc_greatest.nd rfl (.inl rfl)) (pgs_cons (pg_name (i := 9) sc_greatest.nd rfl (.inl rfl)) pgs_nil)))) (fun _ _ _ _ _ => pts_nil)
              (fun _ _ _ _ _ => (pe_op op_add (pe_op op_mul pe_int (pe_ix (r := rIxL K) ix_list (pv 5) (pv 8) (fun _ _ => rfl))) (pv 9)))) pa_nil)))))))
      (pss_one (ps_ret (pe_call GU r1 (by rfl) gU kU bU .nil pass0 (pa_cons (pv 0) (pa_cons (pv 1) (pa_cons (pe_ix ix_list (pv 5) pe_int (fun _ _ => rfl)) pa_nil))))))))), ?_⟩
    have al := awLen hA
    have ne := gn.ne
    have few := gn.few
    refine ⟨.int (m : Int), rfl, m, rfl, m3, fun H1 C fs s1 nC eC hf => ?_⟩
    refine ⟨.ref G, rfl, G, rfl, ⟨_, .inl (.inl (s1 _ _ eG))⟩, fun Wy hWy => ?_⟩
    have sW := same_new (o := .lst []) hWy
    refine lc_list (K := K) (a := G) (xs := ls.map V.ref) (fun i H2 => ∃ (ts : List Addr) (B : List (List (Int × Int))), H2 Wy = some (.lst (ts.map V.ref)) ∧ MacL H2 ts B ∧ (∀ t ∈ ts, t ≠ Wy) ∧ ts.length = i ∧ (∀ s ws, B[s]? = some ws → WayX A n m s ws) ∧ Same H1 H2) ⟨[], [], upd_same, .nil, (fun _ z => nomatch z), rfl, (fun s ws e => by simp at e), sW⟩ (fun i H2 _ hp => ?_) (fun i x H2 hx hp => ?_) (fun H2 hp => ?_)
    · obtain ⟨_, _, _, _, _, _, _, s2⟩ := hp
      exact .inl (.inl (s2 _ _ (s1 _ _ eG)))
    · obtain ⟨ts, B, eW, hB, tn, tl, hway, s2⟩ := hp
      rw [List.getElem?_map] at hx
      obtain ⟨l, hl, rfl⟩ := Option.map_eq_some_iff.mp hx
      obtain ⟨row, hr1, hr2⟩ := awGet hA hl
      have s02 := s1.trans s2
      obtain ⟨rl, re⟩ := gn.row row (List.mem_of_getElem? hr1)
      refine ⟨rfl, .int (n : Int), rfl, .ref C, rfl, .ref l, rfl, C, l, n, m, fs, row, rfl, s2 _ _ eC, tat_stay (Same.tups s2) hf, rowl_same s02 hr2, rl, m3, n60, (fun e he => (re e he).1), fun H3 T ws s3 nT hT bw => ?_⟩
      have eW3 := s3 _ _ eW
      have bl := awLen hB
      have nTW : T ≠ Wy := (ne_of_none eW nT).symm
      refine ⟨_, eW3, ?_, ts ++ [T], B ++ [ws], ?_, ?_, (fun t ht => ?_), ?_, fun s' ws' e => ?_, ?_⟩
      · rw [List.length_map, sizeLine_eq]
        have := (List.getElem?_eq_some_iff.mp hl).1
        omega
      · rw [upd_same, List.map_append]
        rfl
      · refine macl_stay (tups_put eW3) (fun l hl' xs e => ?_) (awSnoc (F := RowL H3) hT (macl_same s3 hB))
        have nl : l ≠ Wy := by
          rcases List.mem_append.mp hl' with z | z
          · exact tn l z
          · rw [List.mem_singleton.mp z]
            exact nTW
        rw [upd_ne nl]
        exact e
      · rcases List.mem_append.mp ht with z | z
        · exact tn t z
        · rw [List.mem_singleton.mp z]
          exact nTW
      · rw [List.length_append, tl]
        rfl
      · by_cases hlt : s' < B.length
        · rw [List.getElem?_append_left hlt] at e
          exact hway s' ws' e
        · rw [List.getElem?_append_right (by omega)] at e
          have h0 := (List.getElem?_eq_some_iff.mp e).1
          have e0 : s' - B.length = 0 := by simp only [List.length_cons, List.length_nil] at h0; omega
          rw [e0] at e
          obtain rfl : ws = ws' := Option.some.inj e
          have : s' = i := by omega
          subst this
          exact bw_way m3 hr1 rl bw
      · intro b u e
        rw [upd_ne (ne_of_none e hWy)]
        exact s3 _ _ (s2 b u e)
    obtain ⟨ts, B, eW, hB, tn, tl, hway, s2⟩ := hp
    rw [List.length_map] at tl
    have bl := awLen hB
    have bA : B.length = A.length := by omega
    refine ⟨by show 1 ≤ sizeLine; decide, fun Z hZ => ?_⟩
    have sZ := same_new (o := .lst [.int 0]) hZ
    obtain ⟨lt, hlt⟩ : ∃ l, l = ts.map V.ref := ⟨_, rfl⟩
    have llt : lt.length = A.length := by rw [hlt, List.length_map]; omega
    have eW' := eW
    rw [← hlt] at eW'
    refine ⟨.ref Wy, rfl, Wy, _, rfl, .inl (.inl (.inl (sZ _ _ eW'))), Z, (lt.length : Int), [.int 0], rfl, rfl, upd_same, by omega, by omega, ?_, fun Be hBe => ?_⟩
    · show 1 * _ ≤ _
      rw [sizeLine_eq]
      omega
    have e0 : (List.replicate (lt.length : Int).toNat [V.int 0]).flatten = (List.replicate A.length (0 : Int)).map V.int := by
      rw [Int.toNat_natCast, llt]
      exact rep_flat _
    rw [e0]
    have sB := same_new (o := .lst ((List.replicate A.length (0 : Int)).map V.int)) hBe
    have s0B := s1.trans (s2.trans (sZ.trans sB))
    refine ⟨.int (n : Int), rfl, (n : Int), rfl, by omega, by omega, for_range (lo := 0) (n := ((n : Int)).toNat) (fun t σ H3 => ∃ (y6 : Option V) (Bt : Addr) (best : List Int), σ = [some (.int (m : Int)), some (.int (n : Int)), some (.ref G), some (.ref C), some (.ref Wy), some (.ref Bt), y6, none, none, none, none] ∧ H3 Bt = some (.lst (best.map V.int)) ∧ best.length = A.length ∧ (∀ s v, best[s]? = some v → BestX A n m t s v) ∧ Same H2 H3) ⟨none, Be, _, rfl, upd_same, List.length_replicate .., fun s v e => ?_, sZ.trans sB⟩ (fun t σ H3 ht hp => ?_) (fun σ H3 hp => ?_)⟩
    · have : v = 0 := by
        have := List.mem_of_getElem? e
        exact (List.mem_replicate.mp this).2
      rw [this]
      exact best_first A n m s
    · obtain ⟨y6, Bt, best, rfl, eB, lb, hbest, s3⟩ := hp
      have eW3 := s3 _ _ eW
      have hB3 := macl_same s3 hB
      refine ⟨.ref Wy, rfl, Wy, rfl, ⟨_, .inl (.inl eW3)⟩, fun N hN => ?_⟩
      have sN := same_new (o := .lst []) hN
      refine lc_list (K := K) (a := Wy) (xs := ts.map V.ref) (fun i H4 => ∃ (nb : List Int), H4 N = some (.lst (nb.map V.int)) ∧ nb.length = i ∧ (∀ s v, nb[s]? = some v → BestX A n m (t + 1) s v) ∧ Same H3 H4) ⟨[], upd_same, rfl, (fun s v e => by simp at e), sN⟩ (fun i H4 _ hp => ?_) (fun i x H4 hx hp => ?_) (fun H4 hp => ?_)
      · obtain ⟨_, _, _, _, s4⟩ := hp
        exact .inl (.inl (s4 _ _ eW3))
      · obtain ⟨nb, eN, ln, hnb, s4⟩ := hp
        rw [List.getElem?_map] at hx
        obtain ⟨l, hl, rfl⟩ := Option.map_eq_some_iff.mp hx
        obtain ⟨ways, hw1, qs, hq1, hq2⟩ := awGet hB3 hl
        have eq4 := s4 _ _ hq1
        have hq4 := awMap (fun a b z => s4 _ _ z) hq2
        have way := hway _ _ hw1
        have eB4 := s4 _ _ eB
        have il := (List.getElem?_eq_some_iff.mp hw1).1
        have rngW : ∀ e ∈ ways, ∃ s' : Nat, e.1 = (s' : Int) ∧ s' < best.length := fun e he => by
          obtain ⟨c, hc, e1, _⟩ := way.from' e he
          obtain ⟨j, hj⟩ := List.mem_iff_getElem?.mp hc
          have hrow : A[i]? = some A[i] := List.getElem?_eq_getElem (by omega)
          obtain ⟨rl, re⟩ := gn.row A[i] (List.getElem_mem _)
          have hjl := (List.getElem?_eq_some_iff.mp hj).1
          rw [allB_len] at hjl
          have hre : A[i][j]? = some A[i][j] := List.getElem?_eq_getElem (by omega)
          have en := ent_at m3 hrow hj hre
          obtain ⟨_, j', e2, e3⟩ := re _ (List.mem_of_getElem? hre)
          exact ⟨j', by rw [e1, en, e2], by omega⟩
        refine ⟨rfl, .ref l, rfl, l, rfl, ⟨_, .inl (.inl eq4)⟩, fun M hM => ?_⟩
        have sM := same_new (o := .lst []) hM
        have wl8 := way.len
        refine lc_list (K := K) (a := l) (xs := qs.map V.ref) (fun j H5 => H5 M = some (.lst (((ways.take j).map fun e => 2 * best.getD e.1.toNat 0 + e.2).map V.int)) ∧ Same H4 H5) ⟨upd_same, sM⟩ (fun j H5 _ hp => .inl (.inl (hp.2 _ _ eq4))) (fun j x H5 hx hp => ?_) (fun H5 hp => ?_)
        · obtain ⟨eM, s5⟩ := hp
          rw [List.getElem?_map] at hx
          obtain ⟨qj, hqj, rfl⟩ := Option.map_eq_some_iff.mp hx
          obtain ⟨e, he1, he2⟩ := awGet hq4 hqj
          obtain ⟨s', es', ls'⟩ := rngW e (List.mem_of_getElem? he1)
          refine ⟨qj, [.int e.1, .int e.2], rfl, .inl (.inl (s5 _ _ he2)), rfl, .int e.1, [.int e.2], rfl, .int e.2, [], rfl, rfl, rfl, ?_⟩
          refine ⟨.ref Bt, rfl, .int e.1, rfl, Bt, _, e.1, .int (best.getD e.1.toNat 0), rfl, rfl, .inl (.inl (s5 _ _ eB4)), atI_ints (by omega) (by omega), 2, _, rfl, rfl, .inl ⟨by decide, by decide⟩, .int e.2, rfl, _, _, rfl, rfl, _, eM, ?_, ?_, ?_⟩
          · rw [List.length_map, List.length_map, List.length_take]
            have := (List.getElem?_eq_some_iff.mp he1).1
            exact small1000 (by omega)
          · rw [upd_same, List.take_add_one, he1, List.map_append, List.map_append]
            rfl
          · intro b u eb
            rw [upd_ne (ne_of_none eb hM)]
            exact s5 b u eb
        · obtain ⟨eM, s5⟩ := hp
          rw [List.length_map, awLen hq4, List.take_length] at eM
          have wne : 0 < ways.length := List.length_pos_iff.mpr way.ne
          refine ⟨M, _, rfl, .inl (.inl eM), by rw [List.length_map]; exact wne, fun v hv hm => ?_⟩
          have bn := best_next way hbest rngW hv hm
          have eN5 := s5 _ _ eN
          refine ⟨_, eN5, ?_, nb ++ [v], ?_, ?_, fun s' v' e => ?_, ?_⟩
          · rw [List.length_map, sizeLine_eq]
            omega
          · rw [upd_same, List.map_append]
            rfl
          · rw [List.length_append, ln]
            rfl
          · by_cases hlt : s' < nb.length
            · rw [List.getElem?_append_left hlt] at e
              exact hnb s' v' e
            · rw [List.getElem?_append_right (by omega)] at e
              have h0 := (List.getElem?_eq_some_iff.mp e).1
              have e0 : s' - nb.length = 0 := by simp only [List.length_cons, List.length_nil] at h0; omega
              rw [e0] at e
              obtain rfl : v = v' := Option.some.inj e
              have : s' = i := by omega
              subst this
              exact bn
          · intro b u e
            rw [upd_ne (ne_of_none e hN)]
            exact s5 _ _ (s4 b u e)
      · obtain ⟨nb, eN, ln, hnb, s4⟩ := hp
        rw [List.length_map] at ln
        exact ⟨_, N, nb, rfl, eN, by omega, hnb, s3.trans s4⟩
    · obtain ⟨y6, Bt, best, rfl, eB, lb, hbest, s3⟩ := hp
      rw [Int.toNat_natCast] at hbest
      have h0 : best[0]? = some best[0] := List.getElem?_eq_getElem (by omega)
      obtain ⟨cs, cl, cc, ev, cm⟩ := best_amt (hbest 0 _ h0)
      have s03 := s1.trans (s2.trans s3)
      refine ⟨.int (m : Int), rfl, .int (n : Int), rfl, .ref Bt, rfl, Bt, _, 0, .int best[0], rfl, rfl, .inl (.inl eB), atI_nat (j := 0) (by rw [List.getElem?_map, h0]; rfl), m, n, best[0], rfl, m3, n60, fun H4 T L s4 nT nL eT eL => ?_⟩
      have wl := wofL_len m cs
      have wr := wofL_range (fun c hc => allB_ok m c (cc c hc))
      rw [cl] at wr
      obtain ⟨u1, u2⟩ := unp n (amtX A 0 cs) (wofL m cs) wr
      rw [wl] at u1 u2
      have ev' : best[0] = pkG n (amtX A 0 cs) (wofL m cs) := by rw [pkG_lin, wl]; exact ev
      rw [ev', u1] at eT
      rw [ev', u2] at eL
      exact q H4 T L cs (s03.trans s4) (s03.free nT) (s03.free nL) eT eL cl cc cm
/-! ### what the amounts of machines are -/
theorem mod_nextE (v : Int) (t : Nat) : v % 2 ^ (t + 1) = v % 2 ^ t + bitA t v * 2 ^ t := by
  have h := low_next v (pw_pos t)
  rw [Int.mul_comm 2, ← Int.pow_succ] at h
  unfold bitA
  rw [h, Int.mul_comm, Int.add_comm]
  first | done | omega
structure GSim {σ : Type} (m : Nat) (A : List MRow) (nx : σ → List Int → σ) (gn : σ → List Int → Int) (s0 : σ) (S : σ → Nat → Prop) : Prop where
  first : S s0 0
  step : ∀ s k, S s k → ∀ c ∈ allB m, (entX A k c).1 = gn s c ∧ S (nx s c) (entX A k c).2.toNat
def gsum {σ : Type} (nx : σ → List Int → σ) (gn : σ → List Int → Int) : σ → List (List Int) → Int
  | _, [] => 0
  | s, c :: cs => gn s c + 2 * gsum nx gn (nx s c) cs
theorem gsum_amt {σ : Type} {m : Nat} {A : List MRow} {nx : σ → List Int → σ} {gn : σ → List Int → Int} {s0 : σ} {S : σ → Nat → Prop} (h : GSim m A nx gn s0 S) : ∀ (cs : List (List Int)) (s : σ) (k : Nat), S s k → (∀ c ∈ cs, c ∈ allB m) → amtX A k cs = gsum nx gn s cs
  | [], _, _, _, _ => rfl
  | c :: cs, s, k, hs, hc => by
    obtain ⟨e1, e2⟩ := h.step s k hs c (hc c List.mem_cons_self)
    have ih := gsum_amt h cs _ _ e2 fun x hx => hc x (List.mem_cons_of_mem _ hx)
    show (entX A k c).1 + 2 * amtX A (entX A k c).2.toNat cs = gn s c + 2 * gsum nx gn (nx s c) cs
    rw [e1, ih]
theorem gsum_snoc {σ : Type} (nx : σ → List Int → σ) (gn : σ → List Int → Int) (c : List Int) : ∀ (cs : List (List Int)) (s : σ), gsum nx gn s (cs ++ [c]) = gsum nx gn s cs + 2 ^ cs.length * gn (cs.foldl nx s) c
  | [], s => by
    show gn s c + 2 * 0 = 0 + 2 ^ 0 * gn s c
    rw [Int.pow_zero]
    omega
  | x :: cs, s => by
    show gn s x + 2 * gsum nx gn (nx s x) (cs ++ [c]) = gn s x + 2 * gsum nx gn (nx s x) cs + 2 ^ (cs.length + 1) * gn (cs.foldl nx (nx s x)) c
    rw [gsum_snoc nx gn c cs, Int.mul_add, Int.pow_succ, ← Int.mul_assoc, Int.mul_comm 2 (2 ^ cs.length)]
    omega
def colsOf (xs : List Int) : Nat → List (List Int)
  | 0 => []
  | n + 1 => colsOf xs n ++ [xs.map (bitA n)]
theorem cols_len (xs : List Int) : ∀ n, (colsOf xs n).length = n
  | 0 => rfl
  | n + 1 => by
    show (colsOf xs n ++ _).length = _
    rw [List.length_append, cols_len xs n]
    rfl
theorem cols_all {m : Nat} {xs : List Int} (hm : xs.length = m) : ∀ n, ∀ c ∈ colsOf xs n, c ∈ allB m
  | 0, _, h => nomatch h
  | n + 1, c, h => by
    rcases List.mem_append.mp h with z | z
    · exact cols_all hm n c z
    · rw [List.mem_singleton.mp z]
      exact cols_in hm n
theorem cols_back {m : Nat} {cs : List (List Int)} (hall : ∀ c ∈ cs, c.length = m ∧ ∀ x ∈ c, Bit x) : colsOf (wofL m cs) cs.length = cs := by
  have key : ∀ t, t ≤ cs.length → colsOf (wofL m cs) t = cs.take t := by
    intro t
    induction t with
    | zero => intro _; rw [List.take_zero]; rfl
    | succ t ih =>
      intro ht
      have e : cs[t]? = some cs[t] := List.getElem?_eq_getElem (by omega)
      show colsOf (wofL m cs) t ++ [(wofL m cs).map (bitA t)] = _
      rw [ih (by omega), wofL_bits hall e, List.take_add_one, e]
      rfl
  have := key cs.length (Nat.le_refl _)
  rwa [List.take_length] at this
abbrev nxC (ds : List Deed) (c b : List Int) : List Int := nxt ds c (bts ds c b)
abbrev gnC (ds : List Deed) (o : Int) (c b : List Int) : Int := (bts ds c b).getD o.toNat 0
theorem cols_fold (ds : List Deed) (xs : List Int) : ∀ n, (colsOf xs n).foldl (nxC ds) (ds.map fcD) = crry ds xs n
  | 0 => rfl
  | n + 1 => by
    show (colsOf xs n ++ [_]).foldl (nxC ds) _ = _
    rw [List.foldl_append, cols_fold ds xs n]
    rfl
theorem worth_sum {m n : Nat} {ds : List Deed} {o : Int} {xs : List Int} (ok : RowOk m ds o) (hm : xs.length = m) (hx : ∀ x ∈ xs, 0 ≤ x ∧ x < 2 ^ n) : gsum (nxC ds) (gnC ds o) (ds.map fcD) (colsOf xs n) = (vals (2 ^ n) ds xs).getD o.toNat 0 := by
  have key : ∀ t, t ≤ n → gsum (nxC ds) (gnC ds o) (ds.map fcD) (colsOf xs t) = (vals (2 ^ n) ds xs).getD o.toNat 0 % 2 ^ t := by
    intro t
    induction t with
    | zero =>
      intro _
      rw [Int.pow_zero, Int.emod_one]
      rfl
    | succ t ih =>
      intro ht
      show gsum _ _ _ (colsOf xs t ++ [xs.map (bitA t)]) = _
      rw [gsum_snoc, ih (by omega), cols_fold, cols_len, mod_nextE, Int.mul_comm]
      have b := ob_bit (t := t) ok hm hx (by omega)
      have b' : gnC ds o (crry ds xs t) (xs.map (bitA t)) = bitA t ((vals (2 ^ n) ds xs).getD o.toNat 0) := b
      rw [b']
  rw [key n (Nat.le_refl _), wr_range ok hm hx]
theorem sim_gsim {m : Nat} {ds : List Deed} {o : Int} {lm : List MRow} {S : List Int → Nat → Prop} (m3 : m ≤ 3) (h : Sim m ds o lm S) : GSim m lm (nxC ds) (gnC ds o) (ds.map fcD) S := by
  refine ⟨h.1, fun s k hs c hc => ?_⟩
  obtain ⟨row, hr, hp⟩ := h.2 s k hs
  obtain ⟨j, hj⟩ := List.mem_iff_getElem?.mp hc
  have e1 : (stp m ds o s)[j]? = some (gnC ds o s c, nxC ds s c) := by
    unfold stp
    rw [List.getElem?_map, hj]
    rfl
  obtain ⟨e, he, e2, j', e3, e4⟩ := awGet2 hp e1
  rw [ent_at m3 hr hj he]
  refine ⟨e2, ?_⟩
  rw [e3, Int.toNat_natCast]
  exact e4
theorem lm_gn {m : Nat} {ds : List Deed} {o : Int} {lm : List MRow} (ok : RowOk m ds o) (h : LmOk m ds o lm) : GnOk m lm := by
  obtain ⟨S, hS⟩ := h.sim
  obtain ⟨r0, hr0, _⟩ := hS.2 _ _ hS.1
  obtain ⟨cs, mac, ns, wm, hl, kk, li⟩ := h.src
  have kl := kk.len
  refine ⟨by have := (List.getElem?_eq_some_iff.mp hr0).1; omega, Nat.le_trans h.few (by decide), fun r hr => ?_⟩
  obtain ⟨k, hk⟩ := List.mem_iff_getElem?.mp hr
  obtain ⟨i0, r', h1, h2, rfl⟩ := li.each k r hk
  obtain ⟨c, hc, hp⟩ := wm.each i0 r' h2
  have cb := wm.bits c (List.mem_of_getElem? hc)
  refine ⟨by rw [List.length_map, awLen hp, stp_len], fun e he => ?_⟩
  obtain ⟨e', he', rfl⟩ := List.mem_map.mp he
  obtain ⟨j, hj⟩ := List.mem_iff_getElem?.mp he'
  obtain ⟨s, hs, e1, j', e2, e3⟩ := awGet hp hj
  have sm := List.mem_of_getElem? hs
  unfold stp at sm
  obtain ⟨bs, hbs, rfl⟩ := List.mem_map.mp sm
  have hb := allB_ok m bs hbs
  refine ⟨?_, ?_⟩
  · show e'.1.natAbs ≤ 2
    rw [e1]
    have : Bit ((bts ds c bs).getD o.toNat 0) := by
      rw [List.getD_eq_getElem?_getD]
      cases e : (bts ds c bs)[o.toNat]? with
      | none => exact bit0
      | some y => exact bts_bits hb.2 cb.2 y (List.mem_of_getElem? e)
    rcases this with z | z <;> (show ((bts ds c bs).getD o.toNat 0).natAbs ≤ 2; rw [z]; decide)
  · have jl := (List.getElem?_eq_some_iff.mp e3).1
    have nj : ns[j']? = some (ns[j']'(by omega)) := List.getElem?_eq_getElem (by omega)
    refine ⟨ns[j']'(by omega), ?_, li.all j' _ (by omega) nj⟩
    show ((ns.getD e'.2.toNat 0 : Nat) : Int) = _
    rw [e2, Int.toNat_natCast, List.getD_eq_getElem?_getD, nj]
    rfl
/-- the greatest amount of a row's machine is a worth, and the greatest one -/
theorem lm_worth {m n : Nat} {ds : List Deed} {o : Int} {lm : List MRow} {xs : List Int} (ok : RowOk m ds o) (h : LmOk m ds o lm) (hm : xs.length = m) (hx : ∀ x ∈ xs, 0 ≤ x ∧ x < 2 ^ n) : amtX lm 0 (colsOf xs n) = (vals (2 ^ n) ds xs).getD o.toNat 0 := by
  obtain ⟨S, hS⟩ := h.sim
  have m3 := ok.m3
  have g := sim_gsim (by omega) hS
  rw [gsum_amt g _ _ _ hS.1 (cols_all hm n)]
  exact worth_sum ok hm hx
def negM (A : List MRow) : List MRow := A.map fun r => r.map fun e => (-e.1, e.2)
theorem ent_neg (A : List MRow) (k : Nat) (c : List Int) : entX (negM A) k c = (-(entX A k c).1, (entX A k c).2) := by
  have e1 : (negM A).getD k [] = (A.getD k []).map fun e => (-e.1, e.2) := by
    unfold negM
    rw [List.getD_eq_getElem?_getD, List.getD_eq_getElem?_getD, List.getElem?_map]
    cases A[k]? <;> rfl
  unfold entX
  rw [e1]
  generalize A.getD k [] = r
  rw [List.getD_eq_getElem?_getD, List.getD_eq_getElem?_getD, List.getElem?_map]
  cases r[(atb c).toNat]? <;> rfl
theorem amt_neg (A : List MRow) : ∀ (cs : List (List Int)) (k : Nat), amtX (negM A) k cs = -amtX A k cs
  | [], _ => rfl
  | c :: cs, k => by
    have ih := amt_neg A cs
    show (entX (negM A) k c).1 + 2 * amtX (negM A) (entX (negM A) k c).2.toNat cs = -((entX A k c).1 + 2 * amtX A (entX A k c).2.toNat cs)
    rw [ent_neg, ih]
    show -(entX A k c).1 + 2 * -amtX A (entX A k c).2.toNat cs = _
    omega
theorem neg_gn {m : Nat} {A : List MRow} (h : GnOk m A) : GnOk m (negM A) := by
  have l : (negM A).length = A.length := List.length_map ..
  refine ⟨by rw [l]; exact h.ne, by rw [l]; exact h.few, fun r hr => ?_⟩
  obtain ⟨r', hr', rfl⟩ := List.mem_map.mp hr
  obtain ⟨h1, h2⟩ := h.row r' hr'
  refine ⟨by rw [List.length_map]; exact h1, fun e he => ?_⟩
  obtain ⟨e', he', rfl⟩ := List.mem_map.mp he
  obtain ⟨a, b⟩ := h2 e' he'
  refine ⟨by show (-e'.1).natAbs ≤ 2; rw [Int.natAbs_neg]; exact a, ?_⟩
  rw [l]
  exact b
/-! ### greatest_worth, least_worth -/
/-- words of a width whose worth it is -/
structure ExW (H : Hp) (T : Addr) (m n : Nat) (ds : List Deed) (o : Int) (W : Int) (xs : List Int) : Prop where
  ob : ∃ L, H T = some (.tup [.int W, .ref L]) ∧ H L = some (.lst (xs.map V.int))
  len : xs.length = m
  rng : ∀ x ∈ xs, 0 ≤ x ∧ x < 2 ^ n
  val : W = (vals (2 ^ n) ds xs).getD o.toNat 0
def spGw : Sp := fun vs H Q _ => ∃ (R : Addr) (m n : Nat) (o : Int) (ds : List Deed), vs = [.ref R, .int (n : Int)] ∧ RowAt H R m ds o ∧ RowOk m ds o ∧ n ≤ 60 ∧
  ∀ H' T W xs, Same H H' → H T = none → ExW H' T m n ds o W xs → (∀ ys : List Int, ys.length = m → (∀ x ∈ ys, 0 ≤ x ∧ x < 2 ^ n) → (vals (2 ^ n) ds ys).getD o.toNat 0 ≤ W) → Q (.ref T) H'
theorem ok_gw {f fG fM : Addr} {fd fdG fdM : FuncData} {k : Nat} (F : Fun K "greatest_worth" "greatest_worth" s_greatest_worth f fd)
    (GG : FnOk P w K mg base CX0 (k + 3) fG fdG ["many", "width", "gains"] spGr) (kG : PySem.W.keepIn K (.ref fG) = true) (bG : Binds K fdG ["many", "width", "gains"] []) (gG : mg "greatest" = some (.ref fG))
    (GM : FnOk P w K mg base CX0 (k + 6) fM fdM ["row"] spLm) (kM : PySem.W.keepIn K (.ref fM) = true) (bM : Binds K fdM ["row"] []) (gM : mg "least_machine" = some (.ref fM)) : FnOk P w K mg base CX0 (k + 7) f fd ["row", "width"] spGw := by
  refine F.ok sc_greatest_worth (fun vs H Q E h => ?_) (fun cdv A' outer s H vs Q E hr h => ?_)
  · obtain ⟨R, m, n, o, ds, rfl, _⟩ := h
    rfl
  · obtain ⟨R, m, n, o, ds, rfl, hrow, ok, n60, q⟩ := h
    have r3 := hr.mono (show k + 3 ≤ k + 6 by omega)
    refine ⟨_, pss_one (ps_ret (pe_call GG r3 (by rfl) gG kG bG .nil pass0 (pa_cons (pe_ix ix_tup (pv 0) pe_int (fun _ _ => rfl)) (pa_cons (pv 1) (pa_cons (pe_call GM hr (by rfl) gM kM bM .nil pass0 (pa_cons (pv 0) pa_nil)) pa_nil))))), ?_⟩
    obtain ⟨D, rs, eR, eD, hd⟩ := id hrow
    have m3 := ok.m3
    refine ⟨.ref R, rfl, R, _, 0, .int (m : Int), rfl, rfl, SqT.of eR, rfl, .int (n : Int), rfl, .ref R, rfl, R, m, o, ds, rfl, hrow, ok, fun H1 p ls lm s1 np ep hlm lmo => ?_⟩
    refine ⟨p, m, n, ls, lm, rfl, ep, hlm, lm_gn ok lmo, by omega, n60, fun H2 T L cs s2 nT nL eT eL cl cc cm => ?_⟩
    have hall : ∀ c ∈ cs, c.length = m ∧ ∀ x ∈ c, Bit x := fun c hc => allB_ok m c (cc c hc)
    have wl := wofL_len m cs
    have wr := wofL_range hall
    rw [cl] at wr
    have e1 := lm_worth ok lmo wl wr
    have cb := cols_back hall
    rw [cl] at cb
    rw [cb] at e1
    refine q H2 T _ _ (s1.trans s2) (s1.free nT) ⟨⟨L, eT, eL⟩, wl, wr, e1⟩ fun ys hy hyr => ?_
    rw [← lm_worth ok lmo hy hyr]
    exact cm _ (cols_len _ _) (cols_all hy n)
/-! ### both_steps -/
abbrev Bst := (Int × Int) × (Int × Int)
def BsE (H : Hp) (t : Addr) (e : Bst) : Prop := ∃ c, H t = some (.tup [.int e.1.1, .int e.2.1, .ref c]) ∧ H c = some (.tup [.int e.1.2, .int e.2.2])
abbrev BsAt (H : Hp) : List Addr → List Bst → Prop := Paired (BsE H)
theorem bse_stay {H H' : Hp} (t : TupsStay H H') {a : Addr} {e : Bst} (h : BsE H a e) : BsE H' a e := h.elim fun c y => ⟨c, t _ _ y.1, t _ _ y.2⟩
theorem bsat_stay {H H' : Hp} (t : TupsStay H H') {ts : List Addr} {l : List Bst} (h : BsAt H ts l) : BsAt H' ts l := awMap (fun _ _ z => bse_stay t z) h
def spBs : Sp := fun vs H Q _ => ∃ (l1 l2 : Addr) (r1 r2 : MRow), vs = [.ref l1, .ref l2] ∧ RowL H l1 r1 ∧ RowL H l2 r2 ∧ r1.length = r2.length ∧ r1.length ≤ 8 ∧
  ∀ H' p ts, Same H H' → H p = none → H' p = some (.lst (ts.map V.ref)) → BsAt H' ts (r1.zip r2) → Q (.ref p) H'
theorem ok_bs {f : Addr} {fd : FuncData} {k : Nat} (F : Fun K "both_steps" "both_steps" s_both_steps f fd) (mz : mg "zip" = none) : FnOk P w K mg base CX0 (k + 1) f fd ["ones", "others"] spBs := by
  refine F.ok sc_both_steps (fun vs H Q E h => ?_) (fun cdv A outer s H vs Q E hr h => ?_)
  · obtain ⟨l1, l2, r1, r2, rfl, _⟩ := h
    rfl
  · obtain ⟨l1, l2, r1, r2, rfl, ⟨qs1, e1, h1⟩, ⟨qs2, e2, h2⟩, hl, h8, q⟩ := h
    refine ⟨_, pss_one (ps_ret (pe_lc (own := [("bit", 2), ("after", 3), ("others_bit", 4), ("others_after", 5)]) (g := gTup K 2 (gCons (gTup K 2 (gCons (gName 2) (gCons (gName 3) gNil))) (gCons (gTup K 2 (gCons (gName 4) (gCons (gName 5) gNil))) gNil))) (by rfl) sc_both_steps.nd (pi_zip (by rfl) mz (pa_cons (pv 0) (pa_cons (pv 1) pa_nil)))
        (blkOk_by (own := [("bit", 2), ("after", 3), ("others_bit", 4), ("others_after", 5)]) (N := N_both_steps) (sc := defScope s_both_steps) (by decide +kernel))
        (fun _ _ _ _ _ => pg_tup rfl (pgs_cons (pg_tup rfl (pgs_cons (pg_name (i := 2) sc_both_steps.nd rfl (.inl rfl)) (pgs_cons (pg_name (i := 3) sc_both_steps.nd rfl (.inl rfl)) pgs_nil))) (pgs_cons (pg_tup rfl (pgs_cons (pg_name (i := 4) sc_both_steps.nd rfl (.inl rfl)) (pgs_cons (pg_name (i := 5) sc_both_steps.nd rfl (.inl rfl)) pgs_nil))) pgs_nil)))
        (fun _ _ _ _ _ => pts_nil) (fun _ _ _ _ _ => pe_tup (pa_cons (pv 2) (pa_cons (pv 4) (pa_cons (pe_tup (pa_cons (pv 3) (pa_cons (pv 5) pa_nil))) pa_nil)))))), ?_⟩
    have q1 := awLen h1
    have q2 := awLen h2
    refine ⟨.ref l1, rfl, .ref l2, rfl, l1, l2, _, _, rfl, .inl (.inl e1), .inl (.inl e2), fun L hL => ?_⟩
    refine lc_it (walk_zip (K := K) (a := l1) (b := l2) (xs := qs1.map V.ref) (ys := qs2.map V.ref) (n := r1.length) (by rw [List.length_map, List.length_map, q1, q2, ← hl, Nat.min_self])) (fun j H4 => ∃ ts, H4 L = some (.lst (ts.map V.ref)) ∧ BsAt H4 ts ((r1.zip r2).take j) ∧ Same H H4) ⟨[], upd_same, .nil, same_new hL⟩ (fun j H4 _ h4 => ?_) (fun j x H4 H5 hj h4 hx => ?_) (fun H4 h4 => ?_)
    · obtain ⟨_, _, _, s4⟩ := h4
      exact ⟨.inl (.inl (s4 _ _ e1)), .inl (.inl (s4 _ _ e2))⟩
    · obtain ⟨ts, eL, hts, s4⟩ := h4
      obtain ⟨U, x1, x2, rfl, hU, rfl, g1, g2⟩ := hx
      have hj1 : j < qs1.length := by omega
      have hj2 : j < qs2.length := by omega
      have e1' : x1 = .ref qs1[j] := by
        have g1' : (qs1.map V.ref)[j]? = some x1 := g1
        rw [List.getElem?_map, List.getElem?_eq_getElem hj1] at g1'
        exact (Option.some.inj g1').symm
      have e2' : x2 = .ref qs2[j] := by
        have g2' : (qs2.map V.ref)[j]? = some x2 := g2
        rw [List.getElem?_map, List.getElem?_eq_getElem hj2] at g2'
        exact (Option.some.inj g2').symm
      subst e1' e2'
      obtain ⟨a, ha1, ha2⟩ := awGet h1 (List.getElem?_eq_getElem hj1)
      obtain ⟨b, hb1, hb2⟩ := awGet h2 (List.getElem?_eq_getElem hj2)
      have sU := same_new (o := .tup [.ref qs1[j], .ref qs2[j]]) hU
      have f1 := sU _ _ (s4 _ _ ha2)
      have f2 := sU _ _ (s4 _ _ hb2)
      refine ⟨U, [.ref qs1[j], .ref qs2[j]], rfl, .inl (.inl upd_same), rfl, .ref qs1[j], [.ref qs2[j]], rfl, qs1[j], [.int a.1, .int a.2], rfl, .inl (.inl f1), rfl, .int a.1, [.int a.2], rfl, .int a.2, [], rfl, rfl, .ref qs2[j], [], rfl, qs2[j], [.int b.1, .int b.2], rfl, .inl (.inl f2), rfl, .int b.1, [.int b.2], rfl, .int b.2, [], rfl, rfl, rfl, rfl, ?_⟩
      refine ⟨.int a.1, rfl, .int b.1, rfl, .int a.2, rfl, .int b.2, rfl, (by show 2 ≤ sizeLine; decide), fun C hC => ⟨(by show 3 ≤ sizeLine; decide), fun T hT => ?_⟩⟩
      have sC := same_new (o := .tup [.int a.2, .int b.2]) hC
      have sT := same_new (o := .tup [.int a.1, .int b.1, .ref C]) hT
      have s5 := sU.trans (sC.trans sT)
      have eL5 := s5 _ _ eL
      have lt := awLen hts
      rw [List.length_take] at lt
      have hz : (r1.zip r2)[j]? = some (a, b) := by
        rw [List.getElem?_zip_eq_some]
        exact ⟨ha1, hb1⟩
      refine ⟨_, eL5, ?_, ts ++ [T], ?_, ?_, ?_⟩
      · rw [List.length_map]
        exact small1000 (by omega)
      · rw [upd_same, List.map_append]
        rfl
      · rw [List.take_add_one, hz]
        exact bsat_stay (tups_put eL5) (awSnoc (F := BsE _) (y := (a, b)) ⟨C, upd_same, sT _ _ upd_same⟩ (bsat_stay (Same.tups s5) hts))
      · intro b' u e
        rw [upd_ne (ne_of_none e hL)]
        exact s5 _ _ (s4 _ _ e)
    · obtain ⟨ts, eL, hts, s4⟩ := h4
      have : (r1.zip r2).length = r1.length := by rw [List.length_zip, ← hl, Nat.min_self]
      rw [← this, List.take_length] at hts
      exact q H4 L ts s4 hL eL hts
/-! ### gains_of_both -/
abbrev pr (p : Nat × Nat) : List Int := [(p.1 : Int), (p.2 : Int)]
theorem pr_inj {p q : Nat × Nat} (h : pr p = pr q) : p = q := by
  obtain ⟨a, b⟩ := p
  obtain ⟨c, d⟩ := q
  simp only [pr, List.cons.injEq, and_true] at h
  rw [Int.ofNat.inj h.1, Int.ofNat.inj h.2]
abbrev GnsOf (ps : List (Nat × Nat)) : MRow → List Bst → Prop := Paired fun g e => g.1 = e.1.1 - e.2.1 ∧ ∃ n a b : Nat, g.2 = (n : Int) ∧ e.1.2 = (a : Int) ∧ e.2.2 = (b : Int) ∧ ps[n]? = some (a, b)
structure GbOk (l1 l2 : List MRow) (ps : List (Nat × Nat)) (bh : List MRow) : Prop where
  nd : ps.Nodup
  first : ps[0]? = some (0, 0)
  each : ∀ (i : Nat) row, bh[i]? = some row → ∃ p r1 r2, ps[i]? = some p ∧ l1[p.1]? = some r1 ∧ l2[p.2]? = some r2 ∧ GnsOf ps row (r1.zip r2)
theorem prod_len (n1 n2 : Nat) : ((List.range n1).flatMap fun a => (List.range n2).map fun b => (a, b)).length = n1 * n2 := by
  rw [List.length_flatMap]
  have : (List.range n1).map (fun a => ((List.range n2).map fun b => (a, b)).length) = List.replicate n1 n2 := by
    rw [show (fun a => ((List.range n2).map fun b => (a, b)).length) = fun (_ : Nat) => n2 from funext fun a => by rw [List.length_map, List.length_range]]
    rw [List.map_const', List.length_range]
  rw [this, List.sum_replicate_nat]
theorem few_ps {ps : List (Nat × Nat)} {n1 n2 : Nat} (nd : ps.Nodup) (h : ∀ p ∈ ps, p.1 < n1 ∧ p.2 < n2) : ps.length ≤ n1 * n2 := by
  have := pigeon ps ((List.range n1).flatMap fun a => (List.range n2).map fun b => (a, b)) nd fun p hp => by
    obtain ⟨h1, h2⟩ := h p hp
    exact List.mem_flatMap.mpr ⟨p.1, List.mem_range.mpr h1, List.mem_map.mpr ⟨p.2, List.mem_range.mpr h2, rfl⟩⟩
  rwa [prod_len] at this
def spGn : Sp := fun vs H Q _ => ∃ (R1 R2 : Addr) (m : Nat) (o1 o2 : Int) (ds1 ds2 : List Deed), vs = [.ref R1, .ref R2] ∧ RowAt H R1 m ds1 o1 ∧ RowOk m ds1 o1 ∧ RowAt H R2 m ds2 o2 ∧ RowOk m ds2 o2 ∧
  ∀ H' p ls l1 l2 S1 S2 ps bh, Same H H' → H p = none → H' p = some (.lst (ls.map V.ref)) → MacL H' ls bh → LmOk m ds1 o1 l1 → LmOk m ds2 o2 l2 → Sim m ds1 o1 l1 S1 → Sim m ds2 o2 l2 S2 → GbOk l1 l2 ps bh → (∀ p ∈ ps, (∃ c, S1 c p.1) ∧ ∃ c, S2 c p.2) → bh.length = ps.length → ps.length ≤ 65536 → Q (.ref p) H'
set_option maxHeartbeats 4000000 in
theorem ok_gn {f fA fL fB fI fM C : Addr} {fd fdA fdL fdB fdI fdM : FuncData} {k : Nat} (F : Fun K "gains_of_both" "gains_of_both" s_gains_of_both f fd) (T : WCls K mg C)
    (GL : FnOk P w K mg base CX0 (k + 6) fL fdL ["row"] spLm) (kL : PySem.W.keepIn K (.ref fL) = true) (bL : Binds K fdL ["row"] []) (gL : mg "least_machine" = some (.ref fL))
    (GA : FnOk P w K mg base CX0 (k + 1) fA fdA ["many"] spAll) (kA : PySem.W.keepIn K (.ref fA) = true) (bA : Binds K fdA ["many"] []) (gA : mg "all_bits" = some (.ref fA))
    (GB : FnOk P w K mg base CX0 (k + 1) fB fdB ["ones", "others"] spBs) (kB : PySem.W.keepIn K (.ref fB) = true) (bB : Binds K fdB ["ones", "others"] []) (gB : mg "both_steps" = some (.ref fB))
    (MK : Mk K C fI) (GI : FnOk P w K mg base CX0 (k + 1) fI fdI ["self", "first"] (spWi P w C)) (bI : Binds K fdI ["self", "first"] [])
    (MM : Meth K C "meet" fM) (GM : FnOk P w K mg base CX0 (k + 1) fM fdM ["self", "thing", "ahead", "bits"] (spWm P w C)) (bM : Binds K fdM ["self", "thing", "ahead", "bits"] [])
    (mn : mg "len" = none) (mz : mg "zip" = none) : FnOk P w K mg base CX0 (k + 7) f fd ["row", "other"] spGn := by
  refine F.ok sc_gains_of_both (fun vs H Q E h => ?_) (fun cdv A outer s H vs Q E hr h => ?_)
  · obtain ⟨R1, R2, m, o1, o2, ds1, ds2, rfl, _⟩ := h
    rfl
  · obtain ⟨R1, R2, m, o1, o2, ds1, ds2, rfl, hrow1, hok1, hrow2, hok2, q⟩ := h
    obtain ⟨D1, rs1, eR1, eD1, hd1⟩ := id hrow1
    have r1 := hr.mono (show k + 1 ≤ k + 6 by omega)
    have r2 := hr.mono (show k + 1 + 1 ≤ k + 6 by omega)
    refine ⟨_, pss_cons (ps_par (i := 2) (j := 3) rfl sc_gains_of_both.nd rfl rfl (by decide) rfl rfl (pa_cons (pe_call GL hr (by rfl) gL kL bL .nil pass0 (pa_cons (pv 0) pa_nil)) (pa_cons (pe_call GL hr (by rfl) gL kL bL .nil pass0 (pa_cons (pv 1) pa_nil)) pa_nil)) (by rfl))
      (pss_cons (ps_set (i := 4) sc_gains_of_both.nd rfl (.inl rfl) (pe_call GA r1 (by rfl) gA kA bA .nil pass0 (pa_cons (pe_ix ix_tup (pv 0) pe_int (fun _ _ => rfl)) pa_nil)))
      (pss_cons (ps_set (i := 5) sc_gains_of_both.nd rfl (.inl rfl) (pe_make MK GI r2 (by rfl) T.mgC bI .nil pass0 (pa_cons (pe_tup (pa_cons pe_int (pa_cons pe_int pa_nil))) pa_nil)))
      (pss_cons (ps_set (i := 6) sc_gains_of_both.nd rfl (.inl rfl) (pe_lst pa_nil))
      (pss_cons (ps_while PassesOwn.never (pt_cmpR op_lt (pe_callB call_len_seq (by rfl) mn PySem.boot_len (pa_cons (pv 6) pa_nil)) (pe_callB call_len_seq (by rfl) mn PySem.boot_len (pa_cons (pe_fld (pv 5) rfl) pa_nil)) (nomark _))
        (pss_cons (ps_set (i := 7) sc_gains_of_both.nd rfl (.inl rfl) (pe_callB call_len_seq (by rfl) mn PySem.boot_len (pa_cons (pv 6) pa_nil)))
        (pss_cons (ps_asg (pe_ix ix_list (pe_fld (pv 5) rfl) (pv 7) (fun _ _ => rfl)) (pg_tup rfl (pgs_cons (pg_name (i := 8) sc_gains_of_both.nd rfl (.inl rfl)) (pgs_cons (pg_name (i := 9) sc_gains_of_both.nd rfl (.inl rfl)) pgs_nil))))
        (pss_cons (ps_set (i := 10) sc_gains_of_both.nd rfl (.inl rfl) (pe_lst pa_nil))
        (pss_cons (ps_for PassesOwn.never rfl (pi_zip (by rfl) mz (pa_cons (pv 4) (pa_cons (pe_call GB r1 (by rfl) gB kB bB .nil pass0 (pa_cons (pe_ix ix_list (pv 2) (pv 8) (fun _ _ => rfl)) (pa_cons (pe_ix ix_list (pv 3) (pv 9) (fun _ _ => rfl)) pa_nil))) pa_nil))) (pg_tup rfl (pgs_cons (pg_name (i := 11) sc_gains_of_both.nd rfl (.inl rfl)) (pgs_cons (pg_tup rfl (pgs_cons (pg_name (i := 12) sc_gains_of_both.nd rfl (.inl rfl)) (pgs_cons (pg_name (i := 13) sc_gains_of_both.nd rfl (.inl rfl)) (pgs_cons (pg_name (i := 14) sc_gains_of_both.nd rfl (.inl rfl)) pgs_nil)))) pgs_nil)))
          (pss_one (ps_expr (pe_bm PySem.F.plainAttrs_list PySem.F.slot_list_append PySem.F.type_list_append mt_append (pv 10) (pa_cons (pe_tup (pa_cons (pe_op op_sub (pv 12) (pv 13)) (pa_cons (pe_meth (pv 5) T.cl MM GM r1 bM .nil pass0 (pa_cons (pv 14) (pa_cons (pv 7) (pa_cons (pv 11) pa_nil)))) pa_nil))) pa_nil)))))
        (pss_one (ps_expr (pe_bm PySem.F.plainAttrs_list PySem.F.slot_list_append PySem.F.type_list_append mt_append (pv 6) (pa_cons (pv 10) pa_nil)))))))))
      (pss_one (ps_ret (pv 6))))))), ?_⟩
    have m3 := hok1.m3
    refine ⟨.ref R1, rfl, R1, m, o1, ds1, rfl, hrow1, hok1, fun Ha O1 ls1 l1 sa nO1 eO1 hm1 lk1 => ?_⟩
    refine ⟨.ref R2, rfl, R2, m, o2, ds2, rfl, (Same.tups sa).row hrow2, hok2, fun Hb O2 ls2 l2 sb nO2 eO2 hm2 lk2 => ?_⟩
    refine ⟨_, _, rfl, ?_⟩
    refine ⟨.ref R1, rfl, R1, _, 0, .int m, rfl, rfl, SqT.of (sb _ _ (sa _ _ eR1)), rfl, m, rfl, by omega, fun H2 Ch fs s1 nCh eCh hf => ?_⟩
    obtain ⟨S1, sm1⟩ := lk1.sim
    obtain ⟨S2, sm2⟩ := lk2.sim
    have few1 := lk1.few
    have few2 := lk2.few
    have eO1' := s1 _ _ (sb _ _ eO1)
    have eO2' := s1 _ _ eO2
    have hm1' := macl_same (sb.trans s1) hm1
    have hm2' := macl_same s1 hm2
    have s02 : Same H H2 := sa.trans (sb.trans s1)
    have fl : fs.length = 2 ^ m := by rw [awLen hf, allB_len]
    refine ⟨(by show 2 ≤ sizeLine; decide), fun Fi hFi => ?_⟩
    have sFi := same_new (o := .tup [.int 0, .int 0]) hFi
    obtain ⟨H2b, hH2b⟩ : ∃ H2b, H2b = upd H2 Fi (.tup [.int 0, .int 0]) := ⟨_, rfl⟩
    have s22 : Same H2 H2b := by rw [hH2b]; exact sFi
    have eFi : H2b Fi = some (.tup ((pr (0, 0)).map V.int)) := by rw [hH2b]; exact upd_same
    rw [← hH2b]
    intro Wk dx nWk ndx nex
    have kW : ∀ c u, H2b c = some u → upd (upd H2b dx (.own Wk)) Wk (.ins C dx []) c = some u := fun c u e => by
      rw [upd_ne (ne_of_none e nWk), upd_ne (ne_of_none e ndx)]
      exact e
    refine ⟨Wk, dx, Fi, kC (pr (0, 0)), rfl, upd_same, keyC (kW _ _ eFi), fun H3 M N W hw nM nN nW kp => ⟨rfl, ?_⟩⟩
    have s3 : Same H2b H3 := fun c u e => kp c u (ne_of_none e nWk) (kW c u e)
    have s23 := s22.trans s3
    have back : ∀ a : Addr, upd (upd H2b dx (.own Wk)) Wk (.ins C dx []) a = none → H2b a = none := fun a h => by
      cases e : H2b a with
      | none => rfl
      | some u => rw [kW a u e] at h; cases h
    have hM2 := s22.free (back _ nM)
    have hN2 := s22.free (back _ nN)
    have hW2 := s22.free (back _ nW)
    refine ⟨Nat.zero_le _, fun Mc hMc => ?_⟩
    have sMc := same_new (o := .lst []) hMc
    have nMM : Mc ≠ M := fun z => by rw [z, hw.met] at hMc; cases hMc
    have nMN : Mc ≠ N := fun z => by rw [z, hw.num.ob] at hMc; cases hMc
    have nMW : Mc ≠ W := fun z => by obtain ⟨ws, e, _⟩ := hw.ways; rw [z, e] at hMc; cases hMc
    have hMc2 : H2 Mc = none := s23.free hMc
    have gd0 : ∀ p ∈ [((0 : Nat), (0 : Nat))], (∃ c, S1 c p.1) ∧ ∃ c, S2 c p.2 := fun p hp => by
      rw [List.mem_singleton.mp hp]
      exact ⟨⟨_, sm1.1⟩, ⟨_, sm2.1⟩⟩
    have few : ∀ {ps : List (Nat × Nat)}, ps.Nodup → (∀ p ∈ ps, (∃ c, S1 c p.1) ∧ ∃ c, S2 c p.2) → ps.length ≤ 65536 := fun {ps} nd gd => by
      have := few_ps (n1 := l1.length) (n2 := l2.length) nd fun p hp => by
        obtain ⟨⟨c1, h1⟩, ⟨c2, h2⟩⟩ := gd p hp
        obtain ⟨row1, g1, _⟩ := sm1.2 _ _ h1
        obtain ⟨row2, g2, _⟩ := sm2.2 _ _ h2
        exact ⟨(List.getElem?_eq_some_iff.mp g1).1, (List.getElem?_eq_some_iff.mp g2).1⟩
      exact Nat.le_trans this (Nat.le_trans (Nat.mul_le_mul few1 few2) (by decide))
    have ndOf : ∀ {ps : List (Nat × Nat)} {ts : List WT}, (ts.map (·.1)).Nodup → ts.map (·.1) = (ps.map pr).map kC → ps.Nodup := fun {ps ts} nd ek => by
      have := keys_nd nd ek
      exact List.Pairwise.imp (fun {a b} z y => z (congrArg pr y)) (List.pairwise_map.mp this)
    have p8 : 2 ^ m ≤ 8 := Nat.le_trans (Nat.pow_le_pow_right (by decide) (show m ≤ 3 by omega)) (by decide)
    refine ⟨fun n σ H4 => ∃ y7 y8 y9 y10 y11 y12 y13 y14 ps ts wy ls bh, σ = [some (.ref R1), some (.ref R2), some (.ref O1), some (.ref O2), some (.ref Ch), some (.ref Wk), some (.ref Mc), y7, y8, y9, y10, y11, y12, y13, y14] ∧ WalkAt P w C H4 Wk M N W ts wy ∧ ts.map (·.1) = (ps.map pr).map kC ∧ GbOk l1 l2 ps bh ∧ (∀ p ∈ ps, (∃ c, S1 c p.1) ∧ ∃ c, S2 c p.2) ∧ bh.length ≤ ps.length ∧ H4 Mc = some (.lst (ls.map V.ref)) ∧ MacL H4 ls bh ∧ (∀ l ∈ ls, l ≠ M ∧ l ≠ N ∧ l ≠ W ∧ l ≠ Mc) ∧ Same H2 H4 ∧ n = 65537 - bh.length,
      ⟨_, none, none, none, none, none, none, none, none, [(0, 0)], [(kC (pr (0, 0)), Fi)], [(0, [])], [], [], rfl, hw.same sMc, rfl, ⟨by simp, rfl, fun i row h => by simp at h⟩, gd0, Nat.zero_le _, upd_same, .nil, (fun _ z => nomatch z), s23.trans sMc, rfl⟩, fun n σ H4 hp => ?_⟩
    obtain ⟨y7, y8, y9, y10, y11, y12, y13, y14, ps, ts, wy, ls, bh, rfl, hw4, ek, ag, gd, ml, eMc, hbh, lsne, s4, rfl⟩ := hp
    obtain ⟨dxw, ob4⟩ := hw4.ob
    have psl := keys_len ek
    rw [List.length_map] at psl
    have fw := few ag.nd gd
    have mll := awLen hbh
    refine ⟨.ref Mc, rfl, Mc, _, rfl, .inl (.inl (.inl eMc)), .ref Wk, rfl, Wk, C, dxw, _, _, rfl, ob4, T.cl, T.nM, wF_met _ _ _, M, _, rfl, .inl (.inl (.inl hw4.met)), _, _, rfl, rfl, _, rfl, ite2 (fun e => ?_) (fun e => ?_)⟩
    · have lt : bh.length < ps.length := by
        have := of_decide_eq_true e
        rw [List.length_map, List.length_map] at this
        omega
      refine ⟨fun σ' H' => ∃ m', m' < 65537 - bh.length ∧ (∃ y7 y8 y9 y10 y11 y12 y13 y14 ps ts wy ls bh, σ' = [some (.ref R1), some (.ref R2), some (.ref O1), some (.ref O2), some (.ref Ch), some (.ref Wk), some (.ref Mc), y7, y8, y9, y10, y11, y12, y13, y14] ∧ WalkAt P w C H' Wk M N W ts wy ∧ ts.map (·.1) = (ps.map pr).map kC ∧ GbOk l1 l2 ps bh ∧ (∀ p ∈ ps, (∃ c, S1 c p.1) ∧ ∃ c, S2 c p.2) ∧ bh.length ≤ ps.length ∧ H' Mc = some (.lst (ls.map V.ref)) ∧ MacL H' ls bh ∧ (∀ l ∈ ls, l ≠ M ∧ l ≠ N ∧ l ≠ W ∧ l ≠ Mc) ∧ Same H2 H' ∧ m' = 65537 - bh.length), fun σ' H' z => z, ?_⟩
      have lenI : ((ls.map V.ref).length : Int) = ((bh.length : Nat) : Int) := by rw [List.length_map, mll]
      refine ⟨.ref Mc, rfl, Mc, _, rfl, .inl (.inl (.inl eMc)), ?_⟩
      rw [lenI]
      have hti : bh.length < ts.length := by omega
      obtain ⟨c0, hc0, ht1⟩ := keys_at ek (List.getElem?_eq_getElem hti)
      rw [List.getElem?_map] at hc0
      obtain ⟨p0, hp0, rfl⟩ := Option.map_eq_some_iff.mp hc0
      have hkey := hw4.keys _ (List.getElem_mem hti)
      rw [ht1] at hkey
      have ecb := keyC_tup hkey
      refine ⟨.ref Wk, rfl, Wk, C, dxw, _, _, rfl, ob4, T.cl, T.nM, wF_met _ _ _, .int _, rfl, M, _, _, .ref (ts[bh.length]).2, rfl, rfl, .inl (.inl hw4.met), atI_nat (by rw [List.getElem?_map, List.getElem?_eq_getElem hti]; rfl), ?_⟩
      generalize (ts[bh.length]).2 = cb at ecb
      refine ⟨cb, [.int (p0.1 : Int), .int (p0.2 : Int)], rfl, .inl (.inl ecb), rfl, .int (p0.1 : Int), [.int (p0.2 : Int)], rfl, .int (p0.2 : Int), [], rfl, rfl, ?_⟩
      obtain ⟨⟨c1, hS1⟩, ⟨c2, hS2⟩⟩ := gd p0 (List.mem_of_getElem? hp0)
      obtain ⟨row1, g1, pd1⟩ := sm1.2 _ _ hS1
      obtain ⟨row2, g2, pd2⟩ := sm2.2 _ _ hS2
      have rl1 : row1.length = 2 ^ m := by rw [awLen pd1, stp_len]
      have rl2 : row2.length = 2 ^ m := by rw [awLen pd2, stp_len]
      refine ⟨Nat.zero_le _, fun St hSt => ?_⟩
      have sSt := same_new (o := .lst []) hSt
      have nSM : St ≠ M := fun z => by rw [z, hw4.met] at hSt; cases hSt
      have nSN : St ≠ N := fun z => by rw [z, hw4.num.ob] at hSt; cases hSt
      have nSW : St ≠ W := fun z => by obtain ⟨ws, e, _⟩ := hw4.ways; rw [z, e] at hSt; cases hSt
      have nSMc : St ≠ Mc := fun z => by rw [z, eMc] at hSt; cases hSt
      have nSWk : St ≠ Wk := fun z => by rw [z, ob4] at hSt; cases hSt
      have nSls : ∀ l ∈ ls, l ≠ St := fun l hl z => by
        obtain ⟨i, hi⟩ := List.mem_iff_getElem?.mp hl
        obtain ⟨row, _, _, h1, _⟩ := awGet hbh hi
        have h1' : H4 l = _ := h1
        rw [z, hSt] at h1'
        cases h1'
      have hSt2 : H2 St = none := s4.free hSt
      have s2S := s4.trans sSt
      have hmS1 := macl_same s2S hm1'
      have hmS2 := macl_same s2S hm2'
      obtain ⟨la, hla, hra⟩ : ∃ la, ls1[p0.1]? = some la ∧ RowL (upd H4 St (.lst [])) la row1 := by
        have hi : p0.1 < ls1.length := by
          rw [awLen hm1']
          exact (List.getElem?_eq_some_iff.mp g1).1
        obtain ⟨r, h1, h2⟩ := awGet hmS1 (List.getElem?_eq_getElem hi)
        rw [g1] at h1
        obtain rfl := Option.some.inj h1
        exact ⟨_, List.getElem?_eq_getElem hi, h2⟩
      obtain ⟨lb, hlb, hrb⟩ : ∃ lb, ls2[p0.2]? = some lb ∧ RowL (upd H4 St (.lst [])) lb row2 := by
        have hi : p0.2 < ls2.length := by
          rw [awLen hm2']
          exact (List.getElem?_eq_some_iff.mp g2).1
        obtain ⟨r, h1, h2⟩ := awGet hmS2 (List.getElem?_eq_getElem hi)
        rw [g2] at h1
        obtain rfl := Option.some.inj h1
        exact ⟨_, List.getElem?_eq_getElem hi, h2⟩
      refine ⟨.ref Ch, rfl, .ref O1, rfl, .int (p0.1 : Int), rfl, O1, _, (p0.1 : Int), .ref la, rfl, rfl, .inl (.inl (s2S _ _ eO1')), atI_nat (by rw [List.getElem?_map, hla]; rfl), .ref O2, rfl, .int (p0.2 : Int), rfl, O2, _, (p0.2 : Int), .ref lb, rfl, rfl, .inl (.inl (s2S _ _ eO2')), atI_nat (by rw [List.getElem?_map, hlb]; rfl), la, lb, row1, row2, rfl, hra, hrb, by omega, by omega, fun H5 Sp zs' s5 nSp eSp hzs => ?_⟩
      have s45 := sSt.trans s5
      have zl : (row1.zip row2).length = 2 ^ m := by rw [List.length_zip, rl1, rl2, Nat.min_self]
      have zsl : zs'.length = 2 ^ m := by rw [awLen hzs, zl]
      have nSpM : Sp ≠ M := fun z => by rw [z, sSt _ _ hw4.met] at nSp; cases nSp
      have nSpN : Sp ≠ N := fun z => by rw [z, sSt _ _ hw4.num.ob] at nSp; cases nSp
      have nSpW : Sp ≠ W := fun z => by obtain ⟨ws, e, _⟩ := hw4.ways; rw [z, sSt _ _ e] at nSp; cases nSp
      have nSpS : Sp ≠ St := fun z => by rw [z, upd_same] at nSp; cases nSp
      have s25 := s4.trans s45
      have eCh5 := s25 _ _ eCh
      have nChM : Ch ≠ M := ne_of_none eCh hM2
      have nChN : Ch ≠ N := ne_of_none eCh hN2
      have nChW : Ch ≠ W := ne_of_none eCh hW2
      have nChS : Ch ≠ St := ne_of_none eCh hSt2
      refine ⟨Ch, Sp, _, _, rfl, .inl (.inl eCh5), .inl (.inl eSp), for_it (walk_zip (K := K) (a := Ch) (b := Sp) (xs := fs.map V.ref) (ys := zs'.map V.ref) (n := 2 ^ m) (by rw [List.length_map, List.length_map, fl, zsl, Nat.min_self])) (fun j σ H6 => ∃ y11 y12 y13 y14 ps' ts' wy' nums qn, σ = [some (.ref R1), some (.ref R2), some (.ref O1), some (.ref O2), some (.ref Ch), some (.ref Wk), some (.ref Mc), some (.int ((bh.length : Nat) : Int)), some (.int (p0.1 : Int)), some (.int (p0.2 : Int)), some (.ref St), y11, y12, y13, y14] ∧ WalkAt P w C H6 Wk M N W ts' wy' ∧ ts'.map (·.1) = (ps'.map pr).map kC ∧ (∀ (i : Nat) c, ps[i]? = some c → ps'[i]? = some c) ∧ (∀ p ∈ ps', (∃ c, S1 c p.1) ∧ ∃ c, S2 c p.2) ∧ H6 St = some (.lst (qn.map V.ref)) ∧ PrAt H6 qn nums ∧ GnsOf ps' nums ((row1.zip row2).take j) ∧ ∀ b u, b ≠ M → b ≠ N → b ≠ W → b ≠ St → H5 b = some u → H6 b = some u)
        ⟨y11, y12, y13, y14, ps, ts, wy, [], [], rfl, hw4.same s45, ek, fun _ _ z => z, gd, s5 _ _ upd_same, .nil, .nil, fun _ _ _ _ _ _ z => z⟩ (fun j σ H6 _ hp => ?_) (fun j x σ H6 H7 hj hp hy => ?_) (fun σ H6 hp => ?_)⟩
      · obtain ⟨_, _, _, _, _, _, _, _, _, _, _, _, _, _, _, _, _, st⟩ := hp
        exact ⟨.inl (.inl (st _ _ nChM nChN nChW nChS eCh5)), .inl (.inl (st _ _ nSpM nSpN nSpW nSpS eSp))⟩
      · obtain ⟨y11, y12, y13, y14, ps', ts', wy', nums, qn, rfl, hw6, ek6, pre, gd6, eSt6, hqn, hnm, st⟩ := hp
        obtain ⟨U, x1, x2, rfl, hU, rfl, gg1, gg2⟩ := hy
        have tup5 : ∀ b xs, H5 b = some (.tup xs) → H6 b = some (.tup xs) := fun b xs e => st b _ (ne_of e (s45 _ _ hw4.met) (fun y => nomatch y)) (ne_of e (s45 _ _ hw4.num.ob) (fun y => nomatch y)) (by obtain ⟨ws, e2, _⟩ := hw4.ways; exact ne_of e (s45 _ _ e2) (fun y => nomatch y)) (ne_of e (s5 _ _ upd_same) (fun y => nomatch y)) e
        have hjf : j < fs.length := by omega
        have hjp : j < zs'.length := by omega
        have e1 : x1 = .ref fs[j] := by
          have g1' : (fs.map V.ref)[j]? = some x1 := gg1
          rw [List.getElem?_map, List.getElem?_eq_getElem hjf] at g1'
          exact (Option.some.inj g1').symm
        have e2 : x2 = .ref zs'[j] := by
          have g2' : (zs'.map V.ref)[j]? = some x2 := gg2
          rw [List.getElem?_map, List.getElem?_eq_getElem hjp] at g2'
          exact (Option.some.inj g2').symm
        subst e1 e2
        obtain ⟨bs, hb1, hb2⟩ := awGet hf (List.getElem?_eq_getElem hjf)
        obtain ⟨be, hs1, ac, hs2, hs3⟩ := awGet hzs (List.getElem?_eq_getElem hjp)
        have sU := same_new (o := .tup [.ref fs[j], .ref zs'[j]]) hU
        have eb7 := sU _ _ (tup5 _ _ (s25 _ _ hb2))
        have e27 := sU _ _ (tup5 _ _ hs2)
        have e37 := sU _ _ (tup5 _ _ hs3)
        refine ⟨U, [.ref fs[j], .ref zs'[j]], rfl, .inl (.inl upd_same), rfl, .ref fs[j], [.ref zs'[j]], rfl, .ref zs'[j], [], rfl, zs'[j], [.int be.1.1, .int be.2.1, .ref ac], rfl, .inl (.inl e27), rfl, .int be.1.1, [.int be.2.1, .ref ac], rfl, .int be.2.1, [.ref ac], rfl, .ref ac, [], rfl, rfl, rfl, ?_⟩
        have nUs : U ≠ St := fun z => by rw [z, eSt6] at hU; cases hU
        obtain ⟨dx6, ob6⟩ := hw6.ob
        have hw7 := hw6.same sU
        have l6 := keys_len ek6
        rw [List.length_map] at l6
        have few6 := few (ndOf hw6.nd ek6) gd6
        have take1 : (row1.zip row2).take (j + 1) = (row1.zip row2).take j ++ [be] := by
          rw [List.take_add_one, hs1]
          rfl
        obtain ⟨ha, hb⟩ := List.getElem?_zip_eq_some.mp hs1
        obtain ⟨sx1, _, _, ja, hja, hSa⟩ := awGet pd1 ha
        obtain ⟨sx2, _, _, jb, hjb, hSb⟩ := awGet pd2 hb
        · have ekey : H6 ac = some (.tup ((pr (ja, jb)).map V.int)) := by
            rw [tup5 _ _ hs3, hja, hjb]
            rfl
          refine ⟨.ref St, rfl, .inl ⟨rfl, _, .inl (.inl (sU _ _ eSt6))⟩, .int be.1.1, rfl, .int be.2.1, rfl, _, _, rfl, rfl, .ref Wk, rfl, Wk, dx6, _, rfl, sU _ _ ob6, wF_meet _ _ _, .ref ac, rfl, .int ((bh.length : Nat) : Int), rfl, .ref fs[j], rfl, Wk, M, N, W, ac, fs[j], ts', wy', kC (pr (ja, jb)), ((bh.length : Nat) : Int), bs, rfl, hw7, keyC (sU _ _ ekey), eb7, by omega, fun H8 ts2 wy2 ix hw8 hix hcase kp8 => ?_⟩
          have eSt8 := kp8 _ _ nSM nSN nSW (sU _ _ eSt6)
          have tup8 : ∀ b xs, H6 b = some (.tup xs) → H8 b = some (.tup xs) := fun b xs e => kp8 b _ (ne_of e hw6.met (fun y => nomatch y)) (ne_of e hw6.num.ob (fun y => nomatch y)) (by obtain ⟨ws, e2, _⟩ := hw6.ways; exact ne_of e e2 (fun y => nomatch y)) (sU _ _ e)
          refine ⟨(by show 2 ≤ sizeLine; decide), fun Tp hTp => ?_⟩
          have sTp := same_new (o := .tup [.int (be.1.1 - be.2.1), .int ((ix : Nat) : Int)]) hTp
          obtain ⟨H9, hH9⟩ : ∃ H9, H9 = upd H8 Tp (.tup [.int (be.1.1 - be.2.1), .int ((ix : Nat) : Int)]) := ⟨_, rfl⟩
          have eTp : H9 Tp = some (.tup [.int (be.1.1 - be.2.1), .int ((ix : Nat) : Int)]) := by rw [hH9]; exact upd_same
          rw [← hH9] at sTp
          have eSt9 := sTp _ _ eSt8
          have hw9 := hw8.same sTp
          have hqn9 : PrAt H9 qn nums := awMap (fun a b z => sTp _ _ (tup8 _ _ z)) hqn
          have hnl := awLen hnm
          have hql := awLen hqn
          rw [List.length_take, zl] at hnl
          have tS := tups_put (o := .lst (qn.map V.ref ++ [V.ref Tp])) eSt9
          have goal9 : upd H8 Tp (.tup [.int (be.1.1 - be.2.1), .int ((ix : Nat) : Int)]) = H9 := hH9.symm
          rw [goal9]
          obtain ⟨ps2, ek2, pre2, gd2, hcx⟩ : ∃ ps2 : List (Nat × Nat), ts2.map (·.1) = (ps2.map pr).map kC ∧ (∀ (i : Nat) c, ps'[i]? = some c → ps2[i]? = some c) ∧ (∀ p ∈ ps2, (∃ c, S1 c p.1) ∧ ∃ c, S2 c p.2) ∧ ps2[ix]? = some (ja, jb) := by
            obtain ⟨b', hb'⟩ := hix
            rcases hcase with ⟨rfl, rfl⟩ | ⟨rfl, rfl, rfl, _⟩
            · obtain ⟨c, hc, ec⟩ := keys_at ek6 hb'
              rw [List.getElem?_map] at hc
              obtain ⟨pc, hpc, rfl⟩ := Option.map_eq_some_iff.mp hc
              exact ⟨ps', ek6, fun _ _ z => z, gd6, by rw [hpc, pr_inj (kC_inj ec)]⟩
            · refine ⟨ps' ++ [(ja, jb)], by rw [List.map_append, List.map_append, List.map_append, ek6]; rfl, fun i c z => ?_, fun c hc => ?_, ?_⟩
              · rw [List.getElem?_append_left (List.getElem?_eq_some_iff.mp z).1]
                exact z
              · rcases List.mem_append.mp hc with hc | hc
                · exact gd6 c hc
                · rw [List.mem_singleton.mp hc]
                  exact ⟨⟨_, hSa⟩, ⟨_, hSb⟩⟩
              · rw [l6, List.getElem?_append_right (Nat.le_refl _), Nat.sub_self]
                rfl
          refine ⟨St, _, _, rfl, rfl, eSt9, ?_, _, _, _, _, ps2, ts2, wy2, nums ++ [(be.1.1 - be.2.1, ((ix : Nat) : Int))], qn ++ [Tp], rfl, ?_, ek2, fun i c z => pre2 i c (pre i c z), gd2, ?_, ?_, ?_, ?_⟩
          · rw [List.length_map]
            exact small1000 (by omega)
          · refine hw9.stay tS fun c u hc e => ?_
            rw [upd_ne ?_]
            · exact e
            · rcases hc with rfl | rfl | rfl | rfl
              · exact nSWk.symm
              · exact nSM.symm
              · exact nSN.symm
              · exact nSW.symm
          · rw [upd_same, List.map_append]
            rfl
          · exact awSnoc (F := fun (q : Addr) (e : Int × Int) => upd H9 St (.lst (qn.map V.ref ++ [V.ref Tp])) q = some (.tup [.int e.1, .int e.2])) (tS _ _ eTp) (awMap (fun a b z => tS _ _ z) hqn9)
          · rw [take1]
            exact awSnoc (F := fun (g : Int × Int) (e : Bst) => g.1 = e.1.1 - e.2.1 ∧ ∃ n a b : Nat, g.2 = (n : Int) ∧ e.1.2 = (a : Int) ∧ e.2.2 = (b : Int) ∧ ps2[n]? = some (a, b)) ⟨rfl, ix, ja, jb, rfl, hja, hjb, hcx⟩ (awMap (fun n e z => ⟨z.1, z.2.elim fun n y => y.elim fun a y => y.elim fun b y => ⟨n, a, b, y.1, y.2.1, y.2.2.1, pre2 _ _ y.2.2.2⟩⟩) hnm)
          · intro b u n1 n2 n3 n4 e
            rw [upd_ne n4]
            exact sTp _ _ (kp8 b u n1 n2 n3 (sU _ _ (st b u n1 n2 n3 n4 e)))
      · obtain ⟨y11, y12, y13, y14, ps', ts', wy', nums, qn, rfl, hw6, ek6, pre, gd6, eSt6, hqn, hnm, st⟩ := hp
        rw [← zl, List.take_length] at hnm
        have eMc6 := st _ _ nMM nMN nMW nSMc.symm (s45 _ _ eMc)
        have tM := tups_put (o := .lst (ls.map V.ref ++ [V.ref St])) eMc6
        refine ⟨.ref Mc, rfl, .inl ⟨rfl, _, .inl (.inl eMc6)⟩, .ref St, rfl, Mc, _, _, rfl, rfl, eMc6, ?_, _, ?_, _, _, _, _, _, _, _, _, ps', ts', wy', ls ++ [St], bh ++ [nums], rfl, ?_, ek6, ⟨ndOf hw6.nd ek6, pre _ _ ag.first, fun i r hi => ?_⟩, gd6, ?_, ?_, ?_, fun l hl => ?_, ?_, rfl⟩
        · rw [List.length_map, sizeLine_eq]
          omega
        · rw [List.length_append]
          show 65537 - (bh.length + 1) < 65537 - bh.length
          omega
        · refine hw6.stay tM fun c u hc e => ?_
          rw [upd_ne ?_]
          · exact e
          · obtain ⟨dx6, ob6⟩ := hw6.ob
            rcases hc with rfl | rfl | rfl | rfl
            · exact ne_of ob6 eMc6 (fun y => nomatch y)
            · exact nMM.symm
            · exact nMN.symm
            · exact nMW.symm
        · by_cases hil : i < bh.length
          · rw [List.getElem?_append_left hil] at hi
            obtain ⟨p', a1, a2, h1, h2, h3, h4⟩ := ag.each i r hi
            exact ⟨p', a1, a2, pre _ _ h1, h2, h3, awMap (fun n e z => ⟨z.1, z.2.elim fun n y => y.elim fun a y => y.elim fun b y => ⟨n, a, b, y.1, y.2.1, y.2.2.1, pre _ _ y.2.2.2⟩⟩) h4⟩
          · rw [List.getElem?_append_right (by omega)] at hi
            have hi2 := (List.getElem?_eq_some_iff.mp hi).1
            simp only [List.length_cons, List.length_nil] at hi2
            have ei : i = bh.length := by omega
            subst ei
            rw [Nat.sub_self] at hi
            obtain rfl := Option.some.inj hi
            exact ⟨p0, row1, row2, pre _ _ hp0, g1, g2, hnm⟩
        · rw [List.length_append]
          have h1 := (List.getElem?_eq_some_iff.mp (pre _ _ hp0)).1
          show bh.length + 1 ≤ ps'.length
          omega
        · rw [upd_same, List.map_append]
          rfl
        · have tup4 : TupsStay H4 H6 := fun b xs e => st b _ (ne_of e hw4.met (fun y => nomatch y)) (ne_of e hw4.num.ob (fun y => nomatch y)) (by obtain ⟨ws, e2, _⟩ := hw4.ways; exact ne_of e e2 (fun y => nomatch y)) (fun z => by rw [z, hSt] at e; cases e) (s45 _ _ e)
          refine awSnoc (F := RowL (upd H6 Mc (.lst (ls.map V.ref ++ [V.ref St])))) ⟨qn, ?_, awMap (fun a b z => tM _ _ z) hqn⟩ (macl_stay (tup4.trans tM) (fun l hl' xs e => ?_) hbh)
          · rw [upd_ne nSMc]
            exact eSt6
          · obtain ⟨n1, n2, n3, n4⟩ := lsne l hl'
            rw [upd_ne n4]
            exact st _ _ n1 n2 n3 (nSls l hl') (s45 _ _ e)
        · rcases List.mem_append.mp hl with hl | hl
          · exact lsne l hl
          · rw [List.mem_singleton.mp hl]
            exact ⟨nSM, nSN, nSW, nSMc⟩
        · intro b u e
          have e5 := s25 _ _ e
          rw [upd_ne (ne_of_none e hMc2)]
          exact st b u (ne_of_none e hM2) (ne_of_none e hN2) (ne_of_none e hW2) (ne_of_none e hSt2) e5
    · have nlt : ¬ bh.length < ps.length := fun z => e (by
        apply decide_eq_true
        rw [List.length_map, List.length_map]
        omega)
      exact ⟨.ref Mc, rfl, q H4 Mc ls l1 l2 S1 S2 ps bh (s02.trans s4) (s02.free hMc2) eMc hbh lk1 lk2 sm1 sm2 ag gd (by omega) fw⟩
/-! ### least_worth, greatest_ahead -/
def spLw : Sp := fun vs H Q _ => ∃ (R : Addr) (m n : Nat) (o : Int) (ds : List Deed), vs = [.ref R, .int (n : Int)] ∧ RowAt H R m ds o ∧ RowOk m ds o ∧ n ≤ 60 ∧
  ∀ H' T W xs, Same H H' → H T = none → ExW H' T m n ds o W xs → (∀ ys : List Int, ys.length = m → (∀ x ∈ ys, 0 ≤ x ∧ x < 2 ^ n) → W ≤ (vals (2 ^ n) ds ys).getD o.toNat 0) → Q (.ref T) H'
abbrev scLa : Scope := ⟨.function, [(".0", .local), ("state", .local)], false, false, []⟩
abbrev scLb : Scope := ⟨.function, [(".0", .local), ("bit", .local), ("after", .local)], false, false, []⟩
set_option maxHeartbeats 2000000 in
theorem ok_lw {f fG fM : Addr} {fd fdG fdM : FuncData} {k : Nat} (F : Fun K "least_worth" "least_worth" s_least_worth f fd)
    (GG : FnOk P w K mg base CX0 (k + 3) fG fdG ["many", "width", "gains"] spGr) (kG : PySem.W.keepIn K (.ref fG) = true) (bG : Binds K fdG ["many", "width", "gains"] []) (gG : mg "greatest" = some (.ref fG))
    (GM : FnOk P w K mg base CX0 (k + 6) fM fdM ["row"] spLm) (kM : PySem.W.keepIn K (.ref fM) = true) (bM : Binds K fdM ["row"] []) (gM : mg "least_machine" = some (.ref fM)) : FnOk P w K mg base CX0 (k + 7) f fd ["row", "width"] spLw := by
  refine F.ok sc_least_worth (fun vs H Q E h => ?_) (fun cdv A' outer s H vs Q E hr h => ?_)
  · obtain ⟨R, m, n, o, ds, rfl, _⟩ := h
    rfl
  · obtain ⟨R, m, n, o, ds, rfl, hrow, ok, n60, q⟩ := h
    have r3 := hr.mono (show k + 3 ≤ k + 6 by omega)
    refine ⟨_, pss_cons (ps_set (i := 2) sc_least_worth.nd rfl (.inl rfl) (pe_call GM hr (by rfl) gM kM bM .nil pass0 (pa_cons (pv 0) pa_nil)))
      (pss_cons (ps_asg (pe_call GG r3 (by rfl) gG kG bG .nil pass0 (pa_cons (pe_ix ix_tup (pv 0) pe_int (fun _ _ => rfl)) (pa_cons (pv 1) (pa_cons (pe_lc (own := [("state", 7)]) (g := gName 7) (by rfl) sc_least_worth.nd (pi_list (pv 2)) (blkOk_by (own := [("state", 7)]) (N := N_least_worth) (sc := defScope s_least_worth) (by decide +kernel)) (fun _ _ _ _ _ => (pg_name (i := 7) sc_least_worth.nd rfl (.inl rfl))) (fun _ _ _ _ _ => pts_nil)
          (fun _ _ _ _ _ => (pe_lc (wi := iList K (tVar 7)) (own := [("bit", 5), ("after", 6)]) (g := gTup K 2 (gCons (gName 5) (gCons (gName 6) gNil))) (by rfl) sc_least_worth.nd (pi_list (pv 7)) (by exact blkOk_by (own := [("bit", 5), ("after", 6)]) (N := N_least_worth) (sc := scLa) (scope := scLb) (by decide +kernel)) (fun _ _ _ _ _ => (pg_tup rfl (pgs_cons (pg_name (i := 5) sc_least_worth.nd rfl (.inl rfl)) (pgs_cons (pg_name (i := 6) sc_least_worth.nd rfl (.inl rfl)) pgs_nil)))) (fun _ _ _ _ _ => pts_nil) (fun _ _ _ _ _ => (pe_tup (pa_cons (pe_un un_neg (pv 5)) (pa_cons (pv 6) pa_nil))))))) pa_nil)))) (pg_tup rfl (pgs_cons (pg_name (i := 3) sc_least_worth.nd rfl (.inl rfl)) (pgs_cons (pg_name (i := 4) sc_least_worth.nd rfl (.inl rfl)) pgs_nil))))
      (pss_one (ps_ret (pe_tup (pa_cons (pe_un un_neg (pv 3)) (pa_cons (pv 4) pa_nil)))))), ?_⟩
    obtain ⟨D, rs, eR, eD, hd⟩ := id hrow
    have m3 := ok.m3
    refine ⟨.ref R, rfl, R, m, o, ds, rfl, hrow, ok, fun H1 p ls lm s1 np ep hlm lmo => ?_⟩
    have gn := lm_gn ok lmo
    have few := lmo.few
    have ll := awLen hlm
    refine ⟨.ref R, rfl, R, _, 0, .int (m : Int), rfl, rfl, SqT.of (s1 _ _ eR), rfl, .int (n : Int), rfl, .ref p, rfl, p, rfl, ⟨_, .inl (.inl ep)⟩, fun C hC => ?_⟩
    have sC := same_new (o := .lst []) hC
    refine lc_list (K := K) (a := p) (xs := ls.map V.ref) (fun i H2 => ∃ ts : List Addr, H2 C = some (.lst (ts.map V.ref)) ∧ MacL H2 ts (negM (lm.take i)) ∧ (∀ t ∈ ts, t ≠ C) ∧ Same H1 H2) ⟨[], upd_same, .nil, (fun _ z => nomatch z), sC⟩ (fun i H2 _ hp => ?_) (fun i x H2 hx hp => ?_) (fun H2 hp => ?_)
    · obtain ⟨_, _, _, _, s2⟩ := hp
      exact .inl (.inl (s2 _ _ ep))
    · obtain ⟨ts, eC, hts, tn, s2⟩ := hp
      rw [List.getElem?_map] at hx
      obtain ⟨l, hl, rfl⟩ := Option.map_eq_some_iff.mp hx
      obtain ⟨row, hr1, qs, hr2, hr3⟩ := awGet hlm hl
      have rl8 : row.length ≤ 8 := by
        rw [(gn.row row (List.mem_of_getElem? hr1)).1]
        exact Nat.le_trans (Nat.pow_le_pow_right (by decide) (show m ≤ 3 by omega)) (by decide)
      have e2 := s2 _ _ hr2
      have q2 := awMap (fun a b z => s2 _ _ z) hr3
      refine ⟨rfl, .ref l, rfl, l, rfl, ⟨_, .inl (.inl e2)⟩, fun C2 hC2 => ?_⟩
      have sC2 := same_new (o := .lst []) hC2
      have nC2 : C2 ≠ C := (ne_of_none eC hC2).symm
      refine lc_list (K := K) (a := l) (xs := qs.map V.ref) (fun j H3 => ∃ us : List Addr, H3 C2 = some (.lst (us.map V.ref)) ∧ PrAt H3 us ((row.take j).map fun e => (-e.1, e.2)) ∧ Same H2 H3) ⟨[], upd_same, .nil, sC2⟩ (fun j H3 _ hp => ?_) (fun j x H3 hx hp => ?_) (fun H3 hp => ?_)
      · obtain ⟨_, _, _, s3⟩ := hp
        exact .inl (.inl (s3 _ _ e2))
      · obtain ⟨us, eC2, hus, s3⟩ := hp
        rw [List.getElem?_map] at hx
        obtain ⟨qj, hqj, rfl⟩ := Option.map_eq_some_iff.mp hx
        obtain ⟨e, he1, he2⟩ := awGet q2 hqj
        have jl := (List.getElem?_eq_some_iff.mp he1).1
        have ul := awLen hus
        rw [List.length_map, List.length_take] at ul
        refine ⟨qj, [.int e.1, .int e.2], rfl, .inl (.inl (s3 _ _ he2)), rfl, .int e.1, [.int e.2], rfl, .int e.2, [], rfl, rfl, rfl, ?_⟩
        refine ⟨.int e.1, rfl, e.1, rfl, .int e.2, rfl, (by show 2 ≤ sizeLine; decide), fun U hU => ?_⟩
        have sU := same_new (o := .tup [.int (-e.1), .int e.2]) hU
        have eC2U := sU _ _ eC2
        have tU := tups_put (o := .lst (us.map V.ref ++ [V.ref U])) eC2U
        refine ⟨_, eC2U, ?_, us ++ [U], ?_, ?_, ?_⟩
        · rw [List.length_map]
          exact small1000 (by omega)
        · rw [upd_same, List.map_append]
          rfl
        · rw [List.take_add_one, he1, List.map_append]
          exact awSnoc (F := fun (q : Addr) (z : Int × Int) => upd (upd H3 U (.tup [.int (-e.1), .int e.2])) C2 (.lst (us.map V.ref ++ [V.ref U])) q = some (.tup [.int z.1, .int z.2])) (x := U) (y := (-e.1, e.2)) (tU _ _ upd_same) (awMap (fun a b z => tU _ _ (sU _ _ z)) hus)
        · intro b u eb
          rw [upd_ne (ne_of_none eb hC2)]
          exact sU _ _ (s3 b u eb)
      · obtain ⟨us, eC2, hus, s3⟩ := hp
        rw [List.length_map, awLen q2, List.take_length] at hus
        have eC3 := s3 _ _ eC
        have tl := awLen hts
        unfold negM at tl
        rw [List.length_map, List.length_take] at tl
        have il := (List.getElem?_eq_some_iff.mp hr1).1
        refine ⟨_, eC3, ?_, ts ++ [C2], ?_, ?_, fun t ht => ?_, ?_⟩
        · rw [List.length_map]
          exact small1000 (by omega)
        · rw [upd_same, List.map_append]
          rfl
        · unfold negM at hts ⊢
          rw [List.take_add_one, hr1, List.map_append]
          refine macl_stay (tups_put eC3) (fun t ht xs e => ?_) (awSnoc (F := RowL H3) (x := C2) (y := row.map fun (e : Int × Int) => (-e.1, e.2)) ⟨us, eC2, hus⟩ (macl_same s3 hts))
          have nt : t ≠ C := by
            rcases List.mem_append.mp ht with z | z
            · exact tn t z
            · rw [List.mem_singleton.mp z]
              exact nC2
          rw [upd_ne nt]
          exact e
        · rcases List.mem_append.mp ht with z | z
          · exact tn t z
          · rw [List.mem_singleton.mp z]
            exact nC2
        · intro b u eb
          rw [upd_ne (ne_of_none eb hC)]
          exact s3 _ _ (s2 b u eb)
    obtain ⟨ts, eC, hts, tn, s2⟩ := hp
    rw [List.length_map, ll, List.take_length] at hts
    refine ⟨C, m, n, ts, negM lm, rfl, eC, hts, neg_gn gn, by omega, n60, fun H3 T L cs s3 nT nL eT eL cl cc cm => ?_⟩
    have hall : ∀ c ∈ cs, c.length = m ∧ ∀ x ∈ c, Bit x := fun c hc => allB_ok m c (cc c hc)
    have wl := wofL_len m cs
    have wr := wofL_range hall
    rw [cl] at wr
    have e1 := lm_worth ok lmo wl wr
    have cb := cols_back hall
    rw [cl] at cb
    rw [cb] at e1
    rw [amt_neg] at eT
    refine ⟨T, [.int (-amtX lm 0 cs), .ref L], rfl, .inl (.inl eT), rfl, .int (-amtX lm 0 cs), [.ref L], rfl, .ref L, [], rfl, rfl, ?_⟩
    refine ⟨.int (-amtX lm 0 cs), rfl, -amtX lm 0 cs, rfl, .ref L, rfl, (by show 2 ≤ sizeLine; decide), fun T2 hT2 => ?_⟩
    have sT2 := same_new (o := .tup [.int (- -amtX lm 0 cs), .ref L]) hT2
    have s13 := s1.trans (s2.trans s3)
    refine q _ T2 (- -amtX lm 0 cs) _ (s13.trans sT2) (s13.free hT2) ⟨⟨L, upd_same, sT2 _ _ eL⟩, wl, wr, by rw [Int.neg_neg]; exact e1⟩ fun ys hy hyr => ?_
    rw [← lm_worth ok lmo hy hyr, Int.neg_neg]
    have := cm _ (cols_len ys n) (cols_all hy n)
    rw [amt_neg, amt_neg] at this
    omega
/-! ### greatest_ahead -/
abbrev nxPP (ds1 ds2 : List Deed) (q : List Int × List Int) (b : List Int) : List Int × List Int := (nxC ds1 q.1 b, nxC ds2 q.2 b)
abbrev gnPP (ds1 : List Deed) (o1 : Int) (ds2 : List Deed) (o2 : Int) (q : List Int × List Int) (b : List Int) : Int := gnC ds1 o1 q.1 b - gnC ds2 o2 q.2 b
theorem gsum_pp {ds1 ds2 : List Deed} {o1 o2 : Int} : ∀ (cs : List (List Int)) (c1 c2 : List Int), gsum (nxPP ds1 ds2) (gnPP ds1 o1 ds2 o2) (c1, c2) cs = gsum (nxC ds1) (gnC ds1 o1) c1 cs - gsum (nxC ds2) (gnC ds2 o2) c2 cs
  | [], _, _ => rfl
  | c :: cs, c1, c2 => by
    have ih := gsum_pp (ds1 := ds1) (ds2 := ds2) (o1 := o1) (o2 := o2) cs (nxC ds1 c1 c) (nxC ds2 c2 c)
    show (gnC ds1 o1 c1 c - gnC ds2 o2 c2 c) + 2 * gsum (nxPP ds1 ds2) (gnPP ds1 o1 ds2 o2) (nxC ds1 c1 c, nxC ds2 c2 c) cs = (gnC ds1 o1 c1 c + 2 * gsum (nxC ds1) (gnC ds1 o1) (nxC ds1 c1 c) cs) - (gnC ds2 o2 c2 c + 2 * gsum (nxC ds2) (gnC ds2 o2) (nxC ds2 c2 c) cs)
    rw [ih]
    omega
theorem gb_sim {m : Nat} {ds1 ds2 : List Deed} {o1 o2 : Int} {l1 l2 : List MRow} {S1 S2 : List Int → Nat → Prop} {ps : List (Nat × Nat)} {bh : List MRow} (m3 : m ≤ 3) (h1 : Sim m ds1 o1 l1 S1) (h2 : Sim m ds2 o2 l2 S2) (g : GbOk l1 l2 ps bh) (hl : bh.length = ps.length) :
    GSim m bh (nxPP ds1 ds2) (gnPP ds1 o1 ds2 o2) (ds1.map fcD, ds2.map fcD) (fun q k => ∃ a b, ps[k]? = some (a, b) ∧ S1 q.1 a ∧ S2 q.2 b) := by
  refine ⟨⟨0, 0, g.first, h1.1, h2.1⟩, fun q k ⟨a, b, hk, ha, hb⟩ c hc => ?_⟩
  obtain ⟨j, hj⟩ := List.mem_iff_getElem?.mp hc
  have kl := (List.getElem?_eq_some_iff.mp hk).1
  have hr : bh[k]? = some (bh[k]'(by omega)) := List.getElem?_eq_getElem (by omega)
  obtain ⟨p, r1, r2, e0, e1, e2, hz⟩ := g.each k _ hr
  rw [hk] at e0
  obtain rfl := Option.some.inj e0
  obtain ⟨r1', f1, p1⟩ := h1.2 _ _ ha
  obtain ⟨r2', f2, p2⟩ := h2.2 _ _ hb
  have x1 : r1' = r1 := Option.some.inj (f1.symm.trans e1)
  have x2 : r2' = r2 := Option.some.inj (f2.symm.trans e2)
  subst x1 x2
  have st1 : (stp m ds1 o1 q.1)[j]? = some (gnC ds1 o1 q.1 c, nxC ds1 q.1 c) := by
    unfold stp
    rw [List.getElem?_map, hj]
    rfl
  have st2 : (stp m ds2 o2 q.2)[j]? = some (gnC ds2 o2 q.2 c, nxC ds2 q.2 c) := by
    unfold stp
    rw [List.getElem?_map, hj]
    rfl
  obtain ⟨x, hx, xa, ja, xb, xc⟩ := awGet2 p1 st1
  obtain ⟨y, hy, ya, jb, yb, yc⟩ := awGet2 p2 st2
  have hzip : (r1'.zip r2')[j]? = some (x, y) := List.getElem?_zip_eq_some.mpr ⟨hx, hy⟩
  obtain ⟨e, he, g1, n, a', b', g2, g3, g4, g5⟩ := awGet2 hz hzip
  rw [ent_at m3 hr hj he]
  refine ⟨by rw [g1]; show x.1 - y.1 = _; rw [xa, ya], ?_⟩
  rw [g2, Int.toNat_natCast]
  have g3' : x.2 = (a' : Int) := g3
  have g4' : y.2 = (b' : Int) := g4
  have ea : ja = a' := Int.ofNat.inj (xb.symm.trans g3')
  have eb : jb = b' := Int.ofNat.inj (yb.symm.trans g4')
  subst ea eb
  exact ⟨_, _, g5, xc, yc⟩
theorem gb_gn {m : Nat} {ds1 ds2 : List Deed} {o1 o2 : Int} {l1 l2 : List MRow} {ps : List (Nat × Nat)} {bh : List MRow} (g1 : GnOk m l1) (g2 : GnOk m l2) (b1 : ∀ r ∈ l1, ∀ e ∈ r, Bit e.1) (b2 : ∀ r ∈ l2, ∀ e ∈ r, Bit e.1) (g : GbOk l1 l2 ps bh) (hl : bh.length = ps.length) (few : ps.length ≤ 65536) : GnOk m bh := by
  refine ⟨by rw [hl]; have := (List.getElem?_eq_some_iff.mp g.first).1; omega, by omega, fun r hr => ?_⟩
  obtain ⟨i, hi⟩ := List.mem_iff_getElem?.mp hr
  obtain ⟨p, r1, r2, e0, e1, e2, hz⟩ := g.each i r hi
  obtain ⟨l1', _⟩ := g1.row r1 (List.mem_of_getElem? e1)
  obtain ⟨l2', _⟩ := g2.row r2 (List.mem_of_getElem? e2)
  refine ⟨by rw [awLen hz, List.length_zip, l1', l2', Nat.min_self], fun e he => ?_⟩
  obtain ⟨j, hj⟩ := List.mem_iff_getElem?.mp he
  obtain ⟨be, hb, x1, n, a, b, x2, x3, x4, x5⟩ := awGet hz hj
  obtain ⟨ha, hb'⟩ := List.getElem?_zip_eq_some.mp hb
  have c1 := b1 r1 (List.mem_of_getElem? e1) _ (List.mem_of_getElem? ha)
  have c2 := b2 r2 (List.mem_of_getElem? e2) _ (List.mem_of_getElem? hb')
  refine ⟨?_, n, x2, by rw [hl]; exact (List.getElem?_eq_some_iff.mp x5).1⟩
  rw [x1]
  rcases c1 with z | z <;> rcases c2 with y | y <;> rw [z, y] <;> decide
theorem lm_bits {m : Nat} {ds : List Deed} {o : Int} {lm : List MRow} (h : LmOk m ds o lm) : ∀ r ∈ lm, ∀ e ∈ r, Bit e.1 := by
  obtain ⟨cs, mac, ns, wm, hl, kk, li⟩ := h.src
  intro r hr e he
  obtain ⟨k, hk⟩ := List.mem_iff_getElem?.mp hr
  obtain ⟨i0, r', h1, h2, rfl⟩ := li.each k r hk
  obtain ⟨c, hc, hp⟩ := wm.each i0 r' h2
  have cb := wm.bits c (List.mem_of_getElem? hc)
  obtain ⟨e', he', rfl⟩ := List.mem_map.mp he
  obtain ⟨j, hj⟩ := List.mem_iff_getElem?.mp he'
  obtain ⟨s, hs, e1, _⟩ := awGet hp hj
  have sm := List.mem_of_getElem? hs
  unfold stp at sm
  obtain ⟨bs, hbs, rfl⟩ := List.mem_map.mp sm
  have hb := allB_ok m bs hbs
  show Bit e'.1
  rw [e1]
  show Bit ((bts ds c bs).getD o.toNat 0)
  rw [List.getD_eq_getElem?_getD]
  cases e : (bts ds c bs)[o.toNat]? with
  | none => exact bit0
  | some y => exact bts_bits hb.2 cb.2 y (List.mem_of_getElem? e)
def spGa (cP : Addr) : Sp := fun vs H Q E => ∃ (R1 R2 : Addr) (m1 m2 n : Nat) (o1 o2 : Int) (ds1 ds2 : List Deed), vs = [.ref R1, .ref R2, .int (n : Int)] ∧ RowAt H R1 m1 ds1 o1 ∧ RowAt H R2 m2 ds2 o2 ∧ RowOk m1 ds1 o1 ∧ RowOk m2 ds2 o2 ∧
  (m1 = m2 → n ≤ 60 ∧ ∀ H' T L G xs, Same H H' → H T = none → H' T = some (.tup [.int G, .ref L]) → H' L = some (.lst (xs.map V.int)) → xs.length = m1 → (∀ x ∈ xs, 0 ≤ x ∧ x < 2 ^ n) → G = (vals (2 ^ n) ds1 xs).getD o1.toNat 0 - (vals (2 ^ n) ds2 xs).getD o2.toNat 0 →
    (∀ ys : List Int, ys.length = m1 → (∀ x ∈ ys, 0 ≤ x ∧ x < 2 ^ n) → (vals (2 ^ n) ds1 ys).getD o1.toNat 0 - (vals (2 ^ n) ds2 ys).getD o2.toNat 0 ≤ G) → Q (.ref T) H') ∧
  (¬ m1 = m2 → ∀ H', Same H H' → E (.ref cP) none H')
set_option maxHeartbeats 2000000 in
theorem ok_ga {f fC fG fB cP : Addr} {fd fdC fdG fdB : FuncData} {k : Nat} (F : Fun K "greatest_ahead" "greatest_ahead" s_greatest_ahead f fd)
    (GC : FnOk P w K mg base (L2.CX P w) (k + 1) fC fdC ["row", "other"] (spCp cP)) (kC' : PySem.W.keepIn K (.ref fC) = true) (bC : Binds K fdC ["row", "other"] []) (gC : mg "check_pair" = some (.ref fC))
    (GG : FnOk P w K mg base CX0 (k + 3) fG fdG ["many", "width", "gains"] spGr) (kG : PySem.W.keepIn K (.ref fG) = true) (bG : Binds K fdG ["many", "width", "gains"] []) (gG : mg "greatest" = some (.ref fG))
    (GB : FnOk P w K mg base CX0 (k + 7) fB fdB ["row", "other"] spGn) (kB : PySem.W.keepIn K (.ref fB) = true) (bB : Binds K fdB ["row", "other"] []) (gB : mg "gains_of_both" = some (.ref fB)) : FnOk P w K mg base (L2.CX P w) (k + 8) f fd ["row", "other", "width"] (spGa cP) := by
  refine F.okX sc_greatest_ahead (fun vs H Q E h => ?_) (fun cdv A' outer s H vs Q E hr h => ?_)
  · obtain ⟨R1, R2, m1, m2, n, o1, o2, ds1, ds2, rfl, _⟩ := h
    rfl
  · obtain ⟨R1, R2, m1, m2, n, o1, o2, ds1, ds2, rfl, hr1, hr2, ok1, ok2, q, qE⟩ := h
    have r1 := hr.mono (show k + 1 ≤ k + 7 by omega)
    have r3 := hr.mono (show k + 3 ≤ k + 7 by omega)
    refine ⟨_, pss_cons (ps_expr (pe_callS GC r1 (by rfl) gC kC' bC (fun σ => passAt (takes_of rfl rfl rfl rfl) σ) (pa_cons (pv 0) (pa_cons (pv 1) pa_nil))))
      (pss_one (ps_ret (pe_call GG r3 (by rfl) gG kG bG .nil pass0 (pa_cons (pe_ix ix_tup (pv 0) pe_int (fun _ _ => rfl)) (pa_cons (pv 2) (pa_cons (pe_call GB hr (by rfl) gB kB bB .nil pass0 (pa_cons (pv 0) (pa_cons (pv 1) pa_nil))) pa_nil)))))), ?_⟩
    refine ⟨.ref R1, rfl, .ref R2, rfl, R1, R2, m1, m2, o1, o2, ds1, ds2, rfl, hr1, hr2, ok1, ok2, fun em => ?_, fun ne => qE (fun z => ne (congrArg Int.ofNat z)) H (Same.refl H)⟩
    obtain rfl : m1 = m2 := Int.ofNat.inj em
    obtain ⟨n60, q⟩ := q rfl
    obtain ⟨D, rs, eR, eD, hd⟩ := id hr1
    have m3 := ok1.m3
    refine ⟨.ref R1, rfl, R1, _, 0, .int (m1 : Int), rfl, rfl, SqT.of eR, rfl, .int (n : Int), rfl, .ref R1, rfl, .ref R2, rfl, R1, R2, m1, o1, o2, ds1, ds2, rfl, hr1, ok1, hr2, ok2, fun H1 p ls l1 l2 S1 S2 ps bh s1 np ep hb lk1 lk2 sm1 sm2 gb gd hl few => ?_⟩
    have gn : GnOk m1 bh := gb_gn (ds1 := ds1) (ds2 := ds2) (o1 := o1) (o2 := o2) (lm_gn ok1 lk1) (lm_gn ok2 lk2) (lm_bits lk1) (lm_bits lk2) gb hl few
    have gs := gb_sim (show m1 ≤ 3 by omega) sm1 sm2 gb hl
    have wor : ∀ ys : List Int, ys.length = m1 → (∀ x ∈ ys, 0 ≤ x ∧ x < 2 ^ n) → amtX bh 0 (colsOf ys n) = (vals (2 ^ n) ds1 ys).getD o1.toNat 0 - (vals (2 ^ n) ds2 ys).getD o2.toNat 0 := fun ys hy hyr => by
      rw [gsum_amt gs _ _ _ gs.first (cols_all hy n), gsum_pp, worth_sum ok1 hy hyr, worth_sum ok2 hy hyr]
    refine ⟨p, m1, n, ls, bh, rfl, ep, hb, gn, by omega, n60, fun H2 T L cs s2 nT nL eT eL cl cc cm => ?_⟩
    have hall : ∀ c ∈ cs, c.length = m1 ∧ ∀ x ∈ c, Bit x := fun c hc => allB_ok m1 c (cc c hc)
    have wl := wofL_len m1 cs
    have wr := wofL_range hall
    rw [cl] at wr
    have e1 := wor _ wl wr
    have cb := cols_back hall
    rw [cl] at cb
    rw [cb] at e1
    refine q H2 T L _ _ (s1.trans s2) (s1.free nT) eT eL wl wr e1 fun ys hy hyr => ?_
    rw [← wor ys hy hyr]
    exact cm _ (cols_len ys n) (cols_all hy n)
/-! ### dicts by nested keys: read while locked, got with a default, put anew, walked, summed -/
section nd2
variable {X : Cx}
structure NDR (P : Program) (w : World) (H : Hp) (a : Addr) (xs : List NE) : Prop where
  ob : Rd H a (NDO P w a xs)
  ks : ∀ p ∈ xs, NkAt H p.1 (.ref p.2.1) ∧ p.1.depth ≤ 8
theorem ND.r {P : Program} {w : World} {H : Hp} {a : Addr} {xs : List NE} (h : ND P w H a xs) : NDR P w H a xs := ⟨.inl h.ob, h.ks⟩
theorem NDR.full {pins : List (Addr × Obj)} {σ : L2.St} {H : Hp} {s : Shared} {a : Addr} {xs : List NE} (I : Inv X pins σ H s) (h : NDR X.prog X.w H a xs) : xs.length ≤ sizeLine ∧ (a == sysModules) = false ∧ ∃ ys, NRel xs ys ∧ s.heap.DictOfH (nestedKind X.prog X.w) a ys := by
  obtain ⟨⟨z1, z2, ys, z3, o, es, ep, z4, z5, z6, z7, z8⟩, _⟩ := h.ob.ok I.hok
  refine ⟨z1, z2, ys, z3, o, es, ep, z4, z5, z6, z7, fun y hy => ?_, z8⟩
  obtain ⟨i, hi⟩ := List.mem_iff_getElem?.mp hy
  obtain ⟨p, hp, e1, e2, _⟩ := awGet2 z3 hi
  obtain ⟨k1, k2⟩ := h.ks p (List.mem_of_getElem? hp)
  rw [e1, e2] at k1
  rw [e1] at k2
  exact ⟨nk_is I _ _ _ k1 rfl, k2⟩
def tNGetR (P : Program) (w : World) (td ty : TE) : TE := fun σ H Q => td σ H fun x H1 => ty σ H1 fun y H2 => ∃ a xs k v, x = .ref a ∧ NDR P w H2 a xs ∧ KeyN H2 y k ∧ getN xs k = some v ∧ Q v H2
theorem pe_ndgetR {P : Program} {w : World} (hP : X.prog = P) (hw : X.w = w) {o i : Expr} {td ty : TE} {pos : Pos} (hu : X.A.units + 64 < cLine) (ho : PE X o td) (hi : PE X i ty) (hs : NoSl i) : PE X (.Subscript o i pos) (tNGetR P w td ty) := by
  subst hP hw
  constructor
  intro pins s σ H Q I h
  refine subD_of PySem.F.slot_dict_getitem.lookup hs (thn (ho.run pins s σ H _ I h) ?_)
  rintro u s1 ⟨x, H1, I1, rx, q1⟩
  refine thn (hi.run pins s1 σ H1 _ I1 q1) ?_
  rintro iv s2 ⟨y, H2, I2, ry, a, xs, k, v, rfl, hn, hk, hv, q2⟩
  obtain rfl : u = Value.ref a := rx
  obtain ⟨b, rfl, rfl, hb⟩ := nd_at I2 hk ry
  obtain ⟨_, hd, ys, r, dd⟩ := hn.full I2
  have z := getN_rel (k := k) r
  rw [hv] at z
  cases e : atKey ys k with
  | none => rw [e] at z; exact z.elim
  | some p =>
    rw [e] at z
    exact ⟨dd.typeIs, wpAny_getItem_heap (knd := nestedKind X.prog X.w) (show X.A.in1.units + 8 < cLine by show X.A.units + 1 + 8 < cLine; omega) hb dd e ⟨v, H2, I2.tok _, z, q2⟩⟩
def tNGet2 (P : Program) (w : World) (td ty tx : TE) : TE := fun σ H Q => td σ H fun x H1 => ∃ a xs0, x = .ref a ∧ ND P w H1 a xs0 ∧ ty σ H1 fun y H2 => tx σ H2 fun z H3 => ∃ xs k, ND P w H3 a xs ∧ KeyN H3 y k ∧ Q ((getN xs k).getD z) H3
theorem pe_ndget2 {P : Program} {w : World} (hP : X.prog = P) (hw : X.w = w) {o e f : Expr} {td ty tx : TE} {apos cpos : Pos} (hu : X.A.units + 64 < cLine) (ho : PE X o td) (he : PE X e ty) (hf : PE X f tx) (m : M2 X o "get" apos e f cpos) : PE X (.Call (.Attribute o "get" apos) [e, f] [] cpos) (tNGet2 P w td ty tx) := by
  subst hP hw
  constructor
  intro pins s σ H Q I h
  refine wpAny_Call_method m.base m.few m.line PySem.F.plainAttrs_dict PySem.F.slot_dict_get PySem.F.type_dict_get (thn (ho.run pins s σ H _ I h) ?_)
  rintro u s1 ⟨x, H1, I1, rx, a, xs0, rfl, hn1, q1⟩
  obtain rfl : u = Value.ref a := rx
  obtain ⟨_, hd1, ys1, rel1, dd1⟩ := hn1.full I1
  obtain ⟨ob, es', ep, g1, g2, _⟩ := id dd1
  refine ⟨dd1.typeIs, (fun z e => ⟨ob, by injection e with e; rw [← e]; exact g1, g2.2.1⟩), ?_⟩
  rw [m.trees]
  refine Calls.callWith_builtin rfl (Calls.evalArgs_plain (Calls.spliced_cons (thn (he.run pins s1 σ H1 _ I1 q1) ?_)))
  rintro iv s2 ⟨y, H2, I2, ry, q2⟩
  refine Calls.spliced_cons (thn (hf.run pins s2 σ H2 _ I2 q2) ?_)
  rintro fv s3 ⟨z, H3, I3, rz, xs, k, hn, hk, q3⟩
  refine Calls.spliced_nil ?_
  obtain ⟨b, rfl, rfl, hb⟩ := nd_at I3 hk ry
  obtain ⟨_, hd, ys, rel, dd⟩ := hn.full I3
  refine call_meetsIn PySem.F.slot_dict_get dd.typeIs PySem.F.entry_dict_get (PySem.F.args_dict_get_3 _ _ _) (meetsH_dict_get_default (nestedKind X.prog X.w) a b hd fv) ⟨(show X.A.in1.units + 8 < cLine by show X.A.units + 1 + 8 < cLine; omega), k, ys, hb, dd, (getN xs k).getD z, H3, I3.tok _, ?_, q3⟩
  exact (getN_rel (k := k) rel).getD rz
def putN (xs : List NE) (k : NestedKey) (b : Addr) (v : V) : List NE := if (getN xs k).isSome = true then xs.map (fun x => if x.1 = k then (x.1, x.2.1, v) else x) else xs ++ [(k, b, v)]
theorem putN_len (xs : List NE) (k : NestedKey) (b : Addr) (v : V) : (putN xs k b v).length ≤ xs.length + 1 := by
  unfold putN
  split
  · rw [List.length_map]
    omega
  · rw [List.length_append]
    exact Nat.le_refl _
theorem nrel_map {k : NestedKey} {v : V} {r : Value} (rv : RelV v r) : ∀ {xs : List NE} {ys : List (NestedKey × Addr × Value)}, NRel xs ys → NRel (xs.map fun x => if x.1 = k then (x.1, x.2.1, v) else x) (ys.map (putAt k r))
  | _, _, .nil => .nil
  | _, _, .cons (a := x) (b := y) h t => by
    refine .cons ?_ (nrel_map rv t)
    obtain ⟨h1, h2, h3⟩ := h
    unfold putAt
    dsimp only
    by_cases e : x.1 = k
    · rw [if_pos e, if_pos (h1 ▸ e)]
      exact ⟨h1, h2, rv⟩
    · rw [if_neg e, if_neg (h1 ▸ e)]
      exact ⟨h1, h2, h3⟩
theorem nd_writeA {pins : List (Addr × Obj)} {σ : L2.St} {H : Hp} {s : Shared} {a b : Addr} {xs : List NE} {ys : List (NestedKey × Addr × Value)} {k : NestedKey} {v : V} {r : Value} {h' : Heap} {tk : Nat} (I : Inv X pins σ H s) (hn : ND X.prog X.w H a xs) (hl : xs.length < sizeLine) (rel : NRel xs ys) (hd : (a == sysModules) = false)
    (rv : RelV v r) (dd : h'.DictOfH (nestedKind X.prog X.w) a (storedH ys k b r)) (hs : Heap.SameBut a s.heap h') : Inv X pins σ (upd H a (NDO X.prog X.w a (putN xs k b v))) { s with heap := h', toks := tk } := by
  have he : ∃ o, h'.get? a = some o := dd.elim fun o z => ⟨o, z.choose_spec.choose_spec.1⟩
  have lp := putN_len xs k b v
  refine d_write I (by rw [hn.ob]; exact True.intro) hs he (ndo_ok (by omega) hd ?_ dd)
  have z := getN_rel (k := k) rel
  unfold putN
  cases e : getN xs k with
  | none =>
    rw [storedH_new (nrel_none rel e), if_neg (by simp)]
    exact awSnoc (F := fun (p : NE) (q : NestedKey × Addr × Value) => p.1 = q.1 ∧ p.2.1 = q.2.1 ∧ RelV p.2.2 q.2.2) ⟨rfl, rfl, rv⟩ rel
  | some y =>
    rw [e] at z
    cases e2 : atKey ys k with
    | none => rw [e2] at z; exact z.elim
    | some p =>
      rw [storedH_old e2, if_pos (by simp)]
      exact nrel_map rv rel
def sNPutA (P : Program) (w : World) (td ty tv : TE) : TS := fun D σ H => tv σ H fun v H1 => td σ H1 fun x H2 => ty σ H2 fun y H3 => ∃ a xs k b, x = .ref a ∧ ND P w H3 a xs ∧ y = .ref b ∧ KeyN H3 y k ∧ xs.length < sizeLine ∧ D.nx σ (upd H3 a (NDO P w a (putN xs k b v)))
theorem ps_ndputA {P : Program} {w : World} (hP : X.prog = P) (hw : X.w = w) {o i value : Expr} {td ty tv : TE} {pos pos' : Pos} (hu : X.A.units + 64 < cLine) (ho : PE X o td) (hi : PE X i ty) (hv : PE X value tv) (hs : swapsWith value (some (.Subscript o i pos')) pos.line X.env = pure false) :
    PS X (.Assign [.Subscript o i pos'] value pos) (sNPutA P w td ty tv) := by
  subst hP hw
  constructor
  intro pins s σ H D I h
  refine wpAny_Assign_Subscript (thn (hv.run pins s σ H _ I h) ?_) hs
  rintro r s1 ⟨v, H1, I1, rv, q1⟩
  refine thn (ho.run pins s1 σ H1 _ I1 q1) ?_
  rintro u s2 ⟨x, H2, I2, rx, q2⟩
  refine thn (hi.run pins s2 σ H2 _ I2 q2) ?_
  rintro iv s3 ⟨y, H3, I3, ry, a, xs, k, b, rfl, hn, rfl, hk, hl, q3⟩
  obtain rfl : u = Value.ref a := rx
  obtain ⟨b', rfl, eb, hb⟩ := nd_at I3 hk ry
  obtain rfl : b = b' := V.ref.inj eb
  obtain ⟨_, hd, ys, rel, dd⟩ := hn.full I3
  have hz : ys.length ≤ sizeLine := by
    have := awLen rel
    omega
  exact wpAny_setItem_heap (knd := nestedKind X.prog X.w) (hsz := hz) (show X.A.in1.units + 8 < cLine by show X.A.units + 1 + 8 < cLine; omega) hb dd fun h' dd' hs' => ⟨σ, _, nd_writeA I3 hn hl rel hd rv dd' hs', q3⟩
theorem nd_putA {P : Program} {w : World} {H : Hp} {a b : Addr} {xs : List NE} {k : NestedKey} {v : V} (h : ND P w H a xs) (hk : KeyN H (.ref b) k) : ND P w (upd H a (NDO P w a (putN xs k b v))) a (putN xs k b v) := by
  have tt : TupsStay H (upd H a (NDO P w a (putN xs k b v))) := fun c ys e => by
    rw [upd_ne (ne_of e h.ob (fun z => nomatch z))]
    exact e
  refine ⟨upd_same, fun p hp => ?_⟩
  unfold putN at hp
  split at hp
  · obtain ⟨x, hx, rfl⟩ := List.mem_map.mp hp
    split
    · exact ⟨nk_stay tt _ _ (h.ks x hx).1, (h.ks x hx).2⟩
    · exact ⟨nk_stay tt _ _ (h.ks x hx).1, (h.ks x hx).2⟩
  · rcases List.mem_append.mp hp with hp | hp
    · exact ⟨nk_stay tt _ _ (h.ks p hp).1, (h.ks p hp).2⟩
    · rw [List.mem_singleton.mp hp]
      exact ⟨nk_stay tt _ _ hk.1, hk.2.1⟩
/-! the keys, walked while the dict is locked -/
theorem nd_frz {pins : List (Addr × Obj)} {σ : L2.St} {H : Hp} {s : Shared} {d : Addr} {o : Obj} {xs : List NE} (I : Inv X pins σ H s) (h : H d = some (.frz o (NDO X.prog X.w d xs))) :
    (d == sysModules) = false ∧ s.heap.get? d = some o ∧ o.ExactDict ∧ ∃ (es : Array DictEntry) (ep : Nat), o.data = .dict es ep ∧ es.size = xs.length ∧ ∀ (i : Nat) (p : NE), xs[i]? = some p → ∃ en : DictEntry, es[i]? = some en ∧ en.key = .ref p.2.1 ∧ RelV p.2.2 en.val := by
  obtain ⟨hg, ⟨z1, z2, ys, z3, o', es, ep, z4, z5, z6, z7, z8⟩, _⟩ := I.hok d _ h
  obtain rfl : o' = o := Option.some.inj (z4.symm.trans hg)
  have l1 : es.size = ys.length := size_of_entries z7
  refine ⟨z2, hg, z5, es, ep, z6, l1.trans (awLen z3).symm, fun i p hp => ?_⟩
  obtain ⟨y, hy, e1, e2, e3⟩ := awGet z3 hp
  have e : es.toList[i]? = some (entryOfKey (nestedKind X.prog X.w) y) := by
    rw [z7, List.getElem?_map, hy]
    rfl
  rw [Array.getElem?_toList] at e
  refine ⟨_, e, ?_, e3⟩
  rw [e2]
  rfl
def ItN (P : Program) (w : World) (d : Addr) (o : Obj) (xs : List NE) : It :=
  ⟨fun i H => H d = some (.frz o (NDO P w d xs)) ∧ i < xs.length, fun i H x H' => H' = H ∧ ∃ p, xs[i]? = some p ∧ x = .ref p.2.1, fun i H => H d = some (.frz o (NDO P w d xs)) ∧ xs.length ≤ i⟩
theorem turn_N {d : Addr} {o : Obj} {xs : List NE} {tg : Expr} (it : Addr) {ep : Nat} {es : Array DictEntry} (hod : o.data = .dict es ep) : Turn P w K tg (ItN P w d o xs) [it] it (fun i h => h.IsKeyIter it d i xs.length ep) where
  mem := by simp
  obj := fun i h st b hb => by
    have e : b = it := by simpa using hb
    subst e
    obtain ⟨oi, e, c, dd⟩ := st
    exact ⟨oi, e, fun v z => by rw [dd] at z; cases z⟩
  keep := fun i h h' st k => st.at fun oi e => k it (by simp) oi e
  item := by
    intro X hP hw hK hc i pins s σ H E I hf st hg
    subst hP hw hK
    obtain ⟨hd, hi⟩ := hg
    obtain ⟨f0, f1, f2, f3, f4, f5⟩ := hf it (by simp)
    obtain ⟨hs, hgd, hx, es', ep', hdt, hsz, ent⟩ := nd_frz I hd
    obtain ⟨rfl, rfl⟩ := dict_ep hod hdt
    obtain ⟨p, hkv⟩ : ∃ p, xs[i]? = some p := ⟨xs[i], List.getElem?_eq_getElem hi⟩
    obtain ⟨en, hen, hkey, _⟩ := ent i p hkv
    refine next_key_item st hgd hdt hsz hen fun h' st' sb => ?_
    have I1 : Inv X pins σ H { s with heap := h' } := I.turned (t' := s.toks) (fun b ob hb e => (sb.2 b hb).trans e) f0 f1 f3 f4 f5
    obtain ⟨oi, e, c, dd⟩ := id st'
    exact ⟨en.key, rfl, go_of (s := { s with heap := h' }) e c dd (by decide) ⟨.ref p.2.1, H, I1, hkey, ⟨rfl, p, hkv, rfl⟩, st', fun b hb => (hf b hb).1⟩⟩
  done := by
    intro X hP hw hK hc i pins s σ H E I hf st hg
    subst hP hw hK
    obtain ⟨hd, hi⟩ := hg
    obtain ⟨f0, f1, f2, f3, f4, f5⟩ := hf it (by simp)
    obtain ⟨hs, hgd, hx, es', ep', hdt, hsz, ent⟩ := nd_frz I hd
    obtain ⟨rfl, rfl⟩ := dict_ep hod hdt
    exact next_key_end (I.ok.hd hc) st hgd hdt hsz hi fun h' eb => ⟨rfl, I.turned (t' := s.toks) (fun b ob hb e => eb b ob hb e) f0 f1 f3 f4 f5⟩
  self := fun A i s Q E st h => by
    refine wpAny_pyIter_slot st.typeIs F.slot_dict_keyiterator_iter (wpAny_call_entry F.slot_dict_keyiterator_iter st.typeIs F.entry_dict_keyiterator_iter ?_ (F.args_dict_keyiterator_iter_1 _))
    show wpAny _ _ (ret (.ref it)) _ _ s
    exact wpAny_pure ⟨_, rfl, "dict_keyiterator", _, st.typeIs, F.slot_dict_keyiterator_next.lookup, h⟩
def iKeysN (P : Program) (w : World) (td : TE) : TI := fun σ H R => td σ H fun x H1 => ∃ d o xs, x = .ref d ∧ H1 d = some (.frz o (NDO P w d xs)) ∧ R (ItN P w d o xs) H1
theorem pi_keysN {P : Program} {w : World} (hP : X.prog = P) (hw : X.w = w) {tg e : Expr} {td : TE} (he : PE X e td) : PI X tg e (iKeysN P w td) := by
  subst hP hw
  refine ⟨fun pins s σ H R I h => ?_⟩
  refine thn (he.run pins s σ H _ I h) ?_
  rintro u s1 ⟨x, H1, I1, rx, d, o, xs, rfl, hd, q⟩
  obtain rfl : u = Value.ref d := rx
  obtain ⟨hs, hgd, hx, es, ep, hdt, hsz, ent⟩ := nd_frz I1 hd
  refine iter_keys hs hgd hx hdt (pi_one (tk := s1.toks) I1 _ (turn_N _ hdt) ⟨_, Heap.get?_push_size _ rfl, rfl, ?_⟩ q)
  rw [hsz] <;> rfl
theorem walk_N {P : Program} {w : World} {d : Addr} {o : Obj} {xs : List NE} : Walk (ItN P w d o xs) xs.length (fun H => H d = some (.frz o (NDO P w d xs))) (fun i H x H' => H' = H ∧ ∃ p, xs[i]? = some p ∧ x = .ref p.2.1) :=
  ⟨fun _ _ hi q => ⟨q, hi⟩, fun _ q => ⟨q, Nat.le_refl _⟩, fun _ _ _ _ _ _ y => y⟩
/-! d.values(), and their sum -/
theorem nd_raw {pins : List (Addr × Obj)} {σ : L2.St} {H : Hp} {s : Shared} {d : Addr} {xs : List NE} (I : Inv X pins σ H s) (h : H d = some (NDO X.prog X.w d xs)) :
    (d == sysModules) = false ∧ ∃ es ep, s.heap.DictRaw d es ep ∧ es.size = xs.length ∧ ∀ (i : Nat) (hi : i < es.size), ∃ p, xs[i]? = some p ∧ RelV p.2.2 es[i].val := by
  obtain ⟨⟨z1, z2, ys, z3, o, es, ep, z4, z5, z6, z7, z8⟩, _⟩ := I.hok d _ h
  have l1 : es.size = ys.length := size_of_entries z7
  refine ⟨z2, es, ep, ⟨o, z4, z5, z6⟩, l1.trans (awLen z3).symm, fun i hi => ?_⟩
  have hi2 : i < ys.length := by omega
  obtain ⟨p, h1, _, _, h4⟩ := awGet2 z3 (List.getElem?_eq_getElem hi2)
  have e : es.toList[i]? = some (entryOfKey (nestedKind X.prog X.w) ys[i]) := by
    rw [z7, List.getElem?_map, List.getElem?_eq_getElem hi2]
    rfl
  have e2 : es[i] = entryOfKey (nestedKind X.prog X.w) ys[i] := by
    rw [Array.getElem?_toList, Array.getElem?_eq_getElem hi] at e
    exact Option.some.inj e
  refine ⟨p, h1, ?_⟩
  rw [e2]
  exact h4
def tNVals (P : Program) (w : World) (td : TE) : TE := fun σ H Q => td σ H fun x H1 => ∃ a xs, x = .ref a ∧ H1 a = some (NDO P w a xs) ∧ ∀ p, H1 p = none → Q (.ref p) (upd H1 p (valsO p a))
theorem pe_nvals {P : Program} {w : World} (hP : X.prog = P) (hw : X.w = w) {o : Expr} {td : TE} {apos cpos : Pos} (ho : PE X o td) (hbase : attributeBase o "values" X.env (eval o X.env) = eval o X.env := by rfl) (hline : (apos.endLine == cpos.line) = true := by rfl) : PE X (.Call (.Attribute o "values" apos) [] [] cpos) (tNVals P w td) := by
  subst hP hw
  refine ⟨fun pins s σ H Q I h => ?_⟩
  refine wpAny_Call_method0_late hbase hline (thn (ho.run pins s σ H _ I h) ?_)
  rintro v s1 ⟨x, H1, I1, r1, a, xs, rfl, ha, q1⟩
  obtain rfl : v = Value.ref a := r1
  obtain ⟨hs, es, ep, raw, _⟩ := nd_raw I1 ha
  have raw' := raw
  obtain ⟨o', ho', hx', hdt'⟩ := raw'
  refine ⟨"dict", "dict.values", F.plainAttrs_dict, F.slot_dict_values, F.type_dict_values, raw.typeIs, fun b z => ⟨o', by cases z; exact ho', hx'.2.1⟩, Calls.callWith_builtin rfl (PySem.evalArgs_none ?_)⟩
  refine call_meetsIn F.slot_dict_values raw.typeIs F.entry_dict_values (F.args_dict_values_1 _) (meets_dict_values_raw a hs) ⟨⟨es, ep, raw⟩, ?_⟩
  have I2 := I1.laid (o := valsO s1.heap.objs.size a) (t' := s1.toks) (fun b u z => Heap.get?_push_of_some _ z) (Nat.le_refl _) (valsO_ok (H := upd H1 s1.heap.objs.size (valsO s1.heap.objs.size a)) (Heap.get?_push_size _ rfl))
  exact ⟨.ref _, _, I2, rfl, q1 _ (I1.hok.fresh (Nat.le_refl _))⟩
theorem preSumN {val : Nat → Int} (zs : List Int) (h : ∀ i, i < zs.length → val i = zs.getD i 0) : preSum val zs.length = zs.sum := by
  have key : ∀ n, n ≤ zs.length → preSum val n = (zs.take n).sum := by
    intro n
    induction n with
    | zero => intro _; simp [preSum]
    | succ n ih =>
      intro hn
      have hl : n < zs.length := by omega
      rw [show preSum val (n + 1) = preSum val n + val n from rfl, ih (by omega), h n hl, List.take_add_one, List.getElem?_eq_getElem hl, List.getD_eq_getElem?_getD, List.getElem?_eq_getElem hl]
      show _ + zs[n] = (List.take n zs ++ [zs[n]]).sum
      rw [List.sum_append]
      simp only [List.sum_cons, List.sum_nil, Int.add_zero]
  rw [key _ (Nat.le_refl _), List.take_length]
def rSumN (P : Program) (w : World) : List V → Hp → VK → Prop := fun vs H Q => ∃ (p a : Addr) (xs : List NE) (zs : List Int), vs = [.ref p] ∧ H p = some (valsO p a) ∧ H a = some (NDO P w a xs) ∧ xs.map (·.2.2) = zs.map V.int ∧ Q (.int zs.sum) H
theorem call_sumN {P : Program} {w : World} (hP : X.prog = P) (hw : X.w = w) (hc : X.calm = true) : CallR X (.builtin "sum") (rSumN P w) := by
  subst hP hw
  intro pins s σ H vs us Q I r h
  obtain ⟨p, a, xs, zs, rfl, hp, ha, hz, q⟩ := h
  obtain ⟨u, rfl, ru⟩ := vals1 r
  obtain rfl : u = Value.ref p := ru
  obtain ⟨hs, es, ep, raw, sz, ent⟩ := nd_raw I ha
  have hv : s.heap.IsValuesView p a := (I.hok p _ hp).1
  have zl : zs.length = es.size := by
    have := congrArg List.length hz
    rw [List.length_map, List.length_map] at this
    omega
  have la : a < s.heap.objs.size := raw.elim fun o z => Heap.lt_size z.1
  refine call_sum_walkAnyS (wpAny_pyIter_values_raw hv raw ?_)
  have rel : ∀ i v, (∃ hi : i < es.size, v = es[i].val) → ∃ t, v = .int (zs.getD i 0) t := by
    rintro i v ⟨hi, rfl⟩
    obtain ⟨x, hkv, rv⟩ := ent i hi
    have e : (xs.map (·.2.2))[i]? = some x.2.2 := by rw [List.getElem?_map, hkv]; rfl
    rw [hz, List.getElem?_map] at e
    cases e2 : zs[i]? with
    | none => rw [e2] at e; cases e
    | some z =>
      rw [e2] at e
      have e3 : V.int z = x.2.2 := Option.some.inj e
      rw [← e3] at rv
      rw [List.getD_eq_getElem?_getD, e2]
      exact rv
  refine ⟨s.heap.objs.size, [s.heap.objs.size, a], [s.heap.objs.size], _, es.size, _, _, fun i => zs.getD i 0, rfl, (Walks.rawValues (A := X.A.in1) (I.ok.hd hc) _ a (Nat.ne_of_lt la) es ep).toS, ?_, ?_, rel, ?_⟩
  · exact ⟨⟨_, Heap.get?_push_size _ rfl, rfl, rfl⟩, raw.at fun o z => Heap.get?_push_of_some _ z⟩
  · intro b hb
    show b < (s.heap.push _).objs.size
    rw [Heap.size_push]
    simp only [List.mem_cons, List.not_mem_nil, or_false] at hb
    rcases hb with rfl | rfl
    · exact Nat.lt_succ_self _
    · exact Nat.lt_succ_of_lt la
  · intro s' t' hm
    have hk : ∀ b o, s.heap.get? b = some o → s'.heap.get? b = some o := fun b o e =>
      hm.heap b o (fun hI => absurd (Heap.lt_size e) (by rw [List.mem_singleton.mp hI]; exact Nat.lt_irrefl _)) (Heap.get?_push_of_some _ e)
    rw [Moved.eq_with hm]
    refine ⟨.int zs.sum, H, I.kept (t' := s'.toks) hk, ⟨t', ?_⟩, q⟩
    rw [← zl, preSumN zs fun i _ => rfl]
end nd2
/-! ### the law's own bits and carries -/
def spLb (K : PySem.W.Frag) : Sp := fun vs H Q _ => ∃ (r L : Addr) (d : Deed) (told : List Int) (c : Int), vs = [.ref r, .int c, .ref L] ∧ H r = some (.tup (dV d)) ∧ SqL K H L (told.map V.int) ∧ DeedOk told.length d ∧ (∀ x ∈ told, Bit x) ∧ Bit c ∧ ∀ H', Same H H' → Q (.int (dbitAt d c told)) H'
theorem ok_lb {f : Addr} {fd : FuncData} {k : Nat} (F : Fun K "_law_bit" "_law_bit" s_law_bit f fd) (mi : mg "int" = none) (mx : mg "max" = none) : FnOk P w K mg base CX0 (k + 1) f fd ["deed", "carry", "bits"] (spLb K) := by
  refine F.ok sc_law_bit (fun vs H Q E h => ?_) (fun cdv A outer s H vs Q E hr h => ?_)
  · obtain ⟨r, L, d, told, c, rfl, _⟩ := h
    rfl
  · obtain ⟨r, L, d, told, c, rfl, er, eL, ok, tb, hc, q⟩ := h
    refine ⟨_, pss_cons (ps_set (i := 3) sc_law_bit.nd rfl (.inl rfl) (pe_ix ix_tup (pv 0) pe_int (fun _ _ => rfl)))
      (pss_cons (ps_if (pt_cmpR op_in_seq (pv 3) (pe_tup (pa_cons pe_str (pa_cons pe_str (pa_cons pe_str (pa_cons pe_str pa_nil))))) (by rfl)) (pss_one (ps_ret (pe_dget (hu_of hr) (pe_disp (pps_cons pe_str pe_int (pps_cons pe_str (pv 1) (pps_cons pe_str pe_int (pps_cons pe_str (pv 1) pps_nil)))) (by rfl) (by rfl) (fun z => by cases z) (by decide)) (pv 3) (fun _ _ => rfl)))) pss_nil)
      (pss_cons (ps_set (i := 4) sc_law_bit.nd rfl (.inl rfl) (pe_ix ix_list (pv 2) (pe_ix ix_tup (pv 0) pe_int (fun _ _ => rfl)) (fun _ _ => rfl)))
      (pss_cons (ps_if (pt_cmpR op_in_seq (pv 3) (pe_tup (pa_cons pe_str (pa_cons pe_str pa_nil))) (by rfl)) (pss_one (ps_ret (pe_ifExp (pt_cmpR op_eq (pv 3) pe_str (nomark _)) (pe_callTy call_int1 (by rfl) mi (by decide +kernel) (pa_cons (pe_cmpR op_eq (pv 4) pe_int (nomark _)) pa_nil)) (pe_callTy call_int1 (by rfl) mi (by decide +kernel) (pa_cons (pe_cmpR op_ne (pe_cmpR op_eq (pv 4) pe_int (nomark _)) (pe_cmpR op_eq (pv 1) pe_int (nomark _)) (nomark _)) pa_nil))))) pss_nil)
      (pss_cons (ps_set (i := 5) sc_law_bit.nd rfl (.inl rfl) (pe_ix ix_list (pv 2) (pe_ix ix_tup (pv 0) pe_int (fun _ _ => rfl)) (fun _ _ => rfl)))
      (pss_cons (ps_if (pt_cmpR op_in_seq (pv 3) (pe_tup (pa_cons pe_str (pa_cons pe_str (pa_cons pe_str pa_nil)))) (by rfl)) (pss_one (ps_ret (pe_dget (hu_of hr) (pe_disp (pps_cons pe_str (pe_op op_mul (pv 4) (pv 5)) (pps_cons pe_str (pe_callB (call_max2 rfl) (by rfl) mx (by decide +kernel) (pa_cons (pv 4) (pa_cons (pv 5) pa_nil))) (pps_cons pe_str (pe_callTy call_int1 (by rfl) mi (by decide +kernel) (pa_cons (pe_cmpR op_ne (pv 4) (pv 5) (nomark _)) pa_nil)) pps_nil))) (by rfl) (by rfl) (fun z => by cases z) (by decide)) (pv 3) (fun _ _ => rfl)))) pss_nil)
      (pss_one (ps_ret (pe_op op_mod (pe_op op_add (pe_op op_add (pv 4) (pv 5)) (pv 1)) pe_int)))))))), ?_⟩
    refine ⟨.ref r, rfl, r, _, 0, .str d.1, rfl, rfl, SqT.of er, dv0 d, ?_⟩
    have bA := argAt_bit tb d 0
    have bB := argAt_bit tb d 1
    unfold dbitAt at q
    refine ⟨.str d.1, rfl, by show 4 ≤ sizeLine; decide, fun T hT => ?_⟩
    have sT := same_new (o := .tup [.str "none", .str "one", .str "all", .str "twice"]) hT
    refine ⟨T, _, rfl, .inr (SqT.of upd_same), rfl, rfl, _, rfl, ite2 (fun e => ?_) (fun e => ?_)⟩
    · have hm : d.1 ∈ (["none", "one", "all", "twice"] : List Str) := of_decide_eq_true ((inS d.1 ["none", "one", "all", "twice"]).symm.trans e)
      intro p hp
      refine ⟨.int c, rfl, .int c, rfl, upd_same, [(Sum.inr "none", .int 0), (Sum.inr "one", .int c), (Sum.inr "all", .int 1), (Sum.inr "twice", .int c)], rfl, (by show 4 ≤ 15; decide), .str d.1, rfl, p, ?_⟩
      rw [upd_upd]
      have q1 := q _ (sT.trans (same_new (o := .dK (mergeK [] [(Sum.inr "none", .int 0), (Sum.inr "one", .int c), (Sum.inr "all", .int 1), (Sum.inr "twice", .int c)])) hp))
      simp only [List.mem_cons, List.not_mem_nil, or_false] at hm
      rcases hm with hm | hm | hm | hm <;> rw [hm] at q1 ⊢
      · exact ⟨.int 0, rfl, dget_at (k := Sum.inr "none") upd_same rfl, q1⟩
      · exact ⟨.int c, rfl, dget_at (k := Sum.inr "one") upd_same rfl, q1⟩
      · exact ⟨.int 1, rfl, dget_at (k := Sum.inr "all") upd_same rfl, q1⟩
      · exact ⟨.int c, rfl, dget_at (k := Sum.inr "twice") upd_same rfl, q1⟩
    have hn : ¬ d.1 ∈ (["none", "one", "all", "twice"] : List Str) := fun z => e ((inS d.1 ["none", "one", "all", "twice"]).trans (decide_eq_true z))
    simp only [List.mem_cons, List.not_mem_nil, or_false, not_or] at hn
    obtain ⟨n1, n2, n3, n4⟩ := hn
    obtain ⟨i, hi, ai, ei⟩ := arg1 ok n1 n2 n3
    have er2 := sT _ _ er
    have eL2 := sT.seq eL
    refine ⟨.ref L, rfl, .ref r, rfl, r, _, 1, .int i, rfl, rfl, SqT.of er2, dvN (k := 0) hi, L, _, i, .int (argAt d told 0), rfl, rfl, eL2, ei, ?_⟩
    refine ⟨.str d.1, rfl, by show 2 ≤ sizeLine; decide, fun U hU => ?_⟩
    have sU := sT.trans (same_new (o := .tup [.str "not", .str "neg"]) hU)
    refine ⟨U, _, rfl, .inr (SqT.of upd_same), rfl, rfl, _, rfl, ite2 (fun e => ?_) (fun e => ?_)⟩
    · have hm : d.1 ∈ (["not", "neg"] : List Str) := of_decide_eq_true ((inS d.1 ["not", "neg"]).symm.trans e)
      have q1 := q _ sU
      generalize argAt d told 0 = a at q1 bA
      generalize argAt d told 1 = b at q1 bB
      simp only [List.mem_cons, List.not_mem_nil, or_false] at hm
      rcases hm with hm | hm <;> rw [hm] at q1 ⊢
      · refine ⟨.str "not", rfl, rfl, _, rfl, .int a, rfl, rfl, .inr ⟨_, rfl, ?_⟩⟩
        rcases bA with rfl | rfl
        · exact q1
        · exact q1
      · refine ⟨.str "neg", rfl, rfl, _, rfl, .int a, rfl, rfl, .int c, rfl, rfl, rfl, .inr ⟨_, rfl, ?_⟩⟩
        rcases bA with rfl | rfl <;> rcases hc with rfl | rfl <;> exact q1
    have hn2 : ¬ d.1 ∈ (["not", "neg"] : List Str) := fun z => e ((inS d.1 ["not", "neg"]).trans (decide_eq_true z))
    simp only [List.mem_cons, List.not_mem_nil, or_false, not_or] at hn2
    obtain ⟨n5, n6⟩ := hn2
    obtain ⟨j, hj, aj, ej⟩ := arg2 ok n1 n2 n3 n5 n6 n4
    have er3 := sU _ _ er
    have eL3 := sU.seq eL
    refine ⟨.ref L, rfl, .ref r, rfl, r, _, 2, .int j, rfl, rfl, SqT.of er3, dvN (k := 1) hj, L, _, j, .int (argAt d told 1), rfl, rfl, eL3, ej, ?_⟩
    refine ⟨.str d.1, rfl, by show 3 ≤ sizeLine; decide, fun W hW => ?_⟩
    have sW := sU.trans (same_new (o := .tup [.str "and", .str "or", .str "xor"]) hW)
    have qa := fun H' s' => q H' s'
    generalize argAt d told 0 = a at qa bA
    generalize argAt d told 1 = b at qa bB
    refine ⟨W, _, rfl, .inr (SqT.of upd_same), rfl, rfl, _, rfl, ite2 (fun e => ?_) (fun e => ?_)⟩
    · have hm : d.1 ∈ (["and", "or", "xor"] : List Str) := of_decide_eq_true ((inS d.1 ["and", "or", "xor"]).symm.trans e)
      intro p hp
      have hab : CMul a b := .inl (by rcases bA with rfl | rfl <;> exact ⟨by decide, by decide⟩)
      refine ⟨.int a, rfl, .int b, rfl, a, b, rfl, rfl, hab, .int a, rfl, .int b, rfl, a, b, rfl, .int a, rfl, .int b, rfl, rfl, .inr ⟨_, rfl, upd_same, [(Sum.inr "and", .int (a * b)), (Sum.inr "or", .int (if b > a then b else a)), (Sum.inr "xor", _)], rfl, (by show 3 ≤ 15; decide), .str d.1, rfl, p, ?_⟩⟩
      rw [upd_upd]
      have q1 := fun o => qa _ (sW.trans (same_new (o := o) hp))
      simp only [List.mem_cons, List.not_mem_nil, or_false] at hm
      rcases hm with hm | hm | hm <;> rw [hm] at q1 ⊢
      · refine ⟨.int (a * b), rfl, dget_at (k := Sum.inr "and") upd_same rfl, ?_⟩
        rcases bA with rfl | rfl <;> rcases bB with rfl | rfl <;> exact q1 _
      · refine ⟨.int (if b > a then b else a), rfl, dget_at (k := Sum.inr "or") upd_same rfl, ?_⟩
        rcases bA with rfl | rfl <;> rcases bB with rfl | rfl <;> exact q1 _
      · refine ⟨_, rfl, dget_at (k := Sum.inr "xor") upd_same rfl, ?_⟩
        rcases bA with rfl | rfl <;> rcases bB with rfl | rfl <;> exact q1 _
    · have hn3 : ¬ d.1 ∈ (["and", "or", "xor"] : List Str) := fun z => e ((inS d.1 ["and", "or", "xor"]).trans (decide_eq_true z))
      simp only [List.mem_cons, List.not_mem_nil, or_false, not_or] at hn3
      obtain ⟨n7, n8, n9⟩ := hn3
      refine ⟨.int a, rfl, .int b, rfl, a, b, rfl, rfl, .int c, rfl, _, c, rfl, rfl, _, 2, rfl, rfl, (by show (0 : Int) < 2; decide), ?_⟩
      have q1 := qa _ sW
      unfold dbit at q1
      rw [if_neg n1, if_neg n3, if_neg n2, if_neg n4, if_neg n5, if_neg n6, if_neg n7, if_neg n8, if_neg n9] at q1
      rcases bA with rfl | rfl <;> rcases bB with rfl | rfl <;> rcases hc with rfl | rfl <;> exact q1
def spLc (K : PySem.W.Frag) : Sp := fun vs H Q _ => ∃ (r L : Addr) (d : Deed) (told : List Int) (c : Int), vs = [.ref r, .int c, .ref L] ∧ H r = some (.tup (dV d)) ∧ SqL K H L (told.map V.int) ∧ DeedOk told.length d ∧ (∀ x ∈ told, Bit x) ∧ Bit c ∧ Q (.int (dcarAt d c told)) H
theorem ok_lc {f : Addr} {fd : FuncData} {k : Nat} (F : Fun K "_law_carry" "_law_carry" s_law_carry f fd) (mi : mg "int" = none) : FnOk P w K mg base CX0 (k + 1) f fd ["deed", "carry", "bits"] (spLc K) := by
  refine F.ok sc_law_carry (fun vs H Q E h => ?_) (fun cdv A outer s H vs Q E hr h => ?_)
  · obtain ⟨r, L, d, told, c, rfl, _⟩ := h
    rfl
  · obtain ⟨r, L, d, told, c, rfl, er, eL, ok, tb, hc, q⟩ := h
    refine ⟨_, pss_cons (ps_set (i := 3) sc_law_carry.nd rfl (.inl rfl) (pe_ix ix_tup (pv 0) pe_int (fun _ _ => rfl)))
      (pss_cons (ps_if (pt_cmpR op_eq (pv 3) pe_str (nomark _)) (pss_one (ps_ret (pe_callTy call_int1 (by rfl) mi (by decide +kernel) (pa_cons (pe_and (pe_cmpR op_eq (pe_ix ix_list (pv 2) (pe_ix ix_tup (pv 0) pe_int (fun _ _ => rfl)) (fun _ _ => rfl)) pe_int (nomark _)) (pe_one (pe_cmpR op_eq (pv 1) pe_int (nomark _)))) pa_nil)))) pss_nil)
      (pss_cons (ps_if (pt_cmpR op_eq (pv 3) pe_str (nomark _)) (pss_one (ps_ret (pe_ix ix_list (pv 2) (pe_ix ix_tup (pv 0) pe_int (fun _ _ => rfl)) (fun _ _ => rfl)))) pss_nil)
      (pss_cons (ps_if (pt_cmpR op_eq (pv 3) pe_str (nomark _)) (pss_one (ps_ret (pe_op op_fdiv (pe_op op_add (pe_op op_add (pe_ix ix_list (pv 2) (pe_ix ix_tup (pv 0) pe_int (fun _ _ => rfl)) (fun _ _ => rfl)) (pe_ix ix_list (pv 2) (pe_ix ix_tup (pv 0) pe_int (fun _ _ => rfl)) (fun _ _ => rfl))) (pv 1)) pe_int))) pss_nil)
      (pss_cons (ps_if (pt_cmpR op_eq (pv 3) pe_str (nomark _)) (pss_one (ps_ret (pe_op op_fdiv (pe_op op_add (pe_op op_add (pe_op op_sub pe_int (pe_ix ix_list (pv 2) (pe_ix ix_tup (pv 0) pe_int (fun _ _ => rfl)) (fun _ _ => rfl))) (pe_ix ix_list (pv 2) (pe_ix ix_tup (pv 0) pe_int (fun _ _ => rfl)) (fun _ _ => rfl))) (pv 1)) pe_int))) pss_nil)
      (pss_one (ps_ret pe_int)))))), ?_⟩
    unfold dcarAt dcar at q
    have bA := argAt_bit tb d 0
    refine ⟨.ref r, rfl, r, _, 0, .str d.1, rfl, rfl, SqT.of er, dv0 d, ?_⟩
    refine ⟨.str d.1, rfl, rfl, _, rfl, ite2 (fun e => ?_) (fun n1 => ?_)⟩
    · rw [if_pos (strEq e)] at q
      have e2 := strEq e
      obtain ⟨i, hi, ai, ei⟩ := arg1 ok (by rw [e2]; decide +kernel) (by rw [e2]; decide +kernel) (by rw [e2]; decide +kernel)
      refine ⟨.ref L, rfl, .ref r, rfl, r, _, 1, .int i, rfl, rfl, SqT.of er, dvN (k := 0) hi, L, _, i, .int (argAt d told 0), rfl, rfl, eL, ei, rfl, _, rfl, ?_⟩
      generalize argAt d told 0 = a at q bA
      rcases bA with rfl | rfl
      · refine ⟨.int c, rfl, rfl, .inr ⟨_, rfl, ?_⟩⟩
        rcases hc with rfl | rfl
        · exact q
        · exact q
      · refine .inr ⟨_, rfl, ?_⟩
        rcases hc with rfl | rfl
        · exact q
        · exact q
    rw [if_neg (strNe n1)] at q
    refine ⟨.str d.1, rfl, rfl, _, rfl, ite2 (fun e => ?_) (fun n2 => ?_)⟩
    · rw [if_pos (strEq e)] at q
      have e2 := strEq e
      obtain ⟨i, hi, ai, ei⟩ := arg1 ok (by rw [e2]; decide +kernel) (by rw [e2]; decide +kernel) (by rw [e2]; decide +kernel)
      exact ⟨.ref L, rfl, .ref r, rfl, r, _, 1, .int i, rfl, rfl, SqT.of er, dvN (k := 0) hi, L, _, i, _, rfl, rfl, eL, ei, q⟩
    rw [if_neg (strNe n2)] at q
    refine ⟨.str d.1, rfl, rfl, _, rfl, ite2 (fun e => ?_) (fun n3 => ?_)⟩
    · rw [if_pos (strEq e)] at q
      have e2 := strEq e
      obtain ⟨i, hi, ai, ei⟩ := arg1 ok (by rw [e2]; decide +kernel) (by rw [e2]; decide +kernel) (by rw [e2]; decide +kernel)
      obtain ⟨j, hj, aj, ej⟩ := arg2 ok (by rw [e2]; decide +kernel) (by rw [e2]; decide +kernel) (by rw [e2]; decide +kernel) (by rw [e2]; decide +kernel) (by rw [e2]; decide +kernel) (by rw [e2]; decide +kernel)
      exact ⟨.ref L, rfl, .ref r, rfl, r, _, 1, .int i, rfl, rfl, SqT.of er, dvN (k := 0) hi, L, _, i, _, rfl, rfl, eL, ei, .ref L, rfl, .ref r, rfl, r, _, 2, .int j, rfl, rfl, SqT.of er, dvN (k := 1) hj, L, _, j, _, rfl, rfl, eL, ej, _, _, rfl, rfl, .int c, rfl, _, _, rfl, rfl, _, 2, rfl, rfl, ⟨by decide, by decide⟩, q⟩
    rw [if_neg (strNe n3)] at q
    refine ⟨.str d.1, rfl, rfl, _, rfl, ite2 (fun e => ?_) (fun n4 => ?_)⟩
    · rw [if_pos (strEq e)] at q
      have e2 := strEq e
      obtain ⟨i, hi, ai, ei⟩ := arg1 ok (by rw [e2]; decide +kernel) (by rw [e2]; decide +kernel) (by rw [e2]; decide +kernel)
      obtain ⟨j, hj, aj, ej⟩ := arg2 ok (by rw [e2]; decide +kernel) (by rw [e2]; decide +kernel) (by rw [e2]; decide +kernel) (by rw [e2]; decide +kernel) (by rw [e2]; decide +kernel) (by rw [e2]; decide +kernel)
      exact ⟨.ref L, rfl, .ref r, rfl, r, _, 1, .int i, rfl, rfl, SqT.of er, dvN (k := 0) hi, L, _, i, _, rfl, rfl, eL, ei, 1, _, rfl, rfl, .ref L, rfl, .ref r, rfl, r, _, 2, .int j, rfl, rfl, SqT.of er, dvN (k := 1) hj, L, _, j, _, rfl, rfl, eL, ej, _, _, rfl, rfl, .int c, rfl, _, _, rfl, rfl, _, 2, rfl, rfl, ⟨by decide, by decide⟩, q⟩
    rw [if_neg (strNe n4)] at q
    exact q
/-! ### the law's step -/
def spLs : Sp := fun vs H Q _ => ∃ (R C B : Addr) (m o : Int) (ds : List Deed) (cs bs : List Int), vs = [.ref R, .ref C, .ref B] ∧ RowAt H R m ds o ∧ DsOk m ds ∧ ds.length ≤ 100 ∧ H C = some (.tup (cs.map V.int)) ∧ cs.length = ds.length ∧ H B = some (.tup (bs.map V.int)) ∧ (bs.length : Int) = m ∧ bs.length ≤ 100 ∧
  (∀ x ∈ cs, Bit x) ∧ (∀ x ∈ bs, Bit x) ∧ ∀ H' p A2 B2, Same H H' → H' p = some (.tup [.ref A2, .ref B2]) → H' A2 = some (.tup ((bts ds cs bs).map V.int)) → H' B2 = some (.tup ((nxt ds cs (bts ds cs bs)).map V.int)) → Q (.ref p) H'
theorem ok_ls {f fB fC : Addr} {fd fdB fdC : FuncData} {k : Nat} (F : Fun K "_law_step" "_law_step" s_law_step f fd) (GB : FnOk P w K mg base CX0 (k + 1) fB fdB ["deed", "carry", "bits"] (spLb K)) (kB : PySem.W.keepIn K (.ref fB) = true) (bB : Binds K fdB ["deed", "carry", "bits"] []) (gB : mg "_law_bit" = some (.ref fB))
    (GC : FnOk P w K mg base CX0 (k + 1) fC fdC ["deed", "carry", "bits"] (spLc K)) (kC : PySem.W.keepIn K (.ref fC) = true) (bC : Binds K fdC ["deed", "carry", "bits"] []) (gC : mg "_law_carry" = some (.ref fC)) (ml : mg "list" = none) (mt : mg "tuple" = none) (mz : mg "zip" = none) : FnOk P w K mg base CX0 (k + 2) f fd ["row", "carry", "bits"] spLs := by
  refine F.ok sc_law_step (fun vs H Q E h => ?_) (fun cdv A outer s H vs Q E hr h => ?_)
  · obtain ⟨R, C, B, m, o, ds, cs, bs, rfl, _⟩ := h
    rfl
  · obtain ⟨R, C, B, m, o, ds, cs, bs, rfl, hrow, hok, hds, eC, hcl, eB, hm, hbl, cb, bb, q⟩ := h
    obtain ⟨D, rs, eR, eD, hd⟩ := id hrow
    refine ⟨_, pss_cons (ps_set (i := 3) sc_law_step.nd rfl (.inr rfl) (pe_callTy call_list_of (by rfl) ml (by decide +kernel) (pa_cons (pv 2) pa_nil)))
      (pss_cons (ps_for PassesOwn.never rfl (RZ.pi_zipA (by rfl) mz (pa_cons (pe_ix ix_tup (pv 0) pe_int (fun _ _ => rfl)) (pa_cons (pv 1) pa_nil))) (pg_tup rfl (pgs_cons (pg_name (i := 4) sc_law_step.nd rfl (.inl rfl)) (pgs_cons (pg_name (i := 5) sc_law_step.nd rfl (.inl rfl)) pgs_nil)))
        (pss_one (ps_expr (pe_bm PySem.F.plainAttrs_list PySem.F.slot_list_append PySem.F.type_list_append mt_append (pv 3) (pa_cons (pe_call GB hr (by rfl) gB kB bB .nil pass0 (pa_cons (pv 4) (pa_cons (pv 5) (pa_cons (pv 3) pa_nil)))) pa_nil)))))
      (pss_one (ps_ret (pe_tup (pa_cons (pe_callTy call_tuple_of (by rfl) mt (by decide +kernel) (pa_cons (pv 3) pa_nil)) (pa_cons (pe_callTy call_tuple_of (by rfl) mt (by decide +kernel) (pa_cons
        (pe_lc (own := [("deed", 4), ("one", 5)]) (g := gTup K 2 (gCons (gName 4) (gCons (gName 5) gNil))) (by rfl) sc_law_step.nd (RZ.pi_zipA (by rfl) mz (pa_cons (pe_ix ix_tup (pv 0) pe_int (fun _ _ => rfl)) (pa_cons (pv 1) pa_nil))) (blkOk_by (own := [("deed", 4), ("one", 5)]) (N := N_law_step) (sc := defScope s_law_step) (by decide +kernel))
          (fun _ _ _ _ _ => pg_tup rfl (pgs_cons (pg_name (i := 4) sc_law_step.nd rfl (.inl rfl)) (pgs_cons (pg_name (i := 5) sc_law_step.nd rfl (.inl rfl)) pgs_nil))) (fun _ _ _ _ _ => pts_nil)
          (fun _ _ _ _ _ => pe_call GC hr (by rfl) gC kC bC .nil pass0 (pa_cons (pv 4) (pa_cons (pv 5) (pa_cons (pv 3) pa_nil))))) pa_nil)) pa_nil)))))), ?_⟩
    refine ⟨.ref B, rfl, B, _, rfl, .inr (SqT.of eB), fun L hL => ?_⟩
    have sL := same_new (o := .lst (bs.map V.int)) hL
    have lrs : (rs.map V.ref).length = ds.length := by rw [List.length_map, awLen hd]
    have lcs : (cs.map V.int).length = ds.length := by rw [List.length_map, hcl]
    have tl : (bts ds cs bs).length = bs.length + ds.length := bts_len hcl.symm
    have allbits : ∀ x ∈ bts ds cs bs, Bit x := bts_bits bb cb
    refine ⟨.ref R, rfl, R, _, 1, .ref D, rfl, rfl, SqT.of (sL _ _ eR), rfl, .ref C, rfl, D, C, _, _, rfl, .inr ⟨SqT.of (sL _ _ eD), SqT.of (sL _ _ eC), RZ.for_zipT (K := K) (xs := rs.map V.ref) (ys := cs.map V.int) (lrs.trans lcs.symm) (fun i σ H3 => ∃ y4 y5, σ = [some (.ref R), some (.ref C), some (.ref B), some (.ref L), y4, y5] ∧ H3 L = some (.lst ((bts (ds.take i) (cs.take i) bs).map V.int)) ∧ Same H H3) ⟨none, none, rfl, by rw [upd_same]; cases ds <;> rfl, sL⟩ (fun i σ H3 hp => ?_) (fun i x y T σ H3 hx hy hp hT => ?_) (fun σ H3 hp => ?_)⟩⟩
    · obtain ⟨_, _, _, _, sm⟩ := hp
      exact ⟨SqT.of (sm _ _ eD), SqT.of (sm _ _ eC)⟩
    · obtain ⟨y4, y5, rfl, e3, sm⟩ := hp
      have hi : i < rs.length := by
        have := (List.getElem?_eq_some_iff.mp hx).1
        rwa [List.length_map] at this
      have hx' : x = .ref rs[i] := by
        rw [List.getElem?_map, List.getElem?_eq_getElem hi] at hx
        exact (Option.some.inj hx).symm
      subst hx'
      obtain ⟨d, hd1, hd2⟩ := awGet hd (List.getElem?_eq_getElem hi)
      obtain ⟨c, hc, rfl⟩ : ∃ c, cs[i]? = some c ∧ y = .int c := by
        rw [List.getElem?_map] at hy
        cases e : cs[i]? with
        | none => rw [e] at hy; cases hy
        | some c => rw [e] at hy; exact ⟨c, rfl, (Option.some.inj hy).symm⟩
      have h2 : i < ds.length := by
        rw [← awLen hd]
        exact hi
      have hlen : (bts (ds.take i) (cs.take i) bs).length = bs.length + i := by
        rw [bts_len (by rw [List.length_take, List.length_take, hcl]), List.length_take, Nat.min_eq_left (Nat.le_of_lt h2)]
      have okd : DeedOk (bts (ds.take i) (cs.take i) bs).length d := by
        rw [hlen]
        have := hok.each i d hd1
        rw [← hm] at this
        exact this
      have sT := same_new (o := .tup [.ref rs[i], .int c]) hT
      have e4 := sT _ _ e3
      refine ⟨T, [.ref rs[i], .int c], rfl, .inl (.inl upd_same), rfl, .ref rs[i], [.int c], rfl, .int c, [], rfl, rfl, ?_⟩
      refine ⟨.ref L, rfl, .inl ⟨rfl, _, .inl (.inl e4)⟩, .ref rs[i], rfl, .int c, rfl, .ref L, rfl, rs[i], L, d, _, c, rfl, sT _ _ (sm _ _ hd2), .inl (.inl e4), okd, bts_bits bb (fun x hx => cb x (List.mem_of_mem_take hx)), cb c (List.mem_of_getElem? hc), fun H5 s5 => ?_⟩
      refine ⟨L, _, _, rfl, rfl, s5 _ _ e4, ?_, some (.ref rs[i]), some (.int c), rfl, ?_, ?_⟩
      · rw [List.length_map, hlen]
        exact small1000 (by omega)
      · rw [upd_same, bts_next hd1 hc, List.map_append]
        rfl
      · intro b u e
        rw [upd_ne (ne_of_none e hL)]
        exact s5 b u (sT b u (sm b u e))
    · obtain ⟨y4, y5, rfl, e3, sm⟩ := hp
      rw [lrs, List.take_length, ← hcl, List.take_length] at e3
      refine ⟨.ref L, rfl, L, _, rfl, .inl ⟨.inl (.inl e3), fun A2 hA2 => ?_⟩⟩
      have s2 := sm.trans (same_new (o := .tup ((bts ds cs bs).map V.int)) hA2)
      have eA2 : upd H3 A2 (.tup ((bts ds cs bs).map V.int)) A2 = some (.tup ((bts ds cs bs).map V.int)) := upd_same
      have eL2 : upd H3 A2 (.tup ((bts ds cs bs).map V.int)) L = some (.lst ((bts ds cs bs).map V.int)) := same_new hA2 _ _ e3
      generalize upd H3 A2 (.tup ((bts ds cs bs).map V.int)) = H4 at s2 eA2 eL2
      refine ⟨.ref R, rfl, R, _, 1, .ref D, rfl, rfl, SqT.of (s2 _ _ eR), rfl, .ref C, rfl, D, C, _, _, rfl, .inr ⟨SqT.of (s2 _ _ eD), SqT.of (s2 _ _ eC), fun M hM => ?_⟩⟩
      refine lc_it (walk_zipT (K := K) (a := D) (b := C) (xs := rs.map V.ref) (ys := cs.map V.int) (lrs.trans lcs.symm)) (fun i H5 => H5 M = some (.lst (((nxt ds cs (bts ds cs bs)).take i).map V.int)) ∧ Same H4 H5) ⟨upd_same, same_new hM⟩ (fun i H5 _ hp => ⟨SqT.of (hp.2 _ _ (s2 _ _ eD)), SqT.of (hp.2 _ _ (s2 _ _ eC))⟩) (fun i x H5 H6 hi hp hy => ?_) (fun H5 hp => ?_)
      · obtain ⟨eM, sm5⟩ := hp
        obtain ⟨U, x1, x2, rfl, hU, rfl, g1, g2⟩ := hy
        have hi2 : i < rs.length := by rwa [List.length_map] at hi
        have hx' : x1 = .ref rs[i] := by
          have g1' : (rs.map V.ref)[i]? = some x1 := g1
          rw [List.getElem?_map, List.getElem?_eq_getElem hi2] at g1'
          exact (Option.some.inj g1').symm
        subst hx'
        obtain ⟨d, hd1, hd2⟩ := awGet hd (List.getElem?_eq_getElem hi2)
        obtain ⟨c, hc, rfl⟩ : ∃ c, cs[i]? = some c ∧ x2 = .int c := by
          have g2' : (cs.map V.int)[i]? = some x2 := g2
          rw [List.getElem?_map] at g2'
          cases e : cs[i]? with
          | none => rw [e] at g2'; cases g2'
          | some c => rw [e] at g2'; exact ⟨c, rfl, (Option.some.inj g2').symm⟩
        have h2 : i < ds.length := by
          rw [← awLen hd]
          exact hi2
        have okd : DeedOk (bts ds cs bs).length d := okd_more (hok.each i d hd1) (by omega)
        have sU := same_new (o := .tup [.ref rs[i], .int c]) hU
        refine ⟨U, [.ref rs[i], .int c], rfl, .inl (.inl upd_same), rfl, .ref rs[i], [.int c], rfl, .int c, [], rfl, rfl, rfl, ?_⟩
        refine ⟨.ref rs[i], rfl, .int c, rfl, .ref L, rfl, rs[i], L, d, _, c, rfl, sU _ _ (sm5 _ _ (s2 _ _ hd2)), .inl (.inl (sU _ _ (sm5 _ _ eL2))), okd, allbits, cb c (List.mem_of_getElem? hc), _, sU _ _ eM, ?_, ?_, ?_⟩
        · rw [List.length_map, List.length_take, nxt_len hcl.symm]
          exact small1000 (by omega)
        · rw [upd_same, nxt_next hd1 hc, List.map_append]
          rfl
        · intro b u e
          rw [upd_ne (ne_of_none e hM)]
          exact sU b u (sm5 b u e)
      · obtain ⟨eM, sm5⟩ := hp
        rw [lrs, ← nxt_len (t := bts ds cs bs) hcl.symm, List.take_length] at eM
        refine ⟨M, _, rfl, .inl ⟨.inl (.inl eM), fun B2 hB2 => ?_⟩⟩
        refine ⟨by show 2 ≤ sizeLine; decide, fun p hp => ?_⟩
        have sB := sm5.trans (same_new (o := .tup ((nxt ds cs (bts ds cs bs)).map V.int)) hB2)
        have sp := same_new (o := .tup [.ref A2, .ref B2]) hp
        exact q _ p A2 B2 ((s2.trans sB).trans sp) upd_same (sp _ _ (sB _ _ eA2)) (sp _ _ upd_same)
/-! ### the law's first carry -/
theorem ok_lf {f : Addr} {fd : FuncData} {k : Nat} (F : Fun K "_law_first" "_law_first" s_law_first f fd) (mt : mg "tuple" = none) (mi : mg "int" = none) : FnOk P w K mg base CX0 (k + 1) f fd ["row"] spFc := by
  refine F.ok sc_law_first (fun vs H Q E h => ?_) (fun cdv A outer s H vs Q E hr h => ?_)
  · obtain ⟨R, m, o, ds, rfl, _⟩ := h
    rfl
  · obtain ⟨R, m, o, ds, rfl, hrow, hl, q⟩ := h
    obtain ⟨D, rs, eR, eD, hd⟩ := id hrow
    refine ⟨_, pss_one (ps_ret (pe_callTy call_tuple_of (by rfl) mt (by decide +kernel) (pa_cons
      (pe_lc (own := [("deed", 1)]) (g := gName 1) (by rfl) sc_law_first.nd (pi_tup (pe_ix ix_tup (pv 0) pe_int (fun _ _ => rfl))) (blkOk_by (own := [("deed", 1)]) (N := N_law_first) (sc := defScope s_law_first) (by decide +kernel))
        (fun _ _ _ _ _ => pg_name (i := 1) sc_law_first.nd rfl (Or.inl rfl)) (fun _ _ _ _ _ => pts_nil)
        (fun _ _ _ _ _ => pe_callTy call_int1 (by rfl) mi (by decide +kernel) (pa_cons (pe_cmpR (r := rIn K false) op_in_seq (pe_ix (r := rIxT K) ix_tup (pv 1) pe_int (fun _ _ => rfl)) (pe_tup (pa_cons pe_str (pa_cons pe_str pa_nil))) (by rfl)) pa_nil))) pa_nil))), ?_⟩
    refine ⟨.ref R, rfl, R, _, 1, .ref D, rfl, rfl, SqT.of eR, rfl, D, rfl, ⟨_, SqT.of eD⟩, fun L hL => ?_⟩
    refine lc_tup (K := K) (a := D) (xs := rs.map V.ref) (fun i H4 => H4 L = some (.lst (((ds.take i).map fcD).map V.int)) ∧ Same H H4) ⟨upd_same, same_new hL⟩ (fun i H4 _ hp => SqT.of (hp.2 _ _ eD)) (fun i x H4 hx hp => ?_) (fun H4 hp => ?_)
    · obtain ⟨eL, sm⟩ := hp
      have hi : i < rs.length := by
        have := (List.getElem?_eq_some_iff.mp hx).1
        rwa [List.length_map] at this
      have hx' : x = .ref rs[i] := by
        rw [List.getElem?_map, List.getElem?_eq_getElem hi] at hx
        exact (Option.some.inj hx).symm
      subst hx'
      obtain ⟨d, hd1, hd2⟩ := awGet hd (List.getElem?_eq_getElem hi)
      refine ⟨rfl, .ref rs[i], rfl, rs[i], _, 0, .str d.1, rfl, rfl, SqT.of (sm _ _ hd2), dv0 d, by show 2 ≤ sizeLine; decide, fun T hT => ?_⟩
      have sT := same_new (o := .tup [.str "neg", .str "one"]) hT
      have eL2 := sT _ _ eL
      have old : ∀ o, Same H (upd (upd H4 T (.tup [.str "neg", .str "one"])) L o) := fun o b u e => by
        rw [upd_ne (ne_of_none e hL)]
        exact sT b u (sm b u e)
      have small : (((ds.take i).map fcD).map V.int).length < sizeLine := by
        rw [List.length_map, List.length_map, List.length_take]
        exact small1000 (by omega)
      have hin : inV (.str d.1) [.str "neg", .str "one"] = decide (d.1 ∈ (["neg", "one"] : List Str)) := inS d.1 ["neg", "one"]
      refine ⟨T, _, rfl, .inr (SqT.of upd_same), rfl, rfl, .inr ⟨_, rfl, _, eL2, small, ?_, old _⟩⟩
      rw [upd_same, List.take_add_one, hd1]
      have e1 : fcD d = if inV (.str d.1) [.str "neg", .str "one"] = true then 1 else 0 := by
        rw [hin]
        unfold fcD
        by_cases hm : d.1 ∈ (["neg", "one"] : List Str)
        · rw [if_pos hm, if_pos (decide_eq_true hm)]
        · rw [if_neg hm, if_neg (by simpa using hm)]
      simp only [Option.toList_some, List.map_append, List.map_cons, List.map_nil, e1]
      rfl
    · obtain ⟨eL, sm⟩ := hp
      rw [List.length_map, awLen hd, List.take_length] at eL
      refine ⟨L, _, rfl, .inl ⟨.inl (.inl eL), fun p hp => ?_⟩⟩
      exact q _ p (sm.trans (same_new hp)) (sm.free hp) upd_same
/-! ### all bits -/
/-- tuples of so many bits -/
def BitsAt (H : Hp) (n : Nat) (f : Addr) : Prop := ∃ bs : List Int, H f = some (.tup (bs.map V.int)) ∧ bs.length = n ∧ ∀ x ∈ bs, Bit x
theorem BitsAt.stay {H H' : Hp} {n : Nat} {f : Addr} (h : BitsAt H n f) (t : TupsStay H H') : BitsAt H' n f := by
  obtain ⟨bs, e, r⟩ := h
  exact ⟨bs, t _ _ e, r⟩
theorem refs_of {fs : List Addr} : ∀ ys : List V, (∀ y ∈ ys, ∃ g, g ∈ fs ∧ y = .ref g) → ∃ fs2 : List Addr, ys = fs2.map V.ref ∧ ∀ g ∈ fs2, g ∈ fs
  | [], _ => ⟨[], rfl, (fun _ z => nomatch z)⟩
  | y :: ys, all => by
    obtain ⟨g, hg, rfl⟩ := all y List.mem_cons_self
    obtain ⟨fs2, rfl, h2⟩ := refs_of ys fun z hz => all z (List.mem_cons_of_mem _ hz)
    refine ⟨g :: fs2, rfl, fun z hz => ?_⟩
    rcases List.mem_cons.mp hz with rfl | hz
    · exact hg
    · exact h2 z hz
def spAb : Sp := fun vs H Q _ => ∃ m : Nat, vs = [.int (m : Int)] ∧ 1 ≤ m ∧ m ≤ 3 ∧ ∀ H' p (fs : List Addr), Same H H' → H' p = some (.lst (fs.map V.ref)) → fs.length = 2 ^ m → (∀ f ∈ fs, BitsAt H' m f) → Q (.ref p) H'
theorem ok_ab {f : Addr} {fd : FuncData} {k : Nat} (F : Fun K "_law_bits" "_law_bits" s_law_bits f fd) (mr : mg "range" = none) (ms : mg "sorted" = none) : FnOk P w K mg base CX0 (k + 1) f fd ["many"] spAb := by
  refine F.ok sc_law_bits (fun vs H Q E h => ?_) (fun cdv A outer s H vs Q E hr h => ?_)
  · obtain ⟨m, rfl, _⟩ := h
    rfl
  · obtain ⟨m, rfl, m1, m3, q⟩ := h
    refine ⟨_, pss_cons (ps_set (i := 1) sc_law_bits.nd rfl (.inl rfl) (pe_lst (pa_cons (pe_tup pa_nil) pa_nil)))
      (pss_cons (ps_for PassesOwn.never rfl (pi_range1 (by rfl) mr (pa_cons (pv 0) pa_nil)) (pg_name (i := 2) sc_law_bits.nd rfl (.inl rfl))
        (pss_one (ps_set (i := 1) sc_law_bits.nd rfl (.inl rfl) (pe_op op_cat
          (pe_lc (own := [("some", 3)]) (g := gName 3) (by rfl) sc_law_bits.nd (pi_list (pv 1)) (blkOk_by (own := [("some", 3)]) (N := N_law_bits) (sc := defScope s_law_bits) (by decide +kernel)) (fun _ _ _ _ _ => pg_name (i := 3) sc_law_bits.nd rfl (Or.inl rfl)) (fun _ _ _ _ _ => pts_nil) (fun _ _ _ _ _ => pe_op op_catZ (pv 3) (pe_tup (pa_cons pe_int pa_nil))))
          (pe_lc (own := [("some", 3)]) (g := gName 3) (by rfl) sc_law_bits.nd (pi_list (pv 1)) (blkOk_by (own := [("some", 3)]) (N := N_law_bits) (sc := defScope s_law_bits) (by decide +kernel)) (fun _ _ _ _ _ => pg_name (i := 3) sc_law_bits.nd rfl (Or.inl rfl)) (fun _ _ _ _ _ => pts_nil) (fun _ _ _ _ _ => pe_op op_catZ (pv 3) (pe_tup (pa_cons pe_int pa_nil))))))))
      (pss_one (ps_ret (pe_callB (cr_sortT (d := m) (B := 2) m1) (by rfl) ms (by decide +kernel) (pa_cons (pv 1) pa_nil))))), ?_⟩
    refine ⟨by show 0 ≤ sizeLine; decide, fun T hT => ?_⟩
    refine ⟨by show 1 ≤ sizeLine; decide, fun L hL => ?_⟩
    have s1 := same_new (o := .tup []) hT
    have s2 := same_new (o := .lst [.ref T]) hL
    refine ⟨.int m, rfl, m, rfl, by omega, by omega, for_range (lo := 0) (n := m) (fun i σ H3 => ∃ y2 F1 fs, σ = [some (.int (m : Int)), some (.ref F1), y2, none] ∧ H3 F1 = some (.lst (fs.map V.ref)) ∧ fs.length = 2 ^ i ∧ (∀ f ∈ fs, BitsAt H3 i f) ∧ Same H H3) ⟨none, L, [T], rfl, upd_same, rfl, fun f hf => ?_, s1.trans s2⟩ (fun i σ H3 hi hp => ?_) (fun σ H3 hp => ?_)⟩
    · rw [List.mem_singleton.mp hf]
      exact ⟨[], s2 _ _ upd_same, rfl, (fun _ z => nomatch z)⟩
    · obtain ⟨y2, F1, fs, rfl, eF, hfl, hfb, sm⟩ := hp
      have fs8 : fs.length ≤ 8 := by
        rw [hfl]
        exact Nat.le_trans (Nat.pow_le_pow_right (by decide) (show i ≤ 3 by omega)) (by decide)
      -- one of the two lists
      have one : ∀ (b : Int) (H4 : Hp), Bit b → Same H3 H4 → ∀ j x H5, (∃ gs : List Addr, gs.length = j ∧ (∃ M, H5 M = some (.lst (gs.map V.ref))) ∧ (∀ g ∈ gs, BitsAt H5 (i + 1) g) ∧ Same H4 H5) → (fs.map V.ref)[j]? = some x → ∃ (f : Addr) (bs : List Int), x = .ref f ∧ H5 f = some (.tup (bs.map V.int)) ∧ bs.length = i ∧ ∀ y ∈ bs, Bit y := by
        rintro b H4 hb s4 j x H5 ⟨gs, _, _, _, s5⟩ hx
        rw [List.getElem?_map] at hx
        cases e : fs[j]? with
        | none => rw [e] at hx; cases hx
        | some f =>
          rw [e] at hx
          obtain ⟨bs, e1, e2, e3⟩ := hfb f (List.mem_of_getElem? e)
          exact ⟨f, bs, (Option.some.inj hx).symm, s5 _ _ (s4 _ _ e1), e2, e3⟩
      refine ⟨.ref F1, rfl, F1, rfl, ⟨_, .inl (.inl eF)⟩, fun M hM => ?_⟩
      refine lc_list (K := K) (a := F1) (xs := fs.map V.ref) (fun j H4 => ∃ gs : List Addr, gs.length = j ∧ H4 M = some (.lst (gs.map V.ref)) ∧ (∀ g ∈ gs, BitsAt H4 (i + 1) g) ∧ Same H3 H4) ⟨[], rfl, upd_same, (fun _ z => nomatch z), same_new hM⟩ (fun j H4 _ hp => ?_) (fun j x H4 hx hp => ?_) (fun H4 hp => ?_)
      · obtain ⟨_, _, _, _, s4⟩ := hp
        exact .inl (.inl (s4 _ _ eF))
      · obtain ⟨gs, hgl, eM, hgb, s4⟩ := hp
        obtain ⟨g0, bs, rfl, eg0, hbl, hbb⟩ := one 0 H3 bit0 (Same.refl H3) j x H4 ⟨gs, hgl, ⟨M, eM⟩, hgb, s4⟩ hx
        have hj : j < fs.length := by
          have := (List.getElem?_eq_some_iff.mp hx).1
          rwa [List.length_map] at this
        refine ⟨rfl, .ref g0, rfl, by show 1 ≤ sizeLine; decide, fun U hU => ?_⟩
        have sU := same_new (o := .tup [.int 0]) hU
        refine ⟨g0, U, _, _, rfl, rfl, sU _ _ eg0, upd_same, by rw [List.length_map]; exact Nat.le_of_lt (small1000 (by show bs.length + 1 ≤ 1000; omega)), fun p H5 s5 ep => ?_⟩
        have s45 := sU.trans s5
        have eM5 := s45 _ _ eM
        refine ⟨_, eM5, by rw [List.length_map]; exact small1000 (by omega), gs ++ [p], by rw [List.length_append, hgl]; rfl, ?_, ?_, ?_⟩
        · rw [upd_same, List.map_append]
          rfl
        · intro g hg
          have tp := tups_put (o := .lst (gs.map V.ref ++ [V.ref p])) eM5
          rcases List.mem_append.mp hg with hg | hg
          · exact (hgb g hg).stay ((Same.tups s45).trans tp)
          · rw [List.mem_singleton.mp hg]
            refine ⟨bs ++ [0], tp _ _ (by rw [ep, List.map_append]; rfl), by rw [List.length_append, hbl]; rfl, fun y hy => ?_⟩
            rcases List.mem_append.mp hy with hy | hy
            · exact hbb y hy
            · rw [List.mem_singleton.mp hy]
              exact bit0
        · intro b u e
          rw [upd_ne (ne_of_none e hM)]
          exact s45 b u (s4 b u e)
      · obtain ⟨gs, hgl, eM, hgb, s4⟩ := hp
        refine ⟨.ref F1, rfl, F1, rfl, ⟨_, .inl (.inl (s4 _ _ eF))⟩, fun M2 hM2 => ?_⟩
        refine lc_list (K := K) (a := F1) (xs := fs.map V.ref) (fun j H5 => ∃ hs : List Addr, hs.length = j ∧ H5 M2 = some (.lst (hs.map V.ref)) ∧ (∀ g ∈ hs, BitsAt H5 (i + 1) g) ∧ Same H4 H5) ⟨[], rfl, upd_same, (fun _ z => nomatch z), same_new hM2⟩ (fun j H5 _ hp => ?_) (fun j x H5 hx hp => ?_) (fun H5 hp => ?_)
        · obtain ⟨_, _, _, _, s5⟩ := hp
          exact .inl (.inl (s5 _ _ (s4 _ _ eF)))
        · obtain ⟨hs, hhl, eM2, hhb, s5⟩ := hp
          obtain ⟨g0, bs, rfl, eg0, hbl, hbb⟩ := one 1 H4 bit1 s4 j x H5 ⟨hs, hhl, ⟨M2, eM2⟩, hhb, s5⟩ hx
          have hj : j < fs.length := by
            have := (List.getElem?_eq_some_iff.mp hx).1
            rwa [List.length_map] at this
          refine ⟨rfl, .ref g0, rfl, by show 1 ≤ sizeLine; decide, fun U hU => ?_⟩
          have sU := same_new (o := .tup [.int 1]) hU
          refine ⟨g0, U, _, _, rfl, rfl, sU _ _ eg0, upd_same, by rw [List.length_map]; exact Nat.le_of_lt (small1000 (by show bs.length + 1 ≤ 1000; omega)), fun p H6 s6 ep => ?_⟩
          have s56 := sU.trans s6
          have eM6 := s56 _ _ eM2
          refine ⟨_, eM6, by rw [List.length_map]; exact small1000 (by omega), hs ++ [p], by rw [List.length_append, hhl]; rfl, ?_, ?_, ?_⟩
          · rw [upd_same, List.map_append]
            rfl
          · intro g hg
            have tp := tups_put (o := .lst (hs.map V.ref ++ [V.ref p])) eM6
            rcases List.mem_append.mp hg with hg | hg
            · exact (hhb g hg).stay ((Same.tups s56).trans tp)
            · rw [List.mem_singleton.mp hg]
              refine ⟨bs ++ [1], tp _ _ (by rw [ep, List.map_append]; rfl), by rw [List.length_append, hbl]; rfl, fun y hy => ?_⟩
              rcases List.mem_append.mp hy with hy | hy
              · exact hbb y hy
              · rw [List.mem_singleton.mp hy]
                exact bit1
          · intro b u e
            rw [upd_ne (ne_of_none e hM2)]
            exact s56 b u (s5 b u e)
        · obtain ⟨hs, hhl, eM2, hhb, s5⟩ := hp
          have lg : gs.length = fs.length := by rw [hgl, List.length_map]
          have lh : hs.length = fs.length := by rw [hhl, List.length_map]
          refine ⟨M, M2, _, _, rfl, rfl, s5 _ _ eM, eM2, by rw [List.length_map, List.length_map]; exact Nat.le_of_lt (small1000 (by omega)), fun p hp => ?_⟩
          have sp := same_new (o := .lst (gs.map V.ref ++ hs.map V.ref)) hp
          refine ⟨some (.int (0 + i)), p, gs ++ hs, rfl, ?_, ?_, fun g hg => ?_, ((sm.trans s4).trans s5).trans sp⟩
          · rw [upd_same, List.map_append]
          · rw [List.length_append, lg, lh, hfl, Nat.pow_succ]
            omega
          · rcases List.mem_append.mp hg with hg | hg
            · exact (hgb g hg).stay (Same.tups (s5.trans sp))
            · exact (hhb g hg).stay (Same.tups sp)
    · obtain ⟨y2, F1, fs, rfl, eF, hfl, hfb, sm⟩ := hp
      have fs8 : fs.length ≤ 8 := by
        rw [hfl]
        exact Nat.le_trans (Nat.pow_le_pow_right (by decide) m3) (by decide)
      refine ⟨.ref F1, rfl, F1, _, rfl, .inl (.inl eF), by rw [List.length_map]; omega, fun x hx => ?_, fun ys p perm _ hp => ?_⟩
      · obtain ⟨g, hg, rfl⟩ := List.mem_map.mp hx
        obtain ⟨bs, e1, e2, e3⟩ := hfb g hg
        refine ⟨bs, ⟨g, rfl, SqT.of e1⟩, e2, fun y hy => ?_⟩
        rcases e3 y hy with rfl | rfl
        · exact ⟨by decide, by decide⟩
        · exact ⟨by decide, by decide⟩
      · obtain ⟨fs2, rfl, perm2⟩ : ∃ fs2 : List Addr, ys = fs2.map V.ref ∧ ∀ g ∈ fs2, g ∈ fs := by
          have all : ∀ y ∈ ys, ∃ g, g ∈ fs ∧ y = .ref g := fun y hy => by
            obtain ⟨g, hg, e⟩ := List.mem_map.mp (perm.mem_iff.mp hy)
            exact ⟨g, hg, e.symm⟩
          exact refs_of ys all
        have sp := same_new (o := .lst (fs2.map V.ref)) hp
        refine q _ p fs2 (sm.trans sp) upd_same ?_ fun g hg => (hfb g (perm2 g hg)).stay (Same.tups sp)
        have := perm.length_eq
        rw [List.length_map, List.length_map] at this
        rw [this, hfl]
/-! ### the law's values -/
theorem arg_range {told : List Int} {N : Int} (hN : 0 < N) (h : ∀ x ∈ told, 0 ≤ x ∧ x < N) (d : Deed) (j : Nat) : 0 ≤ argAt d told j ∧ argAt d told j < N := by
  unfold argAt
  rw [List.getD_eq_getElem?_getD]
  cases e : told[(d.2.getD j 0).toNat]? with
  | none => exact ⟨Int.le_refl _, hN⟩
  | some y => exact h y (List.mem_of_getElem? e)
def spLwV (K : PySem.W.Frag) : Sp := fun vs H Q _ => ∃ (r L : Addr) (d : Deed) (told : List Int) (n : Nat), vs = [.ref r, .ref L, .int (2 ^ n)] ∧ H r = some (.tup (dV d)) ∧ SqL K H L (told.map V.int) ∧ DeedOk told.length d ∧ (∀ x ∈ told, 0 ≤ x ∧ x < 2 ^ n) ∧ 1 ≤ n ∧
  ∀ H', Same H H' → Q (.int (dval (2 ^ n) d told)) H'
theorem ok_lwV {f : Addr} {fd : FuncData} {k : Nat} (F : Fun K "_law_value" "_law_value" s_law_value f fd) : FnOk P w K mg base CX0 (k + 1) f fd ["deed", "told", "full"] (spLwV K) := by
  refine F.ok sc_law_value (fun vs H Q E h => ?_) (fun cdv A outer s H vs Q E hr h => ?_)
  · obtain ⟨r, L, d, told, n, rfl, _⟩ := h
    rfl
  · obtain ⟨r, L, d, told, n, rfl, er, eL, ok, tb, hn, q⟩ := h
    refine ⟨_, pss_cons (ps_set (i := 3) sc_law_value.nd rfl (.inl rfl) (pe_ix ix_tup (pv 0) pe_int (fun _ _ => rfl)))
      (pss_cons (ps_if (pt_cmpR op_in_seq (pv 3) (pe_tup (pa_cons pe_str (pa_cons pe_str (pa_cons pe_str pa_nil)))) (by rfl)) (pss_one (ps_ret (pe_dget (hu_of hr) (pe_disp (pps_cons pe_str pe_int (pps_cons pe_str pe_int (pps_cons pe_str (pe_op op_sub (pv 2) pe_int) pps_nil))) (by rfl) (by rfl) (fun z => by cases z) (by decide)) (pv 3) (fun _ _ => rfl)))) pss_nil)
      (pss_cons (ps_set (i := 4) sc_law_value.nd rfl (.inl rfl) (pe_ix ix_list (pv 1) (pe_ix ix_tup (pv 0) pe_int (fun _ _ => rfl)) (fun _ _ => rfl)))
      (pss_cons (ps_if (pt_cmpR op_in_seq (pv 3) (pe_tup (pa_cons pe_str (pa_cons pe_str (pa_cons pe_str pa_nil)))) (by rfl)) (pss_one (ps_ret (pe_op op_mod (pe_dget (hu_of hr) (pe_disp (pps_cons pe_str (pe_op op_sub (pe_op op_sub (pv 2) pe_int) (pv 4)) (pps_cons pe_str (pe_op op_sub pe_int (pv 4)) (pps_cons pe_str (pe_op op_mul pe_int (pv 4)) pps_nil))) (by rfl) (by rfl) (fun z => by cases z) (by decide)) (pv 3) (fun _ _ => rfl)) (pv 2)))) pss_nil)
      (pss_cons (ps_set (i := 5) sc_law_value.nd rfl (.inl rfl) (pe_ix ix_list (pv 1) (pe_ix ix_tup (pv 0) pe_int (fun _ _ => rfl)) (fun _ _ => rfl)))
      (pss_cons (ps_if (pt_cmpR op_in_seq (pv 3) (pe_tup (pa_cons pe_str (pa_cons pe_str (pa_cons pe_str pa_nil)))) (by rfl)) (pss_one (ps_ret (pe_dget (hu_of hr) (pe_disp (pps_cons pe_str (pe_op op_and (pv 4) (pv 5)) (pps_cons pe_str (pe_op op_or (pv 4) (pv 5)) (pps_cons pe_str (pe_op op_xor (pv 4) (pv 5)) pps_nil))) (by rfl) (by rfl) (fun z => by cases z) (by decide)) (pv 3) (fun _ _ => rfl)))) pss_nil)
      (pss_one (ps_ret (pe_op op_mod (pe_dget (hu_of hr) (pe_disp (pps_cons pe_str (pe_op op_add (pv 4) (pv 5)) (pps_cons pe_str (pe_op op_sub (pv 4) (pv 5)) pps_nil)) (by rfl) (by rfl) (fun z => by cases z) (by decide)) (pv 3) (fun _ _ => rfl)) (pv 2))))))))), ?_⟩
    have npos := pw_pos n
    have p2 : (2 : Int) ≤ 2 ^ n := by
      have := pw_le hn
      simpa using this
    obtain ⟨a0, a1⟩ := arg_range npos tb d 0
    obtain ⟨b0, b1⟩ := arg_range npos tb d 1
    unfold dval at q
    refine ⟨.ref r, rfl, r, _, 0, .str d.1, rfl, rfl, SqT.of er, dv0 d, ?_⟩
    refine ⟨.str d.1, rfl, by show 3 ≤ sizeLine; decide, fun T hT => ?_⟩
    have sT := same_new (o := .tup [.str "none", .str "one", .str "all"]) hT
    refine ⟨T, _, rfl, .inr (SqT.of upd_same), rfl, rfl, _, rfl, ite2 (fun e => ?_) (fun e => ?_)⟩
    · have hm : d.1 ∈ (["none", "one", "all"] : List Str) := of_decide_eq_true ((inS d.1 ["none", "one", "all"]).symm.trans e)
      intro p hp
      refine ⟨.int (2 ^ n), rfl, 2 ^ n, 1, rfl, rfl, upd_same, [(Sum.inr "none", .int 0), (Sum.inr "one", .int 1), (Sum.inr "all", .int (2 ^ n - 1))], rfl, (by show 3 ≤ 15; decide), .str d.1, rfl, p, ?_⟩
      rw [upd_upd]
      have q1 := q _ (sT.trans (same_new (o := .dK (mergeK [] [(Sum.inr "none", .int 0), (Sum.inr "one", .int 1), (Sum.inr "all", .int (2 ^ n - 1))])) hp))
      simp only [List.mem_cons, List.not_mem_nil, or_false] at hm
      rcases hm with hm | hm | hm <;> rw [hm] at q1 ⊢
      · rw [show dvalue "none" (argAt d told 0) (argAt d told 1) (2 ^ n) = 0 from rfl, Int.zero_emod] at q1
        exact ⟨.int 0, rfl, dget_at (k := Sum.inr "none") upd_same rfl, q1⟩
      · rw [show dvalue "one" (argAt d told 0) (argAt d told 1) (2 ^ n) = 1 from rfl, Int.emod_eq_of_lt (by decide) (by omega)] at q1
        exact ⟨.int 1, rfl, dget_at (k := Sum.inr "one") upd_same rfl, q1⟩
      · rw [show dvalue "all" (argAt d told 0) (argAt d told 1) (2 ^ n) = 2 ^ n - 1 from rfl, Int.emod_eq_of_lt (by omega) (by omega)] at q1
        exact ⟨.int (2 ^ n - 1), rfl, dget_at (k := Sum.inr "all") upd_same rfl, q1⟩
    have hn1 : ¬ d.1 ∈ (["none", "one", "all"] : List Str) := fun z => e ((inS d.1 ["none", "one", "all"]).trans (decide_eq_true z))
    simp only [List.mem_cons, List.not_mem_nil, or_false, not_or] at hn1
    obtain ⟨n1, n2, n3⟩ := hn1
    obtain ⟨i, hi, ai, ei⟩ := arg1 ok n1 n2 n3
    refine ⟨.ref L, rfl, .ref r, rfl, r, _, 1, .int i, rfl, rfl, SqT.of (sT _ _ er), dvN (k := 0) hi, L, _, i, .int (argAt d told 0), rfl, rfl, sT.seq eL, ei, ?_⟩
    refine ⟨.str d.1, rfl, by show 3 ≤ sizeLine; decide, fun U hU => ?_⟩
    have sU := sT.trans (same_new (o := .tup [.str "not", .str "neg", .str "twice"]) hU)
    refine ⟨U, _, rfl, .inr (SqT.of upd_same), rfl, rfl, _, rfl, ite2 (fun e => ?_) (fun e => ?_)⟩
    · have hm : d.1 ∈ (["not", "neg", "twice"] : List Str) := of_decide_eq_true ((inS d.1 ["not", "neg", "twice"]).symm.trans e)
      have qa := fun H' s' => q H' s'
      generalize argAt d told 0 = y at qa a0 a1
      generalize argAt d told 1 = z at qa b0 b1
      intro p hp
      have hmul : CMul 2 y := .inl ⟨by decide, by decide⟩
      refine ⟨.int (2 ^ n), rfl, 2 ^ n, 1, rfl, rfl, .int y, rfl, _, y, rfl, rfl, .int y, rfl, 0, y, rfl, rfl, .int y, rfl, 2, y, rfl, rfl, hmul, upd_same, [(Sum.inr "not", .int (2 ^ n - 1 - y)), (Sum.inr "neg", .int (0 - y)), (Sum.inr "twice", .int (2 * y))], rfl, (by show 3 ≤ 15; decide), .str d.1, rfl, p, ?_⟩
      rw [upd_upd]
      have q1 := qa _ (sU.trans (same_new (o := .dK (mergeK [] [(Sum.inr "not", .int (2 ^ n - 1 - y)), (Sum.inr "neg", .int (0 - y)), (Sum.inr "twice", .int (2 * y))])) hp))
      simp only [List.mem_cons, List.not_mem_nil, or_false] at hm
      rcases hm with hm | hm | hm <;> rw [hm] at q1 ⊢
      · exact ⟨.int (2 ^ n - 1 - y), rfl, dget_at (k := Sum.inr "not") upd_same rfl, .int (2 ^ n), rfl, _, _, rfl, rfl, npos, q1⟩
      · rw [show dvalue "neg" y z (2 ^ n) = 0 - y from (Int.zero_sub y).symm] at q1
        exact ⟨.int (0 - y), rfl, dget_at (k := Sum.inr "neg") upd_same rfl, .int (2 ^ n), rfl, _, _, rfl, rfl, npos, q1⟩
      · rw [show dvalue "twice" y z (2 ^ n) = 2 * y from (Int.two_mul y).symm] at q1
        exact ⟨.int (2 * y), rfl, dget_at (k := Sum.inr "twice") upd_same rfl, .int (2 ^ n), rfl, _, _, rfl, rfl, npos, q1⟩
    have hn2 : ¬ d.1 ∈ (["not", "neg", "twice"] : List Str) := fun z => e ((inS d.1 ["not", "neg", "twice"]).trans (decide_eq_true z))
    simp only [List.mem_cons, List.not_mem_nil, or_false, not_or] at hn2
    obtain ⟨n4, n5, n6⟩ := hn2
    obtain ⟨j, hj, aj, ej⟩ := arg2 ok n1 n2 n3 n4 n5 n6
    refine ⟨.ref L, rfl, .ref r, rfl, r, _, 2, .int j, rfl, rfl, SqT.of (sU _ _ er), dvN (k := 1) hj, L, _, j, .int (argAt d told 1), rfl, rfl, sU.seq eL, ej, ?_⟩
    refine ⟨.str d.1, rfl, by show 3 ≤ sizeLine; decide, fun W hW => ?_⟩
    have sW := sU.trans (same_new (o := .tup [.str "and", .str "or", .str "xor"]) hW)
    have hw := ok.word
    have qa := fun H' s' => q H' s'
    generalize argAt d told 0 = y at qa a0 a1
    generalize argAt d told 1 = z at qa b0 b1
    refine ⟨W, _, rfl, .inr (SqT.of upd_same), rfl, rfl, _, rfl, ite2 (fun e => ?_) (fun e => ?_)⟩
    · have hm : d.1 ∈ (["and", "or", "xor"] : List Str) := of_decide_eq_true ((inS d.1 ["and", "or", "xor"]).symm.trans e)
      intro p hp
      refine ⟨.int y, rfl, .int z, rfl, y, z, rfl, rfl, .int y, rfl, .int z, rfl, y, z, rfl, rfl, .int y, rfl, .int z, rfl, y, z, rfl, rfl, upd_same, [(Sum.inr "and", .int (Builtin.bitAnd y z)), (Sum.inr "or", .int (Builtin.bitOr y z)), (Sum.inr "xor", .int (Builtin.bitXor y z))], rfl, (by show 3 ≤ 15; decide), .str d.1, rfl, p, ?_⟩
      rw [upd_upd]
      have q1 := qa _ (sW.trans (same_new (o := .dK (mergeK [] [(Sum.inr "and", .int (Builtin.bitAnd y z)), (Sum.inr "or", .int (Builtin.bitOr y z)), (Sum.inr "xor", .int (Builtin.bitXor y z))])) hp))
      simp only [List.mem_cons, List.not_mem_nil, or_false] at hm
      rcases hm with hm | hm | hm <;> rw [hm] at q1 ⊢
      · rw [show dvalue "and" y z (2 ^ n) = Builtin.bitAnd y z from rfl, and_lt a0 a1 b0] at q1
        exact ⟨_, rfl, dget_at (k := Sum.inr "and") upd_same rfl, q1⟩
      · rw [show dvalue "or" y z (2 ^ n) = Builtin.bitOr y z from rfl, or_lt a0 a1 b0 b1] at q1
        exact ⟨_, rfl, dget_at (k := Sum.inr "or") upd_same rfl, q1⟩
      · rw [show dvalue "xor" y z (2 ^ n) = Builtin.bitXor y z from rfl, xor_lt a0 a1 b0 b1] at q1
        exact ⟨_, rfl, dget_at (k := Sum.inr "xor") upd_same rfl, q1⟩
    · have hn3 : ¬ d.1 ∈ (["and", "or", "xor"] : List Str) := fun z => e ((inS d.1 ["and", "or", "xor"]).trans (decide_eq_true z))
      simp only [List.mem_cons, List.not_mem_nil, or_false, not_or] at hn3
      obtain ⟨n7, n8, n9⟩ := hn3
      have hm : d.1 = "add" ∨ d.1 = "sub" := by
        rcases fw_cases hw with ⟨_, h⟩ | ⟨_, h⟩ | ⟨_, h⟩
        · rcases h with h | h | h
          · exact absurd h n1
          · exact absurd h n2
          · exact absurd h n3
        · rcases h with h | h | h
          · exact absurd h n4
          · exact absurd h n5
          · exact absurd h n6
        · rcases h with h | h | h | h | h
          · exact absurd h n7
          · exact absurd h n8
          · exact absurd h n9
          · exact .inl h
          · exact .inr h
      intro p hp
      refine ⟨.int y, rfl, .int z, rfl, y, z, rfl, rfl, .int y, rfl, .int z, rfl, y, z, rfl, rfl, upd_same, [(Sum.inr "add", .int (y + z)), (Sum.inr "sub", .int (y - z))], rfl, (by show 2 ≤ 15; decide), .str d.1, rfl, p, ?_⟩
      rw [upd_upd]
      have q1 := qa _ (sW.trans (same_new (o := .dK (mergeK [] [(Sum.inr "add", .int (y + z)), (Sum.inr "sub", .int (y - z))])) hp))
      rcases hm with hm | hm <;> rw [hm] at q1 ⊢
      · exact ⟨.int (y + z), rfl, dget_at (k := Sum.inr "add") upd_same rfl, .int (2 ^ n), rfl, _, _, rfl, rfl, npos, q1⟩
      · exact ⟨.int (y - z), rfl, dget_at (k := Sum.inr "sub") upd_same rfl, .int (2 ^ n), rfl, _, _, rfl, rfl, npos, q1⟩
theorem shl1W {n : Nat} (h : n ≤ 1000000) : CShl 1 (n : Int) := ⟨by omega, by
  have e : Builtin.Int.intBits 1 = 1 := by decide +kernel
  rw [e]
  have : (2 : Int) ^ 27 = 134217728 := by decide
  omega⟩
def spLvs (K : PySem.W.Frag) : Sp := fun vs H Q _ => ∃ (R W : Addr) (m o : Int) (ds : List Deed) (xs : List Int) (n : Nat), vs = [.ref R, .int (n : Int), .ref W] ∧ RowAt H R m ds o ∧ DsOk m ds ∧ ds.length ≤ 100 ∧ SqL K H W (xs.map V.int) ∧ (xs.length : Int) = m ∧ xs.length ≤ 100 ∧ 1 ≤ n ∧ n ≤ 1000000 ∧ (∀ x ∈ xs, 0 ≤ x ∧ x < 2 ^ n) ∧
  ∀ H' L, Same H H' → H L = none → H' L = some (.lst ((vals (2 ^ n) ds xs).map V.int)) → Q (.ref L) H'
theorem ok_lvs {f fV : Addr} {fd fdV : FuncData} {k : Nat} (F : Fun K "_law_values" "_law_values" s_law_values f fd) (GV : FnOk P w K mg base CX0 (k + 1) fV fdV ["deed", "told", "full"] (spLwV K)) (kV : PySem.W.keepIn K (.ref fV) = true) (bV : Binds K fdV ["deed", "told", "full"] [])
    (gV : mg "_law_value" = some (.ref fV)) (ml : mg "list" = none) : FnOk P w K mg base CX0 (k + 2) f fd ["row", "width", "words"] (spLvs K) := by
  refine F.ok sc_law_values (fun vs H Q E h => ?_) (fun cdv A outer s H vs Q E hr h => ?_)
  · obtain ⟨R, W, m, o, ds, xs, n, rfl, _⟩ := h
    rfl
  · obtain ⟨R, W, m, o, ds, xs, n, rfl, hrow, hok, hds, eW, hm, hxs, hn1, hn, hxr, q⟩ := h
    obtain ⟨D, rs, eR, eD, hd⟩ := id hrow
    refine ⟨_, pss_cons (ps_set (i := 3) sc_law_values.nd rfl (.inl rfl) (pe_callTy call_list_of (by rfl) ml (by decide +kernel) (pa_cons (pv 2) pa_nil)))
      (pss_cons (ps_for PassesOwn.never rfl (pi_tup (pe_ix ix_tup (pv 0) pe_int (fun _ _ => rfl))) (pg_name (i := 4) sc_law_values.nd rfl (.inl rfl))
        (pss_one (ps_expr (pe_bm PySem.F.plainAttrs_list PySem.F.slot_list_append PySem.F.type_list_append mt_append (pv 3) (pa_cons (pe_call GV hr (by rfl) gV kV bV .nil pass0 (pa_cons (pv 4) (pa_cons (pv 3) (pa_cons (pe_op op_shlW pe_int (pv 1)) pa_nil)))) pa_nil)))))
      (pss_one (ps_ret (pv 3)))), ?_⟩
    have hpos : (0 : Int) < 2 ^ n := Int.pow_pos (by decide)
    have esz : (1 : Int) * 2 ^ ((n : Int).toNat) = 2 ^ n := by rw [Int.one_mul, Int.toNat_natCast]
    refine ⟨.ref W, rfl, W, _, rfl, .inl eW, fun L hL => ?_⟩
    have sL := same_new (o := .lst (xs.map V.int)) hL
    refine ⟨.ref R, rfl, R, _, 1, .ref D, rfl, rfl, SqT.of (sL _ _ eR), rfl, D, rfl, ⟨_, SqT.of (sL _ _ eD)⟩, for_tup (K := K) (a := D) (xs := rs.map V.ref) (fun i σ H3 => ∃ y, σ = [some (.ref R), some (.int n), some (.ref W), some (.ref L), y] ∧ H3 L = some (.lst ((vals (2 ^ n) (ds.take i) xs).map V.int)) ∧ Same H H3) ⟨none, rfl, upd_same, sL⟩ (fun i σ H3 _ hp => ?_) (fun i x σ H3 hx hp => ?_) (fun σ H3 hp => ?_)⟩
    · obtain ⟨_, _, _, sm⟩ := hp
      exact SqT.of (sm _ _ eD)
    · obtain ⟨y, rfl, e3, sm⟩ := hp
      have hi : i < rs.length := by
        have := (List.getElem?_eq_some_iff.mp hx).1
        rwa [List.length_map] at this
      have hx' : x = .ref rs[i] := by
        rw [List.getElem?_map, List.getElem?_eq_getElem hi] at hx
        exact (Option.some.inj hx).symm
      subst hx'
      obtain ⟨d, hd1, hd2⟩ := awGet hd (List.getElem?_eq_getElem hi)
      have hlen : (vals (2 ^ n) (ds.take i) xs).length = xs.length + i := by
        have h2 : i < ds.length := by
          rw [← awLen hd]
          exact hi
        rw [vals_len, List.length_take, Nat.min_eq_left (Nat.le_of_lt h2)]
      have okd : DeedOk (vals (2 ^ n) (ds.take i) xs).length d := by
        rw [hlen]
        have := hok.each i d hd1
        rw [← hm] at this
        exact this
      refine ⟨.ref L, rfl, .inl ⟨rfl, _, .inl (.inl e3)⟩, .ref rs[i], rfl, .ref L, rfl, .int n, rfl, 1, n, rfl, rfl, shl1W hn, rs[i], L, d, _, n, congrArg (fun z => [V.ref rs[i], V.ref L, V.int z]) esz, sm _ _ hd2, .inl (.inl e3), okd, vals_range hpos _ _ hxr, hn1, fun H4 s4 => ?_⟩
      refine ⟨L, _, _, rfl, rfl, s4 _ _ e3, ?_, some (.ref rs[i]), rfl, ?_, ?_⟩
      · rw [List.length_map, hlen]
        exact small1000 (by rw [awLen hd] at hi; omega)
      · rw [upd_same, vals_next hd1, List.map_append]
        rfl
      · intro b u e
        rw [upd_ne (ne_of_none e hL)]
        exact s4 b u (sm b u e)
    · obtain ⟨y, rfl, e3, sm⟩ := hp
      rw [List.length_map, awLen hd, List.take_length] at e3
      exact ⟨.ref L, rfl, q H3 L sm hL e3⟩
/-! ### all bits, as a law tells them -/
def spAbf : Sp := fun vs H Q _ => ∃ m : Nat, vs = [.int (m : Int)] ∧ 1 ≤ m ∧ m ≤ 3 ∧ ∀ H' p fs, Same H H' → H p = none → H' p = some (.lst (fs.map V.ref)) → TAt H' fs (allB m) → Q (.ref p) H'
theorem hu65_of {k : Nat} {A : Around} (r : Room k A) : A.units + 65 < cLine := by have := r.un; omega
/-! ### _law_bits: all bits, in order -/
def uB : Nat → List (List Int)
  | 0 => [[]]
  | n + 1 => (uB n).map (· ++ [0]) ++ (uB n).map (· ++ [1])
theorem uB_len : ∀ n, (uB n).length = 2 ^ n
  | 0 => rfl
  | n + 1 => by
    show ((uB n).map (· ++ [0]) ++ (uB n).map (· ++ [1])).length = _
    rw [List.length_append, List.length_map, List.length_map, uB_len n, Nat.pow_succ]
    omega
theorem uB_ok : ∀ m, ∀ bs ∈ uB m, bs.length = m ∧ ∀ x ∈ bs, Bit x
  | 0, bs, h => by
    rw [List.mem_singleton.mp h]
    exact ⟨rfl, (fun _ z => nomatch z)⟩
  | m + 1, bs, h => by
    have one : ∀ b : Int, Bit b → bs ∈ (uB m).map (· ++ [b]) → bs.length = m + 1 ∧ ∀ x ∈ bs, Bit x := fun b hb hh => by
      obtain ⟨c, hc, rfl⟩ := List.mem_map.mp hh
      obtain ⟨h1, h2⟩ := uB_ok m c hc
      refine ⟨by rw [List.length_append, h1]; rfl, fun x hx => ?_⟩
      rcases List.mem_append.mp hx with z | z
      · exact h2 x z
      · rw [List.mem_singleton.mp z]; exact hb
    rcases List.mem_append.mp h with z | z
    · exact one 0 bit0 z
    · exact one 1 bit1 z
def contA (H : Hp) (a : Addr) : List Int := match H a with
  | some (.tup vs) => vs.map fun v => match v with | .int i => i | _ => 0
  | _ => []
theorem contA_eq {H : Hp} {a : Addr} {bs : List Int} (h : H a = some (.tup (bs.map V.int))) : contA H a = bs := by
  unfold contA
  rw [h]
  show (bs.map V.int).map _ = bs
  rw [List.map_map]
  exact List.map_id _
theorem tat_cont {H : Hp} : ∀ {fs : List Addr} {l : List (List Int)}, TAt H fs l → l = fs.map (contA H)
  | _, _, .nil => rfl
  | _, _, .cons h t => by
    rw [List.map_cons, contA_eq h, ← tat_cont t]
theorem cont_tat {H : Hp} : ∀ {fs : List Addr}, (∀ f ∈ fs, H f = some (.tup ((contA H f).map V.int))) → TAt H fs (fs.map (contA H))
  | [], _ => .nil
  | f :: fs, h => .cons (h f List.mem_cons_self) (cont_tat fun g hg => h g (List.mem_cons_of_mem _ hg))
theorem sort_uniq {c : List Int → Int} : ∀ {l r : List (List Int)}, l.Perm r → l.Pairwise (fun x y => c x ≤ c y) → r.Pairwise (fun x y => c x < c y) → l = r
  | [], r, p, _, _ => by rw [List.Perm.nil_eq p]
  | x :: l, [], p, _, _ => absurd p.length_eq (by simp)
  | x :: l, y :: r, p, h1, h2 => by
    obtain ⟨h1a, h1b⟩ := List.pairwise_cons.mp h1
    obtain ⟨h2a, h2b⟩ := List.pairwise_cons.mp h2
    have e : x = y := by
      have hx : x ∈ y :: r := p.mem_iff.mp List.mem_cons_self
      have hy : y ∈ x :: l := p.mem_iff.mpr List.mem_cons_self
      rcases List.mem_cons.mp hx with z | z
      · exact z
      · rcases List.mem_cons.mp hy with w | w
        · exact w.symm
        · have a := h2a x z
          have b := h1a y w
          omega
    subst e
    rw [sort_uniq ((List.perm_cons x).mp p) h1b h2b]
theorem awApp {α β : Type} {F : α → β → Prop} : ∀ {l : List α} {l2 : List β} {r : List α} {r2 : List β}, Paired F l l2 → Paired F r r2 → Paired F (l ++ r) (l2 ++ r2)
  | _, _, _, _, .nil, h => h
  | _, _, _, _, .cons a t, h => .cons a (awApp t h)
def unRef : V → Addr
  | .ref a => a
  | _ => 0
theorem perm_ref {a b : List Addr} (h : (a.map V.ref).Perm (b.map V.ref)) : a.Perm b := by
  have := h.map unRef
  rw [List.map_map, List.map_map] at this
  have e : ∀ l : List Addr, l.map (unRef ∘ V.ref) = l := fun l => List.map_id l
  rwa [e, e] at this
theorem uB_sorted {m : Nat} (m3 : m ≤ 3) : (uB m).Perm (allB m) ∧ (allB m).Pairwise (fun x y => TS.code 2 x < TS.code 2 y) := by
  have hm : m = 0 ∨ m = 1 ∨ m = 2 ∨ m = 3 := by omega
  rcases hm with rfl | rfl | rfl | rfl
  · exact ⟨by decide +kernel, by decide +kernel⟩
  · exact ⟨by decide +kernel, by decide +kernel⟩
  · exact ⟨by decide +kernel, by decide +kernel⟩
  · exact ⟨by decide +kernel, by decide +kernel⟩
set_option maxHeartbeats 1000000 in
theorem ok_abf {f : Addr} {fd : FuncData} {k : Nat} (F : Fun K "_law_bits" "_law_bits" s_law_bits f fd) (mr : mg "range" = none) (ms : mg "sorted" = none) : FnOk P w K mg base CX0 (k + 1) f fd ["many"] (fun vs H Q _ => ∃ m : Nat, vs = [.int (m : Int)] ∧ 1 ≤ m ∧ m ≤ 3 ∧ ∀ H' p fs, Same H H' → H p = none → H' p = some (.lst (fs.map V.ref)) → TAt H' fs (allB m) → Q (.ref p) H') := by
  refine F.ok sc_law_bits (fun vs H Q E h => ?_) (fun cdv A outer s H vs Q E hr h => ?_)
  · obtain ⟨m, rfl, _⟩ := h
    rfl
  · obtain ⟨m, rfl, m1, m3, q⟩ := h
    refine ⟨_, pss_cons (ps_set (i := 1) sc_law_bits.nd rfl (.inl rfl) (pe_lst (pa_cons (pe_tup pa_nil) pa_nil)))
      (pss_cons (ps_for PassesOwn.never rfl (pi_range1 (by rfl) mr (pa_cons (pv 0) pa_nil)) (pg_name (i := 2) sc_law_bits.nd rfl (.inl rfl))
        (pss_one (ps_set (i := 1) sc_law_bits.nd rfl (.inl rfl) (pe_op op_cat
          (pe_lc (own := [("some", 3)]) (g := gName 3) (by rfl) sc_law_bits.nd (pi_list (pv 1)) (blkOk_by (own := [("some", 3)]) (N := N_law_bits) (sc := defScope s_law_bits) (by decide +kernel)) (fun _ _ _ _ _ => pg_name (i := 3) sc_law_bits.nd rfl (Or.inl rfl)) (fun _ _ _ _ _ => pts_nil) (fun _ _ _ _ _ => pe_op op_catZ (pv 3) (pe_tup (pa_cons pe_int pa_nil))))
          (pe_lc (own := [("some", 3)]) (g := gName 3) (by rfl) sc_law_bits.nd (pi_list (pv 1)) (blkOk_by (own := [("some", 3)]) (N := N_law_bits) (sc := defScope s_law_bits) (by decide +kernel)) (fun _ _ _ _ _ => pg_name (i := 3) sc_law_bits.nd rfl (Or.inl rfl)) (fun _ _ _ _ _ => pts_nil) (fun _ _ _ _ _ => pe_op op_catZ (pv 3) (pe_tup (pa_cons pe_int pa_nil))))))))
      (pss_one (ps_ret (pe_callB (cr_sortT (d := m) (B := 2) m1) (by rfl) ms (by decide +kernel) (pa_cons (pv 1) pa_nil))))), ?_⟩
    refine ⟨by show 0 ≤ sizeLine; decide, fun T hT => ?_⟩
    refine ⟨by show 1 ≤ sizeLine; decide, fun L hL => ?_⟩
    have s1 := same_new (o := .tup []) hT
    have s2 := same_new (o := .lst [.ref T]) hL
    refine ⟨.int m, rfl, m, rfl, by omega, by omega, for_range (lo := 0) (n := m) (fun i σ H3 => ∃ y2 F1 fs, σ = [some (.int (m : Int)), some (.ref F1), y2, none] ∧ H3 F1 = some (.lst (fs.map V.ref)) ∧ TAt H3 fs (uB i) ∧ Same H H3) ⟨none, L, [T], rfl, upd_same, .cons (s2 _ _ upd_same) .nil, s1.trans s2⟩ (fun i σ H3 hi hp => ?_) (fun σ H3 hp => ?_)⟩
    · obtain ⟨y2, F1, fs, rfl, eF, hfb, sm⟩ := hp
      have hfl : fs.length = 2 ^ i := by rw [awLen hfb, uB_len]
      have fs8 : fs.length ≤ 8 := by
        rw [hfl]
        exact Nat.le_trans (Nat.pow_le_pow_right (by decide) (show i ≤ 3 by omega)) (by decide)
      refine ⟨.ref F1, rfl, F1, rfl, ⟨_, .inl (.inl eF)⟩, fun M hM => ?_⟩
      refine lc_list (K := K) (a := F1) (xs := fs.map V.ref) (fun j H4 => ∃ gs : List Addr, H4 M = some (.lst (gs.map V.ref)) ∧ TAt H4 gs (((uB i).take j).map (· ++ [0])) ∧ Same H3 H4) ⟨[], upd_same, .nil, same_new hM⟩ (fun j H4 _ hp => ?_) (fun j x H4 hx hp => ?_) (fun H4 hp => ?_)
      · obtain ⟨_, _, _, s4⟩ := hp
        exact .inl (.inl (s4 _ _ eF))
      · obtain ⟨gs, eM, hgb, s4⟩ := hp
        rw [List.getElem?_map] at hx
        obtain ⟨g0, hg0, rfl⟩ := Option.map_eq_some_iff.mp hx
        obtain ⟨bs, hbs, eg⟩ := awGet hfb hg0
        have eg0 : H4 g0 = some (.tup (bs.map V.int)) := s4 _ _ eg
        have hj := (List.getElem?_eq_some_iff.mp hg0).1
        have hbl := (uB_ok i bs (List.mem_of_getElem? hbs)).1
        have hgl := awLen hgb
        rw [List.length_map, List.length_take] at hgl
        refine ⟨rfl, .ref g0, rfl, by show 1 ≤ sizeLine; decide, fun U hU => ?_⟩
        have sU := same_new (o := .tup [.int 0]) hU
        refine ⟨g0, U, _, _, rfl, rfl, sU _ _ eg0, upd_same, by rw [List.length_map]; exact Nat.le_of_lt (small1000 (by show bs.length + 1 ≤ 1000; omega)), fun p H5 s5 ep => ?_⟩
        have s45 := sU.trans s5
        have eM5 := s45 _ _ eM
        refine ⟨_, eM5, by rw [List.length_map]; exact small1000 (by omega), gs ++ [p], ?_, ?_, ?_⟩
        · rw [upd_same, List.map_append]
          rfl
        · have tp := tups_put (o := .lst (gs.map V.ref ++ [V.ref p])) eM5
          rw [List.take_add_one, hbs, List.map_append]
          exact tat_stay tp (awSnoc (F := fun (f : Addr) (b : List Int) => H5 f = some (.tup (b.map V.int))) (by rw [ep, List.map_append]; rfl) (tat_stay (Same.tups s45) hgb))
        · intro b u e
          rw [upd_ne (ne_of_none e hM)]
          exact s45 b u (s4 b u e)
      · obtain ⟨gs, eM, hgb, s4⟩ := hp
        refine ⟨.ref F1, rfl, F1, rfl, ⟨_, .inl (.inl (s4 _ _ eF))⟩, fun M2 hM2 => ?_⟩
        refine lc_list (K := K) (a := F1) (xs := fs.map V.ref) (fun j H5 => ∃ hs : List Addr, H5 M2 = some (.lst (hs.map V.ref)) ∧ TAt H5 hs (((uB i).take j).map (· ++ [1])) ∧ Same H4 H5) ⟨[], upd_same, .nil, same_new hM2⟩ (fun j H5 _ hp => ?_) (fun j x H5 hx hp => ?_) (fun H5 hp => ?_)
        · obtain ⟨_, _, _, s5⟩ := hp
          exact .inl (.inl (s5 _ _ (s4 _ _ eF)))
        · obtain ⟨hs, eM2, hhb, s5⟩ := hp
          rw [List.getElem?_map] at hx
          obtain ⟨g0, hg0, rfl⟩ := Option.map_eq_some_iff.mp hx
          obtain ⟨bs, hbs, eg⟩ := awGet hfb hg0
          have eg0 : H5 g0 = some (.tup (bs.map V.int)) := s5 _ _ (s4 _ _ eg)
          have hj := (List.getElem?_eq_some_iff.mp hg0).1
          have hbl := (uB_ok i bs (List.mem_of_getElem? hbs)).1
          have hgl := awLen hhb
          rw [List.length_map, List.length_take] at hgl
          refine ⟨rfl, .ref g0, rfl, by show 1 ≤ sizeLine; decide, fun U hU => ?_⟩
          have sU := same_new (o := .tup [.int 1]) hU
          refine ⟨g0, U, _, _, rfl, rfl, sU _ _ eg0, upd_same, by rw [List.length_map]; exact Nat.le_of_lt (small1000 (by show bs.length + 1 ≤ 1000; omega)), fun p H6 s6 ep => ?_⟩
          have s56 := sU.trans s6
          have eM6 := s56 _ _ eM2
          refine ⟨_, eM6, by rw [List.length_map]; exact small1000 (by omega), hs ++ [p], ?_, ?_, ?_⟩
          · rw [upd_same, List.map_append]
            rfl
          · have tp := tups_put (o := .lst (hs.map V.ref ++ [V.ref p])) eM6
            rw [List.take_add_one, hbs, List.map_append]
            exact tat_stay tp (awSnoc (F := fun (f : Addr) (b : List Int) => H6 f = some (.tup (b.map V.int))) (by rw [ep, List.map_append]; rfl) (tat_stay (Same.tups s56) hhb))
          · intro b u e
            rw [upd_ne (ne_of_none e hM2)]
            exact s56 b u (s5 b u e)
        · obtain ⟨hs, eM2, hhb, s5⟩ := hp
          have ul := uB_len i
          rw [List.length_map, hfl, ← ul, List.take_length] at hhb hgb
          have lg := awLen hgb
          have lh := awLen hhb
          rw [List.length_map] at lg lh
          refine ⟨M, M2, _, _, rfl, rfl, s5 _ _ eM, eM2, by rw [List.length_map, List.length_map]; exact Nat.le_of_lt (small1000 (by omega)), fun p hp => ?_⟩
          have sp := same_new (o := .lst (gs.map V.ref ++ hs.map V.ref)) hp
          refine ⟨some (.int (0 + i)), p, gs ++ hs, rfl, ?_, ?_, ((sm.trans s4).trans s5).trans sp⟩
          · rw [upd_same, List.map_append]
          · exact tat_stay (Same.tups sp) (awApp (tat_stay (Same.tups s5) hgb) hhb)
    · obtain ⟨y2, F1, fs, rfl, eF, hfb, sm⟩ := hp
      have hfl : fs.length = 2 ^ m := by rw [awLen hfb, uB_len]
      have fs8 : fs.length ≤ 8 := by
        rw [hfl]
        exact Nat.le_trans (Nat.pow_le_pow_right (by decide) m3) (by decide)
      have hcont := tat_cont hfb
      have each : ∀ g ∈ fs, ∃ bs, bs ∈ uB m ∧ H3 g = some (.tup (bs.map V.int)) := fun g hg => by
        obtain ⟨i, hi⟩ := List.mem_iff_getElem?.mp hg
        obtain ⟨bs, h1, h2⟩ := awGet hfb hi
        exact ⟨bs, List.mem_of_getElem? h1, h2⟩
      refine ⟨.ref F1, rfl, F1, _, rfl, .inl (.inl eF), by rw [List.length_map]; omega, fun x hx => ?_, fun ys p perm srt hp => ?_⟩
      · obtain ⟨g, hg, rfl⟩ := List.mem_map.mp hx
        obtain ⟨bs, hb, e1⟩ := each g hg
        obtain ⟨e2, e3⟩ := uB_ok m bs hb
        refine ⟨bs, ⟨g, rfl, SqT.of e1⟩, e2, fun y hy => ?_⟩
        rcases e3 y hy with rfl | rfl
        · exact ⟨by decide, by decide⟩
        · exact ⟨by decide, by decide⟩
      · obtain ⟨fs2, rfl, perm2⟩ : ∃ fs2 : List Addr, ys = fs2.map V.ref ∧ ∀ g ∈ fs2, g ∈ fs := by
          have all : ∀ y ∈ ys, ∃ g, g ∈ fs ∧ y = .ref g := fun y hy => by
            obtain ⟨g, hg, e⟩ := List.mem_map.mp (perm.mem_iff.mp hy)
            exact ⟨g, hg, e.symm⟩
          exact refs_of ys all
        have sp := same_new (o := .lst (fs2.map V.ref)) hp
        have pm : fs2.Perm fs := perm_ref perm
        have at2 : ∀ g ∈ fs2, H3 g = some (.tup ((contA H3 g).map V.int)) := fun g hg => by
          obtain ⟨bs, _, e⟩ := each g (perm2 g hg)
          rw [contA_eq e]
          exact e
        have e2 : fs2.map (contA H3) = allB m := by
          obtain ⟨u1, u2⟩ := uB_sorted m3
          refine sort_uniq (c := TS.code 2) ((pm.map _).trans (by rw [← hcont]; exact u1)) ?_ u2
          rw [List.pairwise_map]
          rw [List.pairwise_map] at srt
          refine srt.imp_of_mem fun {a b} ha hb z => z _ _ ⟨a, rfl, SqT.of (at2 a ha)⟩ ⟨b, rfl, SqT.of (at2 b hb)⟩
        refine q _ p fs2 (sm.trans sp) (sm.free hp) upd_same ?_
        rw [← e2]
        exact tat_stay (Same.tups sp) (cont_tat at2)
/-! ### dicts of pairs of carries: distinct keys, numbers -/
def unC : NestedKey → List Int
  | .tup ks => ks.map fun k => match k with | .num i => i | _ => 0
  | _ => []
def unP : NestedKey → PC
  | .tup [a, b] => (unC a, unC b)
  | _ => ([], [])
theorem unC_kC (c : List Int) : unC (kC c) = c := by
  unfold unC kC
  dsimp only
  rw [List.map_map]
  conv => rhs; rw [← List.map_id c]
  rfl
theorem unP_kP (q : PC) : unP (kP q.1 q.2) = q := by
  show (unC (kC q.1), unC (kC q.2)) = q
  rw [unC_kC, unC_kC]
theorem putN_keys {xs : List NE} {k : NestedKey} {b : Addr} {v : V} : (putN xs k b v).map (·.1) = if (getN xs k).isSome = true then xs.map (·.1) else xs.map (·.1) ++ [k] := by
  unfold putN
  split
  · rw [List.map_map]
    refine List.map_congr_left fun x _ => ?_
    show (if x.1 = k then (x.1, x.2.1, v) else x).1 = x.1
    split <;> rfl
  · rw [List.map_append]
    rfl
theorem putN_nodup {xs : List NE} {k : NestedKey} {b : Addr} {v : V} (h : (xs.map (·.1)).Nodup) : ((putN xs k b v).map (·.1)).Nodup := by
  rw [putN_keys]
  split
  · exact h
  · rename_i hn
    have e : getN xs k = none := by
      cases e : getN xs k with
      | none => rfl
      | some y => rw [e] at hn; exact absurd rfl hn
    refine List.nodup_append.mpr ⟨h, List.nodup_cons.mpr ⟨(fun z => nomatch z), List.nodup_nil⟩, fun a ha c hc => ?_⟩
    rw [List.mem_singleton.mp hc]
    obtain ⟨x, hx, rfl⟩ := List.mem_map.mp ha
    exact getN_none.mp e x hx
structure WOk (ds1 ds2 : List Deed) (xs : List NE) : Prop where
  nd : (xs.map (·.1)).Nodup
  each : ∀ x ∈ xs, ∃ (q : PC) (z : Int), x.1 = kP q.1 q.2 ∧ x.2.2 = .int z ∧ PcOk ds1 ds2 q
theorem wok_put {ds1 ds2 : List Deed} {xs : List NE} {q : PC} {b : Addr} {z : Int} (h : WOk ds1 ds2 xs) (hq : PcOk ds1 ds2 q) : WOk ds1 ds2 (putN xs (kP q.1 q.2) b (.int z)) := by
  refine ⟨putN_nodup h.nd, fun x hx => ?_⟩
  unfold putN at hx
  split at hx
  · obtain ⟨y, hy, rfl⟩ := List.mem_map.mp hx
    split
    · rename_i e
      exact ⟨q, z, e, rfl, hq⟩
    · exact h.each y hy
  · rcases List.mem_append.mp hx with hx | hx
    · exact h.each x hx
    · rw [List.mem_singleton.mp hx]
      exact ⟨q, z, rfl, rfl, hq⟩
theorem getN_of {xs : List NE} {x : NE} (nd : (xs.map (·.1)).Nodup) (hx : x ∈ xs) : getN xs x.1 = some x.2.2 := by
  induction xs with
  | nil => cases hx
  | cons y xs ih =>
    rw [List.map_cons, List.nodup_cons] at nd
    unfold getN
    rw [List.find?_cons]
    rcases List.mem_cons.mp hx with rfl | hx
    · rw [decide_eq_true rfl]
      rfl
    · have ne : ¬ y.1 = x.1 := fun e => nd.1 (by rw [e]; exact List.mem_map.mpr ⟨x, hx, rfl⟩)
      rw [decide_eq_false ne]
      exact ih nd.2 hx
theorem wok_few {ds1 ds2 : List Deed} {xs : List NE} (h : WOk ds1 ds2 xs) (l1 : ds1.length ≤ 8) (l2 : ds2.length ≤ 8) : xs.length ≤ 65536 := by
  have key := few_pairs (ds1 := ds1) (ds2 := ds2) (ps := xs.map fun x => unP x.1) ?_ (fun q hq => ?_) l1 l2
  · rwa [List.length_map] at key
  · have nd := h.nd
    unfold List.Nodup at nd ⊢
    rw [List.pairwise_map] at nd ⊢
    refine List.Pairwise.imp_of_mem (fun {x y} hx hy hne e => hne ?_) nd
    obtain ⟨q, z, e1, _, k1⟩ := h.each x hx
    obtain ⟨q', z', e2, _, k2⟩ := h.each y hy
    have e' : unP x.1 = unP y.1 := e
    rw [e1, e2, unP_kP, unP_kP] at e'
    rw [e1, e2, e']
  · obtain ⟨x, hx, rfl⟩ := List.mem_map.mp hq
    obtain ⟨q, z, e1, _, k1⟩ := h.each x hx
    rw [e1, unP_kP]
    exact k1
theorem putN_mem {xs : List NE} {k : NestedKey} {b : Addr} {v : V} {x : NE} (h : x ∈ putN xs k b v) : (x.1 = k ∧ x.2.2 = v) ∨ (x ∈ xs ∧ x.1 ≠ k) := by
  unfold putN at h
  split at h
  · obtain ⟨y, hy, rfl⟩ := List.mem_map.mp h
    by_cases e : y.1 = k
    · rw [if_pos e]
      exact .inl ⟨e, rfl⟩
    · rw [if_neg e]
      exact .inr ⟨hy, e⟩
  · rename_i hn
    have e : getN xs k = none := by
      cases e : getN xs k with
      | none => rfl
      | some y => rw [e] at hn; exact absurd rfl hn
    rcases List.mem_append.mp h with h | h
    · exact .inr ⟨h, getN_none.mp e x h⟩
    · rw [List.mem_singleton.mp h]
      exact .inl ⟨rfl, rfl⟩
theorem getN_putN {xs : List NE} {k j : NestedKey} {b : Addr} {v : V} : getN (putN xs k b v) j = if j = k then some v else getN xs j := by
  cases e : getN xs k with
  | none =>
    have : putN xs k b v = xs ++ [(k, b, v)] := by
      unfold putN
      rw [e, if_neg (by simp)]
    rw [this, getN_snoc e]
  | some y =>
    have : putN xs k b v = xs.map fun x => if x.1 = k then (x.1, x.2.1, v) else x := by
      unfold putN
      rw [e, if_pos (by simp)]
    rw [this]
    clear this
    induction xs with
    | nil => cases e
    | cons x xs ih =>
      unfold getN at e ih ⊢
      rw [List.map_cons, List.find?_cons]
      rw [List.find?_cons] at e ⊢
      by_cases hx : x.1 = k
      · rw [if_pos hx]
        dsimp only
        by_cases hj : j = k
        · rw [if_pos hj, decide_eq_true (hx.trans hj.symm)]
          rfl
        · rw [if_neg hj, decide_eq_false (fun z => hj (z.symm.trans hx))]
          have : ∀ l : List NE, ((l.map fun x => if x.1 = k then (x.1, x.2.1, v) else x).find? fun x => decide (x.1 = j)).map (·.2.2) = (l.find? fun x => decide (x.1 = j)).map (·.2.2) := by
            intro l
            induction l with
            | nil => rfl
            | cons z l ih =>
              rw [List.map_cons, List.find?_cons, List.find?_cons]
              by_cases hz : z.1 = k
              · rw [if_pos hz]
                dsimp only
                rw [decide_eq_false (fun w => hj (w.symm.trans hz))]
                exact ih
              · rw [if_neg hz]
                by_cases hzj : z.1 = j
                · rw [decide_eq_true hzj]
                · rw [decide_eq_false hzj]
                  exact ih
          exact this xs
      · rw [if_neg hx]
        rw [decide_eq_false hx] at e
        by_cases hxj : x.1 = j
        · have hj : ¬ j = k := fun z => hx (hxj.trans z)
          rw [decide_eq_true hxj, if_neg hj]
        · rw [decide_eq_false hxj]
          exact ih e
/-! ### k90: _law_behind -/
theorem ob_at9 {m : Nat} {ds : List Deed} {o : Int} {c bs : List Int} (ok : RowOk m ds o) (hb : bs ∈ allB m) (hc : c.length = ds.length) : atI ((bts ds c bs).map V.int) o = some (.int (ob ds o c bs)) := by
  have hl := (allB_ok m bs hb).1
  have bl := bts_len hc.symm (t := bs)
  have o0 := ok.o0
  have o1 := ok.o1
  exact atI_ints o0 (by rw [bl, hl]; omega)
abbrev EP := Int × PC
def eD (e : EP) : PyData := .tuple [.int e.1, pD e.2]
def EAt (H : Hp) (p : Addr) (e : EP) : Prop := ∃ T, H p = some (.tup [.int e.1, .ref T]) ∧ PrC H T e.2
theorem EAt.stay {H H' : Hp} {p : Addr} {e : EP} (h : EAt H p e) (t : TupsStay H H') : EAt H' p e := by
  obtain ⟨T, e1, e2⟩ := h
  exact ⟨T, t _ _ e1, e2.stay t⟩
abbrev EsAt (H : Hp) : List Addr → List EP → Prop := Paired (EAt H)
theorem esat_stay {H H' : Hp} (t : TupsStay H H') {qs : List Addr} {l : List EP} (h : EsAt H qs l) : EsAt H' qs l := awMap (fun _ _ e => e.stay t) h
theorem lay_eD (q : EP) : (eD q).canLay0 = true ∧ (eD q).depth = 3 := by
  obtain ⟨a1, a2⟩ := lay_pD q.2
  unfold eD
  simp only [PyData.canLay0, PyData.canLayAll0, PyData.depth, PyData.depthAll, a1, a2]
  simp
theorem shaped_eD (q : EP) : SeqAt.shaped (eD q) = true := by
  obtain ⟨a1, a2⟩ := lay_eD q
  unfold SeqAt.shaped
  rw [a1, a2]
  rfl
theorem lay_eDs : ∀ l : List EP, PyData.canLayAll0 (l.map eD) = true ∧ PyData.depthAll (l.map eD) ≤ 3
  | [] => ⟨by simp only [List.map_nil, PyData.canLayAll0], by simp only [List.map_nil, PyData.depthAll]; decide⟩
  | q :: l => by
    obtain ⟨a1, a2⟩ := lay_eD q
    obtain ⟨b1, b2⟩ := lay_eDs l
    exact ⟨by simp only [List.map_cons, PyData.canLayAll0, a1, b1, Bool.and_self], by simp only [List.map_cons, PyData.depthAll, a2]; omega⟩
theorem shaped_eDs (l : List EP) : SeqAt.shaped (.list (l.map eD)) = true := by
  obtain ⟨a1, a2⟩ := lay_eDs l
  unfold SeqAt.shaped
  simp only [PyData.canLay0, PyData.depth, a1, Bool.true_and]
  exact decide_eq_true (by omega)
theorem eqv_eD (p q : EP) : PyData.eqv (eD p) (eD q) = decide (p = q) := by
  by_cases h : p = q
  · subst h
    rw [decide_eq_true rfl]
    exact SeqAt.eqv_refl _ (SeqAt.canLay_of_shaped (shaped_eD p))
  · rw [decide_eq_false h]
    cases e : PyData.eqv (eD p) (eD q) with
    | false => rfl
    | true =>
      exfalso
      unfold eD at e
      simp only [PyData.eqv, PyData.eqvAll, Bool.and_eq_true, eqv_pD] at e
      have e1 : p.1 = q.1 := by simpa [PyData.eqv] using e.1
      have e2 : p.2 = q.2 := of_decide_eq_true e.2.1
      exact h (Prod.ext e1 e2)
theorem any_eD (q : EP) : ∀ l : List EP, ((l.map eD).any fun z => PyData.eqv z (eD q)) = decide (q ∈ l)
  | [] => rfl
  | p :: l => by
    rw [List.map_cons, List.any_cons, eqv_eD, any_eD q l]
    by_cases h : p = q
    · subst h
      simp
    · have : ¬ q = p := fun z => h z.symm
      simp [h, this]
theorem dp_eD {H : Hp} {p : Addr} {q : EP} (h : EAt H p q) : Dp K H (.ref p) (eD q) := by
  obtain ⟨T, e1, e2⟩ := h
  exact .tup (SqT.of e1) (.cons (.int _) (.cons (dp_pD e2) .nil))
theorem dp_eDs {H : Hp} : ∀ {as : List Addr} {ps : List EP}, EsAt H as ps → DpAll K H (as.map V.ref) (ps.map eD)
  | _, _, .nil => .nil
  | _, _, .cons h t => .cons (dp_eD h) (dp_eDs t)
/-- what comes of a pair by bits -/
abbrev enP (ds1 : List Deed) (o1 : Int) (ds2 : List Deed) (o2 : Int) (q : PC) (b : List Int) : EP := (gnPP ds1 o1 ds2 o2 q b, nxPP ds1 ds2 q b)
structure BhI (L : List (List Int)) (ds1 : List Deed) (o1 : Int) (ds2 : List Deed) (o2 : Int) (q : PC) (j : Nat) (es : List EP) : Prop where
  len : es.length ≤ j
  from' : ∀ e ∈ es, ∃ c ∈ L, e = enP ds1 o1 ds2 o2 q c
  all : ∀ (i : Nat) c, i < j → L[i]? = some c → enP ds1 o1 ds2 o2 q c ∈ es
theorem bhi_next {L : List (List Int)} {ds1 ds2 : List Deed} {o1 o2 : Int} {q : PC} {j : Nat} {es es' : List EP} {c : List Int} (h : BhI L ds1 o1 ds2 o2 q j es) (hc : L[j]? = some c) (h' : (enP ds1 o1 ds2 o2 q c ∈ es ∧ es' = es) ∨ es' = es ++ [enP ds1 o1 ds2 o2 q c]) : BhI L ds1 o1 ds2 o2 q (j + 1) es' := by
  rcases h' with ⟨h1, rfl⟩ | rfl
  · refine ⟨by have := h.len; omega, h.from', fun i c' hi hc' => ?_⟩
    by_cases e : i = j
    · subst e
      rw [hc] at hc'
      obtain rfl := Option.some.inj hc'
      exact h1
    · exact h.all i c' (by omega) hc'
  · refine ⟨by rw [List.length_append]; have := h.len; show es.length + 1 ≤ _; omega, fun e he => ?_, fun i c' hi hc' => ?_⟩
    · rcases List.mem_append.mp he with he | he
      · exact h.from' e he
      · exact ⟨c, List.mem_of_getElem? hc, List.mem_singleton.mp he⟩
    · by_cases e : i = j
      · subst e
        rw [hc] at hc'
        obtain rfl := Option.some.inj hc'
        exact List.mem_append_right _ List.mem_cons_self
      · exact List.mem_append_left _ (h.all i c' (by omega) hc')
structure BhOk (m : Nat) (ds1 : List Deed) (o1 : Int) (ds2 : List Deed) (o2 : Int) (q : PC) (es : List EP) : Prop where
  len : es.length ≤ 8
  from' : ∀ e ∈ es, ∃ c ∈ allB m, e = enP ds1 o1 ds2 o2 q c
  all : ∀ c ∈ allB m, enP ds1 o1 ds2 o2 q c ∈ es
def spBh90 : Sp := fun vs H Q _ => ∃ (R1 R2 T : Addr) (m : Nat) (o1 o2 : Int) (ds1 ds2 : List Deed) (q : PC), vs = [.ref R1, .ref R2, .ref T] ∧ RowAt H R1 m ds1 o1 ∧ RowAt H R2 m ds2 o2 ∧ RowOk m ds1 o1 ∧ RowOk m ds2 o2 ∧ PrC H T q ∧ PcOk ds1 ds2 q ∧
  ∀ H' p as es, Same H H' → H p = none → H' p = some (.lst (as.map V.ref)) → EsAt H' as es → BhOk m ds1 o1 ds2 o2 q es → Q (.ref p) H'
set_option maxHeartbeats 2000000 in
theorem ok_bh90 {f fB fS : Addr} {fd fdB fdS : FuncData} {k : Nat} (F : Fun K "_law_behind" "_law_behind" s_law_behind f fd)
    (GB : FnOk P w K mg base CX0 (k + 1) fB fdB ["many"] spAbf) (kB : PySem.W.keepIn K (.ref fB) = true) (bB : Binds K fdB ["many"] []) (gB : mg "_law_bits" = some (.ref fB))
    (GS : FnOk P w K mg base CX0 (k + 2) fS fdS ["row", "carry", "bits"] spLs) (kS : PySem.W.keepIn K (.ref fS) = true) (bS : Binds K fdS ["row", "carry", "bits"] []) (gS : mg "_law_step" = some (.ref fS)) : FnOk P w K mg base CX0 (k + 3) f fd ["row", "other", "pair"] spBh90 := by
  refine F.ok sc_law_behind (fun vs H Q E h => ?_) (fun cdv A outer s H vs Q E hr h => ?_)
  · obtain ⟨R1, R2, T, m, o1, o2, ds1, ds2, q, rfl, _⟩ := h
    rfl
  · obtain ⟨R1, R2, T, m, o1, o2, ds1, ds2, q, rfl, hr1, hr2, ok1, ok2, hT, pq, qq⟩ := h
    obtain ⟨A1, B1, eT, eA, eBB⟩ := id hT
    obtain ⟨D1, rs1, eR1, eD1, hd1⟩ := id hr1
    obtain ⟨D2, rs2, eR2, eD2, hd2⟩ := id hr2
    have r1 := hr.mono (show k + 1 ≤ k + 2 by omega)
    have l1 := ok1.len
    have l2 := ok2.len
    have m1 := ok1.m1
    have m3 := ok1.m3
    have hu65 := hu65_of hr
    have p8 : 2 ^ m ≤ 8 := Nat.le_trans (Nat.pow_le_pow_right (by decide) (show m ≤ 3 by omega)) (by decide)
    refine ⟨_, pss_cons (ps_set (i := 3) sc_law_behind.nd rfl (.inl rfl) (pe_lst pa_nil))
    (pss_cons (ps_for PassesOwn.never rfl (pi_list (pe_call GB r1 (by rfl) gB kB bB .nil pass0 (pa_cons (pe_ix ix_tup (pv 0) pe_int (fun _ _ => rfl)) pa_nil))) (pg_name (i := 4) sc_law_behind.nd rfl (.inl rfl))
    (pss_cons (ps_asg (pe_call GS hr (by rfl) gS kS bS .nil pass0 (pa_cons (pv 0) (pa_cons (pe_ix ix_tup (pv 2) pe_int (fun _ _ => rfl)) (pa_cons (pv 4) pa_nil)))) (pg_tup rfl (pgs_cons (pg_name (i := 5) sc_law_behind.nd rfl (.inl rfl)) (pgs_cons (pg_name (i := 6) sc_law_behind.nd rfl (.inl rfl)) pgs_nil))))
    (pss_cons (ps_asg (pe_call GS hr (by rfl) gS kS bS .nil pass0 (pa_cons (pv 1) (pa_cons (pe_ix ix_tup (pv 2) pe_int (fun _ _ => rfl)) (pa_cons (pv 4) pa_nil)))) (pg_tup rfl (pgs_cons (pg_name (i := 7) sc_law_behind.nd rfl (.inl rfl)) (pgs_cons (pg_name (i := 8) sc_law_behind.nd rfl (.inl rfl)) pgs_nil))))
    (pss_one (ps_if (pt_cmpR (op_notInD hu65) (pe_tup (pa_cons (pe_op op_sub (pe_ix ix_tup (pv 5) (pe_ix ix_tup (pv 0) pe_int (fun _ _ => rfl)) (fun _ _ => rfl)) (pe_ix ix_tup (pv 7) (pe_ix ix_tup (pv 1) pe_int (fun _ _ => rfl)) (fun _ _ => rfl))) (pa_cons (pe_tup (pa_cons (pv 6) (pa_cons (pv 8) pa_nil))) pa_nil))) (pv 3) (by rfl))
    (pss_one (ps_expr (pe_bm PySem.F.plainAttrs_list PySem.F.slot_list_append PySem.F.type_list_append mt_append (pv 3) (pa_cons (pe_tup (pa_cons (pe_op op_sub (pe_ix ix_tup (pv 5) (pe_ix ix_tup (pv 0) pe_int (fun _ _ => rfl)) (fun _ _ => rfl)) (pe_ix ix_tup (pv 7) (pe_ix ix_tup (pv 1) pe_int (fun _ _ => rfl)) (fun _ _ => rfl))) (pa_cons (pe_tup (pa_cons (pv 6) (pa_cons (pv 8) pa_nil))) pa_nil))) pa_nil))))
    pss_nil)))))
    (pss_one (ps_ret (pv 3)))), ?_⟩
    refine ⟨(by show 0 ≤ sizeLine; decide), fun L hL => ?_⟩
    have sL := same_new (o := .lst []) hL
    refine ⟨.ref R1, rfl, R1, _, 0, .int (m : Int), rfl, rfl, SqT.of (sL _ _ eR1), rfl, m, rfl, by omega, by omega, fun H4 Bl fs s4 nB eBl hfs => ?_⟩
    have fl : fs.length = 2 ^ m := by rw [awLen hfs, allB_len]
    have nBL : Bl ≠ L := fun z => by rw [z, upd_same] at nB; cases nB
    have s04 : Same H H4 := sL.trans s4
    refine ⟨Bl, rfl, ⟨_, .inl (.inl eBl)⟩, for_list (K := K) (a := Bl) (xs := fs.map V.ref) (fun t σ H6 => ∃ (y4 y5 y6 y7 y8 : Option V) (as : List Addr) (es : List EP), σ = [some (.ref R1), some (.ref R2), some (.ref T), some (.ref L), y4, y5, y6, y7, y8] ∧ H6 L = some (.lst (as.map V.ref)) ∧ EsAt H6 as es ∧ BhI (allB m) ds1 o1 ds2 o2 q t es ∧ ∀ b u, b ≠ L → H4 b = some u → H6 b = some u)
      ⟨none, none, none, none, none, [], [], rfl, s4 _ _ upd_same, .nil, ⟨Nat.le_refl _, (fun _ z => nomatch z), fun i _ z => absurd z (Nat.not_lt_zero _)⟩, fun _ _ _ z => z⟩ (fun t σ H6 _ hp => ?_) (fun t x σ H6 hx hp => ?_) (fun σ H6 hp => ?_)⟩
    · obtain ⟨_, _, _, _, _, _, _, _, _, _, _, st⟩ := hp
      exact .inl (.inl (st _ _ nBL eBl))
    · obtain ⟨y4, y5, y6, y7, y8, as, es, rfl, eL6, hes, bh, st⟩ := hp
      have ht : t < fs.length := by
        have := (List.getElem?_eq_some_iff.mp hx).1
        rwa [List.length_map] at this
      rw [List.getElem?_map] at hx
      obtain ⟨b, hb, rfl⟩ := Option.map_eq_some_iff.mp hx
      obtain ⟨bs, hbs, eb⟩ := awGet hfs hb
      have hbm := List.mem_of_getElem? hbs
      obtain ⟨bl, bb⟩ := allB_ok m bs hbm
      have eL0 : (upd H L (.lst [])) L = some (.lst []) := upd_same
      have s06 : Same H H6 := fun b u z => st b u (ne_of_none z hL) (s04 _ _ z)
      have eb6 : H6 b = some (.tup (bs.map V.int)) := st _ _ (ne_of eb (s4 _ _ eL0) (fun y => nomatch y)) eb
      refine ⟨.ref R1, rfl, .ref T, rfl, T, _, 0, .ref A1, rfl, rfl, SqT.of (s06 _ _ eT), rfl, .ref b, rfl, R1, A1, b, m, o1, ds1, q.1, bs, rfl, (Same.tups s06).row hr1, ok1.deeds, by omega, s06 _ _ eA, pq.l1, eb6, by rw [bl], by omega, pq.b1, bb, fun H7 p1 a1 a2 s7 ep1 ea1 ea2 => ?_⟩
      refine ⟨p1, [.ref a1, .ref a2], rfl, .inl (.inl ep1), rfl, .ref a1, [.ref a2], rfl, .ref a2, [], rfl, rfl, ?_⟩
      have s07 := s06.trans s7
      refine ⟨.ref R2, rfl, .ref T, rfl, T, _, 1, .ref B1, rfl, rfl, SqT.of (s07 _ _ eT), rfl, .ref b, rfl, R2, B1, b, m, o2, ds2, q.2, bs, rfl, (Same.tups s07).row hr2, ok2.deeds, by omega, s07 _ _ eBB, pq.l2, s7 _ _ eb6, by rw [bl], by omega, pq.b2, bb, fun H8 p2 b1 b2 s8 ep2 eb1 eb2 => ?_⟩
      refine ⟨p2, [.ref b1, .ref b2], rfl, .inl (.inl ep2), rfl, .ref b1, [.ref b2], rfl, .ref b2, [], rfl, rfl, ?_⟩
      have s08 := s07.trans s8
      have s68 := s7.trans s8
      refine ⟨.ref a1, rfl, .ref R1, rfl, R1, _, 2, .int o1, rfl, rfl, SqT.of (s08 _ _ eR1), rfl, a1, _, o1, _, rfl, rfl, SqT.of (s8 _ _ ea1), ob_at9 ok1 hbm pq.l1, .ref b1, rfl, .ref R2, rfl, R2, _, 2, .int o2, rfl, rfl, SqT.of (s08 _ _ eR2), rfl, b1, _, o2, _, rfl, rfl, SqT.of eb1, ob_at9 ok2 hbm pq.l2, _, _, rfl, rfl, .ref a2, rfl, .ref b2, rfl, (by show 2 ≤ sizeLine; decide), fun Y hY => ?_⟩
      have sY := same_new (o := .tup [.ref a2, .ref b2]) hY
      refine ⟨(by show 2 ≤ sizeLine; decide), fun Z hZ => ?_⟩
      have sZ := same_new (o := .tup [.int (ob ds1 o1 q.1 bs - ob ds2 o2 q.2 bs), .ref Y]) hZ
      have eZ : EAt (upd (upd H8 Y (.tup [.ref a2, .ref b2])) Z (.tup [.int (ob ds1 o1 q.1 bs - ob ds2 o2 q.2 bs), .ref Y])) Z (enP ds1 o1 ds2 o2 q bs) := ⟨Y, upd_same, a2, b2, sZ _ _ upd_same, sZ _ _ (sY _ _ (s8 _ _ ea2)), sZ _ _ (sY _ _ eb2)⟩
      have s6Z := s68.trans (sY.trans sZ)
      obtain ⟨H9, hH9⟩ : ∃ H9, H9 = (upd (upd H8 Y (.tup [.ref a2, .ref b2])) Z (.tup [.int (ob ds1 o1 q.1 bs - ob ds2 o2 q.2 bs), .ref Y])) := ⟨_, rfl⟩
      rw [← hH9] at eZ s6Z
      refine ⟨.ref L, rfl, eD (enP ds1 o1 ds2 o2 q bs), es.map eD, ?_, .lst (.inl (.inl ?_)) (dp_eDs (as := as) (esat_stay (Same.tups s6Z) hes) |> fun z => by rw [hH9] at z; exact z), shaped_eD _, shaped_eDs _, _, rfl, ?_⟩
      · rw [← hH9]
        exact dp_eD eZ
      · rw [← hH9]
        exact s6Z _ _ eL6
      have st9 : ∀ b u, b ≠ L → H4 b = some u → H9 b = some u := fun b u n1 z => s6Z _ _ (st b u n1 z)
      rw [any_eD]
      by_cases hin : enP ds1 o1 ds2 o2 q bs ∈ es
      · rw [decide_eq_true hin]
        refine iteF ?_
        rw [← hH9]
        exact ⟨_, _, _, _, _, as, es, rfl, s6Z _ _ eL6, esat_stay (Same.tups s6Z) hes, bhi_next bh hbs (.inl ⟨hin, rfl⟩), st9⟩
      · rw [decide_eq_false hin]
        refine iteT ?_
        rw [← hH9]
        have s09 := s06.trans s6Z
        have es9 := esat_stay (Same.tups s6Z) hes
        have eL9 := s6Z _ _ eL6
        have ea1' : H9 a1 = some (.tup ((bts ds1 q.1 bs).map V.int)) := by rw [hH9]; exact sZ _ _ (sY _ _ (s8 _ _ ea1))
        have ea2' : H9 a2 = some (.tup ((nxt ds1 q.1 (bts ds1 q.1 bs)).map V.int)) := by rw [hH9]; exact sZ _ _ (sY _ _ (s8 _ _ ea2))
        have eb1' : H9 b1 = some (.tup ((bts ds2 q.2 bs).map V.int)) := by rw [hH9]; exact sZ _ _ (sY _ _ eb1)
        have eb2' : H9 b2 = some (.tup ((nxt ds2 q.2 (bts ds2 q.2 bs)).map V.int)) := by rw [hH9]; exact sZ _ _ (sY _ _ eb2)
        refine ⟨.ref L, rfl, .inl ⟨rfl, _, .inl (.inl eL9)⟩, .ref a1, rfl, .ref R1, rfl, R1, _, 2, .int o1, rfl, rfl, SqT.of (s09 _ _ eR1), rfl, a1, _, o1, _, rfl, rfl, SqT.of ea1', ob_at9 ok1 hbm pq.l1, .ref b1, rfl, .ref R2, rfl, R2, _, 2, .int o2, rfl, rfl, SqT.of (s09 _ _ eR2), rfl, b1, _, o2, _, rfl, rfl, SqT.of eb1', ob_at9 ok2 hbm pq.l2, _, _, rfl, rfl, .ref a2, rfl, .ref b2, rfl, (by show 2 ≤ sizeLine; decide), fun Y2 hY2 => ?_⟩
        have sY2 := same_new (o := .tup [.ref a2, .ref b2]) hY2
        refine ⟨(by show 2 ≤ sizeLine; decide), fun Z2 hZ2 => ?_⟩
        have sZ2 := same_new (o := .tup [.int (ob ds1 o1 q.1 bs - ob ds2 o2 q.2 bs), .ref Y2]) hZ2
        have eZ2 : EAt (upd (upd H9 Y2 (.tup [.ref a2, .ref b2])) Z2 (.tup [.int (ob ds1 o1 q.1 bs - ob ds2 o2 q.2 bs), .ref Y2])) Z2 (enP ds1 o1 ds2 o2 q bs) := ⟨Y2, upd_same, a2, b2, sZ2 _ _ upd_same, sZ2 _ _ (sY2 _ _ ea2'), sZ2 _ _ (sY2 _ _ eb2')⟩
        have s9Z := sY2.trans sZ2
        have eLZ := s9Z _ _ eL9
        have al := awLen hes
        have bl8 := bh.len
        have tp := tups_put (o := .lst (as.map V.ref ++ [V.ref Z2])) eLZ
        refine ⟨L, _, _, rfl, rfl, eLZ, (by rw [List.length_map]; exact small1000 (by omega)), ?_⟩
        refine ⟨_, _, _, _, _, as ++ [Z2], es ++ [enP ds1 o1 ds2 o2 q bs], rfl, ?_, ?_, bhi_next bh hbs (.inr rfl), fun b u n1 z => ?_⟩
        · rw [upd_same, List.map_append]
          rfl
        · exact awSnoc (eZ2.stay tp) (esat_stay tp (esat_stay (Same.tups s9Z) es9))
        · rw [upd_ne n1]
          exact s9Z _ _ (st9 b u n1 z)
    · obtain ⟨y4, y5, y6, y7, y8, as, es, rfl, eL6, hes, bh, st⟩ := hp
      rw [List.length_map, fl] at bh
      have s06 : Same H H6 := fun b u z => st b u (ne_of_none z hL) (s04 _ _ z)
      refine ⟨.ref L, rfl, qq H6 L as es s06 hL eL6 hes ⟨Nat.le_trans bh.len p8, bh.from', fun c hc => ?_⟩⟩
      obtain ⟨i, hi⟩ := List.mem_iff_getElem?.mp hc
      have il := (List.getElem?_eq_some_iff.mp hi).1
      rw [allB_len] at il
      exact bh.all i c il hi
/-! ### k90: _law_most -/
def valZ90 : V → Int
  | .int i => i
  | _ => 0
/-- the greatest of what was told for each pair -/
structure MaxOf (xs : List NE) (S : List (PC × Int)) : Prop where
  from' : ∀ x ∈ xs, ∃ (q : PC) (v : Int), (q, v) ∈ S ∧ x.1 = kP q.1 q.2 ∧ x.2.2 = .int v
  all : ∀ e ∈ S, ∃ v : Int, getN xs (kP e.1.1 e.1.2) = some (.int v) ∧ e.2 ≤ v
theorem maxof_next {xs : List NE} {S : List (PC × Int)} {q : PC} {b : Addr} {g tot nv : Int} (h : MaxOf xs S) (hg : (getN xs (kP q.1 q.2)).getD (.int tot) = .int g) (hn : nv = if tot > g then tot else g) : MaxOf (putN xs (kP q.1 q.2) b (.int nv)) (S ++ [(q, tot)]) := by
  have ge : tot ≤ nv ∧ g ≤ nv := by rw [hn]; split <;> omega
  refine ⟨fun x hx => ?_, fun e he => ?_⟩
  · rcases putN_mem hx with ⟨e1, e2⟩ | ⟨hx, _⟩
    · have : nv = tot ∨ nv = g := by rw [hn]; split <;> simp
      rcases this with rfl | rfl
      · exact ⟨q, _, List.mem_append_right _ List.mem_cons_self, e1, e2⟩
      · cases eg : getN xs (kP q.1 q.2) with
        | none =>
          rw [eg] at hg
          have e3 : tot = nv := V.int.inj hg
          exact ⟨q, _, List.mem_append_right _ (by rw [← e3]; exact List.mem_cons_self), e1, e2⟩
        | some y =>
          rw [eg] at hg
          obtain rfl : y = .int nv := hg
          obtain ⟨b0, hb⟩ := getN_some eg
          obtain ⟨q', v', h1, h2, h3⟩ := h.from' _ hb
          obtain ⟨a1, a2⟩ := kP_inj h2
          obtain rfl : q = q' := Prod.ext a1 a2
          obtain rfl : nv = v' := V.int.inj h3
          exact ⟨q, _, List.mem_append_left _ h1, e1, e2⟩
    · obtain ⟨q', v', h1, h2, h3⟩ := h.from' x hx
      exact ⟨q', v', List.mem_append_left _ h1, h2, h3⟩
  · rw [getN_putN]
    by_cases hk : kP e.1.1 e.1.2 = kP q.1 q.2
    · rw [if_pos hk]
      refine ⟨nv, rfl, ?_⟩
      rcases List.mem_append.mp he with he | he
      · obtain ⟨v, h1, h2⟩ := h.all e he
        rw [hk] at h1
        rw [h1] at hg
        obtain rfl : v = g := V.int.inj hg
        omega
      · rw [List.mem_singleton.mp he]
        exact ge.1
    · rw [if_neg hk]
      rcases List.mem_append.mp he with he | he
      · exact h.all e he
      · rw [List.mem_singleton.mp he] at hk
        exact absurd rfl hk
theorem maxof_nil : MaxOf [] [] := ⟨(fun _ z => nomatch z), (fun _ z => nomatch z)⟩
/-- for each pair that comes in so many steps the greatest amount -/
structure BestK (m : Nat) (ds1 : List Deed) (o1 : Int) (ds2 : List Deed) (o2 : Int) (t : Nat) (xs : List NE) : Prop where
  wok : WOk ds1 ds2 xs
  from' : ∀ x ∈ xs, ∃ cs : List (List Int), cs.length = t ∧ (∀ c ∈ cs, c ∈ allB m) ∧ x.1 = kP (cs.foldl (nxPP ds1 ds2) (ds1.map fcD, ds2.map fcD)).1 (cs.foldl (nxPP ds1 ds2) (ds1.map fcD, ds2.map fcD)).2 ∧ x.2.2 = .int (gsum (nxPP ds1 ds2) (gnPP ds1 o1 ds2 o2) (ds1.map fcD, ds2.map fcD) cs)
  all : ∀ cs : List (List Int), cs.length = t → (∀ c ∈ cs, c ∈ allB m) → ∃ v : Int, getN xs (kP (cs.foldl (nxPP ds1 ds2) (ds1.map fcD, ds2.map fcD)).1 (cs.foldl (nxPP ds1 ds2) (ds1.map fcD, ds2.map fcD)).2) = some (.int v) ∧ gsum (nxPP ds1 ds2) (gnPP ds1 o1 ds2 o2) (ds1.map fcD, ds2.map fcD) cs ≤ v
theorem bestk_first (m : Nat) (ds1 : List Deed) (o1 : Int) (ds2 : List Deed) (o2 : Int) (T : Addr) : BestK m ds1 o1 ds2 o2 0 [(kP (ds1.map fcD) (ds2.map fcD), T, .int 0)] := by
  refine ⟨⟨by simp, fun x hx => ?_⟩, fun x hx => ?_, fun cs hl _ => ?_⟩
  · rw [List.mem_singleton.mp hx]
    exact ⟨(ds1.map fcD, ds2.map fcD), 0, rfl, rfl, pc_first ds1 ds2⟩
  · rw [List.mem_singleton.mp hx]
    exact ⟨[], rfl, (fun _ z => nomatch z), rfl, rfl⟩
  · rw [List.length_eq_zero_iff.mp hl]
    refine ⟨0, ?_, Int.le_refl _⟩
    exact getN_of (x := (kP (ds1.map fcD) (ds2.map fcD), T, V.int 0)) (by simp) List.mem_cons_self
/-- what is told of the pairs, so far -/
abbrev PcE := PC × Int × List EP
def flat90 (t : Nat) (ps : List PcE) : List (PC × Int) := ps.flatMap fun p => p.2.2.map fun e => (e.2, p.2.1 + e.1 * 2 ^ t)
theorem bestk_next {m t : Nat} {ds1 ds2 : List Deed} {o1 o2 : Int} {xs ys : List NE} {ps : List PcE} (h : BestK m ds1 o1 ds2 o2 t xs) (hp : Paired (fun (x : NE) (p : PcE) => x.1 = kP p.1.1 p.1.2 ∧ x.2.2 = .int p.2.1 ∧ BhOk m ds1 o1 ds2 o2 p.1 p.2.2) xs ps) (hm : MaxOf ys (flat90 t ps)) (hw : WOk ds1 ds2 ys) : BestK m ds1 o1 ds2 o2 (t + 1) ys := by
  refine ⟨hw, fun y hy => ?_, fun cs hl hc => ?_⟩
  · obtain ⟨q, v, h1, h2, h3⟩ := hm.from' y hy
    unfold flat90 at h1
    obtain ⟨p, hp1, hp2⟩ := List.mem_flatMap.mp h1
    obtain ⟨e, he1, he2⟩ := List.mem_map.mp hp2
    obtain ⟨i, hi⟩ := List.mem_iff_getElem?.mp hp1
    obtain ⟨x, hx, x1, x2, bh⟩ := awGet2 hp hi
    obtain ⟨c, hc, rfl⟩ := bh.from' e he1
    obtain ⟨cs, cl, ca, e1, e2⟩ := h.from' x (List.mem_of_getElem? hx)
    rw [x1] at e1
    obtain ⟨a1, a2⟩ := kP_inj e1
    have eq : p.1 = cs.foldl (nxPP ds1 ds2) (ds1.map fcD, ds2.map fcD) := Prod.ext a1 a2
    rw [x2] at e2
    have ev : p.2.1 = gsum (nxPP ds1 ds2) (gnPP ds1 o1 ds2 o2) (ds1.map fcD, ds2.map fcD) cs := V.int.inj e2
    obtain ⟨rfl, rfl⟩ := Prod.mk.inj he2
    refine ⟨cs ++ [c], by rw [List.length_append, cl]; rfl, fun z hz => ?_, ?_, ?_⟩
    · rcases List.mem_append.mp hz with hz | hz
      · exact ca z hz
      · rw [List.mem_singleton.mp hz]
        exact hc
    · rw [List.foldl_append, h2, eq]
      rfl
    · rw [h3, gsum_snoc, cl, ← ev, ← eq, Int.mul_comm]
  · obtain ⟨cs, c, rfl⟩ : ∃ cs' c', cs = cs' ++ [c'] := by
      have ne : cs ≠ [] := fun z => by rw [z] at hl; cases hl
      exact ⟨cs.dropLast, cs.getLast ne, (List.dropLast_concat_getLast ne).symm⟩
    have cl : cs.length = t := by
      rw [List.length_append] at hl
      have : cs.length + 1 = t + 1 := hl
      omega
    have hcm := hc c (List.mem_append_right _ List.mem_cons_self)
    obtain ⟨v, hv1, hv2⟩ := h.all cs cl fun z hz => hc z (List.mem_append_left _ hz)
    obtain ⟨b0, hb⟩ := getN_some hv1
    obtain ⟨i, hi⟩ := List.mem_iff_getElem?.mp hb
    obtain ⟨p, hp1, x1, x2, bh⟩ := awGet hp hi
    obtain ⟨a1, a2⟩ := kP_inj x1
    have eq : cs.foldl (nxPP ds1 ds2) (ds1.map fcD, ds2.map fcD) = p.1 := Prod.ext a1 a2
    have ev : v = p.2.1 := V.int.inj x2
    have hin : (nxPP ds1 ds2 p.1 c, p.2.1 + gnPP ds1 o1 ds2 o2 p.1 c * 2 ^ t) ∈ flat90 t ps := by
      unfold flat90
      exact List.mem_flatMap.mpr ⟨p, List.mem_of_getElem? hp1, List.mem_map.mpr ⟨_, bh.all c hcm, rfl⟩⟩
    obtain ⟨v2, g1, g2⟩ := hm.all _ hin
    refine ⟨v2, ?_, ?_⟩
    · rw [List.foldl_append, eq]
      exact g1
    · rw [gsum_snoc, cl, eq, Int.mul_comm]
      have g2' : p.2.1 + gnPP ds1 o1 ds2 o2 p.1 c * 2 ^ t ≤ v2 := g2
      omega
def KnE (H : Hp) (m : Nat) (ds1 : List Deed) (o1 : Int) (ds2 : List Deed) (o2 : Int) (xs : List NE) : Prop := ∀ p ∈ xs, ∃ (r : PC) (q : Addr) (as : List Addr) (es : List EP), p.1 = kP r.1 r.2 ∧ PcOk ds1 ds2 r ∧ p.2.2 = .ref q ∧ H q = some (.lst (as.map V.ref)) ∧ EsAt H as es ∧ BhOk m ds1 o1 ds2 o2 r es
theorem KnE.mono {H H' : Hp} {m : Nat} {ds1 ds2 : List Deed} {o1 o2 : Int} {xs : List NE} (h : KnE H m ds1 o1 ds2 o2 xs) (tl : ∀ q ys, H q = some (.lst ys) → H' q = some (.lst ys)) (tt : TupsStay H H') : KnE H' m ds1 o1 ds2 o2 xs := fun p hp => by
  obtain ⟨r, q, as, es, h1, h0, h2, h3, h4, h5⟩ := h p hp
  exact ⟨r, q, as, es, h1, h0, h2, tl _ _ h3, esat_stay tt h4, h5⟩
theorem kne_few {H : Hp} {m : Nat} {ds1 ds2 : List Deed} {o1 o2 : Int} {xs : List NE} (h : KnE H m ds1 o1 ds2 o2 xs) (nd : (xs.map (·.1)).Nodup) (l1 : ds1.length ≤ 8) (l2 : ds2.length ≤ 8) : xs.length ≤ 65536 := by
  have key := few_pairs (ds1 := ds1) (ds2 := ds2) (ps := xs.map fun x => unP x.1) ?_ (fun q hq => ?_) l1 l2
  · rwa [List.length_map] at key
  · unfold List.Nodup at nd ⊢
    rw [List.pairwise_map] at nd ⊢
    refine List.Pairwise.imp_of_mem (fun {x y} hx hy hne e => hne ?_) nd
    obtain ⟨q, _, _, _, e1, _⟩ := h x hx
    obtain ⟨q', _, _, _, e2, _⟩ := h y hy
    have e' : unP x.1 = unP y.1 := e
    rw [e1, e2, unP_kP, unP_kP] at e'
    rw [e1, e2, e']
  · obtain ⟨x, hx, rfl⟩ := List.mem_map.mp hq
    obtain ⟨q, _, _, _, e1, k1, _⟩ := h x hx
    rw [e1, unP_kP]
    exact k1
theorem nd_snoc {xs : List NE} {k : NestedKey} {b : Addr} {v : V} (h : (xs.map (·.1)).Nodup) (hn : getN xs k = none) : ((xs ++ [(k, b, v)]).map (·.1)).Nodup := by
  have := putN_nodup (k := k) (b := b) (v := v) h
  unfold putN at this
  rwa [hn, if_neg (by simp)] at this
def spMo90 : Sp := fun vs H Q _ => ∃ (R1 R2 : Addr) (m n : Nat) (o1 o2 : Int) (ds1 ds2 : List Deed), vs = [.ref R1, .ref R2, .int (n : Int)] ∧ RowAt H R1 m ds1 o1 ∧ RowAt H R2 m ds2 o2 ∧ RowOk m ds1 o1 ∧ RowOk m ds2 o2 ∧ n ≤ 60 ∧
  ∀ H' (G : Int), Same H H' → (∃ cs : List (List Int), cs.length = n ∧ (∀ c ∈ cs, c ∈ allB m) ∧ gsum (nxPP ds1 ds2) (gnPP ds1 o1 ds2 o2) (ds1.map fcD, ds2.map fcD) cs = G) → (∀ cs : List (List Int), cs.length = n → (∀ c ∈ cs, c ∈ allB m) → gsum (nxPP ds1 ds2) (gnPP ds1 o1 ds2 o2) (ds1.map fcD, ds2.map fcD) cs ≤ G) → Q (.int G) H'
set_option maxHeartbeats 8000000 in
theorem ok_mo90 {f fF fB : Addr} {fd fdF fdB : FuncData} {k : Nat} (F : Fun K "_law_most" "_law_most" s_law_most f fd)
    (GF : FnOk P w K mg base CX0 (k + 1) fF fdF ["row"] spFc) (kF : PySem.W.keepIn K (.ref fF) = true) (bF : Binds K fdF ["row"] []) (gF : mg "_law_first" = some (.ref fF))
    (GB : FnOk P w K mg base CX0 (k + 3) fB fdB ["row", "other", "pair"] spBh90) (kB : PySem.W.keepIn K (.ref fB) = true) (bB : Binds K fdB ["row", "other", "pair"] []) (gB : mg "_law_behind" = some (.ref fB))
    (mr : mg "range" = none) (mx : mg "max" = none) : FnOk P w K mg base CX0 (k + 4) f fd ["row", "other", "width"] spMo90 := by
  refine F.ok sc_law_most (fun vs H Q E h => ?_) (fun cdv A outer s H vs Q E hr h => ?_)
  · obtain ⟨R1, R2, m, n, o1, o2, ds1, ds2, rfl, _⟩ := h
    rfl
  · obtain ⟨R1, R2, m, n, o1, o2, ds1, ds2, rfl, hr1, hr2, ok1, ok2, n60, qq⟩ := h
    have hu := hu_of hr
    have r1 := hr.mono (show k + 1 ≤ k + 3 by omega)
    refine ⟨_, pss_cons (ps_set (i := 3) sc_law_most.nd rfl (.inr rfl) (pe_ndisp (P := P) (w := w) rfl rfl hr.units (pe_tup (pa_cons (pe_call GF r1 (by rfl) gF kF bF .nil pass0 (pa_cons (pv 0) pa_nil)) (pa_cons (pe_call GF r1 (by rfl) gF kF bF .nil pass0 (pa_cons (pv 1) pa_nil)) pa_nil))) pe_int))
      (pss_cons (ps_set (i := 4) sc_law_most.nd rfl (.inl rfl) (pe_ndnew (P := P) (w := w) rfl rfl))
      (pss_cons (ps_for PassesOwn.never rfl (pi_range1 (by rfl) mr (pa_cons (pv 2) pa_nil)) (pg_name (i := 5) sc_law_most.nd rfl (.inl rfl))
        (pss_cons (ps_set (i := 6) sc_law_most.nd rfl (.inl rfl) (pe_ndnew (P := P) (w := w) rfl rfl))
        (pss_cons (ps_lock (ps_for PassesOwn.never rfl (pi_keysN (P := P) (w := w) rfl rfl (pv 3)) (pg_name (i := 7) sc_law_most.nd rfl (.inl rfl))
          (pss_mid (ps_if (pt_cmp (pc_ndnotin (P := P) (w := w) rfl rfl hr.units (pv 7) (pv 4)))
              (pss_one (ps_ndput (P := P) (w := w) rfl rfl hr.units (pv 4) (pv 7) (pe_call GB hr (by rfl) gB kB bB .nil pass0 (pa_cons (pv 0) (pa_cons (pv 1) (pa_cons (pv 7) pa_nil)))) rfl)) pss_nil)
          (pss_one (ps_for PassesOwn.never rfl (pi_list (pe_ndget (P := P) (w := w) rfl rfl hr.units (pv 4) (pv 7) (fun _ _ => rfl))) (pg_tup rfl (pgs_cons (pg_name (i := 8) sc_law_most.nd rfl (.inl rfl)) (pgs_cons (pg_name (i := 9) sc_law_most.nd rfl (.inl rfl)) pgs_nil)))
            (pss_cons (ps_set (i := 10) sc_law_most.nd rfl (.inl rfl) (pe_op op_add (pe_ndgetR (P := P) (w := w) rfl rfl hr.units (pv 3) (pv 7) (fun _ _ => rfl)) (pe_op op_mul (pv 8) (pe_op op_shl pe_int (pv 5)))))
            (pss_one (ps_ndputA (P := P) (w := w) rfl rfl hr.units (pv 6) (pv 9) (pe_callB (call_max2 rfl) (by rfl) mx (by decide +kernel) (pa_cons (pe_ndget2 (P := P) (w := w) rfl rfl hr.units (pv 6) (pv 9) (pv 10) ⟨rfl, rfl, rfl, rfl⟩) (pa_cons (pv 10) pa_nil))) rfl))))))))
        (pss_one (ps_set (i := 3) sc_law_most.nd rfl (.inr rfl) (pv 6))))))
      (pss_one (ps_ret (pe_callB (cr_max rfl) (by rfl) mx (by decide +kernel) (pa_cons (pe_lock (pe_lc (own := [("pair", 7)]) (g := gName 7) (by rfl) sc_law_most.nd (pi_keysN (P := P) (w := w) rfl rfl (pv 3)) (blkOk_by (own := [("pair", 7)]) (N := N_law_most) (sc := defScope s_law_most) (by decide +kernel)) (fun _ _ _ _ _ => (pg_name (i := 7) sc_law_most.nd rfl (.inl rfl))) (fun _ _ _ _ _ => pts_nil) (fun _ _ _ _ _ => (pe_ndgetR (P := P) (w := w) rfl rfl hr.units (pv 3) (pv 7) (fun _ _ => rfl))))) pa_nil)))))), ?_⟩
    have m3 := ok1.m3
    have l1 := ok1.len
    have l2 := ok2.len
    obtain ⟨fq, hfq⟩ : ∃ fq : PC, fq = (ds1.map fcD, ds2.map fcD) := ⟨_, rfl⟩
    intro Ws hWs
    have sW := same_new (o := NDO P w Ws []) hWs
    refine ⟨.ref R1, rfl, R1, m, o1, ds1, rfl, (Same.tups sW).row hr1, by omega, fun H1 C1 s1 nC1 eC1 => ⟨.ref R2, rfl, R2, m, o2, ds2, rfl, (Same.tups (sW.trans s1)).row hr2, by omega, fun H2 C2 s2 nC2 eC2 => ⟨(by show 2 ≤ sizeLine; decide), fun T hT => ?_⟩⟩⟩
    have sT := same_new (o := .tup [.ref C1, .ref C2]) hT
    have prT : PrC (upd H2 T (.tup [.ref C1, .ref C2])) T (ds1.map fcD, ds2.map fcD) := ⟨C1, C2, upd_same, sT _ _ (s2 _ _ eC1), sT _ _ eC2⟩
    have nd0 : ND P w (upd H2 T (.tup [.ref C1, .ref C2])) Ws [] := nd_same nd_nil (s1.trans (s2.trans sT))
    refine ⟨T, kP (ds1.map fcD) (ds2.map fcD), rfl, keyP prT, nd0.ob, ?_⟩
    have nd1 := nd_put (v := .int 0) nd0 (keyP prT)
    obtain ⟨H3, hH3⟩ : ∃ H3, H3 = upd (upd H2 T (.tup [.ref C1, .ref C2])) Ws (NDO P w Ws [(kP (ds1.map fcD) (ds2.map fcD), T, .int 0)]) := ⟨_, rfl⟩
    have nd3 : ND P w H3 Ws [(kP (ds1.map fcD) (ds2.map fcD), T, .int 0)] := by rw [hH3]; exact nd1
    have sH3 : Same H H3 := fun b u e => by
      rw [hH3, upd_ne (ne_of_none e hWs)]
      exact sT _ _ (s2 _ _ (s1 _ _ (sW _ _ e)))
    rw [← hH3]
    clear hH3 nd1 nd0 prT sT sW
    intro Kn hKn
    have nKH : H Kn = none := sH3.free hKn
    have nWK : Ws ≠ Kn := fun z => by rw [← z, nd3.ob] at hKn; cases hKn
    have sK := same_new (o := NDO P w Kn []) hKn
    have sI := sH3.trans sK
    refine ⟨.int (n : Int), rfl, (n : Int), rfl, by omega, by omega, for_range (lo := 0) (n := n) (fun t σ H4 => ∃ y5 y6 y7 y8 y9 y10 Ws xs ks, σ = [some (.ref R1), some (.ref R2), some (.int (n : Int)), some (.ref Ws), some (.ref Kn), y5, y6, y7, y8, y9, y10] ∧ ND P w H4 Ws xs ∧ BestK m ds1 o1 ds2 o2 t xs ∧ Ws ≠ Kn ∧ ND P w H4 Kn ks ∧ KnE H4 m ds1 o1 ds2 o2 ks ∧ (ks.map (·.1)).Nodup ∧ H Ws = none ∧ Same H H4)
      ⟨none, none, none, none, none, none, Ws, _, [], rfl, nd_same nd3 sK, bestk_first m ds1 o1 ds2 o2 T, nWK, nd_nil, (fun _ z => nomatch z), List.nodup_nil, hWs, sI⟩ (fun t σ H4 ht hp => ?_) (fun σ H4 hp => ?_)⟩
    · obtain ⟨y5, y6, y7, y8, y9, y10, Ws, xs, ks, rfl, ndW, bk, nWK, ndK, knK, kd, hWn, s4⟩ := hp
      clear hWs nd3
      have xl := wok_few bk.wok l1 l2
      have t60 : t < 60 := by omega
      intro Lt hLt
      have nLH : H Lt = none := s4.free hLt
      have nLW : Lt ≠ Ws := fun z => by rw [z, ndW.ob] at hLt; cases hLt
      have nLK : Lt ≠ Kn := fun z => by rw [z, ndK.ob] at hLt; cases hLt
      have sLt := same_new (o := NDO P w Lt []) hLt
      refine ⟨Ws, NDO P w Ws xs, sLt _ _ ndW.ob, True.intro, fun od => ?_⟩
      obtain ⟨HL, hHL⟩ : ∃ HL, HL = upd (upd H4 Lt (NDO P w Lt [])) Ws (.frz od (NDO P w Ws xs)) := ⟨_, rfl⟩
      have eWL : HL Ws = some (.frz od (NDO P w Ws xs)) := by rw [hHL]; exact upd_same
      have eLL : HL Lt = some (NDO P w Lt []) := by rw [hHL, upd_ne nLW]; exact upd_same
      have toL : ∀ b u, b ≠ Ws → H4 b = some u → HL b = some u := fun b u nb e => by
        rw [hHL, upd_ne nb]
        exact sLt _ _ e
      have tL : TupsStay H4 HL := fun b ys e => toL b _ (ne_of e ndW.ob (fun z => nomatch z)) e
      have ndKL : ND P w HL Kn ks := nd_stay ndK (toL _ _ nWK.symm ndK.ob) tL
      have knL : KnE HL m ds1 o1 ds2 o2 ks := knK.mono (fun q ys e => toL _ _ (ne_of e ndW.ob (fun z => nomatch z)) e) tL
      have ndLL : ND P w HL Lt [] := ⟨eLL, (fun _ z => nomatch z)⟩
      rw [← hHL]
      clear hHL
      refine ⟨.ref Ws, rfl, Ws, od, xs, rfl, eWL, for_it (walk_N (P := P) (w := w) (d := Ws) (o := od) (xs := xs)) (fun i σ H5 => ∃ y7 y8 y9 y10 ts ks ps, σ = [some (.ref R1), some (.ref R2), some (.int (n : Int)), some (.ref Ws), some (.ref Kn), some (.int (0 + t)), some (.ref Lt), y7, y8, y9, y10] ∧ ND P w H5 Lt ts ∧ WOk ds1 ds2 ts ∧ Paired (fun (x : NE) (p : PcE) => x.1 = kP p.1.1 p.1.2 ∧ x.2.2 = .int p.2.1 ∧ BhOk m ds1 o1 ds2 o2 p.1 p.2.2) (xs.take i) ps ∧ MaxOf ts (flat90 t ps) ∧ ND P w H5 Kn ks ∧ KnE H5 m ds1 o1 ds2 o2 ks ∧ (ks.map (·.1)).Nodup ∧ ∀ b u, b ≠ Kn → b ≠ Lt → HL b = some u → H5 b = some u)
        ⟨y7, y8, y9, y10, [], ks, [], rfl, ndLL, ⟨List.nodup_nil, (fun _ z => nomatch z)⟩, .nil, maxof_nil, ndKL, knL, kd, fun _ _ _ _ e => e⟩ (fun i σ H5 _ hp => ?_) (fun i x σ H6 H5 hi hp hy => ?_) (fun σ H5 hp => ?_)⟩
      · obtain ⟨_, _, _, _, _, _, _, _, _, _, _, _, _, _, _, st⟩ := hp
        exact st _ _ nWK nLW.symm eWL
      · obtain ⟨y7, y8, y9, y10, ts, ks, ps, rfl, ndT, wokT, hps, mxT, nd5, kn5, kd5, st⟩ := hp
        obtain ⟨rfl, p, hxp, rfl⟩ := hy
        obtain ⟨r, z, er, ez, rok⟩ := bk.wok.each p (List.mem_of_getElem? hxp)
        have t5 : TupsStay H4 H5 := fun b ys e => by
          have e1 := tL b ys e
          exact st _ _ (ne_of e1 ndKL.ob (fun y => nomatch y)) (ne_of e1 eLL (fun y => nomatch y)) e1
        have prc : PrC H5 p.2.1 r := by
          have h := (ndW.ks p (List.mem_of_getElem? hxp)).1
          rw [er] at h
          exact (prC_of h).stay t5
        have row1 : ∀ {H6 : Hp}, TupsStay H5 H6 → RowAt H6 R1 m ds1 o1 := fun s6 => ((Same.tups s4).trans (t5.trans s6)).row hr1
        have row2 : ∀ {H6 : Hp}, TupsStay H5 H6 → RowAt H6 R2 m ds2 o2 := fun s6 => ((Same.tups s4).trans (t5.trans s6)).row hr2
        refine ⟨fun σ' H' => ∃ ks q as es, σ' = [some (.ref R1), some (.ref R2), some (.int (n : Int)), some (.ref Ws), some (.ref Kn), some (.int (0 + t)), some (.ref Lt), some (.ref p.2.1), y8, y9, y10] ∧ ND P w H' Lt ts ∧ PrC H' p.2.1 r ∧ ND P w H' Kn ks ∧ KnE H' m ds1 o1 ds2 o2 ks ∧ (ks.map (·.1)).Nodup ∧ getN ks (kP r.1 r.2) = some (.ref q) ∧ H' q = some (.lst (as.map V.ref)) ∧ EsAt H' as es ∧ BhOk m ds1 o1 ds2 o2 r es ∧ ∀ b u, b ≠ Kn → b ≠ Lt → HL b = some u → H' b = some u, ?_, ?_⟩
        · refine ⟨.ref p.2.1, rfl, .ref Kn, rfl, Kn, ks, kP r.1 r.2, rfl, nd5, keyP prc, _, rfl, ?_⟩
          cases eg : getN ks (kP r.1 r.2) with
          | some v =>
            obtain ⟨b0, hm0⟩ := getN_some eg
            obtain ⟨r', qa, as, es, h1, h0, h2, h3, h4, h5⟩ := kn5 _ hm0
            have err : r = r' := by
              obtain ⟨a1, a2⟩ := kP_inj h1
              exact Prod.ext a1 a2
            subst err
            obtain rfl : v = .ref qa := h2
            exact ⟨ks, qa, as, es, rfl, ndT, prc, nd5, kn5, kd5, eg, h3, h4, h5, st⟩
          | none =>
            refine ⟨.ref R1, rfl, .ref R2, rfl, .ref p.2.1, rfl, R1, R2, p.2.1, m, o1, o2, ds1, ds2, r, rfl, row1 (fun _ _ e => e), row2 (fun _ _ e => e), ok1, ok2, prc, rok, fun H6 Z as es s6 nZ eZ hq bh => ?_⟩
            have nd6 := nd_same nd5 s6
            have key6 := keyP (prc.stay (Same.tups s6))
            have kfew := kne_few kn5 kd5 l1 l2
            refine ⟨.ref Kn, rfl, .ref p.2.1, rfl, Kn, ks, kP r.1 r.2, p.2.1, rfl, nd6, rfl, key6, eg, by rw [sizeLine_eq]; omega, ?_⟩
            have ndY := nd_put (v := .ref Z) nd6 key6
            have sKn : ∀ b u, b ≠ Kn → H6 b = some u → upd H6 Kn (NDO P w Kn (ks ++ [(kP r.1 r.2, p.2.1, .ref Z)])) b = some u := fun b u nb e => by
              rw [upd_ne nb]
              exact e
            have tKn : TupsStay H6 (upd H6 Kn (NDO P w Kn (ks ++ [(kP r.1 r.2, p.2.1, .ref Z)]))) := fun b ys e => sKn _ _ (ne_of e nd6.ob (fun y => nomatch y)) e
            have lKn : ∀ b ys, H6 b = some (.lst ys) → upd H6 Kn (NDO P w Kn (ks ++ [(kP r.1 r.2, p.2.1, .ref Z)])) b = some (.lst ys) := fun b ys e => sKn _ _ (ne_of e nd6.ob (fun y => nomatch y)) e
            refine ⟨ks ++ [(kP r.1 r.2, p.2.1, .ref Z)], Z, as, es, rfl, nd_stay (nd_same ndT s6) (sKn _ _ nLK (s6 _ _ ndT.ob)) tKn, (prc.stay (Same.tups s6)).stay tKn, ndY, ?_, nd_snoc kd5 eg, ?_, lKn _ _ eZ, esat_stay tKn hq, bh, fun b u n1 n2 e => sKn _ _ n1 (s6 _ _ (st b u n1 n2 e))⟩
            · intro y hy
              rcases List.mem_append.mp hy with hy | hy
              · exact ((kn5.mono (fun q ys e => s6 _ _ e) (Same.tups s6)).mono lKn tKn) y hy
              · rw [List.mem_singleton.mp hy]
                exact ⟨r, Z, as, es, rfl, rok, rfl, lKn _ _ eZ, esat_stay tKn hq, bh⟩
            · rw [getN_snoc eg, if_pos rfl]
        · rintro σ' H6 ⟨ks, q, as, es, rfl, ndT6, prc6, ndK6, kn6, kd6, eg, eq, hq, bh, st6⟩
          refine ⟨.ref Kn, rfl, .ref p.2.1, rfl, Kn, ks, kP r.1 r.2, .ref q, rfl, ndK6, keyP prc6, eg, q, rfl, ⟨_, .inl (.inl eq)⟩, for_list (K := K) (a := q) (xs := as.map V.ref) (fun j σ H7 => ∃ y8 y9 y10 ts, σ = [some (.ref R1), some (.ref R2), some (.int (n : Int)), some (.ref Ws), some (.ref Kn), some (.int (0 + t)), some (.ref Lt), some (.ref p.2.1), y8, y9, y10] ∧ ND P w H7 Lt ts ∧ WOk ds1 ds2 ts ∧ MaxOf ts (flat90 t ps ++ (es.take j).map fun e => (e.2, z + e.1 * 2 ^ t)) ∧ ∀ b u, b ≠ Lt → H6 b = some u → H7 b = some u)
            ⟨y8, y9, y10, ts, rfl, ndT6, wokT, by rw [List.take_zero, List.map_nil, List.append_nil]; exact mxT, fun _ _ _ e => e⟩ (fun j σ H7 _ hp => ?_) (fun j x σ H7 hx hp => ?_) (fun σ H7 hp => ?_)⟩
          · obtain ⟨_, _, _, _, _, _, _, _, st7⟩ := hp
            exact .inl (.inl (st7 _ _ (ne_of eq ndT6.ob (fun y => nomatch y)) eq))
          · obtain ⟨y8, y9, y10, ts, rfl, ndT7, wok7, mx7, st7⟩ := hp
            rw [List.getElem?_map] at hx
            obtain ⟨qa, hqa, rfl⟩ := Option.map_eq_some_iff.mp hx
            obtain ⟨e, he1, he2⟩ := awGet hq hqa
            obtain ⟨g, sq⟩ := e
            have t7 : TupsStay H6 H7 := fun b ys e => st7 _ _ (ne_of e ndT6.ob (fun y => nomatch y)) e
            obtain ⟨T7, eqa, hT7⟩ := he2.stay t7
            have key7 := keyP hT7
            have pr7 := prc6.stay t7
            have eW7 : H7 Ws = some (.frz od (NDO P w Ws xs)) := st7 _ _ nLW.symm (st6 _ _ nWK nLW.symm eWL)
            have tW7 : TupsStay H4 H7 := fun b ys e => by
              have e1 := tL b ys e
              exact t7 _ _ (st6 _ _ (ne_of e1 ndKL.ob (fun y => nomatch y)) (ne_of e1 eLL (fun y => nomatch y)) e1)
            have ndr : NDR P w H7 Ws xs := ⟨.inr ⟨od, eW7⟩, fun y hy => ⟨nk_stay tW7 _ _ (ndW.ks y hy).1, (ndW.ks y hy).2⟩⟩
            have gW : getN xs (kP r.1 r.2) = some (.int z) := by
              rw [← er, getN_of bk.wok.nd (List.mem_of_getElem? hxp), ez]
            obtain ⟨c, hc, ec⟩ := bh.from' _ (List.mem_of_getElem? he1)
            obtain ⟨e1, e2⟩ := Prod.mk.inj ec
            have gb : g = 0 ∨ g = 1 ∨ g = -1 := by
              have hb := allB_ok m c hc
              have bb : ∀ {ds : List Deed} {o : Int} {cc : List Int}, (∀ x ∈ cc, Bit x) → Bit (gnC ds o cc c) := fun {ds o cc} hcc => by
                show Bit ((bts ds cc c).getD o.toNat 0)
                rw [List.getD_eq_getElem?_getD]
                cases e : (bts ds cc c)[o.toNat]? with
                | none => exact bit0
                | some y => exact bts_bits hb.2 hcc y (List.mem_of_getElem? e)
              have b1 := bb (ds := ds1) (o := o1) rok.b1
              have b2 := bb (ds := ds2) (o := o2) rok.b2
              have e1' : g = gnC ds1 o1 r.1 c - gnC ds2 o2 r.2 c := e1
              rcases b1 with z1 | z1 <;> rcases b2 with z2 | z2 <;> rw [z1, z2] at e1' <;> omega
            have sqok : PcOk ds1 ds2 sq := by rw [e2]; exact nx2_ok rok hc
            have esz : (1 : Int) * 2 ^ ((0 + (t : Int)).toNat) = 2 ^ t := by rw [Int.one_mul, Int.zero_add, Int.toNat_natCast]
            refine ⟨qa, [.int g, .ref T7], rfl, .inl (.inl eqa), rfl, .int g, [.ref T7], rfl, .ref T7, [], rfl, rfl, ?_⟩
            refine ⟨.ref Ws, rfl, .ref p.2.1, rfl, Ws, xs, kP r.1 r.2, .int z, rfl, ndr, keyP pr7, gW, .int g, rfl, .int (0 + t), rfl, 1, 0 + t, rfl, rfl, ⟨by omega, by omega, by decide⟩, g, _, rfl, rfl, .inl (by omega), z, _, rfl, rfl, ?_⟩
            rw [esz]
            obtain ⟨g0, hg0⟩ : ∃ g0 : Int, (getN ts (kP sq.1 sq.2)).getD (.int (z + g * 2 ^ t)) = .int g0 := by
              cases e : getN ts (kP sq.1 sq.2) with
              | none => exact ⟨_, rfl⟩
              | some y =>
                obtain ⟨b, hb⟩ := getN_some e
                obtain ⟨_, z', _, hz, _⟩ := wok7.each _ hb
                exact ⟨z', hz⟩
            refine ⟨.ref Lt, rfl, Lt, ts, rfl, ndT7, .ref T7, rfl, .int (z + g * 2 ^ t), rfl, ts, kP sq.1 sq.2, ndT7, key7, ?_⟩
            rw [hg0]
            refine ⟨.int (z + g * 2 ^ t), rfl, g0, z + g * 2 ^ t, rfl, .ref Lt, rfl, .ref T7, rfl, Lt, ts, kP sq.1 sq.2, T7, rfl, ndT7, rfl, key7, ?_, _, _, _, putN ts (kP sq.1 sq.2) T7 (.int (if z + g * 2 ^ t > g0 then z + g * 2 ^ t else g0)), rfl, nd_putA ndT7 key7, wok_put wok7 sqok, ?_, fun b u nb e => ?_⟩
            · have := wok_few wok7 l1 l2
              rw [sizeLine_eq]
              omega
            · have := maxof_next (b := T7) mx7 hg0 rfl
              rw [List.take_add_one, he1, List.map_append, ← List.append_assoc]
              exact this
            · rw [upd_ne nb]
              exact st7 b u nb e
          · obtain ⟨y8, y9, y10, ts, rfl, ndT7, wok7, mx7, st7⟩ := hp
            have t7 : TupsStay H6 H7 := fun b ys e => st7 _ _ (ne_of e ndT6.ob (fun y => nomatch y)) e
            refine ⟨_, _, _, _, ts, ks, ps ++ [(r, z, es)], rfl, ndT7, wok7, ?_, ?_, nd_stay ndK6 (st7 _ _ nLK.symm ndK6.ob) t7, kn6.mono (fun q ys e => st7 _ _ (ne_of e ndT6.ob (fun y => nomatch y)) e) t7, kd6, fun b u n1 n2 e => st7 _ _ n2 (st6 b u n1 n2 e)⟩
            · rw [List.take_add_one, hxp]
              exact awSnoc ⟨er, ez, bh⟩ hps
            · rw [List.length_map, awLen hq, List.take_length] at mx7
              have : flat90 t (ps ++ [(r, z, es)]) = flat90 t ps ++ es.map fun e => (e.2, z + e.1 * 2 ^ t) := by
                unfold flat90
                rw [List.flatMap_append]
                simp
              rw [this]
              exact mx7
      · obtain ⟨y7, y8, y9, y10, ts, ks, ps, rfl, ndT, wokT, hps, mxT, nd5, kn5, kd5, st⟩ := hp
        rw [List.take_length] at hps
        have eW5 := st _ _ nWK nLW.symm eWL
        have stay : ∀ b u, b ≠ Ws → H5 b = some u → upd H5 Ws (NDO P w Ws xs) b = some u := fun b u nb e => by
          rw [upd_ne nb]
          exact e
        have tS : TupsStay H5 (upd H5 Ws (NDO P w Ws xs)) := fun b ys e => stay _ _ (ne_of e eW5 (fun y => nomatch y)) e
        have s5 : Same H (upd H5 Ws (NDO P w Ws xs)) := fun b u e => by
          have nW : b ≠ Ws := ne_of_none e hWn
          exact stay _ _ nW (st b u (ne_of_none e nKH) (ne_of_none e nLH) (toL _ _ nW (s4 _ _ e)))
        have ndT8 : ND P w (upd H5 Ws (NDO P w Ws xs)) Lt ts := nd_stay ndT (stay _ _ nLW ndT.ob) tS
        have ndK8 : ND P w (upd H5 Ws (NDO P w Ws xs)) Kn ks := nd_stay nd5 (stay _ _ nWK.symm nd5.ob) tS
        have kn8 : KnE (upd H5 Ws (NDO P w Ws xs)) m ds1 o1 ds2 o2 ks := kn5.mono (fun q ys e => stay _ _ (ne_of e eW5 (fun y => nomatch y)) e) tS
        exact ⟨eW5, .ref Lt, rfl, _, _, _, _, _, _, Lt, ts, ks, rfl, ndT8, bestk_next bk hps mxT wokT, nLK, ndK8, kn8, kd5, nLH, s5⟩
    · obtain ⟨y5, y6, y7, y8, y9, y10, Ws, xs, ks, rfl, ndW, bk, nWK, ndK, knK, kd, hWn, s4⟩ := hp
      have xl := wok_few bk.wok l1 l2
      refine ⟨Ws, NDO P w Ws xs, ndW.ob, True.intro, fun od => ?_⟩
      obtain ⟨HL, hHL⟩ : ∃ HL, HL = upd H4 Ws (.frz od (NDO P w Ws xs)) := ⟨_, rfl⟩
      have eWL : HL Ws = some (.frz od (NDO P w Ws xs)) := by rw [hHL]; exact upd_same
      have toL : ∀ b u, b ≠ Ws → H4 b = some u → HL b = some u := fun b u nb e => by
        rw [hHL, upd_ne nb]
        exact e
      have tL : TupsStay H4 HL := fun b ys e => toL b _ (ne_of e ndW.ob (fun z => nomatch z)) e
      rw [← hHL]
      refine ⟨.ref Ws, rfl, Ws, od, xs, rfl, eWL, fun C hC => ?_⟩
      have nCW : Ws ≠ C := ne_of_none eWL hC
      refine lc_it (walk_N (P := P) (w := w) (d := Ws) (o := od) (xs := xs)) (fun i H5 => H5 C = some (.lst (((xs.take i).map fun x => valZ90 x.2.2).map V.int)) ∧ ∀ b u, b ≠ C → HL b = some u → H5 b = some u) ⟨upd_same, fun b u nb e => by rw [upd_ne nb]; exact e⟩ (fun i H5 _ hp => hp.2 _ _ nCW eWL) (fun i x H5 H6 hi hp hy => ?_) (fun H5 hp => ?_)
      · obtain ⟨eC, st⟩ := hp
        obtain ⟨rfl, p, hxp, rfl⟩ := hy
        obtain ⟨r, z, er, ez, rok⟩ := bk.wok.each p (List.mem_of_getElem? hxp)
        have t5 : TupsStay H4 H6 := fun b ys e => by
          have e1 := tL b ys e
          exact st _ _ (ne_of_none e1 hC) e1
        have prc : PrC H6 p.2.1 r := by
          have h := (ndW.ks p (List.mem_of_getElem? hxp)).1
          rw [er] at h
          exact (prC_of h).stay t5
        have ndr : NDR P w H6 Ws xs := ⟨.inr ⟨od, st _ _ nCW eWL⟩, fun y hy => ⟨nk_stay t5 _ _ (ndW.ks y hy).1, (ndW.ks y hy).2⟩⟩
        have gW : getN xs (kP r.1 r.2) = some (.int z) := by
          rw [← er, getN_of bk.wok.nd (List.mem_of_getElem? hxp), ez]
        refine ⟨rfl, .ref Ws, rfl, .ref p.2.1, rfl, Ws, xs, kP r.1 r.2, .int z, rfl, ndr, keyP prc, gW, _, eC, ?_, ?_, fun b u nb e => ?_⟩
        · rw [List.length_map, List.length_map, List.length_take, sizeLine_eq]
          omega
        · rw [upd_same, List.take_add_one, hxp, List.map_append, List.map_append]
          show some (HO.lst (_ ++ [V.int z])) = some (HO.lst (_ ++ [V.int (valZ90 p.2.2)]))
          rw [ez]
          rfl
        · rw [upd_ne nb]
          exact st b u nb e
      · obtain ⟨eC, st⟩ := hp
        rw [List.take_length] at eC
        have eW5 := st _ _ nCW eWL
        obtain ⟨x0, hx0⟩ : ∃ x0, x0 ∈ xs := by
          obtain ⟨c0, hc0⟩ : ∃ c0, c0 ∈ allB m := by
            have e := allB_len m
            have p : 0 < 2 ^ m := Nat.pow_pos (by decide)
            exact ⟨(allB m)[0]'(by omega), List.getElem_mem _⟩
          obtain ⟨v, hv, _⟩ := bk.all (List.replicate n c0) List.length_replicate fun c hc => by rw [List.eq_of_mem_replicate hc]; exact hc0
          obtain ⟨b, hb⟩ := getN_some hv
          exact ⟨_, hb⟩
        refine ⟨eW5, C, xs.map fun x => valZ90 x.2.2, rfl, ?_, ?_, fun mm hm1 hm2 => ?_⟩
        · refine .inl (.inl ?_)
          rw [upd_ne nCW.symm]
          exact eC
        · rw [List.length_map]
          exact List.length_pos_of_mem hx0
        · have s5 : Same H (upd H5 Ws (NDO P w Ws xs)) := fun b u e => by
            have nW : b ≠ Ws := ne_of_none e hWn
            have e4 := toL _ _ nW (s4 _ _ e)
            rw [upd_ne nW]
            exact st b u (ne_of_none e4 hC) e4
          refine qq _ mm s5 ?_ fun cs hl hc => ?_
          · obtain ⟨x, hx, rfl⟩ := List.mem_map.mp hm1
            obtain ⟨cs, cl, ca, e1, e2⟩ := bk.from' x hx
            exact ⟨cs, cl, ca, by rw [e2]; rfl⟩
          · obtain ⟨v, hv, hle⟩ := bk.all cs hl hc
            obtain ⟨b, hb⟩ := getN_some hv
            exact Int.le_trans hle (hm2 v (List.mem_map.mpr ⟨_, hb, rfl⟩))
/-! ### k90: _law_told_right -/
abbrev wo9 (n : Nat) (ds : List Deed) (o : Int) (xs : List Int) : Int := (vals (2 ^ n) ds xs).getD o.toNat 0
theorem vals_at9 {m n : Nat} {ds : List Deed} {o : Int} {ws : List Int} (ok : RowOk m ds o) (hw : ws.length = m) : atI ((vals (2 ^ n) ds ws).map V.int) o = some (.int (wo9 n ds o ws)) := by
  have o0 := ok.o0
  have o1 := ok.o1
  exact atI_ints o0 (by rw [vals_len, hw]; omega)
def spTr90 : Sp := fun vs H Q _ => ∃ (R T L : Addr) (m n : Nat) (o G : Int) (ds : List Deed) (xs : List Int), vs = [.ref R, .int (n : Int), .ref T] ∧ RowAt H R m ds o ∧ RowOk m ds o ∧ 1 ≤ n ∧ n ≤ 60 ∧ H T = some (.tup [.int G, .ref L]) ∧ H L = some (.lst (xs.map V.int)) ∧ xs.length = m ∧ (∀ x ∈ xs, 0 ≤ x ∧ x < 2 ^ n) ∧
  ∀ H', Same H H' → Q (.int (wo9 n ds o xs)) H'
theorem ok_tr90 {f fV : Addr} {fd fdV : FuncData} {k : Nat} (F : Fun K "_law_told_right" "_law_told_right" s_law_told_right f fd)
    (GV : FnOk P w K mg base CX0 (k + 2) fV fdV ["row", "width", "words"] (spLvs K)) (kV : PySem.W.keepIn K (.ref fV) = true) (bV : Binds K fdV ["row", "width", "words"] []) (gV : mg "_law_values" = some (.ref fV))
    (mIs : mg "isinstance" = none) (mt : mg "tuple" = none) (ml : mg "list" = none) (mn : mg "len" = none) (mI : mg "int" = none) (mB : mg "bool" = none) : FnOk P w K mg base CX0 (k + 3) f fd ["row", "width", "found"] spTr90 := by
  refine F.ok sc_law_told_right (fun vs H Q E h => ?_) (fun cdv A outer s H vs Q E hr h => ?_)
  · obtain ⟨R, T, L, m, n, o, G, ds, xs, rfl, _⟩ := h
    rfl
  · obtain ⟨R, T, L, m, n, o, G, ds, xs, rfl, hrow, ok, n1, n60, eT, eL, xl, xr, q⟩ := h
    obtain ⟨D, rs, eR, eD, hd⟩ := id hrow
    have l8 := ok.len
    have m3 := ok.m3
    refine ⟨_, pss_cons (ps_if (PW.pt (pw_or (pt_not (pt_val (pe_callB call_isi (by rfl) mIs (by decide +kernel) (pa_cons (pv 2) (pa_cons (pe_bltn (v := .ty "tuple") (by rfl) mt (by decide +kernel) rfl) pa_nil))))) (pw_or (pt_cmpR op_ne (pe_callB call_len_seq (by rfl) mn PySem.boot_len (pa_cons (pv 2) pa_nil)) pe_int (nomark _)) (pw_or (pt_not (pt_val (pe_callB call_isi (by rfl) mIs (by decide +kernel) (pa_cons (pe_ix ix_tup (pv 2) pe_int (fun _ _ => rfl)) (pa_cons (pe_bltn (v := .ty "list") (by rfl) ml (by decide +kernel) rfl) pa_nil))))) (pw_or1 (pt_cmpR op_ne (pe_callB call_len_seq (by rfl) mn PySem.boot_len (pa_cons (pe_ix ix_tup (pv 2) pe_int (fun _ _ => rfl)) pa_nil)) (pe_ix ix_tup (pv 0) pe_int (fun _ _ => rfl)) (nomark _)))))))
    (pss_one (ps_ret pe_non))
    pss_nil)
    (pss_cons (ps_for PassesOwn.never rfl (pi_list (pe_ix ix_tup (pv 2) pe_int (fun _ _ => rfl))) (pg_name (i := 3) sc_law_told_right.nd rfl (.inl rfl))
    (pss_one (ps_if (PW.pt (pw_or (pt_not (pt_val (pe_callB call_isi (by rfl) mIs (by decide +kernel) (pa_cons (pv 3) (pa_cons (pe_bltn (v := .ty "int") (by rfl) mI (by decide +kernel) rfl) pa_nil))))) (pw_or (pt_val (pe_callB call_isi (by rfl) mIs (by decide +kernel) (pa_cons (pv 3) (pa_cons (pe_bltn (v := .ty "bool") (by rfl) mB (by decide +kernel) rfl) pa_nil)))) (pw_or1 (pt_not (pt_chain op_le op_lt pe_int (pv 3) (pe_op op_shlW pe_int (pv 1))))))))
    (pss_one (ps_ret pe_non))
    pss_nil)))
    (pss_cons (ps_if (PW.pt (pw_or (pt_not (pt_val (pe_callB call_isi (by rfl) mIs (by decide +kernel) (pa_cons (pe_ix ix_tup (pv 2) pe_int (fun _ _ => rfl)) (pa_cons (pe_bltn (v := .ty "int") (by rfl) mI (by decide +kernel) rfl) pa_nil))))) (pw_or1 (pt_val (pe_callB call_isi (by rfl) mIs (by decide +kernel) (pa_cons (pe_ix ix_tup (pv 2) pe_int (fun _ _ => rfl)) (pa_cons (pe_bltn (v := .ty "bool") (by rfl) mB (by decide +kernel) rfl) pa_nil)))))))
    (pss_one (ps_ret pe_non))
    pss_nil)
    (pss_one (ps_ret (pe_ix ix_list (pe_call GV hr (by rfl) gV kV bV .nil pass0 (pa_cons (pv 0) (pa_cons (pv 1) (pa_cons (pe_ix ix_tup (pv 2) pe_int (fun _ _ => rfl)) pa_nil)))) (pe_ix ix_tup (pv 0) pe_int (fun _ _ => rfl)) (fun _ _ => rfl)))))), ?_⟩
    refine ⟨.ref T, rfl, .ref T, .ty "tuple", .type "tuple", .type "tuple", true, rfl, .ty "tuple", .base (.tup eT), kit_ty (by decide +kernel), true, rfl, iteF ?_⟩
    refine ⟨.ref T, rfl, T, _, rfl, .inr (SqT.of eT), rfl, _, rfl, iteF ?_⟩
    refine ⟨.ref T, rfl, T, _, 1, .ref L, rfl, rfl, SqT.of eT, rfl, .ref L, .ty "list", .type "list", .type "list", true, rfl, .ty "list", .base (.lst eL), kit_ty (by decide +kernel), true, rfl, iteF ?_⟩
    refine ⟨.ref T, rfl, T, _, 1, .ref L, rfl, rfl, SqT.of eT, rfl, L, _, rfl, .inl (.inl (.inl eL)), .ref R, rfl, R, _, 0, .int (m : Int), rfl, rfl, SqT.of eR, rfl, rfl, _, rfl, ite2 (fun e => ?_) (fun _ => ?_)⟩
    · exfalso
      apply neT e
      rw [List.length_map, xl]
    refine ⟨.ref T, rfl, T, _, 1, .ref L, rfl, rfl, SqT.of eT, rfl, L, rfl, ⟨_, .inl (.inl eL)⟩, for_list (K := K) (a := L) (xs := xs.map V.int) (fun i σ H3 => ∃ y3, σ = [some (.ref R), some (.int (n : Int)), some (.ref T), y3] ∧ H3 = H) ⟨none, rfl, rfl⟩ (fun i σ H3 _ hp => ?_) (fun i x σ H3 hx hp => ?_) (fun σ H3 hp => ?_)⟩
    · obtain ⟨_, _, rfl⟩ := hp
      exact .inl (.inl eL)
    · obtain ⟨y5, rfl, rfl⟩ := hp
      rw [List.getElem?_map] at hx
      obtain ⟨xv, hxv, rfl⟩ := Option.map_eq_some_iff.mp hx
      obtain ⟨x0, x1⟩ := xr xv (List.mem_of_getElem? hxv)
      have esz : (1 : Int) * 2 ^ ((n : Int).toNat) = 2 ^ n := by rw [Int.one_mul, Int.toNat_natCast]
      refine ⟨.int xv, rfl, .int xv, .ty "int", .type "int", .type "int", true, rfl, .ty "int", .base (.int xv), kit_ty (by decide +kernel), true, rfl, iteF ?_⟩
      refine ⟨.int xv, rfl, .int xv, .ty "bool", .type "int", .type "bool", false, rfl, .ty "bool", .base (.int xv), kit_ty (by decide +kernel), false, rfl, iteF ?_⟩
      refine ⟨.int xv, rfl, 0, xv, rfl, rfl, true, congrArg V.bl (decide_eq_true x0), iteT ⟨.int (n : Int), rfl, 1, (n : Int), rfl, rfl, shl1W (by omega), xv, _, rfl, rfl, true, ?_, iteF ⟨_, rfl, rfl⟩⟩⟩
      rw [esz]
      exact congrArg V.bl (decide_eq_true x1)
    · obtain ⟨y5, rfl, rfl⟩ := hp
      refine ⟨.ref T, rfl, T, _, 0, .int G, rfl, rfl, SqT.of eT, rfl, .int G, .ty "int", .type "int", .type "int", true, rfl, .ty "int", .base (.int G), kit_ty (by decide +kernel), true, rfl, iteF ?_⟩
      refine ⟨.ref T, rfl, T, _, 0, .int G, rfl, rfl, SqT.of eT, rfl, .int G, .ty "bool", .type "int", .type "bool", false, rfl, .ty "bool", .base (.int G), kit_ty (by decide +kernel), false, rfl, iteF ?_⟩
      refine ⟨.ref R, rfl, .int (n : Int), rfl, .ref T, rfl, T, _, 1, .ref L, rfl, rfl, SqT.of eT, rfl, R, L, m, o, ds, xs, n, rfl, hrow, ok.deeds, by omega, .inl (.inl eL), by rw [xl], by omega, n1, by omega, xr, fun H4 L4 s4 nL4 eL4 => ?_⟩
      exact ⟨.ref R, rfl, R, _, 2, .int o, rfl, rfl, SqT.of (s4 _ _ eR), rfl, L4, _, o, _, rfl, rfl, .inl (.inl eL4), vals_at9 ok xl, q H4 s4⟩
/-! ### k90: the greatest amount by carries is the greatest by worths -/
theorem most_wor {m n : Nat} {ds1 ds2 : List Deed} {o1 o2 G : Int} (ok1 : RowOk m ds1 o1) (ok2 : RowOk m ds2 o2)
    (h1 : ∃ cs : List (List Int), cs.length = n ∧ (∀ c ∈ cs, c ∈ allB m) ∧ gsum (nxPP ds1 ds2) (gnPP ds1 o1 ds2 o2) (ds1.map fcD, ds2.map fcD) cs = G) (h2 : ∀ cs : List (List Int), cs.length = n → (∀ c ∈ cs, c ∈ allB m) → gsum (nxPP ds1 ds2) (gnPP ds1 o1 ds2 o2) (ds1.map fcD, ds2.map fcD) cs ≤ G) :
    (∃ ys : List Int, ys.length = m ∧ (∀ x ∈ ys, 0 ≤ x ∧ x < 2 ^ n) ∧ G = wo9 n ds1 o1 ys - wo9 n ds2 o2 ys) ∧ ∀ ys : List Int, ys.length = m → (∀ x ∈ ys, 0 ≤ x ∧ x < 2 ^ n) → wo9 n ds1 o1 ys - wo9 n ds2 o2 ys ≤ G := by
  have wr : ∀ ys : List Int, ys.length = m → (∀ x ∈ ys, 0 ≤ x ∧ x < 2 ^ n) → gsum (nxPP ds1 ds2) (gnPP ds1 o1 ds2 o2) (ds1.map fcD, ds2.map fcD) (colsOf ys n) = wo9 n ds1 o1 ys - wo9 n ds2 o2 ys := fun ys hy hyr => by
    rw [gsum_pp, worth_sum ok1 hy hyr, worth_sum ok2 hy hyr]
  refine ⟨?_, fun ys hy hyr => ?_⟩
  · obtain ⟨cs, cl, cc, e⟩ := h1
    have hall : ∀ c ∈ cs, c.length = m ∧ ∀ x ∈ c, Bit x := fun c hc => allB_ok m c (cc c hc)
    have wl := wofL_len m cs
    have wr' := wofL_range hall
    rw [cl] at wr'
    have cb := cols_back hall
    rw [cl] at cb
    refine ⟨wofL m cs, wl, wr', ?_⟩
    rw [← wr _ wl wr', cb, e]
  · rw [← wr ys hy hyr]
    exact h2 _ (cols_len ys n) (cols_all hy n)
theorem bare_ok9 {m : Nat} (m1 : 1 ≤ m) (m3 : m ≤ 3) : RowOk (m : Int) [(("none", []) : Deed)] (m : Int) := by
  refine ⟨by omega, by omega, by decide, ⟨fun k d hk => ?_⟩, by omega, by show (m : Int) < m + 1; omega⟩
  match k, hk with
  | 0, hk =>
    obtain rfl := Option.some.inj hk
    exact ⟨by decide +kernel, (fun _ z => nomatch z)⟩
  | k + 1, hk => cases hk
theorem bare_wo9 {m n : Nat} {ys : List Int} (h : ys.length = m) : wo9 n [(("none", []) : Deed)] (m : Int) ys = 0 := by
  show (ys ++ [dval (2 ^ n) ("none", []) ys]).getD ((m : Int).toNat) 0 = 0
  have e : dval (2 ^ n) (("none", []) : Deed) ys = 0 := by
    show dvalue "none" _ _ _ % _ = 0
    rfl
  rw [e, Int.toNat_natCast, ← h, List.getD_eq_getElem?_getD, List.getElem?_append_right (Nat.le_refl _), Nat.sub_self]
  rfl
/-! ### an exception that was caught, held beyond the clause -/
section excs
/-- an exception object of the class cls at a, raised or not -/
def ExR (cls : Value) (a : Addr) : HO := .ext fun h => ∃ (oe : Obj) (vs : Array Value), h.get? a = some oe ∧ Zc cls none oe ∧ oe.data = .fields vs
theorem exR_ok {P : Program} {w : World} {H : Hp} {h : Heap} {a : Addr} {cls : Value} {oe : Obj} {vs : Array Value} (e : h.get? a = some oe) (z : Zc cls none oe) (d : oe.data = .fields vs) : ObjOk P w H h a (ExR cls a) :=
  ⟨⟨oe, vs, e, z, d⟩, ⟨oe, e⟩, fun _ _ ⟨o, v, q, r⟩ k => ⟨o, v, k o q, r⟩⟩
theorem inv_track {X : Cx} {pins : List (Addr × Obj)} {σ : L2.St} {H : Hp} {s : Shared} {a : Addr} {cls : Value} {oe : Obj} {vs : Array Value} (I : Inv X pins σ H s) (na : H a = none) (ha : s.heap.get? a = some oe) (hz : Zc cls none oe) (hd : oe.data = .fields vs)
    (nL : a ≠ X.env.locals) (n0 : ∀ o, X.s_0.heap.get? a = some o → a ∈ X.ex) (np : ∀ p ∈ X.pn ++ pins, p.1 ≠ a) : Inv X pins σ (upd H a (ExR cls a)) s := by
  refine ⟨I.ok, I.os, I.bare, ⟨I.base.keep, I.base.slot, fun b o e n hx => ?_, I.base.there, fun b xs e => ?_, fun b o u e => ?_, fun b ps e => ?_⟩, I.loc, I.cell, ?_, fun x c e => ?_, fun p hp => ?_, fun b u e => ?_, I.len⟩
  · have nb : b ≠ a := fun z => by
      subst z
      exact hx (n0 o e)
    rw [upd_ne nb]
    exact I.base.free b o e n hx
  · have z := I.base.tups b xs e
    rw [upd_ne (ne_of_none z na)]
    exact z
  · have z := I.base.frzs b o u e
    rw [upd_ne (ne_of_none z na)]
    exact z
  · obtain ⟨more, z⟩ := I.base.tbls b ps e
    exact ⟨more, by rw [upd_ne (ne_of_none z na)]; exact z⟩
  · rw [upd_ne nL.symm]
    exact I.free
  · have nc : c ≠ a := fun z => by
      subst z
      obtain ⟨v, o, h1, h2⟩ := I.cell x c e
      rw [ha] at h1
      cases h1
      rw [hd] at h2
      cases h2
    rw [upd_ne nc]
    exact I.freeC x c e
  · obtain ⟨h1, h2, h3⟩ := I.pin p hp
    exact ⟨h1, by rw [upd_ne (np p hp)]; exact h2, h3⟩
  · by_cases hb : b = a
    · subst hb
      rw [upd_same] at e
      cases e
      exact exR_ok ha hz hd
    · rw [upd_ne hb] at e
      exact (I.hok b u e).stay (fun c v _ q => q) (fun c q => by rw [upd_ne (ne_of_none q na)]; exact q) fun c xs q => by rw [upd_ne (ne_of_none q na)]; exact q
def wAsT (K : PySem.W.Frag) (c : Value) (i : Nat) (ts : Addr → Value → Option Addr → TS) (Wout : WX) (D : Ends) : WX := fun cls d σ H =>
  ∃ b, PySem.W.exmOne K cls c = some b ∧ (b = true → d = none ∧ ∀ a, H a = none → ts a cls d { nx := fun σ' H' => D.nx (σ'.set i none) (upd H' a (ExR cls a)), rt := D.rt, bk := fun σ' H' => D.bk (σ'.set i none) H', ct := fun σ' H' => D.ct (σ'.set i none) H' } (σ.set i (some (.ref a))) H) ∧
    (b = false → Wout cls d σ H)
theorem ps_try_asT {X : Cx} {x n : Str} {c : Value} {i : Nat} {body suite : List Stmt} {b₀ : Stmt} {np pos pos' : Pos} {tb : WX → TS} {ts : Addr → Value → Option Addr → TS} {Wout : WX} (hs : X.stack = X.env :: X.outer) (hf : X.env.frame = some X.env.locals) (hN : X.N.Nodup) (hi : X.N[i]? = some n) (hln : X.env.kindOf n = some .local) (hc : Names X x c) (tk : Takes X Wout)
    (hb : ∀ (W : WX) (pn : List (Addr × Obj)) (xe : Value → Shared → Prop), Takes (X.tr pn xe) W → PassesOwn (model X.prog X.w) X.A X.env xe → PSs (X.tr pn xe) body (tb W))
    (hsu : ∀ (a : Addr) (oe : Obj) (cls : Value) (d : Option Addr) (pn : List (Addr × Obj)), Zc cls d oe → (∃ vs, oe.data = .fields vs) → PSs (X.suite a ((a, oe) :: pn)) (b₀ :: suite) (ts a cls d)) :
    PS X (.Try body [.ExceptHandler (some (.Name x np)) (some n) (b₀ :: suite) pos'] [] [] pos) (fun D σ H => tb (wAsT X.K c i ts Wout D) D σ H) := by
  refine ⟨fun pins s σ H D I h => ?_⟩
  have ok := I.ok
  have hfr : X.A.frames = some (X.env :: X.outer) := by rw [ok.frames, hs]
  have hloc : Loc X.env.scope n := .inl hln
  refine wpAny_Try_except ?_
  refine wpAny_mono ((hb (wAsT X.K c i ts Wout D) (X.pn ++ pins) (fun e s₁ => wpAny (model X.prog X.w) X.A (noteFrame e X.env) (fun _ s₂ => wpAny (model X.prog X.w) X.A (setFlight e none) (fun _ s₃ =>
    wpAny (model X.prog X.w) X.A (handleBy e X.env [.ExceptHandler (some (.Name x np)) (some n) (b₀ :: suite) pos']) (SP X pins D) X.xe s₃) X.xe s₂) X.xe s₁) (fun u s' xx => ?_) PassesOwn.looking).run [] s σ H D (I.toTry _) h) (fun f s1 hsp => ?_) (fun e s1 he => he)
  · obtain ⟨a, B, sI, pins', σ', H', cls, d, rfl, J', nb, up, sky, na, os, ag, b, hb1, hyes, hno⟩ := xx
    have J : Inv X pins σ' H' sI := J'.ofTry ok
    have sky' : Sky B (X.env :: X.outer) a (Zc cls d) X.env.locals s'.heap := by rw [← hs]; exact sky
    show wpAny (model X.prog X.w) X.A (noteFrame (.ref a) X.env) _ _ _
    refine Sky.land Zc.steady hfr hf sky' fun h3 fl3 up3 => ?_
    have J3 : Inv X pins σ' H' { s' with heap := h3 } := J.landed nb fl3.1 (up.trans up3) os ag
    obtain ⟨oe3, vs3, he3, hz3, hd3⟩ := fl3.there
    have notFr : ∀ {h : Heap} {o : Obj} {vs : Array Value}, h.FunFrames B (X.env :: X.outer) → h.get? a = some o → o.data = .fields vs → a ∉ frs (X.env :: X.outer) := fun {h o vs} ff e dd hm => by
      obtain ⟨_, o', e', hnf⟩ := ff.mem hm
      rw [e] at e'; cases e'
      exact hnf _ dd
    have nfr := notFr fl3.2.2.1 he3 hd3
    have nL : a ≠ X.env.locals := fun z => nfr (List.mem_filterMap.mpr ⟨X.env, List.mem_cons_self, by rw [hf, z]⟩)
    have nF : a ∉ X.fs := fun hm => by
      obtain ⟨e, he, q⟩ := List.mem_filterMap.mp hm
      exact nfr (List.mem_filterMap.mpr ⟨e, List.mem_cons_of_mem _ he, q⟩)
    have nI : ∀ o, sI.heap.get? a = some o → False := fun o e => by
      have z := nb a o e (by rw [hs]; exact nfr)
      have z2 : B.get? a = none := fl3.2.1
      rw [z2] at z
      cases z
    have n0 : ∀ o, X.s_0.heap.get? a = some o → a ∈ X.ex := fun o e => by
      by_cases hx : a ∈ X.ex
      · exact hx
      · obtain ⟨o', e'⟩ := J.base.there a o e hx
        exact (nI o' e').elim
    have np' : ∀ p ∈ X.pn ++ pins, p.1 ≠ a := fun p hp z => by
      have := (J.pin p hp).1
      rw [z] at this
      exact nI _ this
    have S3 := J3.suite he3 hd3 na nL nF
    refine wpAny_handleBy_cons (codeAny_handlers_test ?_) (by intro q; cases q)
    have LT : PySem.W.Looks (model X.prog X.w) h3 (typeOf (.ref a)) cls := fun A Q E s k q => wpAny_typeOf_ref (k _ _ he3) (by rw [hz3.1]; exact q)
    have LM := PySem.W.exm_one (M := model X.prog X.w) (J3.kIn) LT hb1
    have test : ∀ {Q : Value → Shared → Prop} {E : Value → Shared → Prop}, Q c { s' with heap := h3 } → wpAny (model X.prog X.w) (X.A.mark (some (.ref a))) (eval (.Name x np) X.env) Q E { s' with heap := h3 } := fun {Q E} q => by
      obtain ⟨hg, hdbg, hm | ⟨hm, hv, hnn⟩⟩ := hc
      · exact ld_glob (X := X.suite a ((a, oe3) :: (X.pn ++ pins))) S3 hg hm q hdbg
      · exact ld_blt (X := X.suite a ((a, oe3) :: (X.pn ++ pins))) S3 hg hm hv q hnn hdbg
    refine test (LM.here ?_)
    cases b with
    | true =>
      obtain ⟨dn, hyes⟩ := hyes rfl
      refine codeAny_handlers_suite_as ?_
      refine HandSPX.lands_againZ fl3 fun h4 fl4 up4 => ?_
      have J4 : Inv X pins σ' H' { s' with heap := h4 } := J.landed nb fl4.1 ((up.trans up3).trans up4) os ag
      obtain ⟨oe4, vs4, he4, hz4, hd4⟩ := fl4.there
      have S4 := J4.suite he4 hd4 na nL nF
      refine store_ok (X := X.suite a ((a, oe4) :: (X.pn ++ pins))) (v := .ref a) S4 hN hi hloc rfl (fun s5 S5 => ?_) (.inr hln)
      refine wpAny_mono ((hsu a oe4 cls d (X.pn ++ pins) hz4 ⟨_, hd4⟩).run [] s5 _ H' _ S5 (hyes a na)) (fun f s6 hsp => ?_) (fun _ _ z => False.elim z)
      have end_ : ∀ {σ6 : L2.St} {H6 : Hp} {Q : Shared → Prop}, Inv (X.suite a ((a, oe4) :: (X.pn ++ pins))) [] σ6 H6 s6 → (∀ s7, Inv X pins (σ6.set i none) H6 s7 → Q s7) →
          wpAny (model X.prog X.w) X.A (do bindName X.env n .none; unbindBehindTheSuite X.env n pos') (fun _ s7 => Q s7) X.xe s6 := fun {σ6 H6 Q} S6 hq => gone_ok (S6.unsuite ok) hN hi hln hq
      cases f with
      | next =>
        obtain ⟨σ6, H6, S6, q6⟩ := hsp
        obtain ⟨p1, p2, _⟩ := S6.pin (a, oe4) (List.mem_append_left _ List.mem_cons_self)
        have T6 : Inv X pins σ6 (upd H6 a (ExR cls a)) s6 := inv_track (S6.unsuite ok) p2 p1 (by rw [dn] at hz4; exact hz4) hd4 nL n0 np'
        exact gone_ok T6 hN hi hln fun s7 J7 => ⟨_, _, J7, q6⟩
      | brk =>
        obtain ⟨σ6, H6, S6, q6⟩ := hsp
        exact end_ S6 fun s7 J7 => ⟨_, _, J7, q6⟩
      | cont =>
        obtain ⟨σ6, H6, S6, q6⟩ := hsp
        exact end_ S6 fun s7 J7 => ⟨_, _, J7, q6⟩
      | ret u =>
        obtain ⟨v6, σ6, H6, S6, r6, q6⟩ := hsp
        exact end_ S6 fun s7 J7 => ⟨_, _, _, J7, r6, q6⟩
    | false =>
      show wpAny _ X.A (handleBy (.ref a) X.env []) _ _ _
      refine wpAny_handleBy_nil ?_
      obtain ⟨k1, k2, k3, oe, vs, T, oT, ts', he, hz, hd, h1, hr⟩ := id fl3
      unfold PySem.passOn
      refine wpAny_bind (wpAny_field he hd h1 ?_)
      rw [if_neg (show ¬ ((Value.ref T == Value.none) = true) from by simp)]
      have fin : wpAny (model X.prog X.w) X.A (setFlight (.ref a) X.env.frame) (fun _ s4 => wpAny (model X.prog X.w) X.A (throw (.ref a) : Sem Flow) (SP X pins D) X.xe s4) X.xe { s' with heap := h3 } := by
        rw [hf]
        refine HandSPX.setFlight_upZ fl3 fun h4 hh4 up4 => wpAny_throw (tk _ _ ?_)
        exact ⟨a, B, sI, pins, σ', H', cls, d, rfl, J, nb, (up.trans up3).trans up4, .inr (.inr (by rw [hs]; exact hh4)), na, os, ag, hno rfl⟩
      first
        | exact wpAny_bind (wpAny_pure (wpAny_bind fin))
        | exact wpAny_bind fin
  · cases f with
    | next =>
      obtain ⟨σ', H', J', q⟩ := hsp
      exact wpAny_execs_nil ⟨σ', H', J'.ofTry ok, q⟩
    | brk =>
      obtain ⟨σ', H', J', q⟩ := hsp
      exact ⟨σ', H', J'.ofTry ok, q⟩
    | cont =>
      obtain ⟨σ', H', J', q⟩ := hsp
      exact ⟨σ', H', J'.ofTry ok, q⟩
    | ret u =>
      obtain ⟨v, σ', H', J', r, q⟩ := hsp
      exact ⟨v, σ', H', J'.ofTry ok, r, q⟩
/-- isinstance of a caught exception -/
def rIsR (K : PySem.W.Frag) : List V → Hp → VK → Prop := fun xs H Q => ∃ (a D : Addr) (c : V) (cv : Value) (b : Bool), xs = [.ref a, c] ∧ H a = some (ExR (.ref D) a) ∧ ExcC K D ∧ ClsV c cv ∧ PySem.W.kitOne K (.ref D) cv = some b ∧ Q (.bl b) H
theorem inst_at {X : Cx} {pins : List (Addr × Obj)} {σ : L2.St} {H : Hp} {s : Shared} {a D : Addr} (I : Inv X pins σ H s) (ha : H a = some (ExR (.ref D) a)) : ∃ oe, PySem.W.InstAt s.heap a oe D none := by
  obtain ⟨⟨oe, vs, hget, ⟨z1, z2⟩, hv⟩, _, _⟩ := I.hok a _ ha
  refine ⟨oe, ?_⟩
  obtain ⟨oc, od, oda, osl⟩ := oe
  dsimp only at z1 z2 hv
  subst z1 z2 hv
  exact ⟨hget, rfl, rfl, trivial⟩
theorem call_isR {X : Cx} : CallR X (.builtin "isinstance") (rIsR X.K) := by
  intro pins s σ H xs us Q I r h
  obtain ⟨a, D, c, cv, b, rfl, ha, hD, hc, hk, q⟩ := h
  obtain ⟨oe, J⟩ := inst_at I ha
  obtain ⟨u1, u2, rfl, r1, r2⟩ := vals2 r
  cases (show u1 = Value.ref a from r1)
  obtain rfl := ClsV.eq hc r2
  exact PySem.W.kia_one (PySem.W.handS_kitx_exc hD.hg hD.hk hD.hs hD.hd hD.ha hD.hn hD.ht hD.hm) I.kIn J hk (fun z => nomatch z) fun tk => ⟨.bl b, H, I.kept (t' := tk) fun _ _ z => z, rfl, q⟩
def rIsRT (K : PySem.W.Frag) : List V → Hp → VK → Prop := fun xs H Q => ∃ (a D tp : Addr) (cs : List V) (ws : List Value) (b : Bool), xs = [.ref a, .ref tp] ∧ H a = some (ExR (.ref D) a) ∧ ExcC K D ∧ H tp = some (.tup cs) ∧ Paired ClsV cs ws ∧ PySem.W.kitAny K (.ref D) ws = some b ∧ Q (.bl b) H
theorem call_isRT {X : Cx} : CallR X (.builtin "isinstance") (rIsRT X.K) := by
  intro pins s σ H xs us Q I r h
  obtain ⟨a, D, tp, cs, ws, b, rfl, ha, hD, hT, k, e, q⟩ := h
  obtain ⟨oe, J⟩ := inst_at I ha
  obtain ⟨u1, u2, rfl, r1, r2⟩ := vals2 r
  cases (show u1 = Value.ref a from r1)
  cases (show u2 = Value.ref tp from r2)
  obtain ⟨_, its, rv, o, h1, h2, n, h3⟩ := (show ObjOk X.prog X.w H s.heap tp (.tup cs) from I.hok tp _ hT)
  have e3 := ClsV.all k rv
  subst e3
  obtain ⟨oc, od, dt, sl⟩ := o
  simp only at h2 h3
  subst h2 h3
  exact PySem.W.kia_tup (PySem.W.handS_kitx_exc hD.hg hD.hk hD.hs hD.hd hD.ha hD.hn hD.ht hD.hm) I.kIn J h1 e (fun z => nomatch z) fun tk => ⟨.bl b, H, I.tok tk, rfl, q⟩
end excs
/-! ### _law_kinds: of which of the eight classes an exception is -/
structure KP8 (K : PySem.W.Frag) (mg : Str → Option Value) (cW cT n1 n2 n3 n4 n5 n6 : Addr) : Prop where
  gW : mg "WideError" = some (.ref cW)
  gT : mg "NoPair" = some (.ref cT)
  g1 : mg "NoName" = some (.ref n1)
  g2 : mg "NoRow" = some (.ref n2)
  g3 : mg "NoRule" = some (.ref n3)
  g4 : mg "NoText" = some (.ref n4)
  g5 : mg "Nothing" = some (.ref n5)
  g6 : mg "TooMany" = some (.ref n6)
  xT : ExcC K cT
  mT : PySem.W.exmOne K (.ref cT) (.ref cW) = some true
  t1 : PySem.W.kitOne K (.ref cT) (.ref n1) = some false
  t2 : PySem.W.kitOne K (.ref cT) (.ref n2) = some false
  t3 : PySem.W.kitOne K (.ref cT) (.ref n3) = some false
  t4 : PySem.W.kitOne K (.ref cT) (.ref n4) = some false
  t5 : PySem.W.kitOne K (.ref cT) (.ref n5) = some false
  t6 : PySem.W.kitOne K (.ref cT) (.ref n6) = some false
  vT : PySem.W.kitOne K (.ref cT) (.type "ValueError") = some true
  tt : PySem.W.kitOne K (.ref cT) (.ref cT) = some true
def k8L : List Bool := [false, true, false, false, false, false, false, true]
def spK8 (cT : Addr) : Sp := fun vs H Q _ => ∃ a : Addr, vs = [.ref a] ∧ H a = some (ExR (.ref cT) a) ∧ ∀ H' L, Same H H' → H' L = some (.lst (k8L.map V.bl)) → Q (.ref L) H'
theorem ok_k8 {f cW cT n1 n2 n3 n4 n5 n6 : Addr} {fd : FuncData} {k : Nat} (F : Fun K "_law_kinds" "_law_kinds" s_law_kinds f fd) (X : KP8 K mg cW cT n1 n2 n3 n4 n5 n6) (mi : mg "isinstance" = none) (mv : mg "ValueError" = none) : FnOk P w K mg base CX0 (k + 1) f fd ["caught"] (spK8 cT) := by
  refine F.ok sc_law_kinds (fun vs H Q E h => ?_) (fun cdv A outer s H vs Q E hr h => ?_)
  · obtain ⟨a, rfl, _⟩ := h
    rfl
  · obtain ⟨a, rfl, ea, q⟩ := h
    refine ⟨_, pss_cons (ps_set (i := 1) sc_law_kinds.nd rfl (.inl rfl) (pe_lst (pa_cons (pe_callB call_isR (by rfl) mi (by decide +kernel) (pa_cons (pv 0) (pa_cons (pe_glob (v := .ref n1) (by rfl) X.g1 rfl) pa_nil))) (pa_cons (pe_callB call_isR (by rfl) mi (by decide +kernel) (pa_cons (pv 0) (pa_cons (pe_glob (v := .ref cT) (by rfl) X.gT rfl) pa_nil))) (pa_cons (pe_callB call_isR (by rfl) mi (by decide +kernel) (pa_cons (pv 0) (pa_cons (pe_glob (v := .ref n2) (by rfl) X.g2 rfl) pa_nil))) pa_nil)))))
      (pss_cons (ps_set (i := 1) sc_law_kinds.nd rfl (.inl rfl) (pe_op op_cat (pv 1) (pe_lst (pa_cons (pe_callB call_isR (by rfl) mi (by decide +kernel) (pa_cons (pv 0) (pa_cons (pe_glob (v := .ref n3) (by rfl) X.g3 rfl) pa_nil))) (pa_cons (pe_callB call_isR (by rfl) mi (by decide +kernel) (pa_cons (pv 0) (pa_cons (pe_glob (v := .ref n4) (by rfl) X.g4 rfl) pa_nil))) (pa_cons (pe_callB call_isR (by rfl) mi (by decide +kernel) (pa_cons (pv 0) (pa_cons (pe_glob (v := .ref n5) (by rfl) X.g5 rfl) pa_nil))) pa_nil))))))
      (pss_one (ps_ret (pe_op op_cat (pv 1) (pe_lst (pa_cons (pe_callB call_isR (by rfl) mi (by decide +kernel) (pa_cons (pv 0) (pa_cons (pe_glob (v := .ref n6) (by rfl) X.g6 rfl) pa_nil))) (pa_cons (pe_callB call_isR (by rfl) mi (by decide +kernel) (pa_cons (pv 0) (pa_cons (pe_bltn (v := .ty "ValueError") (by rfl) mv (by decide +kernel) rfl) pa_nil))) pa_nil))))))), ?_⟩
    refine ⟨.ref a, rfl, a, cT, .ref n1, .ref n1, false, rfl, ea, X.xT, .own _, X.t1, .ref a, rfl, a, cT, .ref cT, .ref cT, true, rfl, ea, X.xT, .own _, X.tt, .ref a, rfl, a, cT, .ref n2, .ref n2, false, rfl, ea, X.xT, .own _, X.t2, (by show 3 ≤ sizeLine; decide), fun L1 h1 => ?_⟩
    have s1 := same_new (o := .lst [.bl false, .bl true, .bl false]) h1
    have ea1 := s1 _ _ ea
    refine ⟨.ref L1, rfl, .ref a, rfl, a, cT, .ref n3, .ref n3, false, rfl, ea1, X.xT, .own _, X.t3, .ref a, rfl, a, cT, .ref n4, .ref n4, false, rfl, ea1, X.xT, .own _, X.t4, .ref a, rfl, a, cT, .ref n5, .ref n5, false, rfl, ea1, X.xT, .own _, X.t5, (by show 3 ≤ sizeLine; decide), fun L2' h2 => ?_⟩
    have s2 := same_new (o := .lst [.bl false, .bl false, .bl false]) h2
    refine ⟨L1, L2', _, _, rfl, rfl, s2 _ _ upd_same, upd_same, (by show 6 ≤ sizeLine; decide), fun L3 h3 => ?_⟩
    have s3 := same_new (o := .lst ([.bl false, .bl true, .bl false] ++ [.bl false, .bl false, .bl false])) h3
    have ea3 := s3 _ _ (s2 _ _ ea1)
    refine ⟨.ref L3, rfl, .ref a, rfl, a, cT, .ref n6, .ref n6, false, rfl, ea3, X.xT, .own _, X.t6, .ref a, rfl, a, cT, .ty "ValueError", .type "ValueError", true, rfl, ea3, X.xT, .ty _, X.vT, (by show 2 ≤ sizeLine; decide), fun L4 h4 => ?_⟩
    have s4 := same_new (o := .lst [.bl false, .bl true]) h4
    refine ⟨L3, L4, _, _, rfl, rfl, s4 _ _ upd_same, upd_same, (by show 8 ≤ sizeLine; decide), fun L5 h5 => ?_⟩
    exact q _ L5 (s1.trans (s2.trans (s3.trans (s4.trans (same_new h5))))) upd_same
/-! ### k90: _law_right, refusals -/
def spRi90 : Sp := fun vs H Q _ => ∃ (R1 R2 : Addr) (m n : Nat) (o1 o2 : Int) (ds1 ds2 : List Deed), vs = [.ref R1, .ref R2, .int (n : Int)] ∧ RowAt H R1 m ds1 o1 ∧ RowAt H R2 m ds2 o2 ∧ RowOk m ds1 o1 ∧ RowOk m ds2 o2 ∧ 1 ≤ n ∧ n ≤ 60 ∧ ∀ H', Same H H' → Q (.bl true) H'
theorem neI {a b : Int} (h : a = b) : ¬ (!decide (V.int a = V.int b)) = true := by
  rw [h]
  simp
set_option maxHeartbeats 4000000 in
theorem ok_ri90 {f fG fL fA fT fM fV cP : Addr} {fd fdG fdL fdA fdT fdM fdV : FuncData} {k : Nat} (F : Fun K "_law_right" "_law_right" s_law_right f fd)
    (GG : FnOk P w K mg base CX0 (k + 7) fG fdG ["row", "width"] spGw) (kG : PySem.W.keepIn K (.ref fG) = true) (bG : Binds K fdG ["row", "width"] []) (gG : mg "greatest_worth" = some (.ref fG))
    (GL : FnOk P w K mg base CX0 (k + 7) fL fdL ["row", "width"] spLw) (kL : PySem.W.keepIn K (.ref fL) = true) (bL : Binds K fdL ["row", "width"] []) (gL : mg "least_worth" = some (.ref fL))
    (GA : FnOk P w K mg base (L2.CX P w) (k + 8) fA fdA ["row", "other", "width"] (spGa cP)) (kA : PySem.W.keepIn K (.ref fA) = true) (bA : Binds K fdA ["row", "other", "width"] []) (gA : mg "greatest_ahead" = some (.ref fA))
    (GT : FnOk P w K mg base CX0 (k + 3) fT fdT ["row", "width", "found"] spTr90) (kT : PySem.W.keepIn K (.ref fT) = true) (bT : Binds K fdT ["row", "width", "found"] []) (gT : mg "_law_told_right" = some (.ref fT))
    (GM : FnOk P w K mg base CX0 (k + 4) fM fdM ["row", "other", "width"] spMo90) (kM : PySem.W.keepIn K (.ref fM) = true) (bM : Binds K fdM ["row", "other", "width"] []) (gM : mg "_law_most" = some (.ref fM))
    (GV : FnOk P w K mg base CX0 (k + 2) fV fdV ["row", "width", "words"] (spLvs K)) (kV : PySem.W.keepIn K (.ref fV) = true) (bV : Binds K fdV ["row", "width", "words"] []) (gV : mg "_law_values" = some (.ref fV)) : FnOk P w K mg base CX0 (k + 9) f fd ["row", "other", "width"] spRi90 := by
  refine F.ok sc_law_right (fun vs H Q E h => ?_) (fun cdv A outer s H vs Q E hr h => ?_)
  · obtain ⟨R1, R2, m, n, o1, o2, ds1, ds2, rfl, _⟩ := h
    rfl
  · obtain ⟨R1, R2, m, n, o1, o2, ds1, ds2, rfl, hr1, hr2, ok1, ok2, n1, n60, q⟩ := h
    obtain ⟨D1, rs1, eR1, eD1, hd1⟩ := id hr1
    obtain ⟨D2, rs2, eR2, eD2, hd2⟩ := id hr2
    have l1 := ok1.len
    have l2 := ok2.len
    have m1 := ok1.m1
    have m3 := ok1.m3
    have r2 := hr.mono (show k + 2 ≤ k + 8 by omega)
    have r3 := hr.mono (show k + 3 ≤ k + 8 by omega)
    have r4 := hr.mono (show k + 4 ≤ k + 8 by omega)
    have r7 := hr.mono (show k + 7 ≤ k + 8 by omega)
    refine ⟨_, pss_cons (ps_set (i := 3) sc_law_right.nd rfl (.inl rfl) (pe_tup (pa_cons (pe_ix ix_tup (pv 0) pe_int (fun _ _ => rfl)) (pa_cons (pe_tup (pa_cons (pe_tup (pa_cons pe_str pa_nil)) pa_nil)) (pa_cons (pe_ix ix_tup (pv 0) pe_int (fun _ _ => rfl)) pa_nil)))))
    (pss_cons (ps_set (i := 4) sc_law_right.nd rfl (.inl rfl) (pe_call GG r7 (by rfl) gG kG bG .nil pass0 (pa_cons (pv 0) (pa_cons (pv 2) pa_nil))))
    (pss_cons (ps_if (PW.pt (pw_or (pt_cmpR op_ne (pe_call GT r3 (by rfl) gT kT bT .nil pass0 (pa_cons (pv 0) (pa_cons (pv 2) (pa_cons (pv 4) pa_nil)))) (pe_ix ix_tup (pv 4) pe_int (fun _ _ => rfl)) (nomark _)) (pw_or1 (pt_cmpR op_ne (pe_ix ix_tup (pv 4) pe_int (fun _ _ => rfl)) (pe_call GM r4 (by rfl) gM kM bM .nil pass0 (pa_cons (pv 0) (pa_cons (pv 3) (pa_cons (pv 2) pa_nil)))) (nomark _)))))
    (pss_one (ps_ret pe_bl))
    pss_nil)
    (pss_cons (ps_set (i := 4) sc_law_right.nd rfl (.inl rfl) (pe_call GL r7 (by rfl) gL kL bL .nil pass0 (pa_cons (pv 0) (pa_cons (pv 2) pa_nil))))
    (pss_cons (ps_if (PW.pt (pw_or (pt_cmpR op_ne (pe_call GT r3 (by rfl) gT kT bT .nil pass0 (pa_cons (pv 0) (pa_cons (pv 2) (pa_cons (pv 4) pa_nil)))) (pe_ix ix_tup (pv 4) pe_int (fun _ _ => rfl)) (nomark _)) (pw_or1 (pt_cmpR op_ne (pe_ix ix_tup (pv 4) pe_int (fun _ _ => rfl)) (pe_op op_sub pe_int (pe_call GM r4 (by rfl) gM kM bM .nil pass0 (pa_cons (pv 3) (pa_cons (pv 0) (pa_cons (pv 2) pa_nil))))) (nomark _)))))
    (pss_one (ps_ret pe_bl))
    pss_nil)
    (pss_cons (ps_set (i := 4) sc_law_right.nd rfl (.inl rfl) (pe_call GA hr (by rfl) gA kA bA .nil passL (pa_cons (pv 0) (pa_cons (pv 1) (pa_cons (pv 2) pa_nil)))))
    (pss_cons (ps_set (i := 5) sc_law_right.nd rfl (.inl rfl) (pe_call GT r3 (by rfl) gT kT bT .nil pass0 (pa_cons (pv 0) (pa_cons (pv 2) (pa_cons (pv 4) pa_nil)))))
    (pss_cons (ps_if (PW.pt (pw_or (pt_cmpR op_isN (pv 5) pe_non (nomark _)) (pw_or1 (pt_cmpR op_ne (pe_ix ix_tup (pv 4) pe_int (fun _ _ => rfl)) (pe_call GM r4 (by rfl) gM kM bM .nil pass0 (pa_cons (pv 0) (pa_cons (pv 1) (pa_cons (pv 2) pa_nil)))) (nomark _)))))
    (pss_one (ps_ret pe_bl))
    pss_nil)
    (pss_one (ps_ret (pe_cmpR op_eq (pe_ix ix_tup (pv 4) pe_int (fun _ _ => rfl)) (pe_op op_sub (pv 5) (pe_ix ix_list (pe_call GV r2 (by rfl) gV kV bV .nil pass0 (pa_cons (pv 1) (pa_cons (pv 2) (pa_cons (pe_ix ix_tup (pv 4) pe_int (fun _ _ => rfl)) pa_nil)))) (pe_ix ix_tup (pv 1) pe_int (fun _ _ => rfl)) (fun _ _ => rfl))) (nomark _))))))))))), ?_⟩
    refine ⟨.ref R1, rfl, R1, _, 0, .int (m : Int), rfl, rfl, SqT.of eR1, rfl, (by show 1 ≤ sizeLine; decide), fun d9 hd9 => ⟨(by show 1 ≤ sizeLine; decide), fun D9 hD9 => ?_⟩⟩
    have sd := same_new (o := .tup [.str "none"]) hd9
    have sD := same_new (o := .tup [.ref d9]) hD9
    refine ⟨.ref R1, rfl, R1, _, 0, .int (m : Int), rfl, rfl, SqT.of (sD _ _ (sd _ _ eR1)), rfl, (by show 3 ≤ sizeLine; decide), fun R9 hR9 => ?_⟩
    have sR := same_new (o := .tup [.int (m : Int), .ref D9, .int (m : Int)]) hR9
    obtain ⟨H0, hH0⟩ : ∃ H0, H0 = upd (upd (upd H d9 (.tup [.str "none"])) D9 (.tup [.ref d9])) R9 (.tup [.int (m : Int), .ref D9, .int (m : Int)]) := ⟨_, rfl⟩
    have hr9 : RowAt H0 R9 (m : Int) [(("none", []) : Deed)] (m : Int) := by
      rw [hH0]
      exact ⟨D9, [d9], upd_same, sR _ _ upd_same, .cons (sR _ _ (sD _ _ upd_same)) .nil⟩
    have s0 : Same H H0 := by
      rw [hH0]
      exact sd.trans (sD.trans sR)
    rw [← hH0]
    clear hH0 sR sD sd
    have ok9 := bare_ok9 (m := m) (by omega) (by omega)
    refine ⟨.ref R1, rfl, .int (n : Int), rfl, R1, m, n, o1, ds1, rfl, (Same.tups s0).row hr1, ok1, n60, fun Ha Ta Wa xa sa nTa exa lea => ?_⟩
    obtain ⟨La, eTa, eLa⟩ := exa.ob
    have s0a := s0.trans sa
    refine ⟨.ref R1, rfl, .int (n : Int), rfl, .ref Ta, rfl, R1, Ta, La, m, n, o1, Wa, ds1, xa, rfl, (Same.tups s0a).row hr1, ok1, n1, n60, eTa, eLa, exa.len, exa.rng, fun Hb sb => ?_⟩
    refine ⟨.ref Ta, rfl, Ta, _, 0, .int Wa, rfl, rfl, SqT.of (sb _ _ eTa), rfl, rfl, _, rfl, ite2 (fun e => absurd e (neI exa.val.symm)) (fun _ => ?_)⟩
    have s0b := s0a.trans sb
    have sab := sa.trans sb
    refine ⟨.ref Ta, rfl, Ta, _, 0, .int Wa, rfl, rfl, SqT.of (sb _ _ eTa), rfl, .ref R1, rfl, .ref R9, rfl, .int (n : Int), rfl, R1, R9, m, n, o1, (m : Int), ds1, [("none", [])], rfl, (Same.tups s0b).row hr1, (Same.tups sab).row hr9, ok1, ok9, n60, fun Hc Gc sc g1 g2 => ?_⟩
    obtain ⟨⟨yc, yl, yr, ye⟩, ym⟩ := most_wor ok1 ok9 g1 g2
    have eWa : Wa = Gc := by
      have a1 := lea yc yl yr
      have a2 := ym xa exa.len exa.rng
      rw [bare_wo9 yl] at ye
      rw [bare_wo9 exa.len, show wo9 n ds1 o1 xa = Wa from exa.val.symm] at a2
      have a1' : wo9 n ds1 o1 yc ≤ Wa := a1
      omega
    refine ⟨rfl, _, rfl, ite2 (fun e => absurd e (neI eWa)) (fun _ => ?_)⟩
    have s0c := s0b.trans sc
    have sac := sab.trans sc
    refine ⟨.ref R1, rfl, .int (n : Int), rfl, R1, m, n, o1, ds1, rfl, (Same.tups s0c).row hr1, ok1, n60, fun Hd Td Wd xd sd nTd exd led => ?_⟩
    obtain ⟨Ld, eTd, eLd⟩ := exd.ob
    have s0d := s0c.trans sd
    have sad := sac.trans sd
    refine ⟨.ref R1, rfl, .int (n : Int), rfl, .ref Td, rfl, R1, Td, Ld, m, n, o1, Wd, ds1, xd, rfl, (Same.tups s0d).row hr1, ok1, n1, n60, eTd, eLd, exd.len, exd.rng, fun He se => ?_⟩
    refine ⟨.ref Td, rfl, Td, _, 0, .int Wd, rfl, rfl, SqT.of (se _ _ eTd), rfl, rfl, _, rfl, ite2 (fun e => absurd e (neI exd.val.symm)) (fun _ => ?_)⟩
    have s0e := s0d.trans se
    have sae := sad.trans se
    refine ⟨.ref Td, rfl, Td, _, 0, .int Wd, rfl, rfl, SqT.of (se _ _ eTd), rfl, .ref R9, rfl, .ref R1, rfl, .int (n : Int), rfl, R9, R1, m, n, (m : Int), o1, [("none", [])], ds1, rfl, (Same.tups sae).row hr9, (Same.tups s0e).row hr1, ok9, ok1, n60, fun Hf Gf sf g1 g2 => ?_⟩
    obtain ⟨⟨yf, yl', yr', ye'⟩, ym'⟩ := most_wor ok9 ok1 g1 g2
    have eWd : Wd = 0 - Gf := by
      have a1 := led yf yl' yr'
      have a2 := ym' xd exd.len exd.rng
      rw [bare_wo9 yl'] at ye'
      rw [bare_wo9 exd.len, show wo9 n ds1 o1 xd = Wd from exd.val.symm] at a2
      have a1' : Wd ≤ wo9 n ds1 o1 yf := a1
      omega
    refine ⟨0, Gf, rfl, rfl, rfl, _, rfl, ite2 (fun e => absurd e (neI eWd)) (fun _ => ?_)⟩
    have s0f := s0e.trans sf
    refine ⟨.ref R1, rfl, .ref R2, rfl, .int (n : Int), rfl, R1, R2, m, m, n, o1, o2, ds1, ds2, rfl, (Same.tups s0f).row hr1, (Same.tups s0f).row hr2, ok1, ok2, fun _ => ⟨n60, fun Hg Tg Lg Gg xg sg nTg eTg eLg leng rngg valg leg => ?_⟩, fun ne => absurd rfl ne⟩
    have s0g := s0f.trans sg
    refine ⟨.ref R1, rfl, .int (n : Int), rfl, .ref Tg, rfl, R1, Tg, Lg, m, n, o1, Gg, ds1, xg, rfl, (Same.tups s0g).row hr1, ok1, n1, n60, eTg, eLg, leng, rngg, fun Hh sh => ?_⟩
    refine ⟨.int (wo9 n ds1 o1 xg), rfl, rfl, _, rfl, ite2 (fun e => absurd e (by simp)) (fun _ => ?_)⟩
    have s0h := s0g.trans sh
    refine ⟨.ref Tg, rfl, Tg, _, 0, .int Gg, rfl, rfl, SqT.of (sh _ _ eTg), rfl, .ref R1, rfl, .ref R2, rfl, .int (n : Int), rfl, R1, R2, m, n, o1, o2, ds1, ds2, rfl, (Same.tups s0h).row hr1, (Same.tups s0h).row hr2, ok1, ok2, n60, fun Hi Gi si g1 g2 => ?_⟩
    obtain ⟨⟨yi, yli, yri, yei⟩, ymi⟩ := most_wor ok1 ok2 g1 g2
    have eGi : Gg = Gi := by
      have a1 := leg yi yli yri
      have a2 := ymi xg leng rngg
      have a1' : wo9 n ds1 o1 yi - wo9 n ds2 o2 yi ≤ Gg := a1
      have valg' : Gg = wo9 n ds1 o1 xg - wo9 n ds2 o2 xg := valg
      omega
    refine ⟨rfl, _, rfl, ite2 (fun e => absurd e (neI eGi)) (fun _ => ?_)⟩
    have s0i := s0h.trans si
    have shi := sh.trans si
    refine ⟨.ref Tg, rfl, Tg, _, 0, .int Gg, rfl, rfl, SqT.of (shi _ _ eTg), rfl, .int (wo9 n ds1 o1 xg), rfl, .ref R2, rfl, .int (n : Int), rfl, .ref Tg, rfl, Tg, _, 1, .ref Lg, rfl, rfl, SqT.of (shi _ _ eTg), rfl, R2, Lg, m, o2, ds2, xg, n, rfl, (Same.tups s0i).row hr2, ok2.deeds, by omega, .inl (.inl (shi _ _ eLg)), by rw [leng], by omega, n1, by omega, rngg, fun Hj Lj sj nLj eLj => ?_⟩
    have s0j := s0i.trans sj
    refine ⟨.ref R2, rfl, R2, _, 2, .int o2, rfl, rfl, SqT.of (s0j _ _ eR2), rfl, Lj, _, o2, _, rfl, rfl, .inl (.inl eLj), vals_at9 ok2 leng, _, _, rfl, rfl, rfl, ?_⟩
    have e : decide (V.int Gg = V.int (wo9 n ds1 o1 xg - wo9 n ds2 o2 xg)) = true := decide_eq_true (congrArg V.int valg)
    have q' := q Hj s0j
    rw [← e] at q'
    exact q'
def spRf90 : Sp := fun vs H Q _ => ∃ (R1 R2 : Addr) (m1 m2 n : Nat) (o1 o2 : Int) (ds1 ds2 : List Deed), vs = [.ref R1, .ref R2, .int (n : Int)] ∧ RowAt H R1 m1 ds1 o1 ∧ RowAt H R2 m2 ds2 o2 ∧ RowOk m1 ds1 o1 ∧ RowOk m2 ds2 o2 ∧ ¬ m1 = m2 ∧ ∀ H', Same H H' → Q (.bl true) H'
theorem ok_rf90 {f fR fK cW cT n1 n2 n3 n4 n5 n6 : Addr} {fd fdR fdK : FuncData} {k : Nat} (F : Fun K "_law_refused" "_law_refused" s_law_refused f fd) (X : KP8 K mg cW cT n1 n2 n3 n4 n5 n6)
    (GR : FnOk P w K mg base (L2.CX P w) (k + 8) fR fdR ["row", "other", "width"] (spGa cT)) (kR : PySem.W.keepIn K (.ref fR) = true) (bR : Binds K fdR ["row", "other", "width"] []) (gR : mg "greatest_ahead" = some (.ref fR))
    (GK : FnOk P w K mg base CX0 (k + 1) fK fdK ["caught"] (spK8 cT)) (kK : PySem.W.keepIn K (.ref fK) = true) (bK : Binds K fdK ["caught"] []) (gK : mg "_law_kinds" = some (.ref fK)) : FnOk P w K mg base CX0 (k + 9) f fd ["row", "other", "width"] spRf90 := by
  refine F.ok sc_law_refused (fun vs H Q E h => ?_) (fun cdv A outer s H vs Q E hr h => ?_)
  · obtain ⟨R1, R2, m1, m2, n, o1, o2, ds1, ds2, rfl, _⟩ := h
    rfl
  · obtain ⟨R1, R2, m1, m2, n, o1, o2, ds1, ds2, rfl, hr1, hr2, ok1, ok2, hne, q⟩ := h
    have r1 := hr.mono (show k + 1 ≤ k + 8 by omega)
    refine ⟨_, pss_cons (ps_set (i := 3) sc_law_refused.nd rfl (.inl rfl) pe_non)
      (pss_mid (ps_try_asT (i := 4) (tb := fun W => tDrop (tCallS (spGa cT) (WE W) (tCons (tVar 0) (tCons (tVar 1) (tCons (tVar 2) tNil))))) (ts := fun _ _ _ => tAsg (tVar 4) (gName 3)) (Wout := fun _ _ _ _ => False) rfl rfl sc_law_refused.nd rfl rfl ⟨rfl, by decide, Or.inl X.gW⟩ takes0
          (fun W pn xe tk _ => pss_one (ps_expr (by exact (pe_callS GR hr rfl gR kR bR (fun σ => passAt tk σ) (by exact (pa_cons (pv 0) (pa_cons (pv 1) (pa_cons (pv 2) pa_nil))))))))
          (fun a oe cls d pn hz hf => pss_one (ps_set (i := 3) sc_law_refused.nd rfl (Or.inl rfl) (pv 4))))
      (pss_one (ps_ret (pe_cmpR (op_eqD hr.units) (pe_call GK r1 (by rfl) gK kK bK .nil pass0 (pa_cons (pv 3) pa_nil)) (pe_lst (pa_cons pe_bl (pa_cons pe_bl (pa_cons pe_bl (pa_cons pe_bl (pa_cons pe_bl (pa_cons pe_bl (pa_cons pe_bl (pa_cons pe_bl pa_nil))))))))) (nomark _))))), ?_⟩
    refine ⟨fun σ2 H2 => ∃ a, σ2 = [some (.ref R1), some (.ref R2), some (.int (n : Int)), some (.ref a), none] ∧ Same H H2 ∧ H2 a = some (ExR (.ref cT) a), ?_, ?_⟩
    · refine ⟨.ref R1, rfl, .ref R2, rfl, .int (n : Int), rfl, R1, R2, m1, m2, n, o1, o2, ds1, ds2, rfl, hr1, hr2, ok1, ok2, fun e => absurd e hne, fun _ H2 s2 => ?_⟩
      exact ⟨true, X.mT, fun _ => ⟨rfl, fun a ha => ⟨.ref a, rfl, a, rfl, s2.trans (same_new ha), upd_same⟩⟩, fun z => Bool.noConfusion z⟩
    · rintro σ2 H2 ⟨a, rfl, s2, ea⟩
      refine ⟨.ref a, rfl, a, rfl, ea, fun H3 L s3 eL => ?_⟩
      refine ⟨(by show 8 ≤ sizeLine; decide), fun Z hZ => ?_⟩
      have sZ := same_new (o := .lst (k8L.map V.bl)) hZ
      refine ⟨.list (k8L.map PyData.bool), .list (k8L.map PyData.bool), .lst (.inl (.inl (sZ _ _ eL))) (dp_bls k8L), .lst (.inl (.inl upd_same)) (dp_bls k8L), shaped_bls _, shaped_bls _, ?_⟩
      rw [eqv_bls]
      exact q _ (s2.trans (s3.trans sZ))
/-! ### slices of tuples; rows bent -/
section slz
variable {X : Cx}
def rSlZ : V → Option Int → Option Int → Hp → VK → Prop := fun x lo hi H Q => ∃ a xs, x = .ref a ∧ H a = some (.tup xs) ∧ ∀ p H2, Same H H2 → H2 p = some (.tup (cutV xs lo hi)) → Q (.ref p) H2
theorem sl_tupZ : SlR X rSlZ := by
  intro pins s σ H x v vl vu lo hi sl Q I rx hs hl hh h
  obtain ⟨a, xs, rfl, ha, q⟩ := h
  refine sl_tupA pins s σ H _ v vl vu lo hi sl Q I rx hs hl hh ⟨a, xs, rfl, SqT.of ha, fun z => ?_, fun _ p hp => q p _ (same_new hp) upd_same⟩
  refine q a H (Same.refl H) ?_
  have e : cutV xs lo hi = xs := by
    unfold cutV
    rw [z.1, z.2, List.drop_zero, Nat.sub_zero, List.take_length]
  rw [e]
  exact ha
end slz
theorem cut_take (xs : List V) (k : Nat) : cutV xs none (some (k : Int)) = xs.take k := by
  unfold cutV
  rw [HT.sIx_none, HT.sIx_nat, List.drop_zero, Nat.sub_zero]
  by_cases h : k ≤ xs.length
  · rw [Nat.min_eq_left h]
  · rw [Nat.min_eq_right (by omega), List.take_length, List.take_of_length_le (by omega)]
theorem cut_drop (xs : List V) (k : Nat) : cutV xs (some (k : Int)) none = xs.drop k := by
  unfold cutV
  rw [HT.sIx_none, HT.sIx_nat]
  by_cases h : k ≤ xs.length
  · rw [Nat.min_eq_left h, List.take_of_length_le (by rw [List.length_drop]; omega)]
  · rw [Nat.min_eq_right (by omega), Nat.sub_self, List.take_zero, List.drop_of_length_le (by omega)]
theorem set_cut {α : Type} {l : List α} {i : Nat} (h : i < l.length) (x : α) : l.take i ++ [x] ++ l.drop (i + 1) = l.set i x := by
  rw [List.set_eq_take_append_cons_drop, if_pos h, List.append_assoc]
  rfl
theorem lay_deed {m : Int} {d : Deed} (h : DeedOk m d) : PyData.canLay0 (deedD d) = true ∧ PyData.depth (deedD d) = 1 := by
  obtain ⟨h1, h2⟩ := lay_ints d.2
  have h3 : PyData.strOk d.1 = true := fw_ok _ (List.mem_map.mpr ⟨_, h.word, rfl⟩)
  unfold deedD
  exact ⟨by simp only [PyData.canLay0, PyData.canLayAll0, h1, h3, Bool.and_self], by simp only [PyData.depth, PyData.depthAll, h2, Nat.max_self]⟩
theorem lay_deeds : ∀ {ds : List Deed}, (∀ d ∈ ds, ∃ m, DeedOk m d) → PyData.canLayAll0 (ds.map deedD) = true ∧ PyData.depthAll (ds.map deedD) ≤ 1
  | [], _ => ⟨by simp only [List.map_nil, PyData.canLayAll0], by simp only [List.map_nil, PyData.depthAll]; decide⟩
  | d :: ds, h => by
    obtain ⟨h1, h2⟩ := lay_deeds fun e he => h e (List.mem_cons_of_mem _ he)
    obtain ⟨m, hm⟩ := h d List.mem_cons_self
    obtain ⟨g1, g2⟩ := lay_deed hm
    exact ⟨by simp only [List.map_cons, PyData.canLayAll0, h1, g1, Bool.and_self], by simp only [List.map_cons, PyData.depthAll, g2]; omega⟩
theorem deeds_shaped {ds : List Deed} (h : ∀ d ∈ ds, ∃ m, DeedOk m d) : SeqAt.shaped (.tuple (ds.map deedD)) = true := by
  obtain ⟨h1, h2⟩ := lay_deeds h
  have h3 : PyData.depthAll (ds.map deedD) = 0 ∨ PyData.depthAll (ds.map deedD) = 1 := by omega
  rcases h3 with h3 | h3
  · simp only [SeqAt.shaped, PyData.canLay0, PyData.depth, h1, h3, Bool.true_and]
    decide
  · simp only [SeqAt.shaped, PyData.canLay0, PyData.depth, h1, h3, Bool.true_and]
    decide
theorem dsOk_mems {m : Int} {ds : List Deed} (h : DsOk m ds) : ∀ d ∈ ds, ∃ m, DeedOk m d := fun d hd => by
  obtain ⟨k, hk⟩ := List.mem_iff_getElem?.mp hd
  exact ⟨_, h.each k d hk⟩
theorem dp_deeds {H : Hp} : ∀ {rs : List Addr} {ds : List Deed}, DsAt H rs ds → DpAll K H (rs.map V.ref) (ds.map deedD)
  | _, _, .nil => .nil
  | _, _, .cons h t => .cons (.tup (SqT.of h) (.cons (.str _) (dp_ints _))) (dp_deeds t)
theorem eqv_nilT (l : List PyData) : PyData.eqv (.tuple l) (.tuple []) = l.isEmpty := by
  cases l <;> simp only [PyData.eqv, PyData.eqvAll, List.isEmpty_nil, List.isEmpty_cons]
theorem awSet {α β : Type} {F : α → β → Prop} {x : α} {y : β} (h : F x y) : ∀ {l : List α} {l2 : List β} (i : Nat), Paired F l l2 → Paired F (l.set i x) (l2.set i y)
  | _, _, _, .nil => .nil
  | _, _, 0, .cons _ t => .cons h t
  | _, _, i + 1, .cons r t => .cons r (awSet h i t)
theorem dsOk_set {m : Int} {ds : List Deed} {d : Deed} {i : Nat} (h : DsOk m ds) (k : DeedOk (m + i) d) : DsOk m (ds.set i d) := by
  constructor
  intro j e hj
  rw [List.getElem?_set] at hj
  split at hj
  · rename_i hij
    subst hij
    split at hj
    · obtain rfl := Option.some.inj hj
      exact k
    · cases hj
  · exact h.each j e hj
theorem carN_set (d : Deed) : ∀ (ds : List Deed) (i : Nat), carN (ds.set i d) ≤ carN ds + 1
  | [], _ => Nat.le_succ _
  | e :: ds, 0 => by
    show carN ds + _ ≤ carN ds + _ + 1
    split <;> split <;> omega
  | e :: ds, i + 1 => by
    show carN (ds.set i d) + _ ≤ carN ds + _ + 1
    have := carN_set d ds i
    omega
theorem bent_words0 : ∀ x ∈ (["none", "all"] : List Str), (x, (0 : Int)) ∈ fwL := by decide +kernel
theorem bent_words1 : ∀ x ∈ (["not", "twice"] : List Str), (x, (1 : Int)) ∈ fwL := by decide +kernel
theorem bent_words2 : ∀ x ∈ (["and", "or", "xor"] : List Str), (x, (2 : Int)) ∈ fwL := by decide +kernel
def spBe : Sp := fun vs H Q _ => ∃ (a R : Addr) (m o : Int) (ds : List Deed), vs = [.ref a, .ref R] ∧ TP H a ∧ RowAt H R m ds o ∧ RowOk m ds o ∧
  ∀ H' R' ds' o', RowAt H' R' m ds' o' → RowOk m ds' o' → ds'.length = ds.length → carN ds' ≤ carN ds + 1 → TP H' a → But a H H' → Q (.ref R') H'
theorem ok_be {f fD fE : Addr} {fd fdD fdE : FuncData} {k : Nat} (F : Fun K "_law_bent" "_law_bent" s_law_bent f fd) (GD : FnOk P w K mg base CX0 (k + 1) fD fdD ["tape", "many"] spDigit) (kD : PySem.W.keepIn K (.ref fD) = true)
    (GE : FnOk P w K mg base CX0 (k + 2) fE fdE ["tape", "ahead", "left"] spTd) (kE : PySem.W.keepIn K (.ref fE) = true) (bD : Binds K fdD ["tape", "many"] []) (bE : Binds K fdE ["tape", "ahead", "left"] []) (gD : mg "_law_digit" = some (.ref fD)) (gE : mg "_law_deed" = some (.ref fE))
    (mn : mg "len" = none) : FnOk P w K mg base CX0 (k + 3) f fd ["tape", "row"] spBe := by
  refine F.ok sc_law_bent (fun vs H Q E h => ?_) (fun cdv A outer s H vs Q E hr h => ?_)
  · obtain ⟨a, R, m, o, ds, rfl, _⟩ := h
    rfl
  · obtain ⟨a, R, m, o, ds, rfl, ht, hrow, hok, q⟩ := h
    obtain ⟨D, rs, eR, eD, hd⟩ := id hrow
    have r1 := hr.mono (show k + 1 ≤ k + 2 by omega)
    refine ⟨_, pss_cons (ps_asg (pv 1) (pg_tup rfl (pgs_cons (pg_name (i := 2) sc_law_bent.nd rfl (.inl rfl)) (pgs_cons (pg_name (i := 3) sc_law_bent.nd rfl (.inl rfl)) (pgs_cons (pg_name (i := 4) sc_law_bent.nd rfl (.inl rfl)) pgs_nil)))))
      (pss_cons (ps_set (i := 5) sc_law_bent.nd rfl (.inl rfl) (pe_call GD r1 (by rfl) gD kD bD .nil pass0 (pa_cons (pv 0) (pa_cons pe_int pa_nil))))
      (pss_cons (ps_if (PW.pt (pw_or (pt_cmpR (op_eqD hr.units) (pv 3) (pe_tup pa_nil) (nomark _)) (pw_or1 (pt_cmpR op_eq (pv 5) pe_int (nomark _)))))
        (pss_one (ps_ret (pe_tup (pa_cons (pv 2) (pa_cons (pv 3) (pa_cons (pe_call GD r1 (by rfl) gD kD bD .nil pass0 (pa_cons (pv 0) (pa_cons (pe_op op_add (pv 2) (pe_callB call_len_seq (by rfl) mn PySem.boot_len (pa_cons (pv 3) pa_nil))) pa_nil))) pa_nil)))))) pss_nil)
      (pss_cons (ps_set (i := 6) sc_law_bent.nd rfl (.inl rfl) (pe_call GD r1 (by rfl) gD kD bD .nil pass0 (pa_cons (pv 0) (pa_cons (pe_callB call_len_seq (by rfl) mn PySem.boot_len (pa_cons (pv 3) pa_nil)) pa_nil))))
      (pss_cons (ps_set (i := 7) sc_law_bent.nd rfl (.inl rfl) (pe_ix ix_tup (pv 3) (pv 6) (fun _ _ => rfl)))
      (pss_mid (ps_if (PW.pt (pw_and (pt_cmpR op_eq (pv 5) pe_int (nomark _)) (pw_and1 (pt_cmpR op_gt (pe_callB call_len_seq (by rfl) mn PySem.boot_len (pa_cons (pv 7) pa_nil)) pe_int (nomark _)))))
        (pss_cons (ps_set (i := 8) sc_law_bent.nd rfl (.inl rfl) (pe_op op_add pe_int (pe_call GD r1 (by rfl) gD kD bD .nil pass0 (pa_cons (pv 0) (pa_cons (pe_op op_sub (pe_callB call_len_seq (by rfl) mn PySem.boot_len (pa_cons (pv 7) pa_nil)) pe_int) pa_nil)))))
        (pss_one (ps_set (i := 7) sc_law_bent.nd rfl (.inl rfl) (pe_op op_catZ (pe_op op_catZ (pe_slice sl_tupZ (pv 7) po_none (po_some (pv 8))) (pe_tup (pa_cons (pe_call GD r1 (by rfl) gD kD bD .nil pass0 (pa_cons (pv 0) (pa_cons (pe_op op_add (pv 2) (pv 6)) pa_nil))) pa_nil))) (pe_slice sl_tupZ (pv 7) (po_some (pe_op op_add (pv 8) pe_int)) po_none)))))
        (pss_one (ps_if (pt_cmpR op_eq (pv 5) pe_int (nomark _))
          (pss_cons (ps_set (i := 9) sc_law_bent.nd rfl (.inl rfl) (pe_ix ix_list (pe_lst (pa_cons (pe_lst (pa_cons pe_str (pa_cons pe_str pa_nil))) (pa_cons (pe_lst (pa_cons pe_str (pa_cons pe_str pa_nil))) (pa_cons (pe_lst (pa_cons pe_str (pa_cons pe_str (pa_cons pe_str pa_nil)))) pa_nil)))) (pe_op op_sub (pe_callB call_len_seq (by rfl) mn PySem.boot_len (pa_cons (pv 7) pa_nil)) pe_int) (fun _ _ => rfl)))
          (pss_one (ps_set (i := 7) sc_law_bent.nd rfl (.inl rfl) (pe_op op_catZ (pe_tup (pa_cons (pe_ix ix_list (pv 9) (pe_call GD r1 (by rfl) gD kD bD .nil pass0 (pa_cons (pv 0) (pa_cons (pe_callB call_len_seq (by rfl) mn PySem.boot_len (pa_cons (pv 9) pa_nil)) pa_nil))) (fun _ _ => rfl)) pa_nil)) (pe_slice sl_tupZ (pv 7) (po_some pe_int) po_none)))))
          (pss_one (ps_set (i := 7) sc_law_bent.nd rfl (.inl rfl) (pe_call GE hr (by rfl) gE kE bE .nil pass0 (pa_cons (pv 0) (pa_cons (pe_op op_add (pv 2) (pv 6)) (pa_cons pe_int pa_nil)))))))))
      (pss_one (ps_ret (pe_tup (pa_cons (pv 2) (pa_cons (pe_op op_catZ (pe_op op_catZ (pe_slice sl_tupZ (pv 3) po_none (po_some (pv 6))) (pe_tup (pa_cons (pv 7) pa_nil))) (pe_slice sl_tupZ (pv 3) (po_some (pe_op op_add (pv 6) pe_int)) po_none)) (pa_cons (pv 4) pa_nil))))))))))), ?_⟩
    have m1 := hok.m1
    have m3 := hok.m3
    have l8 := hok.len
    have o0 := hok.o0
    have o1 := hok.o1
    have rl := awLen hd
    have rlI : ((rs.map V.ref).length : Int) = ds.length := by rw [List.length_map, rl]
    refine ⟨.ref R, rfl, R, [.int m, .ref D, .int o], rfl, SqT.of eR, rfl, .int m, [.ref D, .int o], rfl, .ref D, [.int o], rfl, .int o, [], rfl, rfl, ?_⟩
    refine ⟨.ref a, rfl, a, 4, rfl, by decide, by decide, ht, fun H1 wy wy0 wy1 t1 b1 => ?_⟩
    have eD1 := b1.tape ht _ _ eD
    have hd1 := (b1.tape ht).ds hd
    have hm := dsOk_mems hok.deeds
    refine ⟨.ref D, rfl, by show 0 ≤ sizeLine; decide, fun Z hZ => ?_⟩
    have sZ := same_new (o := .tup []) hZ
    have tZ := t1.same sZ
    have bZ : But a H (upd H1 Z (.tup [])) := b1.trans (But.same sZ)
    have hdZ := (Same.tups sZ).ds hd1
    have eDZ := sZ _ _ eD1
    -- out bent
    have outWay : ∀ H2 : Hp, TP H2 a → But a H H2 → H2 D = some (.tup (rs.map V.ref)) → DsAt H2 rs ds →
        ∀ z, 0 ≤ z → z < m + ((rs.map V.ref).length : Int) → ∀ H3, TP H3 a → But a H2 H3 → ∀ T, H3 T = none → Q (.ref T) (upd H3 T (.tup [.int m, .ref D, .int z])) := by
      intro H2 t2 b2 e2 d2 z z0 z1 H3 t3 b3 T hT
      have sT := same_new (o := .tup [.int m, .ref D, .int z]) hT
      refine q _ T ds z ⟨D, rs, upd_same, sT _ _ (b3.tape t2 _ _ e2), (Same.tups sT).ds ((b3.tape t2).ds d2)⟩ ⟨m1, m3, l8, hok.deeds, z0, by omega⟩ rfl (Nat.le_succ _) (t3.same sT) ((b2.trans b3).trans (But.same sT))
    refine ⟨.tuple (ds.map deedD), .tuple [], .tup (SqT.of eDZ) (dp_deeds hdZ), .tup (SqT.of upd_same) .nil, deeds_shaped hm, deeds_shaped (ds := []) (fun _ z => nomatch z), _, rfl, ?_⟩
    rw [eqv_nilT]
    refine ite2 (fun e => ?_) (fun e => ?_)
    · refine ⟨.int m, rfl, .ref D, rfl, .ref a, rfl, .int m, rfl, .ref D, rfl, D, _, rfl, .inr (SqT.of eDZ), m, _, rfl, rfl, a, _, rfl, by omega, by omega, tZ, fun H3 z z0 z1 t3 b3 => ?_⟩
      exact ⟨by show 3 ≤ sizeLine; decide, fun T hT => outWay _ tZ bZ eDZ hdZ z z0 z1 H3 t3 b3 T hT⟩
    refine ⟨.int wy, rfl, rfl, _, rfl, ite2 (fun e2 => ?_) (fun e2 => ?_)⟩
    · refine ⟨.int m, rfl, .ref D, rfl, .ref a, rfl, .int m, rfl, .ref D, rfl, D, _, rfl, .inr (SqT.of eDZ), m, _, rfl, rfl, a, _, rfl, by omega, by omega, tZ, fun H3 z z0 z1 t3 b3 => ?_⟩
      exact ⟨by show 3 ≤ sizeLine; decide, fun T hT => outWay _ tZ bZ eDZ hdZ z z0 z1 H3 t3 b3 T hT⟩
    have dpos : 0 < ds.length := by
      cases ds with
      | nil => exact absurd rfl e
      | cons _ _ => exact Nat.succ_pos _
    refine ⟨.ref a, rfl, .ref D, rfl, D, _, rfl, .inr (SqT.of eDZ), a, _, rfl, by omega, by omega, tZ, fun H3 at0 a0 a1 t3 b3 => ?_⟩
    obtain ⟨i, rfl⟩ := Int.eq_ofNat_of_zero_le a0
    have hi : i < ds.length := by omega
    have hir : i < rs.length := by omega
    have eD3 := b3.tape tZ _ _ eDZ
    have hd3 := (b3.tape tZ).ds hdZ
    have bH3 := bZ.trans b3
    obtain ⟨d, hd1', hd2⟩ := awGet hd3 (List.getElem?_eq_getElem hir)
    have okd := hok.deeds.each i d hd1'
    have eat : atI (rs.map V.ref) (i : Int) = some (.ref rs[i]) := atI_nat (by rw [List.getElem?_map, List.getElem?_eq_getElem hir]; rfl)
    refine ⟨.ref D, rfl, .int (i : Int), rfl, D, _, (i : Int), .ref rs[i], rfl, rfl, SqT.of eD3, eat, ?_⟩
    have dl : ((dV d).length : Int) = d.2.length + 1 := by
      unfold dV
      rw [List.length_cons, List.length_map]
      omega
    have d2 : d.2.length ≤ 2 := by
      rcases fw_cases okd.word with ⟨h, _⟩ | ⟨h, _⟩ | ⟨h, _⟩ <;> omega
    refine ⟨fun σ2 H2 => ∃ y8 y9 r' d', σ2 = [some (.ref a), some (.ref R), some (.int m), some (.ref D), some (.int o), some (.int wy), some (.int (i : Int)), some (.ref r'), y8, y9] ∧ H2 r' = some (.tup (dV d')) ∧ DeedOk (m + i) d' ∧ TP H2 a ∧ But a H3 H2, ?_, ?_⟩
    · refine ⟨.int wy, rfl, rfl, _, rfl, ite2 (fun e3 => ⟨.ref rs[i], rfl, rs[i], _, rfl, .inr (SqT.of hd2), _, 1, rfl, rfl, _, rfl, ite2 (fun e4 => ?_) (fun e4 => ?_)⟩) (fun e3 => ?_)⟩
      · have big := of_decide_eq_true e4
        refine ⟨.ref a, rfl, .ref rs[i], rfl, rs[i], _, rfl, .inr (SqT.of hd2), _, 1, rfl, rfl, a, _, rfl, by omega, by omega, t3, fun H4 z z0 z1 t4 b4 => ⟨1, z, rfl, rfl, ?_⟩⟩
        obtain ⟨j, rfl⟩ := Int.eq_ofNat_of_zero_le z0
        have hj : j < d.2.length := by omega
        have ed4 := b4.tape t3 _ _ hd2
        refine ⟨.ref rs[i], rfl, .int (1 + (j : Int)), rfl, 1 + (j : Int), rfl, rs[i], _, rfl, ed4, fun p5 H5 s5 e5 => ?_⟩
        refine ⟨.ref a, rfl, .int m, rfl, .int (i : Int), rfl, m, (i : Int), rfl, rfl, a, _, rfl, by omega, by omega, t4.same s5, fun H6 x x0 x1 t6 b6 => ?_⟩
        refine ⟨by show 1 ≤ sizeLine; decide, fun U hU => ?_⟩
        have sU := same_new (o := .tup [.int x]) hU
        have e5' := sU _ _ (b6.tape (t4.same s5) _ _ e5)
        have c1 : cutV (dV d) none (some (1 + (j : Int))) = (dV d).take (j + 1) := by
          rw [show (1 : Int) + (j : Int) = ((j + 1 : Nat) : Int) by omega, cut_take]
        have c2 : cutV (dV d) (some (1 + (j : Int) + 1)) none = (dV d).drop (j + 1 + 1) := by
          rw [show (1 : Int) + (j : Int) + 1 = ((j + 1 + 1 : Nat) : Int) by omega, cut_drop]
        rw [c1] at e5'
        have dVl : (dV d).length = d.2.length + 1 := by omega
        refine ⟨p5, U, _, _, rfl, rfl, e5', upd_same, ?_, fun p7 H7 s7 e7 => ?_⟩
        · rw [List.length_take]
          exact Nat.le_of_lt (small1000 (by show min (j + 1) (dV d).length + 1 ≤ 1000; omega))
        have t7 := (t6.same sU).same s7
        have b7 : But a H3 H7 := ((((b4.trans (But.same s5)).trans b6).trans (But.same sU)).trans (But.same s7))
        have ed7 := b7.tape t3 _ _ hd2
        refine ⟨.ref rs[i], rfl, .int (1 + (j : Int)), rfl, 1 + (j : Int), 1, rfl, rfl, 1 + (j : Int) + 1, rfl, rs[i], _, rfl, ed7, fun p8 H8 s8 e8 => ?_⟩
        rw [c2] at e8
        refine ⟨p7, p8, _, _, rfl, rfl, s8 _ _ e7, e8, ?_, fun p9 H9 s9 e9 => ?_⟩
        · rw [List.length_append, List.length_take, List.length_drop]
          exact Nat.le_of_lt (small1000 (by show min (j + 1) (dV d).length + 1 + ((dV d).length - (j + 1 + 1)) ≤ 1000; omega))
        rw [set_cut (by omega)] at e9
        refine ⟨_, _, p9, (d.1, d.2.set j x), rfl, ?_, ⟨?_, fun y hy => ?_⟩, (t7.same s8).same s9, (b7.trans (But.same s8)).trans (But.same s9)⟩
        · rw [e9]
          unfold dV
          rw [List.set_cons_succ, List.map_set]
        · show (d.1, ((d.2.set j x).length : Int)) ∈ fwL
          rw [List.length_set]
          exact okd.word
        · rcases List.mem_or_eq_of_mem_set hy with h | h
          · exact okd.ahead y h
          · rw [h]
            exact ⟨x0, x1⟩
      all_goals
        refine ⟨.int wy, rfl, rfl, _, rfl, ite2 (fun e5 => ?_) (fun e5 => ?_)⟩
        · refine ⟨by show 2 ≤ sizeLine; decide, fun S0 h0 => ⟨by show 2 ≤ sizeLine; decide, fun S1 h1 => ⟨by show 3 ≤ sizeLine; decide, fun S2 h2 => ⟨by show 3 ≤ sizeLine; decide, fun S3 h3 => ?_⟩⟩⟩⟩
          have s0 := same_new (o := .lst ((["none", "all"] : List Str).map V.str)) h0
          have s1 := same_new (o := .lst ((["not", "twice"] : List Str).map V.str)) h1
          have s2 := same_new (o := .lst ((["and", "or", "xor"] : List Str).map V.str)) h2
          have s3 := same_new (o := .lst [.ref S0, .ref S1, .ref S2]) h3
          have sA := ((s0.trans s1).trans s2).trans s3
          have pick : ∃ (Sx : Addr) (ws : List Str), atI [V.ref S0, V.ref S1, V.ref S2] (((dV d).length : Int) - 1) = some (.ref Sx) ∧ (∀ x ∈ ws, (x, (d.2.length : Int)) ∈ fwL) ∧ 0 < ws.length ∧ ws.length ≤ 3 ∧
              upd (upd (upd (upd H3 S0 (.lst [.str "none", .str "all"])) S1 (.lst [.str "not", .str "twice"])) S2 (.lst [.str "and", .str "or", .str "xor"])) S3 (.lst [.ref S0, .ref S1, .ref S2]) Sx = some (.lst (ws.map V.str)) := by
            have hl : d.2.length = 0 ∨ d.2.length = 1 ∨ d.2.length = 2 := by omega
            rcases hl with hl | hl | hl <;> rw [dl, hl]
            · exact ⟨S0, ["none", "all"], rfl, bent_words0, by decide, by decide, s3 _ _ (s2 _ _ (s1 _ _ upd_same))⟩
            · exact ⟨S1, ["not", "twice"], rfl, bent_words1, by decide, by decide, s3 _ _ (s2 _ _ upd_same)⟩
            · exact ⟨S2, ["and", "or", "xor"], rfl, bent_words2, by decide, by decide, s3 _ _ upd_same⟩
          obtain ⟨Sx, ws, pk, hws, w0, w3, eSx⟩ := pick
          refine ⟨.ref rs[i], rfl, rs[i], _, rfl, .inr (SqT.of (sA _ _ hd2)), _, 1, rfl, rfl, S3, _, _, .ref Sx, rfl, rfl, .inl (.inl upd_same), pk, ?_⟩
          have t4 := t3.same sA
          have nSx : Sx ≠ a := fun z => by
            obtain ⟨x, y, ea⟩ := t4
            rw [z] at eSx
            have := eSx.symm.trans ea
            obtain ⟨w, ws, rfl⟩ : ∃ w ws', ws = w :: ws' := by
              cases ws with
              | nil => exact absurd w0 (Nat.lt_irrefl _)
              | cons w ws => exact ⟨w, ws, rfl⟩
            simp at this
          have wl : ((ws.map V.str).length : Int) = ws.length := by rw [List.length_map]
          refine ⟨.ref Sx, rfl, .ref a, rfl, .ref Sx, rfl, Sx, _, rfl, .inl (.inl (.inl eSx)), a, _, rfl, by omega, by omega, t4, fun H5 z z0 z1 t5 b5 => ?_⟩
          have eSx5 := b5 _ _ nSx eSx
          obtain ⟨v, hv, hvm⟩ := atI_in (l := ws.map V.str) z0 z1
          obtain ⟨x, hx, rfl⟩ := mem_strs hvm
          refine ⟨Sx, _, z, .str x, rfl, rfl, .inl (.inl eSx5), hv, by show 1 ≤ sizeLine; decide, fun U hU => ?_⟩
          have sU := same_new (o := .tup [.str x]) hU
          have b6 : But a H3 (upd H5 U (.tup [.str x])) := ((But.same sA).trans b5).trans (But.same sU)
          have ed6 := b6.tape t3 _ _ hd2
          refine ⟨.ref rs[i], rfl, 1, rfl, rs[i], _, rfl, ed6, fun p8 H8 s8 e8 => ?_⟩
          have c2 : cutV (dV d) (some 1) none = (dV d).drop 1 := cut_drop (dV d) 1
          rw [c2] at e8
          refine ⟨U, p8, _, _, rfl, rfl, s8 _ _ upd_same, e8, ?_, fun p9 H9 s9 e9 => ?_⟩
          · rw [List.length_drop]
            exact Nat.le_of_lt (small1000 (by show 1 + ((dV d).length - 1) ≤ 1000; omega))
          refine ⟨_, _, p9, (x, d.2), rfl, e9, ⟨hws x hx, okd.ahead⟩, ((t5.same sU).same s8).same s9, (b6.trans (But.same s8)).trans (But.same s9)⟩
        · refine ⟨.ref a, rfl, .int m, rfl, .int (i : Int), rfl, m, (i : Int), rfl, rfl, a, _, 1, rfl, by omega, by omega, t3, fun H4 r' d' hok' _ er t4 b4 => ?_⟩
          exact ⟨_, _, r', d', rfl, er, hok', t4, b4⟩
    · rintro σ2 H2 ⟨y8, y9, r', d', rfl, er, ok', t2, b2⟩
      have eD2 := b2.tape t3 _ _ eD3
      have c1 : cutV (rs.map V.ref) none (some (i : Int)) = (rs.map V.ref).take i := cut_take _ _
      have c2 : cutV (rs.map V.ref) (some ((i : Int) + 1)) none = (rs.map V.ref).drop (i + 1) := by
        rw [show (i : Int) + 1 = ((i + 1 : Nat) : Int) by omega, cut_drop]
      have rml : (rs.map V.ref).length = ds.length := by omega
      refine ⟨.int m, rfl, .ref D, rfl, .int (i : Int), rfl, (i : Int), rfl, D, _, rfl, eD2, fun p4 H4 s4 e4 => ?_⟩
      rw [c1] at e4
      refine ⟨.ref r', rfl, by show 1 ≤ sizeLine; decide, fun U hU => ?_⟩
      have sU := same_new (o := .tup [.ref r']) hU
      refine ⟨p4, U, _, _, rfl, rfl, sU _ _ e4, upd_same, ?_, fun p5 H5 s5 e5 => ?_⟩
      · rw [List.length_take]
        exact Nat.le_of_lt (small1000 (by show min i (rs.map V.ref).length + 1 ≤ 1000; omega))
      have s25 := (s4.trans sU).trans s5
      refine ⟨.ref D, rfl, .int (i : Int), rfl, (i : Int), 1, rfl, rfl, (i : Int) + 1, rfl, D, _, rfl, s25 _ _ eD2, fun p6 H6 s6 e6 => ?_⟩
      rw [c2] at e6
      refine ⟨p5, p6, _, _, rfl, rfl, s6 _ _ e5, e6, ?_, fun p7 H7 s7 e7 => ?_⟩
      · rw [List.length_append, List.length_take, List.length_drop]
        exact Nat.le_of_lt (small1000 (by show min i (rs.map V.ref).length + 1 + ((rs.map V.ref).length - (i + 1)) ≤ 1000; omega))
      rw [set_cut (by omega), ← List.map_set] at e7
      refine ⟨.int o, rfl, by show 3 ≤ sizeLine; decide, fun T hT => ?_⟩
      have sT := same_new (o := .tup [.int m, .ref p7, .int o]) hT
      have s2T := ((s25.trans s6).trans s7).trans sT
      refine q _ T (ds.set i d') o ⟨p7, rs.set i r', upd_same, sT _ _ e7, awSet (F := fun r d => (upd H7 T (.tup [.int m, .ref p7, .int o])) r = some (.tup (dV d))) (s2T _ _ er) i ((Same.tups s2T).ds ((b2.tape t3).ds hd3))⟩ ⟨m1, m3, by rw [List.length_set]; exact l8, dsOk_set hok.deeds ok', o0, by rw [List.length_set]; exact o1⟩ (List.length_set ..) (carN_set d' ds i) (t2.same s2T) ((bH3.trans b2).trans (But.same s2T))
/-! ### lists of deeds that are made -/
def Pur (t : TE) (σ : L2.St) (v : V) : Prop := ∀ H Q, Q v H → t σ H Q
theorem pure_v {i : Nat} {σ : L2.St} {v : V} (h : σ[i]? = some (some v)) : Pur (tVar i) σ v := fun H Q q => ⟨v, h, q⟩
theorem pure_c {v : V} {σ : L2.St} : Pur (tC v) σ v := fun H Q q => q
theorem pure_add {ta tb : TE} {σ : L2.St} {i j : Int} (a : Pur ta σ (.int i)) (b : Pur tb σ (.int j)) : Pur (tOp (rI0 fun i j => .int (i + j)) ta tb) σ (.int (i + j)) := fun H Q q => a H _ (b H _ ⟨i, j, rfl, rfl, q⟩)
def MkD (t : TE) (σ : L2.St) (d : Deed) : Prop := ∀ H Q, (∀ p, H p = none → Q (.ref p) (upd H p (.tup (dV d)))) → t σ H Q
theorem mkd0 {x : Str} {σ : L2.St} : MkD (tTup (tCons (tC (.str x)) tNil)) σ (x, []) := fun H Q q => ⟨by show 1 ≤ sizeLine; decide, q⟩
theorem mkd1 {x : Str} {σ : L2.St} {ta : TE} {i : Int} (a : Pur ta σ (.int i)) : MkD (tTup (tCons (tC (.str x)) (tCons ta tNil))) σ (x, [i]) := fun H Q q => a H _ ⟨by show 2 ≤ sizeLine; decide, q⟩
theorem mkd2 {x : Str} {σ : L2.St} {ta tb : TE} {i j : Int} (a : Pur ta σ (.int i)) (b : Pur tb σ (.int j)) : MkD (tTup (tCons (tC (.str x)) (tCons ta (tCons tb tNil)))) σ (x, [i, j]) := fun H Q q => a H _ (b H _ ⟨by show 3 ≤ sizeLine; decide, q⟩)
def MkDs (t : TA) (σ : L2.St) (ds : List Deed) : Prop := ∀ H Q, (∀ H' (rs : List Addr), Same H H' → DsAt H' rs ds → Q (rs.map V.ref) H') → t σ H Q
theorem mkds_nil {σ : L2.St} : MkDs tNil σ [] := fun H Q q => q H [] (Same.refl H) .nil
theorem mkds_cons {σ : L2.St} {t : TE} {ts : TA} {d : Deed} {ds : List Deed} (h : MkD t σ d) (k : MkDs ts σ ds) : MkDs (tCons t ts) σ (d :: ds) := fun H Q q => h H _ fun p hp => k _ _ fun H' rs s hd => q H' (p :: rs) ((same_new hp).trans s) (.cons (s _ _ upd_same) hd)
/-- a list of deeds at an address -/
def LdA (H : Hp) (l : Addr) (es : List Deed) : Prop := ∃ rs, H l = some (.lst (rs.map V.ref)) ∧ DsAt H rs es
theorem LdA.same {H H' : Hp} {l : Addr} {es : List Deed} (h : LdA H l es) (s : Same H H') : LdA H' l es := by
  obtain ⟨rs, h1, h2⟩ := h
  exact ⟨rs, s _ _ h1, (Same.tups s).ds h2⟩
def MkO (t : TE) (σ : L2.St) (ds : List Deed) : Prop := ∀ H Q, (∀ H' l, Same H H' → LdA H' l ds → Q (.ref l) H') → t σ H Q
theorem mko {σ : L2.St} {ts : TA} {ds : List Deed} (h : MkDs ts σ ds) (hl : ds.length ≤ 100) : MkO (tLst ts) σ ds := fun H Q q => h H _ fun H' rs s hd => by
  have := awLen hd
  refine ⟨by rw [List.length_map, sizeLine_eq]; omega, fun p hp => ?_⟩
  have sp := same_new (o := .lst (rs.map V.ref)) hp
  exact q _ p (s.trans sp) ⟨rs, upd_same, (Same.tups sp).ds hd⟩
abbrev LdsA (H : Hp) : List Addr → List (List Deed) → Prop := Paired (LdA H)
theorem ldsa_same {H H' : Hp} (s : Same H H') {ls : List Addr} {os : List (List Deed)} (h : LdsA H ls os) : LdsA H' ls os := awMap (fun _ _ z => z.same s) h
def MkOs (t : TA) (σ : L2.St) (os : List (List Deed)) : Prop := ∀ H Q, (∀ H' (ls : List Addr), Same H H' → LdsA H' ls os → Q (ls.map V.ref) H') → t σ H Q
theorem mkos_nil {σ : L2.St} : MkOs tNil σ [] := fun H Q q => q H [] (Same.refl H) .nil
theorem mkos_cons {σ : L2.St} {t : TE} {ts : TA} {d : List Deed} {ds : List (List Deed)} (h : MkO t σ d) (k : MkOs ts σ ds) : MkOs (tCons t ts) σ (d :: ds) := fun H Q q => h H _ fun H1 l s1 hd1 => k _ _ fun H' rs s hd => q H' (l :: rs) (s1.trans s) (.cons (hd1.same s) hd)
def MkG (t : TE) (σ : L2.St) (os : List (List Deed)) : Prop := ∀ H Q, (∀ H' a (ls : List Addr), Same H H' → H a = none → H' a = some (.lst (ls.map V.ref)) → LdsA H' ls os → Q (.ref a) H') → t σ H Q
theorem mkg {σ : L2.St} {ts : TA} {os : List (List Deed)} (h : MkOs ts σ os) (hl : os.length ≤ 100) : MkG (tLst ts) σ os := fun H Q q => h H _ fun H' ls s hd => by
  have := awLen hd
  refine ⟨by rw [List.length_map, sizeLine_eq]; omega, fun p hp => ?_⟩
  have sp := same_new (o := .lst (ls.map V.ref)) hp
  exact q _ p ls (s.trans sp) (s.free hp) upd_same (ldsa_same sp hd)
/-! ### a dict of such lists -/
abbrev OTab := List (Str × List (List Deed))
def OTe (H : Hp) (kv : Key × V) (e : Str × List (List Deed)) : Prop := kv.1 = Sum.inr e.1 ∧ ∃ a ls, kv.2 = .ref a ∧ H a = some (.lst (ls.map V.ref)) ∧ LdsA H ls e.2
def OD (H : Hp) (S : Addr) (tab : OTab) : Prop := ∃ kvs, H S = some (.dK kvs) ∧ Paired (OTe H) kvs tab
theorem OTe.but {H H' : Hp} {S : Addr} {kvs : List (Key × V)} {kv : Key × V} {e : Str × List (List Deed)} (h : OTe H kv e) (eS : H S = some (.dK kvs)) (s : But S H H') : OTe H' kv e := by
  obtain ⟨h1, a, ls, h2, h3, h4⟩ := h
  have ts : TupsStay H H' := fun b xs e => s b _ (ne_of e eS (fun z => nomatch z)) e
  exact ⟨h1, a, ls, h2, s _ _ (ne_of h3 eS (fun z => nomatch z)) h3, awMap (fun l es z => by
    obtain ⟨rs, z1, z2⟩ := z
    exact ⟨rs, s _ _ (ne_of z1 eS (fun z => nomatch z)) z1, ts.ds z2⟩) h4⟩
theorem OD.same {H H' : Hp} {S : Addr} {tab : OTab} (h : OD H S tab) (s : Same H H') : OD H' S tab := by
  obtain ⟨kvs, h1, h2⟩ := h
  exact ⟨kvs, s _ _ h1, awMap (fun _ _ z => z.but h1 (But.same s)) h2⟩
theorem ot_none {H : Hp} {x : Str} : ∀ {kvs : List (Key × V)} {tab : OTab}, Paired (OTe H) kvs tab → (∀ e ∈ tab, e.1 ≠ x) → valV kvs (Sum.inr x) = none
  | _, _, .nil, _ => rfl
  | _, _, .cons (a := kv) (b := e) h t, hx => by
    have ne : ¬ kv.1 = Sum.inr x := fun z => hx e List.mem_cons_self (Sum.inr.inj (h.1.symm.trans z))
    rw [valV_neg ne]
    exact ot_none t fun e he => hx e (List.mem_cons_of_mem _ he)
theorem ot_some {H : Hp} {x : Str} : ∀ {kvs : List (Key × V)} {tab : OTab}, Paired (OTe H) kvs tab → (∃ e ∈ tab, e.1 = x) → ∃ os a ls, (x, os) ∈ tab ∧ valV kvs (Sum.inr x) = some (.ref a) ∧ H a = some (.lst (ls.map V.ref)) ∧ LdsA H ls os
  | _, _, .nil, hx => by
    obtain ⟨e, he, _⟩ := hx
    cases he
  | _, _, .cons (a := kv) (b := e) h t, hx => by
    by_cases z : e.1 = x
    · obtain ⟨h1, a, ls, h2, h3, h4⟩ := h
      refine ⟨e.2, a, ls, ?_, ?_, h3, h4⟩
      · rw [← z]
        exact List.mem_cons_self
      · rw [valV_pos (by rw [h1, z]), h2]
    · have ne : ¬ kv.1 = Sum.inr x := fun y => z (Sum.inr.inj (h.1.symm.trans y))
      obtain ⟨e', he, hx'⟩ := hx
      rcases List.mem_cons.mp he with rfl | he
      · exact absurd hx' z
      · obtain ⟨os, a, ls, g1, g2, g3⟩ := ot_some t ⟨e', he, hx'⟩
        exact ⟨os, a, ls, List.mem_cons_of_mem _ g1, by rw [valV_neg ne]; exact g2, g3⟩
theorem od_put {H H' : Hp} {S a : Addr} {ls : List Addr} {x : Str} {os : List (List Deed)} {tab : OTab} (h : OD H S tab) (s : Same H H') (hx : ∀ e ∈ tab, e.1 ≠ x) (ea : H' a = some (.lst (ls.map V.ref))) (hl : LdsA H' ls os) (few : tab.length ≤ 20) :
    ∃ H4, DPut H' S (.str x) (.ref a) H4 ∧ OD H4 S (tab ++ [(x, os)]) ∧ But S H' H4 := by
  obtain ⟨kvs, eS, hk⟩ := h.same s
  have l := awLen hk
  refine ⟨upd H' S (.dK (putK kvs (Sum.inr x) (.ref a))), .inl ⟨kvs, Sum.inr x, eS, rfl, by rw [sizeLine_eq]; omega, rfl⟩, ⟨_, upd_same, ?_⟩, But.put⟩
  rw [putK_new _ (ot_none hk hx)]
  exact awSnoc (F := OTe _) (x := (Sum.inr x, .ref a)) (y := (x, os)) (OTe.but ⟨rfl, a, ls, rfl, ea, hl⟩ eS But.put) (awMap (fun _ _ z => z.but eS But.put) hk)
/-! ### deeds that tell what a deed tells -/
def rwA (t : Int) : OTab := [("none", [[("all", []), ("not", [t])], [("one", []), ("sub", [t, t])]]), ("one", [[("all", []), ("neg", [t])], [("none", []), ("not", [t]), ("neg", [t + 1])]]), ("all", [[("one", []), ("neg", [t])], [("none", []), ("not", [t])]])]
def rwB (t a : Int) : OTab := [("not", [[("all", []), ("xor", [t, a])], [("neg", [a]), ("one", []), ("sub", [t, t + 1])]]), ("neg", [[("not", [a]), ("one", []), ("add", [t, t + 1])], [("none", []), ("sub", [t, a])]]), ("twice", [[("add", [a, a])], [("neg", [a]), ("sub", [a, t])]])]
def rwC (t a b : Int) : OTab := [("add", [[("neg", [b]), ("sub", [a, t])], [("xor", [a, b]), ("and", [a, b]), ("twice", [t + 1]), ("add", [t, t + 2])]]), ("sub", [[("neg", [b]), ("add", [a, t])], [("not", [a]), ("add", [t, b]), ("not", [t + 1])]]), ("and", [[("or", [a, b]), ("add", [a, b]), ("sub", [t + 1, t])], [("not", [a]), ("not", [b]), ("or", [t, t + 1]), ("not", [t + 2])]]), ("or", [[("xor", [a, b]), ("and", [a, b]), ("add", [t, t + 1])], [("and", [a, b]), ("sub", [a, t]), ("add", [t + 1, b])]]), ("xor", [[("or", [a, b]), ("and", [a, b]), ("sub", [t, t + 1])], [("and", [a, b]), ("twice", [t]), ("add", [a, b]), ("sub", [t + 2, t + 1])]])]
def rwT (d : Deed) (t : Int) : OTab := rwA t ++ rwB t (d.2.getD 0 0) ++ rwC t (d.2.getD 0 0) (d.2.getD 1 0)
theorem dOk1' {m : Int} {x : Str} {l : List Int} (h : (x, (l.length : Int)) ∈ fwL) (k : ∀ i ∈ l, 0 ≤ i ∧ i < m) : DeedOk m (x, l) := ⟨h, k⟩
theorem mem1' {m a : Int} (h : 0 ≤ a ∧ a < m) : ∀ i ∈ [a], 0 ≤ i ∧ i < m := fun i hi => by rw [List.mem_singleton.mp hi]; exact h
theorem mem2' {m a b : Int} (h : 0 ≤ a ∧ a < m) (k : 0 ≤ b ∧ b < m) : ∀ i ∈ [a, b], 0 ≤ i ∧ i < m := fun i hi => by
  simp only [List.mem_cons, List.not_mem_nil, or_false] at hi
  rcases hi with rfl | rfl
  · exact h
  · exact k
theorem dsOk_nil' (m : Int) : DsOk m [] := ⟨fun k d e => by simp at e⟩
theorem dsOk_cons' {m : Int} {d : Deed} {ds : List Deed} (h : DeedOk m d) (k : DsOk (m + 1) ds) : DsOk m (d :: ds) := by
  constructor
  intro j e hj
  match j with
  | 0 =>
    obtain rfl := Option.some.inj hj
    have : m + ((0 : Nat) : Int) = m := by omega
    rw [this]
    exact h
  | j + 1 =>
    have := k.each j e hj
    have e2 : m + ((j + 1 : Nat) : Int) = m + 1 + (j : Int) := by omega
    rw [e2]
    exact this
/-- what one deed is told by -/
structure Rwd (d : Deed) (t : Int) (es : List Deed) : Prop where
  tab : ∃ os, (d.1, os) ∈ rwT d t ∧ es ∈ os
  ok : DsOk t es
  l1 : 1 ≤ es.length
  l4 : es.length ≤ 4
theorem rwA_ok {t : Int} (h : 0 ≤ t) : ∀ e ∈ rwA t, ∀ es ∈ e.2, DsOk t es ∧ 1 ≤ es.length ∧ es.length ≤ 4 := by
  intro e he es hs
  unfold rwA at he
  simp only [List.mem_cons, List.not_mem_nil, or_false] at he
  rcases he with rfl | rfl | rfl
  · simp only [List.mem_cons, List.not_mem_nil, or_false] at hs
    rcases hs with rfl | rfl
    · exact ⟨dsOk_cons' (dOk1' (by show (_, ((0 : Nat) : Int)) ∈ fwL; decide +kernel) (fun _ z => nomatch z)) (dsOk_cons' (dOk1' (by show (_, ((1 : Nat) : Int)) ∈ fwL; decide +kernel) (mem1' ⟨by omega, by omega⟩)) (dsOk_nil' _)), (by show 1 ≤ 2; decide), (by show 2 ≤ 4; decide)⟩
    · exact ⟨dsOk_cons' (dOk1' (by show (_, ((0 : Nat) : Int)) ∈ fwL; decide +kernel) (fun _ z => nomatch z)) (dsOk_cons' (dOk1' (by show (_, ((2 : Nat) : Int)) ∈ fwL; decide +kernel) (mem2' ⟨by omega, by omega⟩ ⟨by omega, by omega⟩)) (dsOk_nil' _)), (by show 1 ≤ 2; decide), (by show 2 ≤ 4; decide)⟩
  · simp only [List.mem_cons, List.not_mem_nil, or_false] at hs
    rcases hs with rfl | rfl
    · exact ⟨dsOk_cons' (dOk1' (by show (_, ((0 : Nat) : Int)) ∈ fwL; decide +kernel) (fun _ z => nomatch z)) (dsOk_cons' (dOk1' (by show (_, ((1 : Nat) : Int)) ∈ fwL; decide +kernel) (mem1' ⟨by omega, by omega⟩)) (dsOk_nil' _)), (by show 1 ≤ 2; decide), (by show 2 ≤ 4; decide)⟩
    · exact ⟨dsOk_cons' (dOk1' (by show (_, ((0 : Nat) : Int)) ∈ fwL; decide +kernel) (fun _ z => nomatch z)) (dsOk_cons' (dOk1' (by show (_, ((1 : Nat) : Int)) ∈ fwL; decide +kernel) (mem1' ⟨by omega, by omega⟩)) (dsOk_cons' (dOk1' (by show (_, ((1 : Nat) : Int)) ∈ fwL; decide +kernel) (mem1' ⟨by omega, by omega⟩)) (dsOk_nil' _))), (by show 1 ≤ 3; decide), (by show 3 ≤ 4; decide)⟩
  · simp only [List.mem_cons, List.not_mem_nil, or_false] at hs
    rcases hs with rfl | rfl
    · exact ⟨dsOk_cons' (dOk1' (by show (_, ((0 : Nat) : Int)) ∈ fwL; decide +kernel) (fun _ z => nomatch z)) (dsOk_cons' (dOk1' (by show (_, ((1 : Nat) : Int)) ∈ fwL; decide +kernel) (mem1' ⟨by omega, by omega⟩)) (dsOk_nil' _)), (by show 1 ≤ 2; decide), (by show 2 ≤ 4; decide)⟩
    · exact ⟨dsOk_cons' (dOk1' (by show (_, ((0 : Nat) : Int)) ∈ fwL; decide +kernel) (fun _ z => nomatch z)) (dsOk_cons' (dOk1' (by show (_, ((1 : Nat) : Int)) ∈ fwL; decide +kernel) (mem1' ⟨by omega, by omega⟩)) (dsOk_nil' _)), (by show 1 ≤ 2; decide), (by show 2 ≤ 4; decide)⟩
theorem rwB_ok {t a : Int} (h : 0 ≤ t) (ha : 0 ≤ a ∧ a < t) : ∀ e ∈ rwB t a, ∀ es ∈ e.2, DsOk t es ∧ 1 ≤ es.length ∧ es.length ≤ 4 := by
  intro e he es hs
  unfold rwB at he
  simp only [List.mem_cons, List.not_mem_nil, or_false] at he
  rcases he with rfl | rfl | rfl
  · simp only [List.mem_cons, List.not_mem_nil, or_false] at hs
    rcases hs with rfl | rfl
    · exact ⟨dsOk_cons' (dOk1' (by show (_, ((0 : Nat) : Int)) ∈ fwL; decide +kernel) (fun _ z => nomatch z)) (dsOk_cons' (dOk1' (by show (_, ((2 : Nat) : Int)) ∈ fwL; decide +kernel) (mem2' ⟨by omega, by omega⟩ ⟨by omega, by omega⟩)) (dsOk_nil' _)), (by show 1 ≤ 2; decide), (by show 2 ≤ 4; decide)⟩
    · exact ⟨dsOk_cons' (dOk1' (by show (_, ((1 : Nat) : Int)) ∈ fwL; decide +kernel) (mem1' ⟨by omega, by omega⟩)) (dsOk_cons' (dOk1' (by show (_, ((0 : Nat) : Int)) ∈ fwL; decide +kernel) (fun _ z => nomatch z)) (dsOk_cons' (dOk1' (by show (_, ((2 : Nat) : Int)) ∈ fwL; decide +kernel) (mem2' ⟨by omega, by omega⟩ ⟨by omega, by omega⟩)) (dsOk_nil' _))), (by show 1 ≤ 3; decide), (by show 3 ≤ 4; decide)⟩
  · simp only [List.mem_cons, List.not_mem_nil, or_false] at hs
    rcases hs with rfl | rfl
    · exact ⟨dsOk_cons' (dOk1' (by show (_, ((1 : Nat) : Int)) ∈ fwL; decide +kernel) (mem1' ⟨by omega, by omega⟩)) (dsOk_cons' (dOk1' (by show (_, ((0 : Nat) : Int)) ∈ fwL; decide +kernel) (fun _ z => nomatch z)) (dsOk_cons' (dOk1' (by show (_, ((2 : Nat) : Int)) ∈ fwL; decide +kernel) (mem2' ⟨by omega, by omega⟩ ⟨by omega, by omega⟩)) (dsOk_nil' _))), (by show 1 ≤ 3; decide), (by show 3 ≤ 4; decide)⟩
    · exact ⟨dsOk_cons' (dOk1' (by show (_, ((0 : Nat) : Int)) ∈ fwL; decide +kernel) (fun _ z => nomatch z)) (dsOk_cons' (dOk1' (by show (_, ((2 : Nat) : Int)) ∈ fwL; decide +kernel) (mem2' ⟨by omega, by omega⟩ ⟨by omega, by omega⟩)) (dsOk_nil' _)), (by show 1 ≤ 2; decide), (by show 2 ≤ 4; decide)⟩
  · simp only [List.mem_cons, List.not_mem_nil, or_false] at hs
    rcases hs with rfl | rfl
    · exact ⟨dsOk_cons' (dOk1' (by show (_, ((2 : Nat) : Int)) ∈ fwL; decide +kernel) (mem2' ⟨by omega, by omega⟩ ⟨by omega, by omega⟩)) (dsOk_nil' _), (by show 1 ≤ 1; decide), (by show 1 ≤ 4; decide)⟩
    · exact ⟨dsOk_cons' (dOk1' (by show (_, ((1 : Nat) : Int)) ∈ fwL; decide +kernel) (mem1' ⟨by omega, by omega⟩)) (dsOk_cons' (dOk1' (by show (_, ((2 : Nat) : Int)) ∈ fwL; decide +kernel) (mem2' ⟨by omega, by omega⟩ ⟨by omega, by omega⟩)) (dsOk_nil' _)), (by show 1 ≤ 2; decide), (by show 2 ≤ 4; decide)⟩
theorem rwC_ok {t a b : Int} (h : 0 ≤ t) (ha : 0 ≤ a ∧ a < t) (hb : 0 ≤ b ∧ b < t) : ∀ e ∈ rwC t a b, ∀ es ∈ e.2, DsOk t es ∧ 1 ≤ es.length ∧ es.length ≤ 4 := by
  intro e he es hs
  unfold rwC at he
  simp only [List.mem_cons, List.not_mem_nil, or_false] at he
  rcases he with rfl | rfl | rfl | rfl | rfl
  · simp only [List.mem_cons, List.not_mem_nil, or_false] at hs
    rcases hs with rfl | rfl
    · exact ⟨dsOk_cons' (dOk1' (by show (_, ((1 : Nat) : Int)) ∈ fwL; decide +kernel) (mem1' ⟨by omega, by omega⟩)) (dsOk_cons' (dOk1' (by show (_, ((2 : Nat) : Int)) ∈ fwL; decide +kernel) (mem2' ⟨by omega, by omega⟩ ⟨by omega, by omega⟩)) (dsOk_nil' _)), (by show 1 ≤ 2; decide), (by show 2 ≤ 4; decide)⟩
    · exact ⟨dsOk_cons' (dOk1' (by show (_, ((2 : Nat) : Int)) ∈ fwL; decide +kernel) (mem2' ⟨by omega, by omega⟩ ⟨by omega, by omega⟩)) (dsOk_cons' (dOk1' (by show (_, ((2 : Nat) : Int)) ∈ fwL; decide +kernel) (mem2' ⟨by omega, by omega⟩ ⟨by omega, by omega⟩)) (dsOk_cons' (dOk1' (by show (_, ((1 : Nat) : Int)) ∈ fwL; decide +kernel) (mem1' ⟨by omega, by omega⟩)) (dsOk_cons' (dOk1' (by show (_, ((2 : Nat) : Int)) ∈ fwL; decide +kernel) (mem2' ⟨by omega, by omega⟩ ⟨by omega, by omega⟩)) (dsOk_nil' _)))), (by show 1 ≤ 4; decide), (by show 4 ≤ 4; decide)⟩
  · simp only [List.mem_cons, List.not_mem_nil, or_false] at hs
    rcases hs with rfl | rfl
    · exact ⟨dsOk_cons' (dOk1' (by show (_, ((1 : Nat) : Int)) ∈ fwL; decide +kernel) (mem1' ⟨by omega, by omega⟩)) (dsOk_cons' (dOk1' (by show (_, ((2 : Nat) : Int)) ∈ fwL; decide +kernel) (mem2' ⟨by omega, by omega⟩ ⟨by omega, by omega⟩)) (dsOk_nil' _)), (by show 1 ≤ 2; decide), (by show 2 ≤ 4; decide)⟩
    · exact ⟨dsOk_cons' (dOk1' (by show (_, ((1 : Nat) : Int)) ∈ fwL; decide +kernel) (mem1' ⟨by omega, by omega⟩)) (dsOk_cons' (dOk1' (by show (_, ((2 : Nat) : Int)) ∈ fwL; decide +kernel) (mem2' ⟨by omega, by omega⟩ ⟨by omega, by omega⟩)) (dsOk_cons' (dOk1' (by show (_, ((1 : Nat) : Int)) ∈ fwL; decide +kernel) (mem1' ⟨by omega, by omega⟩)) (dsOk_nil' _))), (by show 1 ≤ 3; decide), (by show 3 ≤ 4; decide)⟩
  · simp only [List.mem_cons, List.not_mem_nil, or_false] at hs
    rcases hs with rfl | rfl
    · exact ⟨dsOk_cons' (dOk1' (by show (_, ((2 : Nat) : Int)) ∈ fwL; decide +kernel) (mem2' ⟨by omega, by omega⟩ ⟨by omega, by omega⟩)) (dsOk_cons' (dOk1' (by show (_, ((2 : Nat) : Int)) ∈ fwL; decide +kernel) (mem2' ⟨by omega, by omega⟩ ⟨by omega, by omega⟩)) (dsOk_cons' (dOk1' (by show (_, ((2 : Nat) : Int)) ∈ fwL; decide +kernel) (mem2' ⟨by omega, by omega⟩ ⟨by omega, by omega⟩)) (dsOk_nil' _))), (by show 1 ≤ 3; decide), (by show 3 ≤ 4; decide)⟩
    · exact ⟨dsOk_cons' (dOk1' (by show (_, ((1 : Nat) : Int)) ∈ fwL; decide +kernel) (mem1' ⟨by omega, by omega⟩)) (dsOk_cons' (dOk1' (by show (_, ((1 : Nat) : Int)) ∈ fwL; decide +kernel) (mem1' ⟨by omega, by omega⟩)) (dsOk_cons' (dOk1' (by show (_, ((2 : Nat) : Int)) ∈ fwL; decide +kernel) (mem2' ⟨by omega, by omega⟩ ⟨by omega, by omega⟩)) (dsOk_cons' (dOk1' (by show (_, ((1 : Nat) : Int)) ∈ fwL; decide +kernel) (mem1' ⟨by omega, by omega⟩)) (dsOk_nil' _)))), (by show 1 ≤ 4; decide), (by show 4 ≤ 4; decide)⟩
  · simp only [List.mem_cons, List.not_mem_nil, or_false] at hs
    rcases hs with rfl | rfl
    · exact ⟨dsOk_cons' (dOk1' (by show (_, ((2 : Nat) : Int)) ∈ fwL; decide +kernel) (mem2' ⟨by omega, by omega⟩ ⟨by omega, by omega⟩)) (dsOk_cons' (dOk1' (by show (_, ((2 : Nat) : Int)) ∈ fwL; decide +kernel) (mem2' ⟨by omega, by omega⟩ ⟨by omega, by omega⟩)) (dsOk_cons' (dOk1' (by show (_, ((2 : Nat) : Int)) ∈ fwL; decide +kernel) (mem2' ⟨by omega, by omega⟩ ⟨by omega, by omega⟩)) (dsOk_nil' _))), (by show 1 ≤ 3; decide), (by show 3 ≤ 4; decide)⟩
    · exact ⟨dsOk_cons' (dOk1' (by show (_, ((2 : Nat) : Int)) ∈ fwL; decide +kernel) (mem2' ⟨by omega, by omega⟩ ⟨by omega, by omega⟩)) (dsOk_cons' (dOk1' (by show (_, ((2 : Nat) : Int)) ∈ fwL; decide +kernel) (mem2' ⟨by omega, by omega⟩ ⟨by omega, by omega⟩)) (dsOk_cons' (dOk1' (by show (_, ((2 : Nat) : Int)) ∈ fwL; decide +kernel) (mem2' ⟨by omega, by omega⟩ ⟨by omega, by omega⟩)) (dsOk_nil' _))), (by show 1 ≤ 3; decide), (by show 3 ≤ 4; decide)⟩
  · simp only [List.mem_cons, List.not_mem_nil, or_false] at hs
    rcases hs with rfl | rfl
    · exact ⟨dsOk_cons' (dOk1' (by show (_, ((2 : Nat) : Int)) ∈ fwL; decide +kernel) (mem2' ⟨by omega, by omega⟩ ⟨by omega, by omega⟩)) (dsOk_cons' (dOk1' (by show (_, ((2 : Nat) : Int)) ∈ fwL; decide +kernel) (mem2' ⟨by omega, by omega⟩ ⟨by omega, by omega⟩)) (dsOk_cons' (dOk1' (by show (_, ((2 : Nat) : Int)) ∈ fwL; decide +kernel) (mem2' ⟨by omega, by omega⟩ ⟨by omega, by omega⟩)) (dsOk_nil' _))), (by show 1 ≤ 3; decide), (by show 3 ≤ 4; decide)⟩
    · exact ⟨dsOk_cons' (dOk1' (by show (_, ((2 : Nat) : Int)) ∈ fwL; decide +kernel) (mem2' ⟨by omega, by omega⟩ ⟨by omega, by omega⟩)) (dsOk_cons' (dOk1' (by show (_, ((1 : Nat) : Int)) ∈ fwL; decide +kernel) (mem1' ⟨by omega, by omega⟩)) (dsOk_cons' (dOk1' (by show (_, ((2 : Nat) : Int)) ∈ fwL; decide +kernel) (mem2' ⟨by omega, by omega⟩ ⟨by omega, by omega⟩)) (dsOk_cons' (dOk1' (by show (_, ((2 : Nat) : Int)) ∈ fwL; decide +kernel) (mem2' ⟨by omega, by omega⟩ ⟨by omega, by omega⟩)) (dsOk_nil' _)))), (by show 1 ≤ 4; decide), (by show 4 ≤ 4; decide)⟩
theorem rwA_two {t : Int} : ∀ e ∈ rwA t, e.2.length = 2 := by
  unfold rwA
  simp only [List.mem_cons, List.not_mem_nil, or_false]
  rintro e (rfl | rfl | rfl) <;> rfl
theorem rwB_two {t a : Int} : ∀ e ∈ rwB t a, e.2.length = 2 := by
  unfold rwB
  simp only [List.mem_cons, List.not_mem_nil, or_false]
  rintro e (rfl | rfl | rfl) <;> rfl
theorem rwC_two {t a b : Int} : ∀ e ∈ rwC t a b, e.2.length = 2 := by
  unfold rwC
  simp only [List.mem_cons, List.not_mem_nil, or_false]
  rintro e (rfl | rfl | rfl | rfl | rfl) <;> rfl
theorem deed_a {t : Int} {d : Deed} (ok : DeedOk t d) (n1 : ¬ d.1 = "none") (n2 : ¬ d.1 = "one") (n3 : ¬ d.1 = "all") : ∃ i, d.2[0]? = some i ∧ 0 ≤ i ∧ i < t := by
  obtain ⟨x, l⟩ := d
  have hw := ok.word
  have ha := ok.ahead
  match l, hw, ha with
  | [], hw, _ =>
    exfalso
    unfold fwL at hw
    simp only [List.mem_cons, List.not_mem_nil, or_false, Prod.mk.injEq, List.length_nil] at hw
    rcases hw with ⟨h, _⟩ | ⟨h, _⟩ | ⟨h, _⟩ | ⟨_, h⟩ | ⟨_, h⟩ | ⟨_, h⟩ | ⟨_, h⟩ | ⟨_, h⟩ | ⟨_, h⟩ | ⟨_, h⟩ | ⟨_, h⟩
    · exact n1 h
    · exact n2 h
    · exact n3 h
    all_goals exact absurd h (by decide)
  | i :: l, _, ha => exact ⟨i, rfl, ha i List.mem_cons_self⟩
theorem deed_c {t i j : Int} {m : Int} {d : Deed} (ok : DeedOk m d) (n1 : ¬ d.1 = "none") (n2 : ¬ d.1 = "one") (n3 : ¬ d.1 = "all") (n4 : ¬ d.1 = "not") (n5 : ¬ d.1 = "neg") (n6 : ¬ d.1 = "twice") : ∃ e ∈ rwC t i j, e.1 = d.1 := by
  have hw := ok.word
  unfold fwL at hw
  simp only [List.mem_cons, List.not_mem_nil, or_false, Prod.mk.injEq] at hw
  unfold rwC
  rcases hw with ⟨h, _⟩ | ⟨h, _⟩ | ⟨h, _⟩ | ⟨h, _⟩ | ⟨h, _⟩ | ⟨h, _⟩ | ⟨h, _⟩ | ⟨h, _⟩ | ⟨h, _⟩ | ⟨h, _⟩ | ⟨h, _⟩
  · exact absurd h n1
  · exact absurd h n2
  · exact absurd h n3
  · exact absurd h n4
  · exact absurd h n5
  · exact absurd h n6
  all_goals rw [h]; simp
theorem deed_b {t : Int} {d : Deed} (ok : DeedOk t d) (n1 : ¬ d.1 = "none") (n2 : ¬ d.1 = "one") (n3 : ¬ d.1 = "all") (n4 : ¬ d.1 = "not") (n5 : ¬ d.1 = "neg") (n6 : ¬ d.1 = "twice") : ∃ j, d.2[1]? = some j ∧ 0 ≤ j ∧ j < t := by
  have hw := ok.word
  have ha := ok.ahead
  have l2 : d.2.length = 2 := by
    unfold fwL at hw
    simp only [List.mem_cons, List.not_mem_nil, or_false, Prod.mk.injEq] at hw
    rcases hw with ⟨h, _⟩ | ⟨h, _⟩ | ⟨h, _⟩ | ⟨h, _⟩ | ⟨h, _⟩ | ⟨h, _⟩ | ⟨_, h⟩ | ⟨_, h⟩ | ⟨_, h⟩ | ⟨_, h⟩ | ⟨_, h⟩
    · exact absurd h n1
    · exact absurd h n2
    · exact absurd h n3
    · exact absurd h n4
    · exact absurd h n5
    · exact absurd h n6
    all_goals omega
  have h1 : 1 < d.2.length := by omega
  exact ⟨d.2[1], List.getElem?_eq_getElem h1, ha _ (List.getElem_mem h1)⟩
def spRw : Sp := fun vs H Q _ => ∃ (a r : Addr) (d : Deed) (t : Int), vs = [.ref a, .ref r, .int t] ∧ TP H a ∧ H r = some (.tup (dV d)) ∧ DeedOk t d ∧ 0 ≤ t ∧
  ∀ H' l rs es, TP H' a → But a H H' → H' l = some (.lst (rs.map V.ref)) → DsAt H' rs es → Rwd d t es → Q (.ref l) H'
set_option maxHeartbeats 2000000 in
theorem ok_rw {f fD : Addr} {fd fdD : FuncData} {k : Nat} (F : Fun K "_law_rewritten" "_law_rewritten" s_law_rewritten f fd) (GD : FnOk P w K mg base CX0 (k + 1) fD fdD ["tape", "many"] spDigit) (kD : PySem.W.keepIn K (.ref fD) = true) (bD : Binds K fdD ["tape", "many"] []) (gD : mg "_law_digit" = some (.ref fD)) :
    FnOk P w K mg base CX0 (k + 2) f fd ["tape", "deed", "at"] spRw := by
  refine F.ok sc_law_rewritten (fun vs H Q E h => ?_) (fun cdv A outer s H vs Q E hr h => ?_)
  · obtain ⟨a, r, d, t, rfl, _⟩ := h
    rfl
  · obtain ⟨a, r, d, t, rfl, ht, er, ok, t0, q⟩ := h
    have hu := hu_of hr
    refine ⟨_, pss_cons (ps_par (i := 3) (j := 4) rfl sc_law_rewritten.nd rfl rfl (by decide) rfl rfl (pa_cons (pe_ix ix_tup (pv 1) pe_int (fun _ _ => rfl)) (pa_cons (pe_call GD hr (by rfl) gD kD bD .nil pass0 (pa_cons (pv 0) (pa_cons pe_int pa_nil))) pa_nil)) (by rfl))
      (pss_mid (ps_set (i := 5) sc_law_rewritten.nd rfl (.inl rfl) (pe_disp (pps_cons pe_str (pe_lst (pa_cons (pe_lst (pa_cons (pe_tup (pa_cons pe_str pa_nil)) (pa_cons (pe_tup (pa_cons pe_str (pa_cons (pv 2) pa_nil))) pa_nil))) (pa_cons (pe_lst (pa_cons (pe_tup (pa_cons pe_str pa_nil)) (pa_cons (pe_tup (pa_cons pe_str (pa_cons (pv 2) (pa_cons (pv 2) pa_nil)))) pa_nil))) pa_nil))) pps_nil) (by rfl) (by rfl) (fun z => by cases z) (by decide)))
      (pss_mid (ps_dput hu (pv 5) pe_str (pe_lst (pa_cons (pe_lst (pa_cons (pe_tup (pa_cons pe_str pa_nil)) (pa_cons (pe_tup (pa_cons pe_str (pa_cons (pv 2) pa_nil))) pa_nil))) (pa_cons (pe_lst (pa_cons (pe_tup (pa_cons pe_str pa_nil)) (pa_cons (pe_tup (pa_cons pe_str (pa_cons (pv 2) pa_nil))) (pa_cons (pe_tup (pa_cons pe_str (pa_cons (pe_op op_add (pv 2) pe_int) pa_nil))) pa_nil)))) pa_nil))) rfl)
      (pss_mid (ps_dput hu (pv 5) pe_str (pe_lst (pa_cons (pe_lst (pa_cons (pe_tup (pa_cons pe_str pa_nil)) (pa_cons (pe_tup (pa_cons pe_str (pa_cons (pv 2) pa_nil))) pa_nil))) (pa_cons (pe_lst (pa_cons (pe_tup (pa_cons pe_str pa_nil)) (pa_cons (pe_tup (pa_cons pe_str (pa_cons (pv 2) pa_nil))) pa_nil))) pa_nil))) rfl)
      (pss_mid (ps_if (pt_cmp (pc_din hu (pv 3) (pv 5))) (pss_one (ps_ret (pe_ix ix_list (pe_dget hu (pv 5) (pv 3) (fun _ _ => rfl)) (pv 4) (fun _ _ => rfl)))) pss_nil)
      (pss_cons (ps_set (i := 6) sc_law_rewritten.nd rfl (.inl rfl) (pe_ix ix_tup (pv 1) pe_int (fun _ _ => rfl)))
      (pss_mid (ps_dput hu (pv 5) pe_str (pe_lst (pa_cons (pe_lst (pa_cons (pe_tup (pa_cons pe_str pa_nil)) (pa_cons (pe_tup (pa_cons pe_str (pa_cons (pv 2) (pa_cons (pv 6) pa_nil)))) pa_nil))) (pa_cons (pe_lst (pa_cons (pe_tup (pa_cons pe_str (pa_cons (pv 6) pa_nil))) (pa_cons (pe_tup (pa_cons pe_str pa_nil)) (pa_cons (pe_tup (pa_cons pe_str (pa_cons (pv 2) (pa_cons (pe_op op_add (pv 2) pe_int) pa_nil)))) pa_nil)))) pa_nil))) rfl)
      (pss_mid (ps_dput hu (pv 5) pe_str (pe_lst (pa_cons (pe_lst (pa_cons (pe_tup (pa_cons pe_str (pa_cons (pv 6) pa_nil))) (pa_cons (pe_tup (pa_cons pe_str pa_nil)) (pa_cons (pe_tup (pa_cons pe_str (pa_cons (pv 2) (pa_cons (pe_op op_add (pv 2) pe_int) pa_nil)))) pa_nil)))) (pa_cons (pe_lst (pa_cons (pe_tup (pa_cons pe_str pa_nil)) (pa_cons (pe_tup (pa_cons pe_str (pa_cons (pv 2) (pa_cons (pv 6) pa_nil)))) pa_nil))) pa_nil))) rfl)
      (pss_mid (ps_dput hu (pv 5) pe_str (pe_lst (pa_cons (pe_lst (pa_cons (pe_tup (pa_cons pe_str (pa_cons (pv 6) (pa_cons (pv 6) pa_nil)))) pa_nil)) (pa_cons (pe_lst (pa_cons (pe_tup (pa_cons pe_str (pa_cons (pv 6) pa_nil))) (pa_cons (pe_tup (pa_cons pe_str (pa_cons (pv 6) (pa_cons (pv 2) pa_nil)))) pa_nil))) pa_nil))) rfl)
      (pss_mid (ps_if (pt_cmp (pc_din hu (pv 3) (pv 5))) (pss_one (ps_ret (pe_ix ix_list (pe_dget hu (pv 5) (pv 3) (fun _ _ => rfl)) (pv 4) (fun _ _ => rfl)))) pss_nil)
      (pss_cons (ps_set (i := 7) sc_law_rewritten.nd rfl (.inl rfl) (pe_ix ix_tup (pv 1) pe_int (fun _ _ => rfl)))
      (pss_mid (ps_dput hu (pv 5) pe_str (pe_lst (pa_cons (pe_lst (pa_cons (pe_tup (pa_cons pe_str (pa_cons (pv 7) pa_nil))) (pa_cons (pe_tup (pa_cons pe_str (pa_cons (pv 6) (pa_cons (pv 2) pa_nil)))) pa_nil))) (pa_cons (pe_lst (pa_cons (pe_tup (pa_cons pe_str (pa_cons (pv 6) (pa_cons (pv 7) pa_nil)))) (pa_cons (pe_tup (pa_cons pe_str (pa_cons (pv 6) (pa_cons (pv 7) pa_nil)))) (pa_cons (pe_tup (pa_cons pe_str (pa_cons (pe_op op_add (pv 2) pe_int) pa_nil))) (pa_cons (pe_tup (pa_cons pe_str (pa_cons (pv 2) (pa_cons (pe_op op_add (pv 2) pe_int) pa_nil)))) pa_nil))))) pa_nil))) rfl)
      (pss_mid (ps_dput hu (pv 5) pe_str (pe_lst (pa_cons (pe_lst (pa_cons (pe_tup (pa_cons pe_str (pa_cons (pv 7) pa_nil))) (pa_cons (pe_tup (pa_cons pe_str (pa_cons (pv 6) (pa_cons (pv 2) pa_nil)))) pa_nil))) (pa_cons (pe_lst (pa_cons (pe_tup (pa_cons pe_str (pa_cons (pv 6) pa_nil))) (pa_cons (pe_tup (pa_cons pe_str (pa_cons (pv 2) (pa_cons (pv 7) pa_nil)))) (pa_cons (pe_tup (pa_cons pe_str (pa_cons (pe_op op_add (pv 2) pe_int) pa_nil))) pa_nil)))) pa_nil))) rfl)
      (pss_mid (ps_dput hu (pv 5) pe_str (pe_lst (pa_cons (pe_lst (pa_cons (pe_tup (pa_cons pe_str (pa_cons (pv 6) (pa_cons (pv 7) pa_nil)))) (pa_cons (pe_tup (pa_cons pe_str (pa_cons (pv 6) (pa_cons (pv 7) pa_nil)))) (pa_cons (pe_tup (pa_cons pe_str (pa_cons (pe_op op_add (pv 2) pe_int) (pa_cons (pv 2) pa_nil)))) pa_nil)))) (pa_cons (pe_lst (pa_cons (pe_tup (pa_cons pe_str (pa_cons (pv 6) pa_nil))) (pa_cons (pe_tup (pa_cons pe_str (pa_cons (pv 7) pa_nil))) (pa_cons (pe_tup (pa_cons pe_str (pa_cons (pv 2) (pa_cons (pe_op op_add (pv 2) pe_int) pa_nil)))) (pa_cons (pe_tup (pa_cons pe_str (pa_cons (pe_op op_add (pv 2) pe_int) pa_nil))) pa_nil))))) pa_nil))) rfl)
      (pss_mid (ps_dput hu (pv 5) pe_str (pe_lst (pa_cons (pe_lst (pa_cons (pe_tup (pa_cons pe_str (pa_cons (pv 6) (pa_cons (pv 7) pa_nil)))) (pa_cons (pe_tup (pa_cons pe_str (pa_cons (pv 6) (pa_cons (pv 7) pa_nil)))) (pa_cons (pe_tup (pa_cons pe_str (pa_cons (pv 2) (pa_cons (pe_op op_add (pv 2) pe_int) pa_nil)))) pa_nil)))) (pa_cons (pe_lst (pa_cons (pe_tup (pa_cons pe_str (pa_cons (pv 6) (pa_cons (pv 7) pa_nil)))) (pa_cons (pe_tup (pa_cons pe_str (pa_cons (pv 6) (pa_cons (pv 2) pa_nil)))) (pa_cons (pe_tup (pa_cons pe_str (pa_cons (pe_op op_add (pv 2) pe_int) (pa_cons (pv 7) pa_nil)))) pa_nil)))) pa_nil))) rfl)
      (pss_mid (ps_dput hu (pv 5) pe_str (pe_lst (pa_cons (pe_lst (pa_cons (pe_tup (pa_cons pe_str (pa_cons (pv 6) (pa_cons (pv 7) pa_nil)))) (pa_cons (pe_tup (pa_cons pe_str (pa_cons (pv 6) (pa_cons (pv 7) pa_nil)))) (pa_cons (pe_tup (pa_cons pe_str (pa_cons (pv 2) (pa_cons (pe_op op_add (pv 2) pe_int) pa_nil)))) pa_nil)))) (pa_cons (pe_lst (pa_cons (pe_tup (pa_cons pe_str (pa_cons (pv 6) (pa_cons (pv 7) pa_nil)))) (pa_cons (pe_tup (pa_cons pe_str (pa_cons (pv 2) pa_nil))) (pa_cons (pe_tup (pa_cons pe_str (pa_cons (pv 6) (pa_cons (pv 7) pa_nil)))) (pa_cons (pe_tup (pa_cons pe_str (pa_cons (pe_op op_add (pv 2) pe_int) (pa_cons (pe_op op_add (pv 2) pe_int) pa_nil)))) pa_nil))))) pa_nil))) rfl)
      (pss_one (ps_ret (pe_ix ix_list (pe_dget hu (pv 5) (pv 3) (fun _ _ => rfl)) (pv 4) (fun _ _ => rfl))))))))))))))))))), ?_⟩
    refine ⟨.ref r, rfl, r, _, 0, .str d.1, rfl, rfl, SqT.of er, dv0 d, .ref a, rfl, a, 2, rfl, by decide, by decide, ht, fun H1 z z0 z1 t1 b1 => ⟨_, _, rfl, ?_⟩⟩
    have ts1 : TupsStay H H1 := b1.tape ht
    have er1 := ts1 _ _ er
    -- what is told at last
    have fin : ∀ (H2 : Hp) (S : Addr) (tab : OTab), Same H1 H2 → OD H2 S tab → (∀ e ∈ tab, e ∈ rwT d t ∧ e.2.length = 2 ∧ ∀ es ∈ e.2, DsOk t es ∧ 1 ≤ es.length ∧ es.length ≤ 4) → (∃ e ∈ tab, e.1 = d.1) →
        ∃ (A : Addr) (ls : List Addr) (x : Addr), DGet H2 S (.str d.1) (some (.ref A)) ∧ H2 A = some (.lst (ls.map V.ref)) ∧ atI (ls.map V.ref) z = some (.ref x) ∧ Q (.ref x) H2 := by
      intro H2 S tab s2 hod htab hin
      obtain ⟨kvs, eS, hk⟩ := hod
      obtain ⟨os, A, ls, g1, g2, g3, g4⟩ := ot_some hk hin
      obtain ⟨i1, l2, i3⟩ := htab _ g1
      have ll := awLen g4
      have l2' : os.length = 2 := l2
      obtain ⟨zn, rfl⟩ := Int.eq_ofNat_of_zero_le z0
      have zl : zn < ls.length := by omega
      obtain ⟨es, h1, rs, h2, h3⟩ := awGet g4 (List.getElem?_eq_getElem zl)
      refine ⟨A, ls, ls[zn], .inl ⟨kvs, Sum.inr d.1, .inl eS, rfl, g2.symm⟩, g3, atI_nat (by rw [List.getElem?_map, List.getElem?_eq_getElem zl]; rfl), ?_⟩
      obtain ⟨j1, j2, j3⟩ := i3 es (List.mem_of_getElem? h1)
      exact q H2 ls[zn] rs es (t1.same s2) (b1.trans (But.same s2)) h2 h3 ⟨⟨os, i1, List.mem_of_getElem? h1⟩, j1, j2, j3⟩
    have non : ∀ (H2 : Hp) (S : Addr) (tab : OTab), OD H2 S tab → (¬ ∃ e ∈ tab, e.1 = d.1) → DGet H2 S (.str d.1) none := by
      intro H2 S tab hod hno
      obtain ⟨kvs, eS, hk⟩ := hod
      exact .inl ⟨kvs, Sum.inr d.1, .inl eS, rfl, (ot_none hk fun e he z => hno ⟨e, he, z⟩).symm⟩
    have put : ∀ (H2 : Hp) (S : Addr) (tab : OTab) (x : Str) (os : List (List Deed)) (H3 : Hp) (A : Addr) (ls : List Addr), H1 S = none → Same H1 H2 → OD H2 S tab → (∀ e ∈ tab, e.1 ≠ x) → tab.length ≤ 20 → Same H2 H3 → H3 A = some (.lst (ls.map V.ref)) → LdsA H3 ls os → ∃ H4, DPut H3 S (.str x) (.ref A) H4 ∧ OD H4 S (tab ++ [(x, os)]) ∧ Same H1 H4 := by
      intro H2 S tab x os H3 A ls nS s2 hod hx few s3 eA hl
      obtain ⟨H4, h1, h2, h3⟩ := od_put hod s3 hx eA hl few
      exact ⟨H4, h1, h2, fun b u e => h3 b u (ne_of_none e nS) (s3 _ _ (s2 _ _ e))⟩
    refine ⟨fun σ2 H2 => ∃ S, σ2 = [some (.ref a), some (.ref r), some (.int t), some (.str d.1), some (.int z), some (.ref S), none, none] ∧ OD H2 S (([("none", [[("all", []), ("not", [t])], [("one", []), ("sub", [t, t])]])] : OTab)) ∧ Same H1 H2 ∧ H1 S = none, ?_, ?_⟩
    · intro S hS
      have sS := same_new (o := .dK []) hS
      unfold tPairs
      refine pure_c _ _ ?_
      dsimp only
      refine (mkg (mkos_cons (mko (mkds_cons mkd0 (mkds_cons (mkd1 (pure_v rfl)) mkds_nil)) (by show 2 ≤ 100; decide)) (mkos_cons (mko (mkds_cons mkd0 (mkds_cons (mkd2 (pure_v rfl) (pure_v rfl)) mkds_nil)) (by show 2 ≤ 100; decide)) mkos_nil)) (by show 2 ≤ 100; decide)) _ _ fun H2 A ls s2 nA eA hl => ?_
      have eS2 := s2 S (.dK []) upd_same
      refine ⟨eS2, [(Sum.inr "none", .ref A)], rfl, (by show 1 ≤ 15; decide), S, rfl, ⟨_, upd_same, .cons ?_ .nil⟩, ?_, hS⟩
      · exact OTe.but (e := ("none", _)) ⟨rfl, A, ls, rfl, eA, hl⟩ eS2 But.put
      · intro b u e
        rw [upd_ne (ne_of_none e hS)]
        exact s2 _ _ (sS _ _ e)
    rintro σ2 H2 ⟨S, rfl, hod, s2, nS⟩
    refine ⟨fun σ2 H2 => ∃ S, σ2 = [some (.ref a), some (.ref r), some (.int t), some (.str d.1), some (.int z), some (.ref S), none, none] ∧ OD H2 S (([("none", [[("all", []), ("not", [t])], [("one", []), ("sub", [t, t])]]), ("one", [[("all", []), ("neg", [t])], [("none", []), ("not", [t]), ("neg", [t + 1])]])] : OTab)) ∧ Same H1 H2 ∧ H1 S = none, ?_, ?_⟩
    · refine (mkg (mkos_cons (mko (mkds_cons mkd0 (mkds_cons (mkd1 (pure_v rfl)) mkds_nil)) (by show 2 ≤ 100; decide)) (mkos_cons (mko (mkds_cons mkd0 (mkds_cons (mkd1 (pure_v rfl)) (mkds_cons (mkd1 (pure_add (pure_v rfl) pure_c)) mkds_nil))) (by show 3 ≤ 100; decide)) mkos_nil)) (by show 2 ≤ 100; decide)) _ _ fun H3 A ls s3 nA eA hl => ?_
      obtain ⟨H4, p1, p2, p3⟩ := put H2 S _ "one" _ H3 A ls nS s2 hod (fun e he z => absurd (z ▸ List.mem_map_of_mem (f := Prod.fst) he) (show ¬ ("one" : Str) ∈ (["none"] : List Str) from by decide +kernel)) (by show 1 ≤ 20; decide) s3 eA hl
      exact ⟨.ref S, rfl, S, H4, rfl, p1, S, rfl, p2, p3, nS⟩
    rintro σ2 H2 ⟨S, rfl, hod, s2, nS⟩
    refine ⟨fun σ2 H2 => ∃ S, σ2 = [some (.ref a), some (.ref r), some (.int t), some (.str d.1), some (.int z), some (.ref S), none, none] ∧ OD H2 S (([("none", [[("all", []), ("not", [t])], [("one", []), ("sub", [t, t])]]), ("one", [[("all", []), ("neg", [t])], [("none", []), ("not", [t]), ("neg", [t + 1])]]), ("all", [[("one", []), ("neg", [t])], [("none", []), ("not", [t])]])] : OTab)) ∧ Same H1 H2 ∧ H1 S = none, ?_, ?_⟩
    · refine (mkg (mkos_cons (mko (mkds_cons mkd0 (mkds_cons (mkd1 (pure_v rfl)) mkds_nil)) (by show 2 ≤ 100; decide)) (mkos_cons (mko (mkds_cons mkd0 (mkds_cons (mkd1 (pure_v rfl)) mkds_nil)) (by show 2 ≤ 100; decide)) mkos_nil)) (by show 2 ≤ 100; decide)) _ _ fun H3 A ls s3 nA eA hl => ?_
      obtain ⟨H4, p1, p2, p3⟩ := put H2 S _ "all" _ H3 A ls nS s2 hod (fun e he z => absurd (z ▸ List.mem_map_of_mem (f := Prod.fst) he) (show ¬ ("all" : Str) ∈ (["none", "one"] : List Str) from by decide +kernel)) (by show 2 ≤ 20; decide) s3 eA hl
      exact ⟨.ref S, rfl, S, H4, rfl, p1, S, rfl, p2, p3, nS⟩
    have hA : ∀ e ∈ (rwA t : OTab), e ∈ rwT d t ∧ e.2.length = 2 ∧ ∀ es ∈ e.2, DsOk t es ∧ 1 ≤ es.length ∧ es.length ≤ 4 := fun e he => ⟨List.mem_append_left _ (List.mem_append_left _ he), rwA_two e he, rwA_ok t0 e he⟩
    rintro σ2 H2 ⟨S, rfl, hod, s2, nS⟩
    refine ⟨fun σ2 H2 => ∃ S, σ2 = [some (.ref a), some (.ref r), some (.int t), some (.str d.1), some (.int z), some (.ref S), none, none] ∧ OD H2 S (rwA t) ∧ Same H1 H2 ∧ H1 S = none ∧ ¬ ∃ e ∈ (rwA t : OTab), e.1 = d.1, ?_, ?_⟩
    · by_cases hin : ∃ e ∈ (rwA t : OTab), e.1 = d.1
      · obtain ⟨A, ls, x, g1, g2, g3, g4⟩ := fin H2 S (rwA t) s2 hod (hA) hin
        exact ⟨.str d.1, rfl, .ref S, rfl, S, _, rfl, g1, _, rfl, iteT ⟨.ref S, rfl, .str d.1, rfl, S, .ref A, rfl, g1, .int z, rfl, A, _, z, .ref x, rfl, rfl, .inl (.inl g2), g3, g4⟩⟩
      · exact ⟨.str d.1, rfl, .ref S, rfl, S, _, rfl, non H2 S _ hod hin, _, rfl, iteF ⟨S, rfl, hod, s2, nS, hin⟩⟩
    rintro σ2 H2 ⟨S, rfl, hod, s2, nS, nin⟩
    have n1 : ¬ d.1 = "none" := fun z => nin ⟨_, List.mem_cons_self, z.symm⟩
    have n2 : ¬ d.1 = "one" := fun z => nin ⟨_, List.mem_cons_of_mem _ List.mem_cons_self, z.symm⟩
    have n3 : ¬ d.1 = "all" := fun z => nin ⟨_, List.mem_cons_of_mem _ (List.mem_cons_of_mem _ List.mem_cons_self), z.symm⟩
    obtain ⟨i, hi, hi2⟩ := deed_a ok n1 n2 n3
    have gi : d.2.getD 0 0 = i := by rw [List.getD_eq_getElem?_getD, hi]; rfl
    refine ⟨.ref r, rfl, r, _, 1, .int i, rfl, rfl, SqT.of (s2 _ _ er1), dvN (k := 0) hi, ?_⟩
    refine ⟨fun σ2 H2 => ∃ S, σ2 = [some (.ref a), some (.ref r), some (.int t), some (.str d.1), some (.int z), some (.ref S), some (.int i), none] ∧ OD H2 S (rwA t ++ ([("not", [[("all", []), ("xor", [t, i])], [("neg", [i]), ("one", []), ("sub", [t, t + 1])]])] : OTab)) ∧ Same H1 H2 ∧ H1 S = none, ?_, ?_⟩
    · refine (mkg (mkos_cons (mko (mkds_cons mkd0 (mkds_cons (mkd2 (pure_v rfl) (pure_v rfl)) mkds_nil)) (by show 2 ≤ 100; decide)) (mkos_cons (mko (mkds_cons (mkd1 (pure_v rfl)) (mkds_cons mkd0 (mkds_cons (mkd2 (pure_v rfl) (pure_add (pure_v rfl) pure_c)) mkds_nil))) (by show 3 ≤ 100; decide)) mkos_nil)) (by show 2 ≤ 100; decide)) _ _ fun H3 A ls s3 nA eA hl => ?_
      obtain ⟨H4, p1, p2, p3⟩ := put H2 S (rwA t) "not" _ H3 A ls nS s2 hod (fun e he z => absurd (z ▸ List.mem_map_of_mem (f := Prod.fst) he) (show ¬ ("not" : Str) ∈ (["none", "one", "all"] : List Str) from by decide +kernel)) (by show 3 ≤ 20; decide) s3 eA hl
      exact ⟨.ref S, rfl, S, H4, rfl, p1, S, rfl, p2, p3, nS⟩
    rintro σ2 H2 ⟨S, rfl, hod, s2, nS⟩
    refine ⟨fun σ2 H2 => ∃ S, σ2 = [some (.ref a), some (.ref r), some (.int t), some (.str d.1), some (.int z), some (.ref S), some (.int i), none] ∧ OD H2 S (rwA t ++ ([("not", [[("all", []), ("xor", [t, i])], [("neg", [i]), ("one", []), ("sub", [t, t + 1])]]), ("neg", [[("not", [i]), ("one", []), ("add", [t, t + 1])], [("none", []), ("sub", [t, i])]])] : OTab)) ∧ Same H1 H2 ∧ H1 S = none, ?_, ?_⟩
    · refine (mkg (mkos_cons (mko (mkds_cons (mkd1 (pure_v rfl)) (mkds_cons mkd0 (mkds_cons (mkd2 (pure_v rfl) (pure_add (pure_v rfl) pure_c)) mkds_nil))) (by show 3 ≤ 100; decide)) (mkos_cons (mko (mkds_cons mkd0 (mkds_cons (mkd2 (pure_v rfl) (pure_v rfl)) mkds_nil)) (by show 2 ≤ 100; decide)) mkos_nil)) (by show 2 ≤ 100; decide)) _ _ fun H3 A ls s3 nA eA hl => ?_
      obtain ⟨H4, p1, p2, p3⟩ := put H2 S (rwA t ++ ([("not", [[("all", []), ("xor", [t, i])], [("neg", [i]), ("one", []), ("sub", [t, t + 1])]])] : OTab)) "neg" _ H3 A ls nS s2 hod (fun e he z => absurd (z ▸ List.mem_map_of_mem (f := Prod.fst) he) (show ¬ ("neg" : Str) ∈ (["none", "one", "all", "not"] : List Str) from by decide +kernel)) (by show 4 ≤ 20; decide) s3 eA hl
      exact ⟨.ref S, rfl, S, H4, rfl, p1, S, rfl, by rw [List.append_assoc] at p2; exact p2, p3, nS⟩
    rintro σ2 H2 ⟨S, rfl, hod, s2, nS⟩
    refine ⟨fun σ2 H2 => ∃ S, σ2 = [some (.ref a), some (.ref r), some (.int t), some (.str d.1), some (.int z), some (.ref S), some (.int i), none] ∧ OD H2 S (rwA t ++ ([("not", [[("all", []), ("xor", [t, i])], [("neg", [i]), ("one", []), ("sub", [t, t + 1])]]), ("neg", [[("not", [i]), ("one", []), ("add", [t, t + 1])], [("none", []), ("sub", [t, i])]]), ("twice", [[("add", [i, i])], [("neg", [i]), ("sub", [i, t])]])] : OTab)) ∧ Same H1 H2 ∧ H1 S = none, ?_, ?_⟩
    · refine (mkg (mkos_cons (mko (mkds_cons (mkd2 (pure_v rfl) (pure_v rfl)) mkds_nil) (by show 1 ≤ 100; decide)) (mkos_cons (mko (mkds_cons (mkd1 (pure_v rfl)) (mkds_cons (mkd2 (pure_v rfl) (pure_v rfl)) mkds_nil)) (by show 2 ≤ 100; decide)) mkos_nil)) (by show 2 ≤ 100; decide)) _ _ fun H3 A ls s3 nA eA hl => ?_
      obtain ⟨H4, p1, p2, p3⟩ := put H2 S (rwA t ++ ([("not", [[("all", []), ("xor", [t, i])], [("neg", [i]), ("one", []), ("sub", [t, t + 1])]]), ("neg", [[("not", [i]), ("one", []), ("add", [t, t + 1])], [("none", []), ("sub", [t, i])]])] : OTab)) "twice" _ H3 A ls nS s2 hod (fun e he z => absurd (z ▸ List.mem_map_of_mem (f := Prod.fst) he) (show ¬ ("twice" : Str) ∈ (["none", "one", "all", "not", "neg"] : List Str) from by decide +kernel)) (by show 5 ≤ 20; decide) s3 eA hl
      exact ⟨.ref S, rfl, S, H4, rfl, p1, S, rfl, by rw [List.append_assoc] at p2; exact p2, p3, nS⟩
    have hB : ∀ e ∈ (rwA t ++ rwB t i : OTab), e ∈ rwT d t ∧ e.2.length = 2 ∧ ∀ es ∈ e.2, DsOk t es ∧ 1 ≤ es.length ∧ es.length ≤ 4 := fun e he => by
      rcases List.mem_append.mp he with he | he
      · exact hA e he
      · exact ⟨List.mem_append_left _ (List.mem_append_right _ (by rw [gi]; exact he)), rwB_two e he, rwB_ok t0 hi2 e he⟩
    rintro σ2 H2 ⟨S, rfl, hod, s2, nS⟩
    refine ⟨fun σ2 H2 => ∃ S, σ2 = [some (.ref a), some (.ref r), some (.int t), some (.str d.1), some (.int z), some (.ref S), some (.int i), none] ∧ OD H2 S (rwA t ++ rwB t i) ∧ Same H1 H2 ∧ H1 S = none ∧ ¬ ∃ e ∈ (rwA t ++ rwB t i : OTab), e.1 = d.1, ?_, ?_⟩
    · by_cases hin : ∃ e ∈ (rwA t ++ rwB t i : OTab), e.1 = d.1
      · obtain ⟨A, ls, x, g1, g2, g3, g4⟩ := fin H2 S (rwA t ++ rwB t i) s2 hod (hB) hin
        exact ⟨.str d.1, rfl, .ref S, rfl, S, _, rfl, g1, _, rfl, iteT ⟨.ref S, rfl, .str d.1, rfl, S, .ref A, rfl, g1, .int z, rfl, A, _, z, .ref x, rfl, rfl, .inl (.inl g2), g3, g4⟩⟩
      · exact ⟨.str d.1, rfl, .ref S, rfl, S, _, rfl, non H2 S _ hod hin, _, rfl, iteF ⟨S, rfl, hod, s2, nS, hin⟩⟩
    rintro σ2 H2 ⟨S, rfl, hod, s2, nS, nin2⟩
    have n4 : ¬ d.1 = "not" := fun z => nin2 ⟨_, List.mem_append_right _ List.mem_cons_self, z.symm⟩
    have n5 : ¬ d.1 = "neg" := fun z => nin2 ⟨_, List.mem_append_right _ (List.mem_cons_of_mem _ List.mem_cons_self), z.symm⟩
    have n6 : ¬ d.1 = "twice" := fun z => nin2 ⟨_, List.mem_append_right _ (List.mem_cons_of_mem _ (List.mem_cons_of_mem _ List.mem_cons_self)), z.symm⟩
    obtain ⟨j, hj, hj2⟩ := deed_b ok n1 n2 n3 n4 n5 n6
    have gj : d.2.getD 1 0 = j := by rw [List.getD_eq_getElem?_getD, hj]; rfl
    refine ⟨.ref r, rfl, r, _, 2, .int j, rfl, rfl, SqT.of (s2 _ _ er1), dvN (k := 1) hj, ?_⟩
    refine ⟨fun σ2 H2 => ∃ S, σ2 = [some (.ref a), some (.ref r), some (.int t), some (.str d.1), some (.int z), some (.ref S), some (.int i), some (.int j)] ∧ OD H2 S (rwA t ++ rwB t i ++ ([("add", [[("neg", [j]), ("sub", [i, t])], [("xor", [i, j]), ("and", [i, j]), ("twice", [t + 1]), ("add", [t, t + 2])]])] : OTab)) ∧ Same H1 H2 ∧ H1 S = none, ?_, ?_⟩
    · refine (mkg (mkos_cons (mko (mkds_cons (mkd1 (pure_v rfl)) (mkds_cons (mkd2 (pure_v rfl) (pure_v rfl)) mkds_nil)) (by show 2 ≤ 100; decide)) (mkos_cons (mko (mkds_cons (mkd2 (pure_v rfl) (pure_v rfl)) (mkds_cons (mkd2 (pure_v rfl) (pure_v rfl)) (mkds_cons (mkd1 (pure_add (pure_v rfl) pure_c)) (mkds_cons (mkd2 (pure_v rfl) (pure_add (pure_v rfl) pure_c)) mkds_nil)))) (by show 4 ≤ 100; decide)) mkos_nil)) (by show 2 ≤ 100; decide)) _ _ fun H3 A ls s3 nA eA hl => ?_
      obtain ⟨H4, p1, p2, p3⟩ := put H2 S (rwA t ++ rwB t i) "add" _ H3 A ls nS s2 hod (fun e he z => absurd (z ▸ List.mem_map_of_mem (f := Prod.fst) he) (show ¬ ("add" : Str) ∈ (["none", "one", "all", "not", "neg", "twice"] : List Str) from by decide +kernel)) (by show 6 ≤ 20; decide) s3 eA hl
      exact ⟨.ref S, rfl, S, H4, rfl, p1, S, rfl, p2, p3, nS⟩
    rintro σ2 H2 ⟨S, rfl, hod, s2, nS⟩
    refine ⟨fun σ2 H2 => ∃ S, σ2 = [some (.ref a), some (.ref r), some (.int t), some (.str d.1), some (.int z), some (.ref S), some (.int i), some (.int j)] ∧ OD H2 S (rwA t ++ rwB t i ++ ([("add", [[("neg", [j]), ("sub", [i, t])], [("xor", [i, j]), ("and", [i, j]), ("twice", [t + 1]), ("add", [t, t + 2])]]), ("sub", [[("neg", [j]), ("add", [i, t])], [("not", [i]), ("add", [t, j]), ("not", [t + 1])]])] : OTab)) ∧ Same H1 H2 ∧ H1 S = none, ?_, ?_⟩
    · refine (mkg (mkos_cons (mko (mkds_cons (mkd1 (pure_v rfl)) (mkds_cons (mkd2 (pure_v rfl) (pure_v rfl)) mkds_nil)) (by show 2 ≤ 100; decide)) (mkos_cons (mko (mkds_cons (mkd1 (pure_v rfl)) (mkds_cons (mkd2 (pure_v rfl) (pure_v rfl)) (mkds_cons (mkd1 (pure_add (pure_v rfl) pure_c)) mkds_nil))) (by show 3 ≤ 100; decide)) mkos_nil)) (by show 2 ≤ 100; decide)) _ _ fun H3 A ls s3 nA eA hl => ?_
      obtain ⟨H4, p1, p2, p3⟩ := put H2 S (rwA t ++ rwB t i ++ ([("add", [[("neg", [j]), ("sub", [i, t])], [("xor", [i, j]), ("and", [i, j]), ("twice", [t + 1]), ("add", [t, t + 2])]])] : OTab)) "sub" _ H3 A ls nS s2 hod (fun e he z => absurd (z ▸ List.mem_map_of_mem (f := Prod.fst) he) (show ¬ ("sub" : Str) ∈ (["none", "one", "all", "not", "neg", "twice", "add"] : List Str) from by decide +kernel)) (by show 7 ≤ 20; decide) s3 eA hl
      exact ⟨.ref S, rfl, S, H4, rfl, p1, S, rfl, by rw [List.append_assoc] at p2; exact p2, p3, nS⟩
    rintro σ2 H2 ⟨S, rfl, hod, s2, nS⟩
    refine ⟨fun σ2 H2 => ∃ S, σ2 = [some (.ref a), some (.ref r), some (.int t), some (.str d.1), some (.int z), some (.ref S), some (.int i), some (.int j)] ∧ OD H2 S (rwA t ++ rwB t i ++ ([("add", [[("neg", [j]), ("sub", [i, t])], [("xor", [i, j]), ("and", [i, j]), ("twice", [t + 1]), ("add", [t, t + 2])]]), ("sub", [[("neg", [j]), ("add", [i, t])], [("not", [i]), ("add", [t, j]), ("not", [t + 1])]]), ("and", [[("or", [i, j]), ("add", [i, j]), ("sub", [t + 1, t])], [("not", [i]), ("not", [j]), ("or", [t, t + 1]), ("not", [t + 2])]])] : OTab)) ∧ Same H1 H2 ∧ H1 S = none, ?_, ?_⟩
    · refine (mkg (mkos_cons (mko (mkds_cons (mkd2 (pure_v rfl) (pure_v rfl)) (mkds_cons (mkd2 (pure_v rfl) (pure_v rfl)) (mkds_cons (mkd2 (pure_add (pure_v rfl) pure_c) (pure_v rfl)) mkds_nil))) (by show 3 ≤ 100; decide)) (mkos_cons (mko (mkds_cons (mkd1 (pure_v rfl)) (mkds_cons (mkd1 (pure_v rfl)) (mkds_cons (mkd2 (pure_v rfl) (pure_add (pure_v rfl) pure_c)) (mkds_cons (mkd1 (pure_add (pure_v rfl) pure_c)) mkds_nil)))) (by show 4 ≤ 100; decide)) mkos_nil)) (by show 2 ≤ 100; decide)) _ _ fun H3 A ls s3 nA eA hl => ?_
      obtain ⟨H4, p1, p2, p3⟩ := put H2 S (rwA t ++ rwB t i ++ ([("add", [[("neg", [j]), ("sub", [i, t])], [("xor", [i, j]), ("and", [i, j]), ("twice", [t + 1]), ("add", [t, t + 2])]]), ("sub", [[("neg", [j]), ("add", [i, t])], [("not", [i]), ("add", [t, j]), ("not", [t + 1])]])] : OTab)) "and" _ H3 A ls nS s2 hod (fun e he z => absurd (z ▸ List.mem_map_of_mem (f := Prod.fst) he) (show ¬ ("and" : Str) ∈ (["none", "one", "all", "not", "neg", "twice", "add", "sub"] : List Str) from by decide +kernel)) (by show 8 ≤ 20; decide) s3 eA hl
      exact ⟨.ref S, rfl, S, H4, rfl, p1, S, rfl, by rw [List.append_assoc] at p2; exact p2, p3, nS⟩
    rintro σ2 H2 ⟨S, rfl, hod, s2, nS⟩
    refine ⟨fun σ2 H2 => ∃ S, σ2 = [some (.ref a), some (.ref r), some (.int t), some (.str d.1), some (.int z), some (.ref S), some (.int i), some (.int j)] ∧ OD H2 S (rwA t ++ rwB t i ++ ([("add", [[("neg", [j]), ("sub", [i, t])], [("xor", [i, j]), ("and", [i, j]), ("twice", [t + 1]), ("add", [t, t + 2])]]), ("sub", [[("neg", [j]), ("add", [i, t])], [("not", [i]), ("add", [t, j]), ("not", [t + 1])]]), ("and", [[("or", [i, j]), ("add", [i, j]), ("sub", [t + 1, t])], [("not", [i]), ("not", [j]), ("or", [t, t + 1]), ("not", [t + 2])]]), ("or", [[("xor", [i, j]), ("and", [i, j]), ("add", [t, t + 1])], [("and", [i, j]), ("sub", [i, t]), ("add", [t + 1, j])]])] : OTab)) ∧ Same H1 H2 ∧ H1 S = none, ?_, ?_⟩
    · refine (mkg (mkos_cons (mko (mkds_cons (mkd2 (pure_v rfl) (pure_v rfl)) (mkds_cons (mkd2 (pure_v rfl) (pure_v rfl)) (mkds_cons (mkd2 (pure_v rfl) (pure_add (pure_v rfl) pure_c)) mkds_nil))) (by show 3 ≤ 100; decide)) (mkos_cons (mko (mkds_cons (mkd2 (pure_v rfl) (pure_v rfl)) (mkds_cons (mkd2 (pure_v rfl) (pure_v rfl)) (mkds_cons (mkd2 (pure_add (pure_v rfl) pure_c) (pure_v rfl)) mkds_nil))) (by show 3 ≤ 100; decide)) mkos_nil)) (by show 2 ≤ 100; decide)) _ _ fun H3 A ls s3 nA eA hl => ?_
      obtain ⟨H4, p1, p2, p3⟩ := put H2 S (rwA t ++ rwB t i ++ ([("add", [[("neg", [j]), ("sub", [i, t])], [("xor", [i, j]), ("and", [i, j]), ("twice", [t + 1]), ("add", [t, t + 2])]]), ("sub", [[("neg", [j]), ("add", [i, t])], [("not", [i]), ("add", [t, j]), ("not", [t + 1])]]), ("and", [[("or", [i, j]), ("add", [i, j]), ("sub", [t + 1, t])], [("not", [i]), ("not", [j]), ("or", [t, t + 1]), ("not", [t + 2])]])] : OTab)) "or" _ H3 A ls nS s2 hod (fun e he z => absurd (z ▸ List.mem_map_of_mem (f := Prod.fst) he) (show ¬ ("or" : Str) ∈ (["none", "one", "all", "not", "neg", "twice", "add", "sub", "and"] : List Str) from by decide +kernel)) (by show 9 ≤ 20; decide) s3 eA hl
      exact ⟨.ref S, rfl, S, H4, rfl, p1, S, rfl, by rw [List.append_assoc] at p2; exact p2, p3, nS⟩
    rintro σ2 H2 ⟨S, rfl, hod, s2, nS⟩
    refine ⟨fun σ2 H2 => ∃ S, σ2 = [some (.ref a), some (.ref r), some (.int t), some (.str d.1), some (.int z), some (.ref S), some (.int i), some (.int j)] ∧ OD H2 S (rwA t ++ rwB t i ++ ([("add", [[("neg", [j]), ("sub", [i, t])], [("xor", [i, j]), ("and", [i, j]), ("twice", [t + 1]), ("add", [t, t + 2])]]), ("sub", [[("neg", [j]), ("add", [i, t])], [("not", [i]), ("add", [t, j]), ("not", [t + 1])]]), ("and", [[("or", [i, j]), ("add", [i, j]), ("sub", [t + 1, t])], [("not", [i]), ("not", [j]), ("or", [t, t + 1]), ("not", [t + 2])]]), ("or", [[("xor", [i, j]), ("and", [i, j]), ("add", [t, t + 1])], [("and", [i, j]), ("sub", [i, t]), ("add", [t + 1, j])]]), ("xor", [[("or", [i, j]), ("and", [i, j]), ("sub", [t, t + 1])], [("and", [i, j]), ("twice", [t]), ("add", [i, j]), ("sub", [t + 2, t + 1])]])] : OTab)) ∧ Same H1 H2 ∧ H1 S = none, ?_, ?_⟩
    · refine (mkg (mkos_cons (mko (mkds_cons (mkd2 (pure_v rfl) (pure_v rfl)) (mkds_cons (mkd2 (pure_v rfl) (pure_v rfl)) (mkds_cons (mkd2 (pure_v rfl) (pure_add (pure_v rfl) pure_c)) mkds_nil))) (by show 3 ≤ 100; decide)) (mkos_cons (mko (mkds_cons (mkd2 (pure_v rfl) (pure_v rfl)) (mkds_cons (mkd1 (pure_v rfl)) (mkds_cons (mkd2 (pure_v rfl) (pure_v rfl)) (mkds_cons (mkd2 (pure_add (pure_v rfl) pure_c) (pure_add (pure_v rfl) pure_c)) mkds_nil)))) (by show 4 ≤ 100; decide)) mkos_nil)) (by show 2 ≤ 100; decide)) _ _ fun H3 A ls s3 nA eA hl => ?_
      obtain ⟨H4, p1, p2, p3⟩ := put H2 S (rwA t ++ rwB t i ++ ([("add", [[("neg", [j]), ("sub", [i, t])], [("xor", [i, j]), ("and", [i, j]), ("twice", [t + 1]), ("add", [t, t + 2])]]), ("sub", [[("neg", [j]), ("add", [i, t])], [("not", [i]), ("add", [t, j]), ("not", [t + 1])]]), ("and", [[("or", [i, j]), ("add", [i, j]), ("sub", [t + 1, t])], [("not", [i]), ("not", [j]), ("or", [t, t + 1]), ("not", [t + 2])]]), ("or", [[("xor", [i, j]), ("and", [i, j]), ("add", [t, t + 1])], [("and", [i, j]), ("sub", [i, t]), ("add", [t + 1, j])]])] : OTab)) "xor" _ H3 A ls nS s2 hod (fun e he z => absurd (z ▸ List.mem_map_of_mem (f := Prod.fst) he) (show ¬ ("xor" : Str) ∈ (["none", "one", "all", "not", "neg", "twice", "add", "sub", "and", "or"] : List Str) from by decide +kernel)) (by show 10 ≤ 20; decide) s3 eA hl
      exact ⟨.ref S, rfl, S, H4, rfl, p1, S, rfl, by rw [List.append_assoc] at p2; exact p2, p3, nS⟩
    rintro σ2 H2 ⟨S, rfl, hod, s2, nS⟩
    have hC : ∀ e ∈ (rwA t ++ rwB t i ++ rwC t i j : OTab), e ∈ rwT d t ∧ e.2.length = 2 ∧ ∀ es ∈ e.2, DsOk t es ∧ 1 ≤ es.length ∧ es.length ≤ 4 := fun e he => by
      rcases List.mem_append.mp he with he | he
      · exact hB e he
      · exact ⟨List.mem_append_right _ (by rw [gi, gj]; exact he), rwC_two e he, rwC_ok t0 hi2 hj2 e he⟩
    have hin : ∃ e ∈ (rwA t ++ rwB t i ++ rwC t i j : OTab), e.1 = d.1 := by
      obtain ⟨e, he, z⟩ := deed_c (t := t) (i := i) (j := j) ok n1 n2 n3 n4 n5 n6
      exact ⟨e, List.mem_append_right _ he, z⟩
    obtain ⟨A, ls, x, g1, g2, g3, g4⟩ := fin H2 S (rwA t ++ rwB t i ++ rwC t i j) s2 hod hC hin
    exact ⟨.ref S, rfl, .str d.1, rfl, S, .ref A, rfl, g1, .int z, rfl, A, _, z, .ref x, rfl, rfl, .inl (.inl g2), g3, g4⟩
/-! ### numbers changed -/
def renD (nu : List Int) (d : Deed) : Deed := (d.1, d.2.map fun z => nu.getD z.toNat 0)
theorem fw_len {m : Int} {d : Deed} (h : DeedOk m d) : d.2.length ≤ 2 := by
  have := (fw_short _ h.word).2.2
  have e2 : (d.2.length : Int) ≤ 2 := this
  omega
theorem ren_ok {nu : List Int} {d : Deed} {m : Int} (h : DeedOk nu.length d) (hn : ∀ x ∈ nu, 0 ≤ x ∧ x < m) : DeedOk m (renD nu d) := by
  refine ⟨?_, ?_⟩
  · show (d.1, ((d.2.map _).length : Int)) ∈ fwL
    rw [List.length_map]
    exact h.word
  · intro i hi
    obtain ⟨z, hz, rfl⟩ := List.mem_map.mp hi
    obtain ⟨z0, z1⟩ := h.ahead z hz
    have hk : z.toNat < nu.length := by omega
    rw [List.getD_eq_getElem?_getD, List.getElem?_eq_getElem hk]
    exact hn _ (List.getElem_mem hk)
/-! ### _law_like -/
inductive LikeBy (m : Nat) : List Deed → List Deed → List Int → Prop
  | nil : LikeBy m [] [] ((List.range m).map fun (k : Nat) => (k : Int))
  | one {ds es : List Deed} {nu : List Int} {d : Deed} : LikeBy m ds es nu → LikeBy m (ds ++ [d]) (es ++ [renD nu d]) (nu ++ [(m : Int) + es.length])
  | rw {ds es fs : List Deed} {nu : List Int} {d : Deed} : LikeBy m ds es nu → Rwd (renD nu d) (m + es.length) fs → LikeBy m (ds ++ [d]) (es ++ fs) (nu ++ [(m : Int) + es.length + fs.length - 1])
def spLk : Sp := fun vs H Q _ => ∃ (a R : Addr) (m : Nat) (o : Int) (ds : List Deed), vs = [.ref a, .ref R] ∧ TP H a ∧ RowAt H R m ds o ∧ RowOk m ds o ∧
  ∀ H' R' ds' o', RowAt H' R' m ds' o' → RowOk m ds' o' → ((ds' = ds ∧ o' = o) ∨ ∃ nu, LikeBy m ds ds' nu ∧ o' = nu.getD o.toNat 0) → TP H' a → But a H H' → Q (.ref R') H'
theorem dsOk_app' {m : Int} {ds es : List Deed} (h : DsOk m ds) (k : DsOk (m + ds.length) es) : DsOk m (ds ++ es) := by
  constructor
  intro i d' e
  by_cases hi : i < ds.length
  · rw [List.getElem?_append_left hi] at e
    exact h.each i d' e
  · rw [List.getElem?_append_right (by omega)] at e
    have := k.each _ d' e
    have e2 : m + (ds.length : Int) + ((i - ds.length : Nat) : Int) = m + (i : Int) := by omega
    rw [e2] at this
    exact this
theorem but_free {a b : Addr} {H H' : Hp} (t : TP H' a) (k : But a H H') (h : H' b = none) : H b = none := by
  cases e : H b with
  | none => rfl
  | some u =>
    have n : b ≠ a := fun z => by
      obtain ⟨x, y, ea⟩ := t
      rw [z, ea] at h
      cases h
    rw [k b u n e] at h
    cases h
set_option maxHeartbeats 2000000 in
theorem ok_lk {f fD fR : Addr} {fd fdD fdR : FuncData} {k : Nat} (F : Fun K "_law_like" "_law_like" s_law_like f fd) (GD : FnOk P w K mg base CX0 (k + 1) fD fdD ["tape", "many"] spDigit) (kD : PySem.W.keepIn K (.ref fD) = true) (bD : Binds K fdD ["tape", "many"] []) (gD : mg "_law_digit" = some (.ref fD))
    (GR : FnOk P w K mg base CX0 (k + 2) fR fdR ["tape", "deed", "at"] spRw) (kR : PySem.W.keepIn K (.ref fR) = true) (bR : Binds K fdR ["tape", "deed", "at"] []) (gR : mg "_law_rewritten" = some (.ref fR))
    (mn : mg "len" = none) (ml : mg "list" = none) (mr : mg "range" = none) (mt : mg "tuple" = none) (me : mg "enumerate" = none) : FnOk P w K mg base CX0 (k + 3) f fd ["tape", "row"] spLk := by
  refine F.ok sc_law_like (fun vs H Q E h => ?_) (fun cdv A outer s H vs Q E hr h => ?_)
  · obtain ⟨a, R, m, o, ds, rfl, _⟩ := h
    rfl
  · obtain ⟨a, R, m, o, ds, rfl, ht, hrow, hok, q⟩ := h
    obtain ⟨D, rs, eR, eD, hd⟩ := id hrow
    have r1 := hr.mono (show k + 1 ≤ k + 2 by omega)
    refine ⟨_, pss_cons (ps_asg (pv 1) (pg_tup rfl (pgs_cons (pg_name (i := 2) sc_law_like.nd rfl (.inl rfl)) (pgs_cons (pg_name (i := 3) sc_law_like.nd rfl (.inl rfl)) (pgs_cons (pg_name (i := 4) sc_law_like.nd rfl (.inl rfl)) pgs_nil)))))
      (pss_cons (ps_if (pt_cmpR (op_eqD hr.units) (pv 3) (pe_tup pa_nil) (nomark _)) (pss_one (ps_ret (pv 1))) pss_nil)
      (pss_cons (ps_set (i := 5) sc_law_like.nd rfl (.inl rfl) (pe_call GD r1 (by rfl) gD kD bD .nil pass0 (pa_cons (pv 0) (pa_cons (pe_callB call_len_seq (by rfl) mn PySem.boot_len (pa_cons (pv 3) pa_nil)) pa_nil))))
      (pss_cons (ps_set (i := 6) sc_law_like.nd rfl (.inr rfl) (pe_listRg rfl (by rfl) ml (prg_1 (by rfl) mr (pv 2))))
      (pss_cons (ps_set (i := 7) sc_law_like.nd rfl (.inl rfl) (pe_lst pa_nil))
      (pss_cons (ps_for PassesOwn.never rfl (pi_enumT (by rfl) me (pa_cons (pv 3) pa_nil)) (pg_tup rfl (pgs_cons (pg_name (i := 8) sc_law_like.nd rfl (.inl rfl)) (pgs_cons (pg_name (i := 9) sc_law_like.nd rfl (.inl rfl)) pgs_nil)))
        (pss_cons (ps_set (i := 10) sc_law_like.nd rfl (.inl rfl) (pe_op op_catZ (pe_slice sl_tupZ (pv 9) po_none (po_some pe_int)) (pe_callTy call_tuple_of (by rfl) mt (by decide +kernel) (pa_cons
            (pe_lc (own := [("one", 11)]) (g := gName 11) (by rfl) sc_law_like.nd (pi_tup (pe_slice sl_tupZ (pv 9) (po_some pe_int) po_none)) (blkOk_by (own := [("one", 11)]) (N := N_law_like) (sc := defScope s_law_like) (by decide +kernel))
              (fun _ _ _ _ _ => pg_name (i := 11) sc_law_like.nd rfl (Or.inl rfl)) (fun _ _ _ _ _ => pts_nil) (fun _ _ _ _ _ => pe_ix (r := rIxL K) ix_list (pv 6) (pv 11) (fun _ _ => rfl))) pa_nil))))
        (pss_mid (ps_if (pt_cmpR op_eq (pv 8) (pv 5) (nomark _))
          (pss_one (ps_expr (pe_bm PySem.F.plainAttrs_list PySem.F.slot_list_extend PySem.F.type_list_extend mt_extend (pv 7) (pa_cons (pe_call GR hr (by rfl) gR kR bR .nil pass0 (pa_cons (pv 0) (pa_cons (pv 10) (pa_cons (pe_op op_add (pv 2) (pe_callB call_len_seq (by rfl) mn PySem.boot_len (pa_cons (pv 7) pa_nil))) pa_nil)))) pa_nil))))
          (pss_one (ps_expr (pe_bm PySem.F.plainAttrs_list PySem.F.slot_list_append PySem.F.type_list_append mt_append (pv 7) (pa_cons (pv 10) pa_nil)))))
        (pss_one (ps_expr (pe_bm PySem.F.plainAttrs_list PySem.F.slot_list_append PySem.F.type_list_append mt_append (pv 6) (pa_cons (pe_op op_sub (pe_op op_add (pv 2) (pe_callB call_len_seq (by rfl) mn PySem.boot_len (pa_cons (pv 7) pa_nil))) pe_int) pa_nil)))))))
      (pss_cons (ps_if (pt_cmpR op_gt (pe_callB call_len_seq (by rfl) mn PySem.boot_len (pa_cons (pv 7) pa_nil)) pe_int (nomark _)) (pss_one (ps_ret (pv 1))) pss_nil)
      (pss_one (ps_ret (pe_tup (pa_cons (pv 2) (pa_cons (pe_callTy call_tuple_of (by rfl) mt (by decide +kernel) (pa_cons (pv 7) pa_nil)) (pa_cons (pe_ix ix_list (pv 6) (pv 4) (fun _ _ => rfl)) pa_nil)))))))))))), ?_⟩
    have m1 := hok.m1
    have m3 := hok.m3
    have l8 := hok.len
    have o0 := hok.o0
    have o1 := hok.o1
    have rl := awLen hd
    have hm := dsOk_mems hok.deeds
    refine ⟨.ref R, rfl, R, [.int m, .ref D, .int o], rfl, SqT.of eR, rfl, .int m, [.ref D, .int o], rfl, .ref D, [.int o], rfl, .int o, [], rfl, rfl, ?_⟩
    refine ⟨.ref D, rfl, by show 0 ≤ sizeLine; decide, fun Z hZ => ?_⟩
    have sZ := same_new (o := .tup []) hZ
    have tZ := ht.same sZ
    have hdZ := (Same.tups sZ).ds hd
    have eDZ := sZ _ _ eD
    refine ⟨.tuple (ds.map deedD), .tuple [], .tup (SqT.of eDZ) (dp_deeds hdZ), .tup (SqT.of upd_same) .nil, deeds_shaped hm, deeds_shaped (ds := []) (fun _ z => nomatch z), _, rfl, ?_⟩
    rw [eqv_nilT]
    refine ite2 (fun e => ?_) (fun e => ?_)
    · exact ⟨.ref R, rfl, q _ R ds o ((Same.tups sZ).row hrow) hok (.inl ⟨rfl, rfl⟩) tZ (But.same sZ)⟩
    have dpos : 0 < ds.length := by
      cases ds with
      | nil => exact absurd rfl e
      | cons _ _ => exact Nat.succ_pos _
    refine ⟨.ref a, rfl, .ref D, rfl, D, _, rfl, .inr (SqT.of eDZ), a, _, rfl, by rw [List.length_map]; omega, by rw [List.length_map]; omega, tZ, fun H1 at0 a0 a1 t1 b1 => ?_⟩
    have b01 : But a H H1 := (But.same sZ).trans b1
    have ts01 : TupsStay H H1 := b01.tape ht
    refine ⟨.int (m : Int), rfl, (m : Int), rfl, RgOk.of_le (by decide) (by omega) (by decide) (by omega), fun Nm hNm => ?_⟩
    have sNm := same_new (o := .lst (rgV 0 (m : Int))) hNm
    have enu : rgV 0 (m : Int) = ((List.range m).map fun (k : Nat) => (k : Int)).map V.int := by
      unfold rgV
      rw [List.map_map]
      have : ((m : Int) - 0).toNat = m := by omega
      rw [this]
      exact List.map_congr_left fun k _ => by show V.int (0 + (k : Int)) = V.int (k : Int); rw [Int.zero_add]
    refine ⟨Nat.zero_le _, fun Fo hFo => ?_⟩
    have sFo := same_new (o := .lst []) hFo
    have nNF : Nm ≠ Fo := fun z => by rw [← z, upd_same] at hFo; cases hFo
    have fNm : H Nm = none := but_free t1 b01 hNm
    have fFo : H Fo = none := but_free t1 b01 (sNm.free hFo)
    have aNe : ∀ {b : Addr} {H' : Hp}, TP H' a → H' b = none → b ≠ a := fun {b H'} t h z => by
      obtain ⟨x, y, ea⟩ := t
      rw [z, ea] at h
      cases h
    have nNa : Nm ≠ a := aNe t1 hNm
    have nFa : Fo ≠ a := aNe (t1.same sNm) hFo
    have stT : ∀ {H' : Hp}, But a H H' → H' D = some (.tup (rs.map V.ref)) := fun {H'} b => b.tape ht _ _ eD
    refine ⟨.ref D, rfl, D, _, rfl, SqT.of (stT (b01.trans (But.same (sNm.trans sFo)))), for_it (walk_enumT (K := K) (a := D) (xs := rs.map V.ref)) (fun t σ H4 => ∃ (y8 y9 y10 : Option V) (gs : List Addr) (es : List Deed) (nu : List Int), σ = [some (.ref a), some (.ref R), some (.int (m : Int)), some (.ref D), some (.int o), some (.int at0), some (.ref Nm), some (.ref Fo), y8, y9, y10, none] ∧ H4 Fo = some (.lst (gs.map V.ref)) ∧ DsAt H4 gs es ∧ LikeBy m (ds.take t) es nu ∧ DsOk m es ∧ es.length ≤ 4 * t ∧ H4 Nm = some (.lst (nu.map V.int)) ∧ nu.length = m + t ∧ (∀ x ∈ nu, 0 ≤ x ∧ x < (m : Int) + es.length) ∧ TP H4 a ∧ But a H H4)
      ⟨none, none, none, [], [], _, rfl, upd_same, .nil, .nil, ⟨fun k d e => by simp at e⟩, Nat.le_refl _, by rw [← enu]; exact sFo _ _ upd_same, by rw [List.length_map, List.length_range]; rfl, fun x hx => ?_, (t1.same sNm).same sFo, b01.trans (But.same (sNm.trans sFo))⟩ (fun t σ H4 _ hp => ?_) (fun t x σ H4 H5 hj hp hy => ?_) (fun σ H4 hp => ?_)⟩
    · obtain ⟨k', hk', rfl⟩ := List.mem_map.mp hx
      have := List.mem_range.mp hk'
      show 0 ≤ (k' : Int) ∧ (k' : Int) < (m : Int) + ((0 : Nat) : Int)
      omega
    · obtain ⟨_, _, _, _, _, _, _, _, _, _, _, _, _, _, _, _, b4⟩ := hp
      exact SqT.of (stT b4)
    · obtain ⟨y8, y9, y10, gs, es, nu, rfl, eFo, hgs, lk, oke, le4, eNm, nul, nur, t4, b4⟩ := hp
      obtain ⟨U, x1, x2, rfl, hU, rfl, g1, g2⟩ := hy
      obtain rfl : V.int (t : Nat) = x1 := Option.some.inj g1
      have ht2 : t < rs.length := by rwa [List.length_map] at hj
      have hx2 : x2 = .ref rs[t] := by
        have g2' : (rs.map V.ref)[t]? = some x2 := g2
        rw [List.getElem?_map, List.getElem?_eq_getElem ht2] at g2'
        exact (Option.some.inj g2').symm
      subst hx2
      obtain ⟨d, hd1, hd2⟩ := awGet hd (List.getElem?_eq_getElem ht2)
      have okd := hok.deeds.each t d hd1
      have sU := same_new (o := .tup [.int (t : Nat), .ref rs[t]]) hU
      have edU := sU _ _ (b4.tape ht _ _ hd2)
      have eUU : upd H4 U (.tup [.int (t : Nat), .ref rs[t]]) U = some (.tup [.int (t : Nat), .ref rs[t]]) := upd_same
      obtain ⟨r, hr'⟩ : ∃ r, r = rs[t] := ⟨_, rfl⟩
      rw [← hr'] at edU sU eUU ⊢
      obtain ⟨H5, hH5⟩ : ∃ H5, H5 = upd H4 U (.tup [.int (t : Nat), .ref r]) := ⟨_, rfl⟩
      rw [← hH5] at edU sU eUU ⊢
      have t5 := t4.same sU
      have b5 := b4.trans (But.same sU)
      refine ⟨U, [.int (t : Nat), .ref r], rfl, .inl (.inl eUU), rfl, .int (t : Nat), [.ref r], rfl, .ref r, [], rfl, rfl, ?_⟩
      have d2 : d.2.length ≤ 2 := by
        rcases fw_cases okd.word with ⟨h, _⟩ | ⟨h, _⟩ | ⟨h, _⟩ <;> omega
      have okn : DeedOk nu.length d := by
        have e2 : ((nu.length : Nat) : Int) = (m : Int) + (t : Int) := by omega
        rw [e2]
        exact okd
      refine ⟨.ref r, rfl, 1, rfl, r, dV d, rfl, edU, fun p1 Ha sa ea => ?_⟩
      have ea' : Ha p1 = some (.tup [.str d.1]) := by
        rw [ea]
        have : cutV (dV d) none (some 1) = (dV d).take 1 := cut_take (dV d) 1
        rw [this]
        rfl
      refine ⟨.ref r, rfl, 1, rfl, r, dV d, rfl, sa _ _ edU, fun p2 Hb sb eb => ?_⟩
      have eb' : Hb p2 = some (.tup (d.2.map V.int)) := by
        rw [eb]
        have : cutV (dV d) (some 1) none = (dV d).drop 1 := cut_drop (dV d) 1
        rw [this]
        rfl
      refine ⟨p2, rfl, ⟨_, SqT.of eb'⟩, fun C hC => ?_⟩
      have sab := sa.trans sb
      have eNmb := sab _ _ (sU _ _ eNm)
      refine lc_tup (K := K) (a := p2) (xs := d.2.map V.int) (fun j H6 => H6 C = some (.lst (((d.2.take j).map fun z => nu.getD z.toNat 0).map V.int)) ∧ Same Hb H6) ⟨upd_same, same_new hC⟩ (fun j H6 _ hp => ?_) (fun j x H6 hx hp => ?_) (fun H6 hp => ?_)
      · exact SqT.of (hp.2 _ _ eb')
      · obtain ⟨eC, s6⟩ := hp
        rw [List.getElem?_map] at hx
        obtain ⟨z, hz, rfl⟩ := Option.map_eq_some_iff.mp hx
        obtain ⟨z0, z1⟩ := okn.ahead z (List.mem_of_getElem? hz)
        have hjl := (List.getElem?_eq_some_iff.mp hz).1
        refine ⟨rfl, .ref Nm, rfl, .int z, rfl, Nm, _, z, _, rfl, rfl, .inl (.inl (s6 _ _ eNmb)), atI_ints z0 z1, _, eC, ?_, ?_, ?_⟩
        · rw [List.length_map, List.length_map, List.length_take]
          exact small1000 (by omega)
        · rw [upd_same, List.take_add_one, hz]
          simp
        · intro b u e
          rw [upd_ne (ne_of_none e hC)]
          exact s6 _ _ e
      · obtain ⟨eC, s6⟩ := hp
        rw [List.length_map, List.take_length] at eC
        refine ⟨C, _, rfl, .inl ⟨.inl (.inl eC), fun V1 hV1 => ?_⟩⟩
        have sV := same_new (o := .tup ((renD nu d).2.map V.int)) hV1
        have r2 : (renD nu d).2.length = d.2.length := by
          show (d.2.map _).length = _
          rw [List.length_map]
        refine ⟨p1, V1, _, _, rfl, rfl, sV _ _ (s6 _ _ (sb _ _ ea')), upd_same, ?_, fun p H7 s7 e7 => ?_⟩
        · rw [List.length_map, List.length_map]
          exact Nat.le_of_lt (small1000 (by show 1 + d.2.length ≤ 1000; omega))
        have e7' : H7 p = some (.tup (dV (renD nu d))) := e7
        have s57 : Same H5 H7 := sab.trans (s6.trans (sV.trans s7))
        have t7 := t5.same s57
        have b7 := b5.trans (But.same s57)
        have eFo7 := s57 _ _ (sU _ _ eFo)
        have eNm7 := s57 _ _ (sU _ _ eNm)
        have hgs7 := (Same.tups (sU.trans s57)).ds hgs
        have rok := ren_ok okn nur
        have gl := awLen hgs
        have tk : ds.take (t + 1) = ds.take t ++ [d] := by rw [List.take_add_one, hd1]; rfl
        have ht8 : t < 8 := by omega
        refine ⟨fun σ2 H8 => ∃ (gs' : List Addr) (es' : List Deed) (last : Int), σ2 = [some (.ref a), some (.ref R), some (.int (m : Int)), some (.ref D), some (.int o), some (.int at0), some (.ref Nm), some (.ref Fo), some (.int (t : Nat)), some (.ref r), some (.ref p), none] ∧ H8 Fo = some (.lst (gs'.map V.ref)) ∧ DsAt H8 gs' es' ∧ LikeBy m (ds.take (t + 1)) es' (nu ++ [(m : Int) + es'.length - 1]) ∧ DsOk m es' ∧ es'.length ≤ 4 * (t + 1) ∧ es.length < es'.length ∧ H8 Nm = some (.lst (nu.map V.int)) ∧ TP H8 a ∧ But a H H8, ?_, ?_⟩
        · refine ⟨.int (t : Nat), rfl, .int at0, rfl, ⟨rfl, _, rfl, ite2 (fun e2 => ?_) (fun e2 => ?_)⟩⟩
          · have elen : ((gs.map V.ref).length : Int) = (es.length : Int) := by rw [List.length_map, gl]
            refine ⟨.ref Fo, rfl, .inl ⟨rfl, _, .inl (.inl eFo7)⟩, .ref a, rfl, .ref p, rfl, .int (m : Int), rfl, .ref Fo, rfl, Fo, _, rfl, .inl (.inl (.inl eFo7)), (m : Int), _, rfl, rfl, ?_⟩
            rw [elen]
            refine ⟨a, p, renD nu d, (m : Int) + (es.length : Int), rfl, t7, e7', rok, by omega, fun H8 l rs8 fs t8 b8 el hfs rwd => ?_⟩
            have eFo8 := b8 _ _ nFa eFo7
            have eNm8 := b8 _ _ nNa eNm7
            have hgs8 := (b8.tape t7).ds hgs7
            have l1 := rwd.l1
            have l4 := rwd.l4
            have fl := awLen hfs
            refine ⟨Fo, l, _, _, rfl, rfl, eFo8, el, ?_, gs ++ rs8, es ++ fs, 0, rfl, ?_, ?_, ?_, ?_, ?_, ?_, ?_, ?_, ?_⟩
            · rw [List.length_map, List.length_map]
              exact Nat.le_of_lt (small1000 (by omega))
            · rw [upd_same, List.map_append]
            · exact (tups_put eFo8).ds (awAppend hgs8 hfs)
            · rw [tk]
              have := LikeBy.rw (d := d) lk rwd
              rw [List.length_append]
              have e3 : (m : Int) + ((es.length + fs.length : Nat) : Int) - 1 = (m : Int) + (es.length : Int) + (fs.length : Int) - 1 := by omega
              rw [e3]
              exact this
            · exact dsOk_app' oke rwd.ok
            · rw [List.length_append]
              omega
            · rw [List.length_append]
              omega
            · rw [upd_ne nNF]
              exact eNm8
            · exact t8.upd nFa
            · intro b u nb e3
              rw [upd_ne (ne_of_none e3 fFo)]
              exact (b7.trans b8) b u nb e3
          · refine ⟨.ref Fo, rfl, .inl ⟨rfl, _, .inl (.inl eFo7)⟩, .ref p, rfl, Fo, _, _, rfl, rfl, eFo7, ?_, gs ++ [p], es ++ [renD nu d], 0, rfl, ?_, ?_, ?_, ?_, ?_, ?_, ?_, ?_, ?_⟩
            · rw [List.length_map]
              exact small1000 (by omega)
            · rw [upd_same, List.map_append]
              rfl
            · exact (tups_put eFo7).ds (awSnoc (F := fun r (d : Deed) => H7 r = some (.tup (dV d))) e7' hgs7)
            · rw [tk]
              have := LikeBy.one (d := d) lk
              rw [List.length_append]
              have e3 : (m : Int) + ((es.length + [renD nu d].length : Nat) : Int) - 1 = (m : Int) + (es.length : Int) := by
                show (m : Int) + ((es.length + 1 : Nat) : Int) - 1 = _
                omega
              rw [e3]
              exact this
            · exact dsOk_snoc oke rok
            · rw [List.length_append]
              show es.length + 1 ≤ _
              omega
            · rw [List.length_append]
              show es.length < es.length + 1
              omega
            · rw [upd_ne nNF]
              exact eNm7
            · exact t7.upd nFa
            · intro b u nb e3
              rw [upd_ne (ne_of_none e3 fFo)]
              exact b7 b u nb e3
        · rintro σ2 H8 ⟨gs', es', _, rfl, eFo8, hgs8, lk8, ok8, le8, lt8, eNm8, t8, b8⟩
          have gl8 := awLen hgs8
          have elen : ((gs'.map V.ref).length : Int) = (es'.length : Int) := by rw [List.length_map, gl8]
          refine ⟨.ref Nm, rfl, .inl ⟨rfl, _, .inl (.inl eNm8)⟩, .int (m : Int), rfl, .ref Fo, rfl, Fo, _, rfl, .inl (.inl (.inl eFo8)), (m : Int), _, rfl, rfl, (m : Int) + _, 1, rfl, rfl, ?_⟩
          rw [elen]
          refine ⟨Nm, _, _, rfl, rfl, eNm8, ?_, some (.int (t : Nat)), some (.ref r), some (.ref p), gs', es', nu ++ [(m : Int) + (es'.length : Int) - 1], rfl, ?_, (tups_put eNm8).ds hgs8, lk8, ok8, le8, ?_, ?_, fun x hx => ?_, t8.upd nNa, ?_⟩
          · rw [List.length_map]
            exact small1000 (by omega)
          · rw [upd_ne nNF.symm]
            exact eFo8
          · rw [upd_same, List.map_append]
            rfl
          · rw [List.length_append, nul]
            rfl
          · rcases List.mem_append.mp hx with hx | hx
            · have := nur x hx
              omega
            · rw [List.mem_singleton.mp hx]
              omega
          · intro b u nb e3
            rw [upd_ne (ne_of_none e3 fNm)]
            exact b8 b u nb e3
    · obtain ⟨y8, y9, y10, gs, es, nu, rfl, eFo, hgs, lk, oke, le4, eNm, nul, nur, t4, b4⟩ := hp
      rw [List.length_map, rl] at nul
      rw [List.length_map, rl, List.take_length] at lk
      have gl := awLen hgs
      refine ⟨.ref Fo, rfl, Fo, _, rfl, .inl (.inl (.inl eFo)), _, 8, rfl, rfl, _, rfl, ite2 (fun e2 => ?_) (fun e2 => ?_)⟩
      · exact ⟨.ref R, rfl, q _ R ds o ((b4.tape ht).row hrow) hok (.inl ⟨rfl, rfl⟩) t4 b4⟩
      · have le8 : es.length ≤ 8 := by
          have : ¬ (((gs.map V.ref).length : Int) > 8) := fun z => e2 (decide_eq_true z)
          rw [List.length_map, gl] at this
          omega
        refine ⟨.int (m : Int), rfl, .ref Fo, rfl, Fo, _, rfl, .inl ⟨.inl (.inl eFo), fun T2 hT2 => ?_⟩⟩
        have sT2 := same_new (o := .tup (gs.map V.ref)) hT2
        have oin : o.toNat < nu.length := by omega
        have hat : atI (nu.map V.int) o = some (.int (nu.getD o.toNat 0)) := atI_ints o0 (by omega)
        refine ⟨.ref Nm, rfl, .int o, rfl, Nm, _, o, _, rfl, rfl, .inl (.inl (sT2 _ _ eNm)), hat, (by show 3 ≤ sizeLine; decide), fun Tt hTt => ?_⟩
        have sTt := same_new (o := .tup [.int (m : Int), .ref T2, .int (nu.getD o.toNat 0)]) hTt
        have hr2 := nur (nu.getD o.toNat 0) (by rw [List.getD_eq_getElem?_getD, List.getElem?_eq_getElem oin]; exact List.getElem_mem oin)
        exact q _ Tt es _ ⟨T2, gs, upd_same, sTt _ _ upd_same, (Same.tups (sT2.trans sTt)).ds hgs⟩ ⟨m1, m3, le8, oke, hr2.1, hr2.2⟩ (.inr ⟨nu, lk, rfl⟩) ((t4.same sT2).same sTt) (b4.trans (But.same (sT2.trans sTt)))
/-! ### _law_pair -/
def spPr : Sp := fun vs H Q _ => ∃ (a : Addr) (m : Nat), vs = [.ref a, .int (m : Int)] ∧ 1 ≤ m ∧ m ≤ 3 ∧ TP H a ∧
  ∀ H' T R1 R2 ds1 o1 ds2 o2, H' T = some (.tup [.ref R1, .ref R2]) → RowAt H' R1 m ds1 o1 → RowOk m ds1 o1 → RowAt H' R2 m ds2 o2 → RowOk m ds2 o2 → TP H' a → But a H H' → Q (.ref T) H'
set_option maxHeartbeats 1000000 in
theorem ok_pr {f fD fR fL fB : Addr} {fd fdD fdR fdL fdB : FuncData} {k : Nat} (F : Fun K "_law_pair" "_law_pair" s_law_pair f fd) (GD : FnOk P w K mg base CX0 (k + 1) fD fdD ["tape", "many"] spDigit) (kD : PySem.W.keepIn K (.ref fD) = true) (bD : Binds K fdD ["tape", "many"] []) (gD : mg "_law_digit" = some (.ref fD))
    (GR : FnOk P w K mg base CX0 (k + 3) fR fdR ["tape", "many", "most", "left"] spTr) (kR : PySem.W.keepIn K (.ref fR) = true) (bR : Binds K fdR ["tape", "many", "most", "left"] []) (gR : mg "_law_row" = some (.ref fR))
    (GL : FnOk P w K mg base CX0 (k + 3) fL fdL ["tape", "row"] spLk) (kL : PySem.W.keepIn K (.ref fL) = true) (bL : Binds K fdL ["tape", "row"] []) (gL : mg "_law_like" = some (.ref fL))
    (GB : FnOk P w K mg base CX0 (k + 3) fB fdB ["tape", "row"] spBe) (kB : PySem.W.keepIn K (.ref fB) = true) (bB : Binds K fdB ["tape", "row"] []) (gB : mg "_law_bent" = some (.ref fB)) : FnOk P w K mg base CX0 (k + 4) f fd ["tape", "many"] spPr := by
  refine F.ok sc_law_pair (fun vs H Q E h => ?_) (fun cdv A outer s H vs Q E hr h => ?_)
  · obtain ⟨a, m, rfl, _⟩ := h
    rfl
  · obtain ⟨a, m, rfl, m1, m3, ht, q⟩ := h
    have r1 := hr.mono (show k + 1 ≤ k + 3 by omega)
    refine ⟨_, pss_cons (ps_set (i := 2) sc_law_pair.nd rfl (.inl rfl) (pe_call GR hr (by rfl) gR kR bR .nil pass0 (pa_cons (pv 0) (pa_cons (pv 1) (pa_cons pe_int (pa_cons pe_int pa_nil))))))
      (pss_cons (ps_set (i := 3) sc_law_pair.nd rfl (.inl rfl) (pe_call GD r1 (by rfl) gD kD bD .nil pass0 (pa_cons (pv 0) (pa_cons pe_int pa_nil))))
      (pss_cons (ps_if (pt_cmpR op_eq (pv 3) pe_int (nomark _)) (pss_one (ps_ret (pe_tup (pa_cons (pv 2) (pa_cons (pe_call GR hr (by rfl) gR kR bR .nil pass0 (pa_cons (pv 0) (pa_cons (pv 1) (pa_cons pe_int (pa_cons pe_int pa_nil))))) pa_nil))))) pss_nil)
      (pss_cons (ps_set (i := 4) sc_law_pair.nd rfl (.inl rfl) (pe_call GL hr (by rfl) gL kL bL .nil pass0 (pa_cons (pv 0) (pa_cons (pv 2) pa_nil))))
      (pss_mid (ps_if (pt_cmpR op_lt (pv 3) pe_int (nomark _)) (pss_one (ps_set (i := 4) sc_law_pair.nd rfl (.inl rfl) (pe_call GL hr (by rfl) gL kL bL .nil pass0 (pa_cons (pv 0) (pa_cons (pv 4) pa_nil))))) pss_nil)
      (pss_mid (ps_if (pt_cmpR op_lt (pv 3) pe_int (nomark _)) (pss_one (ps_set (i := 4) sc_law_pair.nd rfl (.inl rfl) (pe_call GB hr (by rfl) gB kB bB .nil pass0 (pa_cons (pv 0) (pa_cons (pv 4) pa_nil))))) pss_nil)
      (pss_one (ps_ret (pe_ix ix_list (pe_lst (pa_cons (pe_tup (pa_cons (pv 2) (pa_cons (pv 4) pa_nil))) (pa_cons (pe_tup (pa_cons (pv 4) (pa_cons (pv 2) pa_nil))) pa_nil))) (pe_call GD r1 (by rfl) gD kD bD .nil pass0 (pa_cons (pv 0) (pa_cons pe_int pa_nil))) (fun _ _ => rfl))))))))), ?_⟩
    refine ⟨.ref a, rfl, .int (m : Int), rfl, a, (m : Int), 4, 2, rfl, by omega, by omega, by decide, by decide, ht, fun H1 R1 ds1 o1 hrow1 ok1 _ _ t1 b1 => ?_⟩
    refine ⟨.ref a, rfl, a, 6, rfl, by decide, by decide, t1, fun H2 wy wy0 wy1 t2 b2 => ?_⟩
    have hrow2 := (b2.tape t1).row hrow1
    refine ⟨.int wy, rfl, rfl, _, rfl, ite2 (fun e => ?_) (fun e => ?_)⟩
    · refine ⟨.ref R1, rfl, .ref a, rfl, .int (m : Int), rfl, a, (m : Int), 4, 2, rfl, by omega, by omega, by decide, by decide, t2, fun H3 R2 ds2 o2 hrow3 ok2 _ _ t3 b3 => ?_⟩
      refine ⟨(by show 2 ≤ sizeLine; decide), fun T hT => ?_⟩
      have sT := same_new (o := .tup [.ref R1, .ref R2]) hT
      exact q _ T R1 R2 ds1 o1 ds2 o2 upd_same ((Same.tups sT).row ((b3.tape t2).row hrow2)) ok1 ((Same.tups sT).row hrow3) ok2 (t3.same sT) (((b1.trans b2).trans b3).trans (But.same sT))
    refine ⟨.ref a, rfl, .ref R1, rfl, a, R1, m, o1, ds1, rfl, t2, hrow2, ok1, fun H3 R2 ds2 o2 hrow3 ok2 _ t3 b3 => ?_⟩
    have b03 := (b1.trans b2).trans b3
    have hr13 := (b3.tape t2).row hrow2
    refine ⟨fun σ2 H4 => ∃ R2 ds2 o2, σ2 = [some (.ref a), some (.int (m : Int)), some (.ref R1), some (.int wy), some (.ref R2)] ∧ RowAt H4 R1 m ds1 o1 ∧ RowAt H4 R2 m ds2 o2 ∧ RowOk m ds2 o2 ∧ TP H4 a ∧ But a H H4, ?_, ?_⟩
    · refine ⟨.int wy, rfl, _, 4, rfl, rfl, _, rfl, ite2 (fun e2 => ?_) (fun e2 => ?_)⟩
      · refine ⟨.ref a, rfl, .ref R2, rfl, a, R2, m, o2, ds2, rfl, t3, hrow3, ok2, fun H4 R3 ds3 o3 hrow4 ok3 _ t4 b4 => ?_⟩
        exact ⟨R3, ds3, o3, rfl, (b4.tape t3).row hr13, hrow4, ok3, t4, b03.trans b4⟩
      · exact ⟨R2, ds2, o2, rfl, hr13, hrow3, ok2, t3, b03⟩
    rintro σ2 H4 ⟨R2, ds2, o2, rfl, hr14, hrow4, ok2, t4, b04⟩
    refine ⟨fun σ2 H4 => ∃ R2 ds2 o2, σ2 = [some (.ref a), some (.int (m : Int)), some (.ref R1), some (.int wy), some (.ref R2)] ∧ RowAt H4 R1 m ds1 o1 ∧ RowAt H4 R2 m ds2 o2 ∧ RowOk m ds2 o2 ∧ TP H4 a ∧ But a H H4, ?_, ?_⟩
    · refine ⟨.int wy, rfl, _, 3, rfl, rfl, _, rfl, ite2 (fun e2 => ?_) (fun e2 => ?_)⟩
      · refine ⟨.ref a, rfl, .ref R2, rfl, a, R2, m, o2, ds2, rfl, t4, hrow4, ok2, fun H5 R3 ds3 o3 hrow5 ok3 _ _ t5 b5 => ?_⟩
        exact ⟨R3, ds3, o3, rfl, (b5.tape t4).row hr14, hrow5, ok3, t5, b04.trans b5⟩
      · exact ⟨R2, ds2, o2, rfl, hr14, hrow4, ok2, t4, b04⟩
    rintro σ2 H5 ⟨R2, ds2, o2, rfl, hr15, hrow5, ok2, t5, b05⟩
    refine ⟨.ref R1, rfl, .ref R2, rfl, (by show 2 ≤ sizeLine; decide), fun T1 hT1 => ?_⟩
    have s1 := same_new (o := .tup [.ref R1, .ref R2]) hT1
    refine ⟨.ref R2, rfl, .ref R1, rfl, (by show 2 ≤ sizeLine; decide), fun T2 hT2 => ?_⟩
    have s2 := same_new (o := .tup [.ref R2, .ref R1]) hT2
    refine ⟨(by show 2 ≤ sizeLine; decide), fun L hL => ?_⟩
    have s3 := same_new (o := .lst [.ref T1, .ref T2]) hL
    have s13 := s1.trans (s2.trans s3)
    have e1 := s3 _ _ (s2 _ _ (upd_same (H := H5) (a := T1) (o := .tup [.ref R1, .ref R2])))
    have e2 := s3 T2 (.tup [.ref R2, .ref R1]) upd_same
    obtain ⟨H6, hH6⟩ : ∃ H6, H6 = upd (upd (upd H5 T1 (.tup [.ref R1, .ref R2])) T2 (.tup [.ref R2, .ref R1])) L (.lst [.ref T1, .ref T2]) := ⟨_, rfl⟩
    have eL : H6 L = some (.lst [.ref T1, .ref T2]) := by rw [hH6]; exact upd_same
    rw [← hH6] at s13 e1 e2 ⊢
    have t6 := t5.same s13
    have hr16 := (Same.tups s13).row hr15
    have hr26 := (Same.tups s13).row hrow5
    refine ⟨.ref a, rfl, a, 2, rfl, by decide, by decide, t6, fun H7 z z0 z1 t7 b7 => ?_⟩
    have nLa : L ≠ a := fun y => by
      obtain ⟨x1, x2, ea⟩ := t6
      rw [y, ea] at eL
      cases eL
    have b07 := (b05.trans (But.same s13)).trans b7
    have ts := b7.tape t6
    have hz : z = 0 ∨ z = 1 := by omega
    rcases hz with rfl | rfl
    · exact ⟨L, _, 0, .ref T1, rfl, rfl, .inl (.inl (b7 _ _ nLa eL)), rfl, q H7 T1 R1 R2 ds1 o1 ds2 o2 (ts _ _ e1) (ts.row hr16) ok1 (ts.row hr26) ok2 t7 b07⟩
    · exact ⟨L, _, 1, .ref T2, rfl, rfl, .inl (.inl (b7 _ _ nLa eL)), rfl, q H7 T2 R2 R1 ds2 o2 ds1 o1 (ts _ _ e2) (ts.row hr26) ok2 (ts.row hr16) ok1 t7 b07⟩
/-! ### k91: _law_width -/
def spCrT (K : PySem.W.Frag) : Sp := fun vs H Q _ => ∃ (L : Addr) (rs : List Addr) (ds : List Deed), vs = [.ref L] ∧ H L = some (.tup (rs.map V.ref)) ∧ DsAt H rs ds ∧ ds.length ≤ 100 ∧ ∀ H', Same H H' → Q (.int (carN ds : Nat)) H'
theorem ok_crT {f : Addr} {fd : FuncData} {k : Nat} (F : Fun K "_law_carrying" "_law_carrying" s_law_carrying f fd) (mn : mg "len" = none) : FnOk P w K mg base CX0 (k + 1) f fd ["deeds"] (spCrT K) := by
  refine F.ok sc_law_carrying (fun vs H Q E h => ?_) (fun cdv A outer s H vs Q E hr h => ?_)
  · obtain ⟨L, rs, ds, rfl, _⟩ := h
    rfl
  · obtain ⟨L, rs, ds, rfl, eL, hd, hl, q⟩ := h
    refine ⟨_, pss_one (ps_ret (pe_callB call_len_seq (by rfl) mn PySem.boot_len (pa_cons
      (pe_lc (own := [("deed", 1)]) (g := gName 1) (by rfl) sc_law_carrying.nd (pi_tup (pv 0)) (blkOk_by (own := [("deed", 1)]) (N := N_law_carrying) (sc := defScope s_law_carrying) (by decide +kernel))
        (fun _ _ _ _ _ => pg_name (i := 1) sc_law_carrying.nd rfl (Or.inl rfl)) (fun _ _ _ _ _ => pts_one (pt_cmpR (r := rIn K false) op_in_seq (pe_ix (r := rIxT K) ix_tup (pv 1) pe_int (fun _ _ => rfl)) (pe_tup (pa_cons pe_str (pa_cons pe_str (pa_cons pe_str (pa_cons pe_str (pa_cons pe_str pa_nil)))))) (by rfl)))
        (fun _ _ _ _ _ => pv 1)) pa_nil))), ?_⟩
    refine ⟨.ref L, rfl, L, rfl, ⟨_, SqT.of eL⟩, fun C hC => ?_⟩
    refine lc_tup (K := K) (a := L) (xs := rs.map V.ref) (fun i H4 => ∃ ys : List V, ys.length = carN (ds.take i) ∧ H4 C = some (.lst ys) ∧ Same H H4) ⟨[], rfl, upd_same, same_new hC⟩ (fun i H4 _ hp => ?_) (fun i x H4 hx hp => ?_) (fun H4 hp => ?_)
    · obtain ⟨_, _, _, sm⟩ := hp
      exact SqT.of (sm _ _ eL)
    · obtain ⟨ys, hy, eC, sm⟩ := hp
      have hi : i < rs.length := by
        have := (List.getElem?_eq_some_iff.mp hx).1
        rwa [List.length_map] at this
      have hx' : x = .ref rs[i] := by
        rw [List.getElem?_map, List.getElem?_eq_getElem hi] at hx
        exact (Option.some.inj hx).symm
      subst hx'
      obtain ⟨d, hd1, hd2⟩ := awGet hd (List.getElem?_eq_getElem hi)
      have old : ∀ H6, Same H H6 → ∀ o, Same H (upd H6 C o) := fun H6 s6 o b u e => by
        rw [upd_ne (ne_of_none e hC)]
        exact s6 b u e
      refine ⟨rfl, .ref rs[i], rfl, rs[i], _, 0, .str d.1, rfl, rfl, SqT.of (sm _ _ hd2), dv0 d, by show 5 ≤ sizeLine; decide, fun T hT => ?_⟩
      have sT := sm.trans (same_new (o := .tup [.str "add", .str "sub", .str "twice", .str "neg", .str "one"]) hT)
      have eCT : upd H4 T (.tup [.str "add", .str "sub", .str "twice", .str "neg", .str "one"]) C = some (.lst ys) := same_new hT _ _ eC
      refine ⟨T, _, rfl, .inr (SqT.of upd_same), rfl, rfl, _, rfl, ite2 (fun e => ?_) (fun e => ?_)⟩
      · have hc : d.1 ∈ twC := of_decide_eq_true ((inS d.1 twC).symm.trans e)
        refine ⟨.ref rs[i], rfl, ys, eCT, ?_, ys ++ [.ref rs[i]], ?_, upd_same, old _ sT _⟩
        · have := awLen hd
          have h2 := carN_le (ds.take i)
          rw [List.length_take] at h2
          exact small1000 (by omega)
        · rw [List.length_append, hy, List.take_add_one, hd1, Option.toList_some, carN_snoc, if_pos hc]
          rfl
      · have hc : ¬ d.1 ∈ twC := fun z => e ((inS d.1 twC).trans (decide_eq_true z))
        exact ⟨ys, by rw [hy, List.take_add_one, hd1, Option.toList_some, carN_snoc, if_neg hc]; rfl, eCT, sT⟩
    · obtain ⟨ys, hy, eC, sm⟩ := hp
      rw [List.length_map, awLen hd, List.take_length] at hy
      rw [← hy] at q
      exact ⟨C, ys, rfl, .inl (.inl (.inl eC)), q _ sm⟩
/-! ### a row off the tape -/
def spWd91 : Sp := fun vs H Q _ => ∃ (T R1 R2 : Addr) (m : Nat) (o1 o2 : Int) (ds1 ds2 : List Deed), vs = [.ref T, .ref R1, .ref R2] ∧ TP H T ∧ RowAt H R1 m ds1 o1 ∧ RowAt H R2 m ds2 o2 ∧ RowOk m ds1 o1 ∧ RowOk m ds2 o2 ∧ ∀ H' (n : Nat), 1 ≤ n → n ≤ 60 → TP H' T → But T H H' → Q (.int (n : Int)) H'
theorem ok_wd91 {f fD fC : Addr} {fd fdD fdC : FuncData} {k : Nat} (F : Fun K "_law_width" "_law_width" s_law_width f fd)
    (GD : FnOk P w K mg base CX0 (k + 1) fD fdD ["tape", "many"] spDigit) (kD : PySem.W.keepIn K (.ref fD) = true) (bD : Binds K fdD ["tape", "many"] []) (gD : mg "_law_digit" = some (.ref fD))
    (GC : FnOk P w K mg base CX0 (k + 1) fC fdC ["deeds"] (spCrT K)) (kC : PySem.W.keepIn K (.ref fC) = true) (bC : Binds K fdC ["deeds"] []) (gC : mg "_law_carrying" = some (.ref fC)) : FnOk P w K mg base CX0 (k + 2) f fd ["tape", "row", "other"] spWd91 := by
  refine F.ok sc_law_width (fun vs H Q E h => ?_) (fun cdv A outer s H vs Q E hr h => ?_)
  · obtain ⟨T, R1, R2, m, o1, o2, ds1, ds2, rfl, _⟩ := h
    rfl
  · obtain ⟨T, R1, R2, m, o1, o2, ds1, ds2, rfl, tp, hr1, hr2, ok1, ok2, q⟩ := h
    refine ⟨_, pss_cons (ps_if (pt_cmpR op_gt (pe_op op_add (pe_call GC hr (by rfl) gC kC bC .nil pass0 (pa_cons (pe_ix ix_tup (pv 1) pe_int (fun _ _ => rfl)) pa_nil)) (pe_call GC hr (by rfl) gC kC bC .nil pass0 (pa_cons (pe_ix ix_tup (pv 2) pe_int (fun _ _ => rfl)) pa_nil))) pe_int (nomark _))
      (pss_one (ps_ret (pe_op op_add pe_int (pe_call GD hr (by rfl) gD kD bD .nil pass0 (pa_cons (pv 0) (pa_cons pe_int pa_nil)))))) pss_nil)
      (pss_one (ps_ret (pe_op op_sub pe_int (pe_call GD hr (by rfl) gD kD bD .nil pass0 (pa_cons (pv 0) (pa_cons pe_int pa_nil)))))), ?_⟩
    obtain ⟨D1, rs1, eR1, eD1, hd1⟩ := id hr1
    obtain ⟨D2, rs2, eR2, eD2, hd2⟩ := id hr2
    have l1 := ok1.len
    have l2 := ok2.len
    refine ⟨.ref R1, rfl, R1, _, 1, .ref D1, rfl, rfl, SqT.of eR1, rfl, D1, rs1, ds1, rfl, eD1, hd1, by omega, fun H1 s1 => ?_⟩
    refine ⟨.ref R2, rfl, R2, _, 1, .ref D2, rfl, rfl, SqT.of (s1 _ _ eR2), rfl, D2, rs2, ds2, rfl, s1 _ _ eD2, (Same.tups s1).ds hd2, by omega, fun H2 s2 => ?_⟩
    have s12 := s1.trans s2
    refine ⟨_, _, rfl, rfl, _, _, rfl, rfl, _, rfl, ite2 (fun e => ?_) (fun e => ?_)⟩
    · refine ⟨.ref T, rfl, T, 12, rfl, by decide, by decide, tp.same s12, fun H3 z z0 z1 t3 b3 => ⟨1, z, rfl, rfl, ?_⟩⟩
      have := q H3 (1 + z).toNat (by omega) (by omega) t3 ((But.same s12).trans b3)
      rwa [show (((1 + z).toNat : Nat) : Int) = 1 + z by omega] at this
    · refine ⟨.ref T, rfl, T, 60, rfl, by decide, by decide, tp.same s12, fun H3 z z0 z1 t3 b3 => ⟨60, z, rfl, rfl, ?_⟩⟩
      have := q H3 (60 - z).toNat (by omega) (by omega) t3 ((But.same s12).trans b3)
      rwa [show (((60 - z).toNat : Nat) : Int) = 60 - z by omega] at this
/-! ### k90: the law -/
set_option maxHeartbeats 8000000 in
theorem law_run {fa fT fD fP fR fX fW fF : Addr} {fd fdT fdD fdP fdR fdX fdW fdF : FuncData} {s : Shared} {a : Addr} {ns : List Int} {H : Hp} (F : Fun K "law" "law" s_law fa fd) (bL : Binds K fd ["script"] [])
    (GT : FnOk P w K mg base CX0 1 fT fdT ["script", "start"] (spTape K)) (kT : PySem.W.keepIn K (.ref fT) = true) (bT : Binds K fdT ["script", "start"] []) (gT : mg "_law_tape" = some (.ref fT))
    (GD : FnOk P w K mg base CX0 1 fD fdD ["tape", "many"] spDigit) (kD : PySem.W.keepIn K (.ref fD) = true) (bD : Binds K fdD ["tape", "many"] []) (gD : mg "_law_digit" = some (.ref fD))
    (GP : FnOk P w K mg base CX0 4 fP fdP ["tape", "many"] spPr) (kP : PySem.W.keepIn K (.ref fP) = true) (bP : Binds K fdP ["tape", "many"] []) (gP : mg "_law_pair" = some (.ref fP))
    (GR : FnOk P w K mg base CX0 3 fR fdR ["tape", "many", "most", "left"] spTr) (kR : PySem.W.keepIn K (.ref fR) = true) (bR : Binds K fdR ["tape", "many", "most", "left"] []) (gR : mg "_law_row" = some (.ref fR))
    (GX : FnOk P w K mg base CX0 9 fX fdX ["row", "other", "width"] spRi90) (kX : PySem.W.keepIn K (.ref fX) = true) (bX : Binds K fdX ["row", "other", "width"] []) (gX : mg "_law_right" = some (.ref fX))
    (GW : FnOk P w K mg base CX0 2 fW fdW ["tape", "row", "other"] spWd91) (kW : PySem.W.keepIn K (.ref fW) = true) (bW : Binds K fdW ["tape", "row", "other"] []) (gW : mg "_law_width" = some (.ref fW))
    (GF : FnOk P w K mg base CX0 9 fF fdF ["row", "other", "width"] spRf90) (kF : PySem.W.keepIn K (.ref fF) = true) (bF : Binds K fdF ["row", "other", "width"] []) (gF : mg "_law_refused" = some (.ref fF))
    (mr : mg "range" = none) (mn : mg "len" = none) (mx : mg "max" = none) (mi : mg "min" = none) (mp : mg "repr" = none)
    (hlen : ns.length ≤ 63) (hbits : ∀ z ∈ ns, Builtin.Int.intBits z ≤ 1048576) (e0 : Env0 P w K mg base callerA [] s H) (hS : SqL K H a (ns.map V.int)) :
    codeAny (model P w) callerA (.call (.ref fa) ⟨[.ref a], []⟩) (CR CX0 [] P w H s (fun v _ => v = .bl true) E0) s := by
  refine fn_at (k := 9) (us := [.ref a]) (vs := [.ref a]) F sc_law ⟨rfl, by decide, by decide⟩ e0 ?_ (.cons rfl .nil) rfl (fun cdv => ?_)
  · have := bL s [.ref a] (e0.mod.kin.keeps fun b o e => (e0.bs b o e).1) rfl
    simpa using this
  have hr : Room 9 (callerA.deeper (envOfC "law" (defScope s_law) s.heap.objs.size fa cdv)) := Room.deeper (k := 9) ⟨rfl, by decide, by decide⟩ _
  have hg : (callerA.deeper (envOfC "law" (defScope s_law) s.heap.objs.size fa cdv)).guards = some [] := rfl
  have R1 := hr.mono (show 1 ≤ 9 by decide)
  have R2 := hr.mono (show 2 ≤ 9 by decide)
  have R3 := hr.mono (show 3 ≤ 9 by decide)
  have R4 := hr.mono (show 4 ≤ 9 by decide)
  have R9 := hr.mono (show 9 ≤ 9 by decide)
  refine ⟨_, pss_cons (ps_for PassesOwn.never rfl (pi_range1 (by rfl) mr (pa_cons (pe_callB (call_max2 rfl) (by rfl) mx (by decide +kernel) (pa_cons pe_int (pa_cons (pe_callB (call_min2 rfl) (by rfl) mi (by decide +kernel) (pa_cons pe_int (pa_cons (pe_callB call_len_seq (by rfl) mn PySem.boot_len (pa_cons (pv 0) pa_nil)) pa_nil))) pa_nil))) pa_nil)) (pg_name (i := 1) sc_law.nd rfl (.inl rfl))
    (pss_cons (ps_set (i := 2) sc_law.nd rfl (.inl rfl) (pe_call GT R1 (by rfl) gT kT bT .nil pass0 (pa_cons (pv 0) (pa_cons (pv 1) pa_nil))))
    (pss_cons (ps_set (i := 3) sc_law.nd rfl (.inl rfl) (pe_ix ix_list (pe_lst (pa_cons pe_int (pa_cons pe_int (pa_cons pe_int (pa_cons pe_int (pa_cons pe_int pa_nil)))))) (pe_call GD R1 (by rfl) gD kD bD .nil pass0 (pa_cons (pv 2) (pa_cons pe_int pa_nil))) (fun _ _ => rfl)))
    (pss_cons (ps_asg (pe_call GP R4 (by rfl) gP kP bP .nil pass0 (pa_cons (pv 2) (pa_cons (pv 3) pa_nil))) (pg_tup rfl (pgs_cons (pg_name (i := 4) sc_law.nd rfl (.inl rfl)) (pgs_cons (pg_name (i := 5) sc_law.nd rfl (.inl rfl)) pgs_nil))))
    (pss_cons (ps_set (i := 6) sc_law.nd rfl (.inl rfl) (pe_callB (call_repr hg hr.units) (by rfl) mp (by decide +kernel) (pa_cons (pe_tup (pa_cons (pv 4) (pa_cons (pv 5) pa_nil))) pa_nil)))
    (pss_cons (ps_for PassesOwn.never rfl (pi_list (pe_lst (pa_cons pe_int (pa_cons (pe_call GW R2 (by rfl) gW kW bW .nil pass0 (pa_cons (pv 2) (pa_cons (pv 4) (pa_cons (pv 5) pa_nil)))) pa_nil)))) (pg_name (i := 7) sc_law.nd rfl (.inl rfl))
    (pss_one (ps_if (PW.pt (pw_or (pt_not (pt_val (pe_call GX R9 (by rfl) gX kX bX .nil pass0 (pa_cons (pv 4) (pa_cons (pv 5) (pa_cons (pv 7) pa_nil)))))) (pw_or1 (pt_not (pt_val (pe_call GX R9 (by rfl) gX kX bX .nil pass0 (pa_cons (pv 5) (pa_cons (pv 4) (pa_cons (pv 7) pa_nil)))))))))
    (pss_one (ps_ret pe_bl))
    pss_nil)))
    (pss_cons (ps_if (pt_cmpR op_ne (pe_callB (call_repr hg hr.units) (by rfl) mp (by decide +kernel) (pa_cons (pe_tup (pa_cons (pv 4) (pa_cons (pv 5) pa_nil))) pa_nil)) (pv 6) (nomark _))
    (pss_one (ps_ret pe_bl))
    pss_nil)
    (pss_cons (ps_set (i := 8) sc_law.nd rfl (.inl rfl) (pe_ix ix_list (pe_lst (pa_cons pe_int (pa_cons pe_int (pa_cons pe_int pa_nil)))) (pe_op op_sub (pv 3) pe_int) (fun _ _ => rfl)))
    (pss_cons (ps_par (i := 4) (j := 5) rfl sc_law.nd rfl rfl (by decide) rfl rfl (pa_cons (pe_call GR R3 (by rfl) gR kR bR .nil pass0 (pa_cons (pv 2) (pa_cons (pv 3) (pa_cons pe_int (pa_cons (pv 8) pa_nil))))) (pa_cons (pe_call GR R3 (by rfl) gR kR bR .nil pass0 (pa_cons (pv 2) (pa_cons (pv 3) (pa_cons pe_int (pa_cons (pv 8) pa_nil))))) pa_nil)) (by rfl))
    (pss_cons (ps_if (pt_not (pt_val (pe_call GX R9 (by rfl) gX kX bX .nil pass0 (pa_cons (pv 4) (pa_cons (pv 5) (pa_cons (pe_call GW R2 (by rfl) gW kW bW .nil pass0 (pa_cons (pv 2) (pa_cons (pv 4) (pa_cons (pv 5) pa_nil)))) pa_nil))))))
    (pss_one (ps_ret pe_bl))
    pss_nil)
    (pss_cons (ps_set (i := 9) sc_law.nd rfl (.inl rfl) (pe_call GR R3 (by rfl) gR kR bR .nil pass0 (pa_cons (pv 2) (pa_cons (pe_op op_add pe_int (pe_op op_mod (pv 3) pe_int)) (pa_cons pe_int (pa_cons pe_int pa_nil))))))
    (pss_cons (ps_set (i := 7) sc_law.nd rfl (.inl rfl) (pe_op op_add pe_int (pe_call GD R1 (by rfl) gD kD bD .nil pass0 (pa_cons (pv 2) (pa_cons pe_int pa_nil)))))
    (pss_one (ps_if (PW.pt (pw_or (pt_not (pt_val (pe_call GF R9 (by rfl) gF kF bF .nil pass0 (pa_cons (pv 4) (pa_cons (pv 9) (pa_cons (pv 7) pa_nil)))))) (pw_or1 (pt_not (pt_val (pe_call GF R9 (by rfl) gF kF bF .nil pass0 (pa_cons (pv 9) (pa_cons (pv 4) (pa_cons pe_int pa_nil)))))))))
    (pss_one (ps_ret pe_bl))
    pss_nil))))))))))))))
    (pss_one (ps_ret pe_bl)), ?_⟩
  refine ⟨.ref a, rfl, a, _, rfl, .inl hS, 2, _, rfl, 1, _, rfl, ?_⟩
  obtain ⟨N, hN⟩ : ∃ N : Int, N = if (if ((ns.map V.int).length : Int) < 2 then ((ns.map V.int).length : Int) else 2) > 1 then (if ((ns.map V.int).length : Int) < 2 then ((ns.map V.int).length : Int) else 2) else 1 := ⟨_, rfl⟩
  have hN1 : 0 ≤ N ∧ N ≤ 2 := by
    rw [hN]
    split <;> split <;> omega
  rw [← hN]
  refine ⟨N, rfl, by omega, by omega, for_range (lo := 0) (n := N.toNat) (fun i σ H3 => (∃ y1 y2 y3 y4 y5 y6 y7 y8 y9, σ = [some (.ref a), y1, y2, y3, y4, y5, y6, y7, y8, y9]) ∧ Same H H3) ⟨⟨none, none, none, none, none, none, none, none, none, rfl⟩, Same.refl H⟩ (fun i σ H3 hi hp => ?_) (fun σ H3 hp => rfl)⟩
  obtain ⟨⟨y1, y2, y3, y4, y5, y6, y7, y8, y9, rfl⟩, s3⟩ := hp
  refine ⟨.ref a, rfl, .int (0 + i), rfl, a, ns, 0 + i, rfl, s3.seq hS, by omega, by omega, fun H4 tp s4 htp t4 => ?_⟩
  have nold : ∀ b o, H b = some o → b ≠ tp := fun b o e => ne_of_none (s3 _ _ e) htp
  have s04 := s3.trans s4
  refine ⟨(by show 5 ≤ sizeLine; decide), fun M hM => ?_⟩
  have sM := same_new (o := .lst [.int 1, .int 2, .int 1, .int 2, .int 3]) hM
  have nM := t4.ne_new hM
  refine ⟨.ref tp, rfl, tp, 5, rfl, by decide, by decide, t4.same sM, fun H5 z z0 z1 t5 b5 => ?_⟩
  obtain ⟨m, hz, m1, m3⟩ : ∃ m : Nat, atI [V.int 1, .int 2, .int 1, .int 2, .int 3] z = some (.int (m : Int)) ∧ 1 ≤ m ∧ m ≤ 3 := by
    have h5 : z = 0 ∨ z = 1 ∨ z = 2 ∨ z = 3 ∨ z = 4 := by omega
    rcases h5 with rfl | rfl | rfl | rfl | rfl
    · exact ⟨1, rfl, by decide, by decide⟩
    · exact ⟨2, rfl, by decide, by decide⟩
    · exact ⟨1, rfl, by decide, by decide⟩
    · exact ⟨2, rfl, by decide, by decide⟩
    · exact ⟨3, rfl, by decide, by decide⟩
  have s05 : Same H H5 := fun b v e => b5 b v (nold b v e) (sM _ _ (s04 _ _ e))
  refine ⟨M, _, z, .int (m : Int), rfl, rfl, .inl (.inl (b5 _ _ nM upd_same)), hz, ?_⟩
  refine ⟨.ref tp, rfl, .int (m : Int), rfl, tp, m, rfl, m1, m3, t5, fun H6 T Ra Rb dsa oa dsb ob' eT hra oka hrb okb t6 b6 => ?_⟩
  have s06 : Same H H6 := fun b v e => b6 b v (nold b v e) (s05 _ _ e)
  refine ⟨T, [.ref Ra, .ref Rb], rfl, .inl (.inl eT), rfl, .ref Ra, [.ref Rb], rfl, .ref Rb, [], rfl, rfl, ?_⟩
  have nra := nice_row oka
  have nrb := nice_row okb
  have npr : Nice 920 4 (.tuple [rowD m dsa oa, rowD m dsb ob']) := nice_tup (b := 459) (k := 3) (fun x hx => by
    rcases List.mem_cons.mp hx with rfl | hx
    · exact nra
    · rw [List.mem_singleton.mp hx]
      exact nrb) (by simp only [List.length_cons, List.length_nil]; decide)
  refine ⟨.ref Ra, rfl, .ref Rb, rfl, (by show 2 ≤ sizeLine; decide), fun U hU => ?_⟩
  have sU := same_new (o := .tup [.ref Ra, .ref Rb]) hU
  refine ⟨.ref U, _, rfl, .inl (Rz.tup (SqT.of upd_same) (.cons (rz_row ((Same.tups sU).row hra)) (.cons (rz_row ((Same.tups sU).row hrb)) .nil))), npr.sh, Nat.le_trans npr.dp (by decide), npr.fits (by decide), ?_⟩
  obtain ⟨kp, hkp⟩ : ∃ kp, kp = (PyData.tuple [rowD m dsa oa, rowD m dsb ob']).shown := ⟨_, rfl⟩
  rw [← hkp]
  have t6u := t6.same sU
  have hrau := (Same.tups sU).row hra
  have hrbu := (Same.tups sU).row hrb
  have s0u := s06.trans sU
  obtain ⟨Hu, hHu⟩ : ∃ Hu, Hu = upd H6 U (.tup [.ref Ra, .ref Rb]) := ⟨_, rfl⟩
  rw [← hHu] at t6u hrau hrbu s0u ⊢
  clear hHu sU
  refine ⟨.ref tp, rfl, .ref Ra, rfl, .ref Rb, rfl, tp, Ra, Rb, m, oa, ob', dsa, dsb, rfl, t6u, hrau, hrbu, oka, okb, fun H8 n n1 n60 t8 b8 => ?_⟩
  have s08 : Same H H8 := fun b v e => b8 b v (nold b v e) (s0u _ _ e)
  have hra8 := (b8.tape t6u).row hrau
  have hrb8 := (b8.tape t6u).row hrbu
  refine ⟨(by show 2 ≤ sizeLine; decide), fun W hW => ?_⟩
  have sW := same_new (o := .lst [.int 1, .int (n : Int)]) hW
  have eW : upd H8 W (.lst [.int 1, .int (n : Int)]) W = some (.lst [.int 1, .int (n : Int)]) := upd_same
  have s0w := s08.trans sW
  have t8w := t8.same sW
  have hraw := (Same.tups sW).row hra8
  have hrbw := (Same.tups sW).row hrb8
  obtain ⟨Hw, hHw⟩ : ∃ Hw, Hw = upd H8 W (.lst [.int 1, .int (n : Int)]) := ⟨_, rfl⟩
  rw [← hHw] at eW t8w hraw hrbw s0w ⊢
  clear hHw sW
  refine ⟨W, rfl, ⟨_, .inl (.inl eW)⟩, for_list (K := K) (a := W) (xs := [.int 1, .int (n : Int)]) (fun j σ He => (∃ y7, σ = [some (.ref a), some (.int (0 + i)), some (.ref tp), some (.int (m : Int)), some (.ref Ra), some (.ref Rb), some (.str kp), y7, y8, y9]) ∧ Same Hw He) ⟨⟨y7, rfl⟩, Same.refl Hw⟩ (fun j σ He _ hp => .inl (.inl (hp.2 _ _ eW))) (fun j x σ He hx hp => ?_) (fun σ He hp => ?_)⟩
  · obtain ⟨⟨y7, rfl⟩, se⟩ := hp
    obtain ⟨v, rfl, v1, v60⟩ : ∃ v : Nat, x = .int (v : Int) ∧ 1 ≤ v ∧ v ≤ 60 := by
      match j, hx with
      | 0, hx =>
        injection hx with hx
        exact ⟨1, hx.symm, by decide, by decide⟩
      | 1, hx =>
        injection hx with hx
        exact ⟨n, hx.symm, n1, n60⟩
      | j + 2, hx => exact absurd hx (by simp)
    have hrae := (Same.tups se).row hraw
    have hrbe := (Same.tups se).row hrbw
    refine ⟨.ref Ra, rfl, .ref Rb, rfl, .int (v : Int), rfl, Ra, Rb, m, v, oa, ob', dsa, dsb, rfl, hrae, hrbe, oka, okb, v1, v60, fun Hf sf => ⟨true, rfl, iteF ?_⟩⟩
    refine ⟨.ref Rb, rfl, .ref Ra, rfl, .int (v : Int), rfl, Rb, Ra, m, v, ob', oa, dsb, dsa, rfl, (Same.tups sf).row hrbe, (Same.tups sf).row hrae, okb, oka, v1, v60, fun Hg sg => ⟨true, rfl, iteF ?_⟩⟩
    exact ⟨⟨_, rfl⟩, se.trans (sf.trans sg)⟩
  obtain ⟨⟨y7, rfl⟩, se⟩ := hp
  have hrae := (Same.tups se).row hraw
  have hrbe := (Same.tups se).row hrbw
  have te := t8w.same se
  have s0e := s0w.trans se
  refine ⟨.ref Ra, rfl, .ref Rb, rfl, (by show 2 ≤ sizeLine; decide), fun U2 hU2 => ?_⟩
  have sU2 := same_new (o := .tup [.ref Ra, .ref Rb]) hU2
  refine ⟨.ref U2, _, rfl, .inl (Rz.tup (SqT.of upd_same) (.cons (rz_row ((Same.tups sU2).row hrae)) (.cons (rz_row ((Same.tups sU2).row hrbe)) .nil))), npr.sh, Nat.le_trans npr.dp (by decide), npr.fits (by decide), ?_⟩
  rw [← hkp]
  refine ⟨.str kp, rfl, rfl, _, rfl, ite2 (fun e => absurd e (by simp)) (fun _ => ?_)⟩
  have tu2 := te.same sU2
  have hra2 := (Same.tups sU2).row hrae
  have s0u2 := s0e.trans sU2
  obtain ⟨H9, hH9⟩ : ∃ H9, H9 = upd He U2 (.tup [.ref Ra, .ref Rb]) := ⟨_, rfl⟩
  rw [← hH9] at tu2 hra2 s0u2 ⊢
  clear hH9 sU2
  refine ⟨(by show 3 ≤ sizeLine; decide), fun Lf hLf => ?_⟩
  have sLf := same_new (o := .lst [.int 3, .int 2, .int 2]) hLf
  have eLf : upd H9 Lf (.lst [.int 3, .int 2, .int 2]) Lf = some (.lst [.int 3, .int 2, .int 2]) := upd_same
  have t10 := tu2.same sLf
  have s010 := s0u2.trans sLf
  obtain ⟨H10, hH10⟩ : ∃ H10, H10 = upd H9 Lf (.lst [.int 3, .int 2, .int 2]) := ⟨_, rfl⟩
  rw [← hH10] at eLf t10 s010 ⊢
  clear hH10 sLf
  obtain ⟨lf, hlf, lf0, lf9⟩ : ∃ lf : Int, atI [V.int 3, .int 2, .int 2] ((m : Int) - 1) = some (.int lf) ∧ 0 ≤ lf ∧ lf ≤ 3 := by
    have h3 : m = 1 ∨ m = 2 ∨ m = 3 := by omega
    rcases h3 with rfl | rfl | rfl
    · exact ⟨3, rfl, by decide, by decide⟩
    · exact ⟨2, rfl, by decide, by decide⟩
    · exact ⟨2, rfl, by decide, by decide⟩
  refine ⟨.int (m : Int), rfl, (m : Int), 1, rfl, rfl, Lf, _, (m : Int) - 1, .int lf, rfl, rfl, .inl (.inl eLf), hlf, ?_⟩
  refine ⟨.ref tp, rfl, .int (m : Int), rfl, .int lf, rfl, tp, (m : Int), 6, lf, rfl, by omega, by omega, by decide, by decide, t10, fun H11 Rc dsc oc hrc okc _ _ t11 b11 => ?_⟩
  have s011 : Same H H11 := fun b v e => b11 b v (nold b v e) (s010 _ _ e)
  refine ⟨.ref tp, rfl, .int (m : Int), rfl, .int lf, rfl, tp, (m : Int), 6, lf, rfl, by omega, by omega, by decide, by decide, t11, fun H12 Rd dsd od hrd okd _ _ t12 b12 => ?_⟩
  have s012 : Same H H12 := fun b v e => b12 b v (nold b v e) (s011 _ _ e)
  have hrc12 := (b12.tape t11).row hrc
  refine ⟨_, _, rfl, .ref Rc, rfl, .ref Rd, rfl, .ref tp, rfl, .ref Rc, rfl, .ref Rd, rfl, tp, Rc, Rd, m, oc, od, dsc, dsd, rfl, t12, hrc12, hrd, okc, okd, fun H13 n2 n21 n260 t13 b13 => ?_⟩
  have s013 : Same H H13 := fun b v e => b13 b v (nold b v e) (s012 _ _ e)
  have hrc13 := (b13.tape t12).row hrc12
  have hrd13 := (b13.tape t12).row hrd
  refine ⟨Rc, Rd, m, n2, oc, od, dsc, dsd, rfl, hrc13, hrd13, okc, okd, n21, n260, fun H14 s14 => ⟨true, rfl, iteF ?_⟩⟩
  have s014 := s013.trans s14
  have t14 := t13.same s14
  have hrc14 := (Same.tups s14).row hrc13
  obtain ⟨fm, hfm, f1, f3, fne⟩ : ∃ fm : Nat, 1 + (m : Int) % 3 = (fm : Int) ∧ 1 ≤ fm ∧ fm ≤ 3 ∧ ¬ m = fm := ⟨(1 + (m : Int) % 3).toNat, by omega, by omega, by omega, by omega⟩
  refine ⟨.ref tp, rfl, .int (m : Int), rfl, (m : Int), 3, rfl, rfl, (by show (0 : Int) < 3; decide), 1, _, rfl, rfl, ?_⟩
  refine ⟨tp, 1 + (m : Int) % 3, 4, 2, rfl, by omega, by omega, by decide, by decide, t14, fun H15 Rf dsf of' hrf okf _ _ t15 b15 => ?_⟩
  rw [hfm] at hrf okf
  have s015 : Same H H15 := fun b v e => b15 b v (nold b v e) (s014 _ _ e)
  have hrc15 := (b15.tape t14).row hrc14
  refine ⟨.ref tp, rfl, tp, 60, rfl, by decide, by decide, t15, fun H16 z2 z20 z21 t16 b16 => ?_⟩
  have s016 : Same H H16 := fun b v e => b16 b v (nold b v e) (s015 _ _ e)
  have hrc16 := (b16.tape t15).row hrc15
  have hrf16 := (b16.tape t15).row hrf
  obtain ⟨n3, hn3, n31, n360⟩ : ∃ n3 : Nat, 1 + z2 = (n3 : Int) ∧ 1 ≤ n3 ∧ n3 ≤ 60 := ⟨(1 + z2).toNat, by omega, by omega, by omega⟩
  refine ⟨1, z2, rfl, rfl, ?_⟩
  have ev : (fun (i j : Int) => V.int (i + j)) 1 z2 = V.int (n3 : Int) := by
    show V.int (1 + z2) = _
    rw [hn3]
  rw [ev]
  refine ⟨.ref Rc, rfl, .ref Rf, rfl, .int (n3 : Int), rfl, Rc, Rf, m, fm, n3, oc, of', dsc, dsf, rfl, hrc16, hrf16, okc, okf, fne, fun H17 s17 => ⟨true, rfl, iteF ?_⟩⟩
  refine ⟨.ref Rf, rfl, .ref Rc, rfl, Rf, Rc, fm, m, 1, of', oc, dsf, dsc, rfl, (Same.tups s17).row hrf16, (Same.tups s17).row hrc16, okf, okc, fun z => fne z.symm, fun H18 s18 => ⟨true, rfl, iteF ?_⟩⟩
  exact ⟨⟨_, _, _, _, _, _, _, _, _, rfl⟩, s016.trans (s17.trans s18)⟩
/-! ### what the top has written -/
set_option maxHeartbeats 4000000 in
theorem all_mk {l : PySem.W.OpenLaw} {w : World} {K : PySem.W.Frag} {h : Heap} {mg : Str → Option Value} {fa : Addr} (X : K.In h) (G : h.Ns mainGlobals mg) (hfa : mg "law" = some (.ref fa))
    {f0 : Addr} {od0 an0 : Option Addr} {sl0 : Array (Option Value)} {oc0 kV0 dc0 pm0 cd0 ct0 : Value}
    {f1 : Addr} {od1 an1 : Option Addr} {sl1 : Array (Option Value)} {oc1 kV1 dc1 pm1 cd1 ct1 : Value}
    {f2 : Addr} {od2 an2 : Option Addr} {sl2 : Array (Option Value)} {oc2 kV2 dc2 pm2 cd2 ct2 : Value}
    {f3 : Addr} {od3 an3 : Option Addr} {sl3 : Array (Option Value)} {oc3 kV3 dc3 pm3 cd3 ct3 : Value}
    {f4 : Addr} {od4 an4 : Option Addr} {sl4 : Array (Option Value)} {oc4 kV4 dc4 pm4 cd4 ct4 : Value}
    {f5 : Addr} {od5 an5 : Option Addr} {sl5 : Array (Option Value)} {oc5 kV5 dc5 pm5 cd5 ct5 : Value}
    {f6 : Addr} {od6 an6 : Option Addr} {sl6 : Array (Option Value)} {oc6 kV6 dc6 pm6 cd6 ct6 : Value}
    {f7 : Addr} {od7 an7 : Option Addr} {sl7 : Array (Option Value)} {oc7 kV7 dc7 pm7 cd7 ct7 : Value}
    {f8 : Addr} {od8 an8 : Option Addr} {sl8 : Array (Option Value)} {oc8 kV8 dc8 pm8 cd8 ct8 : Value}
    {f9 : Addr} {od9 an9 : Option Addr} {sl9 : Array (Option Value)} {oc9 kV9 dc9 pm9 cd9 ct9 : Value}
    {f10 : Addr} {od10 an10 : Option Addr} {sl10 : Array (Option Value)} {oc10 kV10 dc10 pm10 cd10 ct10 : Value}
    {f11 : Addr} {od11 an11 : Option Addr} {sl11 : Array (Option Value)} {oc11 kV11 dc11 pm11 cd11 ct11 : Value}
    {f12 : Addr} {od12 an12 : Option Addr} {sl12 : Array (Option Value)} {oc12 kV12 dc12 pm12 cd12 ct12 : Value}
    {f13 : Addr} {od13 an13 : Option Addr} {sl13 : Array (Option Value)} {oc13 kV13 dc13 pm13 cd13 ct13 : Value}
    {f14 : Addr} {od14 an14 : Option Addr} {sl14 : Array (Option Value)} {oc14 kV14 dc14 pm14 cd14 ct14 : Value}
    {f15 : Addr} {od15 an15 : Option Addr} {sl15 : Array (Option Value)} {oc15 kV15 dc15 pm15 cd15 ct15 : Value}
    {f16 : Addr} {od16 an16 : Option Addr} {sl16 : Array (Option Value)} {oc16 kV16 dc16 pm16 cd16 ct16 : Value}
    {f17 : Addr} {od17 an17 : Option Addr} {sl17 : Array (Option Value)} {oc17 kV17 dc17 pm17 cd17 ct17 : Value}
    {f18 : Addr} {od18 an18 : Option Addr} {sl18 : Array (Option Value)} {oc18 kV18 dc18 pm18 cd18 ct18 : Value}
    {f19 : Addr} {od19 an19 : Option Addr} {sl19 : Array (Option Value)} {oc19 kV19 dc19 pm19 cd19 ct19 : Value}
    {f20 : Addr} {od20 an20 : Option Addr} {sl20 : Array (Option Value)} {oc20 kV20 dc20 pm20 cd20 ct20 : Value}
    {f21 : Addr} {od21 an21 : Option Addr} {sl21 : Array (Option Value)} {oc21 kV21 dc21 pm21 cd21 ct21 : Value}
    {f22 : Addr} {od22 an22 : Option Addr} {sl22 : Array (Option Value)} {oc22 kV22 dc22 pm22 cd22 ct22 : Value}
    {f23 : Addr} {od23 an23 : Option Addr} {sl23 : Array (Option Value)} {oc23 kV23 dc23 pm23 cd23 ct23 : Value}
    {f24 : Addr} {od24 an24 : Option Addr} {sl24 : Array (Option Value)} {oc24 kV24 dc24 pm24 cd24 ct24 : Value}
    {f25 : Addr} {od25 an25 : Option Addr} {sl25 : Array (Option Value)} {oc25 kV25 dc25 pm25 cd25 ct25 : Value}
    {f26 : Addr} {od26 an26 : Option Addr} {sl26 : Array (Option Value)} {oc26 kV26 dc26 pm26 cd26 ct26 : Value}
    {f27 : Addr} {od27 an27 : Option Addr} {sl27 : Array (Option Value)} {oc27 kV27 dc27 pm27 cd27 ct27 : Value}
    {f28 : Addr} {od28 an28 : Option Addr} {sl28 : Array (Option Value)} {oc28 kV28 dc28 pm28 cd28 ct28 : Value}
    {f29 : Addr} {od29 an29 : Option Addr} {sl29 : Array (Option Value)} {oc29 kV29 dc29 pm29 cd29 ct29 : Value}
    {f30 : Addr} {od30 an30 : Option Addr} {sl30 : Array (Option Value)} {oc30 kV30 dc30 pm30 cd30 ct30 : Value}
    {f31 : Addr} {od31 an31 : Option Addr} {sl31 : Array (Option Value)} {oc31 kV31 dc31 pm31 cd31 ct31 : Value}
    {f32 : Addr} {od32 an32 : Option Addr} {sl32 : Array (Option Value)} {oc32 kV32 dc32 pm32 cd32 ct32 : Value}
    {f33 : Addr} {od33 an33 : Option Addr} {sl33 : Array (Option Value)} {oc33 kV33 dc33 pm33 cd33 ct33 : Value}
    {f34 : Addr} {od34 an34 : Option Addr} {sl34 : Array (Option Value)} {oc34 kV34 dc34 pm34 cd34 ct34 : Value}
    {f35 : Addr} {od35 an35 : Option Addr} {sl35 : Array (Option Value)} {oc35 kV35 dc35 pm35 cd35 ct35 : Value}
    {f36 : Addr} {od36 an36 : Option Addr} {sl36 : Array (Option Value)} {oc36 kV36 dc36 pm36 cd36 ct36 : Value}
    {f37 : Addr} {od37 an37 : Option Addr} {sl37 : Array (Option Value)} {oc37 kV37 dc37 pm37 cd37 ct37 : Value}
    {f38 : Addr} {od38 an38 : Option Addr} {sl38 : Array (Option Value)} {oc38 kV38 dc38 pm38 cd38 ct38 : Value}
    {f39 : Addr} {od39 an39 : Option Addr} {sl39 : Array (Option Value)} {oc39 kV39 dc39 pm39 cd39 ct39 : Value}
    {f40 : Addr} {od40 an40 : Option Addr} {sl40 : Array (Option Value)} {oc40 kV40 dc40 pm40 cd40 ct40 : Value}
    {f41 : Addr} {od41 an41 : Option Addr} {sl41 : Array (Option Value)} {oc41 kV41 dc41 pm41 cd41 ct41 : Value}
    {f42 : Addr} {od42 an42 : Option Addr} {sl42 : Array (Option Value)} {oc42 kV42 dc42 pm42 cd42 ct42 : Value}
    {f43 : Addr} {od43 an43 : Option Addr} {sl43 : Array (Option Value)} {oc43 kV43 dc43 pm43 cd43 ct43 : Value}
    {f44 : Addr} {od44 an44 : Option Addr} {sl44 : Array (Option Value)} {oc44 kV44 dc44 pm44 cd44 ct44 : Value}
    {f45 : Addr} {od45 an45 : Option Addr} {sl45 : Array (Option Value)} {oc45 kV45 dc45 pm45 cd45 ct45 : Value}
    {f46 : Addr} {od46 an46 : Option Addr} {sl46 : Array (Option Value)} {oc46 kV46 dc46 pm46 cd46 ct46 : Value}
    {CWalk : Addr}
    {fWalk___init__ : Addr} {odWalk___init__ anWalk___init__ : Option Addr} {slWalk___init__ : Array (Option Value)} {ocWalk___init__ kVWalk___init__ dcWalk___init__ pmWalk___init__ cdWalk___init__ ctWalk___init__ : Value}
    {fWalk_meet : Addr} {odWalk_meet anWalk_meet : Option Addr} {slWalk_meet : Array (Option Value)} {ocWalk_meet kVWalk_meet dcWalk_meet pmWalk_meet cdWalk_meet ctWalk_meet : Value}
    {cWideError : Addr}
    {cNoRow : Addr}
    {cNoPair : Addr}
    {cNoRule : Addr}
    {cNoName : Addr}
    {cNoText : Addr}
    {cTooMany : Addr}
    {cNothing : Addr}
    (a0 : PySem.W.nsIn K mainGlobals "_wall" = some (some (.ref f0)))
    (l0 : K.lookup f0 = some ⟨oc0, od0, .func (PySem.W.fnOf "_wall" "_wall" (defArgs s_wall) (defBody s_wall) (defScope s_wall) .none kV0 dc0 pm0 an0 cd0 ct0), sl0⟩)
    (c0 : PySem.W.codeIn K cd0 "_wall" = true) (k0 : PySem.W.keepIn K (.ref f0) = true)
    (a1 : PySem.W.nsIn K mainGlobals "all_bits" = some (some (.ref f1)))
    (l1 : K.lookup f1 = some ⟨oc1, od1, .func (PySem.W.fnOf "all_bits" "all_bits" (defArgs s_all_bits) (defBody s_all_bits) (defScope s_all_bits) .none kV1 dc1 pm1 an1 cd1 ct1), sl1⟩)
    (c1 : PySem.W.codeIn K cd1 "all_bits" = true) (k1 : PySem.W.keepIn K (.ref f1) = true)
    (a2 : PySem.W.nsIn K mainGlobals "first_carry" = some (some (.ref f2)))
    (l2 : K.lookup f2 = some ⟨oc2, od2, .func (PySem.W.fnOf "first_carry" "first_carry" (defArgs s_first_carry) (defBody s_first_carry) (defScope s_first_carry) .none kV2 dc2 pm2 an2 cd2 ct2), sl2⟩)
    (c2 : PySem.W.codeIn K cd2 "first_carry" = true) (k2 : PySem.W.keepIn K (.ref f2) = true)
    (a3 : PySem.W.nsIn K mainGlobals "deed_bit" = some (some (.ref f3)))
    (l3 : K.lookup f3 = some ⟨oc3, od3, .func (PySem.W.fnOf "deed_bit" "deed_bit" (defArgs s_deed_bit) (defBody s_deed_bit) (defScope s_deed_bit) .none kV3 dc3 pm3 an3 cd3 ct3), sl3⟩)
    (c3 : PySem.W.codeIn K cd3 "deed_bit" = true) (k3 : PySem.W.keepIn K (.ref f3) = true)
    (a4 : PySem.W.nsIn K mainGlobals "bits_of" = some (some (.ref f4)))
    (l4 : K.lookup f4 = some ⟨oc4, od4, .func (PySem.W.fnOf "bits_of" "bits_of" (defArgs s_bits_of) (defBody s_bits_of) (defScope s_bits_of) .none kV4 dc4 pm4 an4 cd4 ct4), sl4⟩)
    (c4 : PySem.W.codeIn K cd4 "bits_of" = true) (k4 : PySem.W.keepIn K (.ref f4) = true)
    (a5 : PySem.W.nsIn K mainGlobals "two_or_more" = some (some (.ref f5)))
    (l5 : K.lookup f5 = some ⟨oc5, od5, .func (PySem.W.fnOf "two_or_more" "two_or_more" (defArgs s_two_or_more) (defBody s_two_or_more) (defScope s_two_or_more) .none kV5 dc5 pm5 an5 cd5 ct5), sl5⟩)
    (c5 : PySem.W.codeIn K cd5 "two_or_more" = true) (k5 : PySem.W.keepIn K (.ref f5) = true)
    (a6 : PySem.W.nsIn K mainGlobals "deed_carry" = some (some (.ref f6)))
    (l6 : K.lookup f6 = some ⟨oc6, od6, .func (PySem.W.fnOf "deed_carry" "deed_carry" (defArgs s_deed_carry) (defBody s_deed_carry) (defScope s_deed_carry) .none kV6 dc6 pm6 an6 cd6 ct6), sl6⟩)
    (c6 : PySem.W.codeIn K cd6 "deed_carry" = true) (k6 : PySem.W.keepIn K (.ref f6) = true)
    (a7 : PySem.W.nsIn K mainGlobals "carry_behind" = some (some (.ref f7)))
    (l7 : K.lookup f7 = some ⟨oc7, od7, .func (PySem.W.fnOf "carry_behind" "carry_behind" (defArgs s_carry_behind) (defBody s_carry_behind) (defScope s_carry_behind) .none kV7 dc7 pm7 an7 cd7 ct7), sl7⟩)
    (c7 : PySem.W.codeIn K cd7 "carry_behind" = true) (k7 : PySem.W.keepIn K (.ref f7) = true)
    (a8 : PySem.W.nsIn K mainGlobals "steps" = some (some (.ref f8)))
    (l8 : K.lookup f8 = some ⟨oc8, od8, .func (PySem.W.fnOf "steps" "steps" (defArgs s_steps) (defBody s_steps) (defScope s_steps) .none kV8 dc8 pm8 an8 cd8 ct8), sl8⟩)
    (c8 : PySem.W.codeIn K cd8 "steps" = true) (k8 : PySem.W.keepIn K (.ref f8) = true)
    (a9 : PySem.W.nsIn K mainGlobals "both_steps" = some (some (.ref f9)))
    (l9 : K.lookup f9 = some ⟨oc9, od9, .func (PySem.W.fnOf "both_steps" "both_steps" (defArgs s_both_steps) (defBody s_both_steps) (defScope s_both_steps) .none kV9 dc9 pm9 an9 cd9 ct9), sl9⟩)
    (c9 : PySem.W.codeIn K cd9 "both_steps" = true) (k9 : PySem.W.keepIn K (.ref f9) = true)
    (a10 : PySem.W.nsIn K mainGlobals "check_pair" = some (some (.ref f10)))
    (l10 : K.lookup f10 = some ⟨oc10, od10, .func (PySem.W.fnOf "check_pair" "check_pair" (defArgs s_check_pair) (defBody s_check_pair) (defScope s_check_pair) .none kV10 dc10 pm10 an10 cd10 ct10), sl10⟩)
    (c10 : PySem.W.codeIn K cd10 "check_pair" = true) (k10 : PySem.W.keepIn K (.ref f10) = true)
    (a11 : PySem.W.nsIn K mainGlobals "whole_machine" = some (some (.ref f11)))
    (l11 : K.lookup f11 = some ⟨oc11, od11, .func (PySem.W.fnOf "whole_machine" "whole_machine" (defArgs s_whole_machine) (defBody s_whole_machine) (defScope s_whole_machine) .none kV11 dc11 pm11 an11 cd11 ct11), sl11⟩)
    (c11 : PySem.W.codeIn K cd11 "whole_machine" = true) (k11 : PySem.W.keepIn K (.ref f11) = true)
    (a12 : PySem.W.nsIn K mainGlobals "numbered" = some (some (.ref f12)))
    (l12 : K.lookup f12 = some ⟨oc12, od12, .func (PySem.W.fnOf "numbered" "numbered" (defArgs s_numbered) (defBody s_numbered) (defScope s_numbered) .none kV12 dc12 pm12 an12 cd12 ct12), sl12⟩)
    (c12 : PySem.W.codeIn K cd12 "numbered" = true) (k12 : PySem.W.keepIn K (.ref f12) = true)
    (a13 : PySem.W.nsIn K mainGlobals "kinds_of_states" = some (some (.ref f13)))
    (l13 : K.lookup f13 = some ⟨oc13, od13, .func (PySem.W.fnOf "kinds_of_states" "kinds_of_states" (defArgs s_kinds_of_states) (defBody s_kinds_of_states) (defScope s_kinds_of_states) .none kV13 dc13 pm13 an13 cd13 ct13), sl13⟩)
    (c13 : PySem.W.codeIn K cd13 "kinds_of_states" = true) (k13 : PySem.W.keepIn K (.ref f13) = true)
    (a14 : PySem.W.nsIn K mainGlobals "least_machine" = some (some (.ref f14)))
    (l14 : K.lookup f14 = some ⟨oc14, od14, .func (PySem.W.fnOf "least_machine" "least_machine" (defArgs s_least_machine) (defBody s_least_machine) (defScope s_least_machine) .none kV14 dc14 pm14 an14 cd14 ct14), sl14⟩)
    (c14 : PySem.W.codeIn K cd14 "least_machine" = true) (k14 : PySem.W.keepIn K (.ref f14) = true)
    (a15 : PySem.W.nsIn K mainGlobals "packed" = some (some (.ref f15)))
    (l15 : K.lookup f15 = some ⟨oc15, od15, .func (PySem.W.fnOf "packed" "packed" (defArgs s_packed) (defBody s_packed) (defScope s_packed) .none kV15 dc15 pm15 an15 cd15 ct15), sl15⟩)
    (c15 : PySem.W.codeIn K cd15 "packed" = true) (k15 : PySem.W.keepIn K (.ref f15) = true)
    (a16 : PySem.W.nsIn K mainGlobals "unpacked" = some (some (.ref f16)))
    (l16 : K.lookup f16 = some ⟨oc16, od16, .func (PySem.W.fnOf "unpacked" "unpacked" (defArgs s_unpacked) (defBody s_unpacked) (defScope s_unpacked) .none kV16 dc16 pm16 an16 cd16 ct16), sl16⟩)
    (c16 : PySem.W.codeIn K cd16 "unpacked" = true) (k16 : PySem.W.keepIn K (.ref f16) = true)
    (a17 : PySem.W.nsIn K mainGlobals "best_ways" = some (some (.ref f17)))
    (l17 : K.lookup f17 = some ⟨oc17, od17, .func (PySem.W.fnOf "best_ways" "best_ways" (defArgs s_best_ways) (defBody s_best_ways) (defScope s_best_ways) .none kV17 dc17 pm17 an17 cd17 ct17), sl17⟩)
    (c17 : PySem.W.codeIn K cd17 "best_ways" = true) (k17 : PySem.W.keepIn K (.ref f17) = true)
    (a18 : PySem.W.nsIn K mainGlobals "greatest" = some (some (.ref f18)))
    (l18 : K.lookup f18 = some ⟨oc18, od18, .func (PySem.W.fnOf "greatest" "greatest" (defArgs s_greatest) (defBody s_greatest) (defScope s_greatest) .none kV18 dc18 pm18 an18 cd18 ct18), sl18⟩)
    (c18 : PySem.W.codeIn K cd18 "greatest" = true) (k18 : PySem.W.keepIn K (.ref f18) = true)
    (a19 : PySem.W.nsIn K mainGlobals "greatest_worth" = some (some (.ref f19)))
    (l19 : K.lookup f19 = some ⟨oc19, od19, .func (PySem.W.fnOf "greatest_worth" "greatest_worth" (defArgs s_greatest_worth) (defBody s_greatest_worth) (defScope s_greatest_worth) .none kV19 dc19 pm19 an19 cd19 ct19), sl19⟩)
    (c19 : PySem.W.codeIn K cd19 "greatest_worth" = true) (k19 : PySem.W.keepIn K (.ref f19) = true)
    (a20 : PySem.W.nsIn K mainGlobals "least_worth" = some (some (.ref f20)))
    (l20 : K.lookup f20 = some ⟨oc20, od20, .func (PySem.W.fnOf "least_worth" "least_worth" (defArgs s_least_worth) (defBody s_least_worth) (defScope s_least_worth) .none kV20 dc20 pm20 an20 cd20 ct20), sl20⟩)
    (c20 : PySem.W.codeIn K cd20 "least_worth" = true) (k20 : PySem.W.keepIn K (.ref f20) = true)
    (a21 : PySem.W.nsIn K mainGlobals "gains_of_both" = some (some (.ref f21)))
    (l21 : K.lookup f21 = some ⟨oc21, od21, .func (PySem.W.fnOf "gains_of_both" "gains_of_both" (defArgs s_gains_of_both) (defBody s_gains_of_both) (defScope s_gains_of_both) .none kV21 dc21 pm21 an21 cd21 ct21), sl21⟩)
    (c21 : PySem.W.codeIn K cd21 "gains_of_both" = true) (k21 : PySem.W.keepIn K (.ref f21) = true)
    (a22 : PySem.W.nsIn K mainGlobals "greatest_ahead" = some (some (.ref f22)))
    (l22 : K.lookup f22 = some ⟨oc22, od22, .func (PySem.W.fnOf "greatest_ahead" "greatest_ahead" (defArgs s_greatest_ahead) (defBody s_greatest_ahead) (defScope s_greatest_ahead) .none kV22 dc22 pm22 an22 cd22 ct22), sl22⟩)
    (c22 : PySem.W.codeIn K cd22 "greatest_ahead" = true) (k22 : PySem.W.keepIn K (.ref f22) = true)
    (a23 : PySem.W.nsIn K mainGlobals "_law_tape" = some (some (.ref f23)))
    (l23 : K.lookup f23 = some ⟨oc23, od23, .func (PySem.W.fnOf "_law_tape" "_law_tape" (defArgs s_law_tape) (defBody s_law_tape) (defScope s_law_tape) .none kV23 dc23 pm23 an23 cd23 ct23), sl23⟩)
    (c23 : PySem.W.codeIn K cd23 "_law_tape" = true) (k23 : PySem.W.keepIn K (.ref f23) = true)
    (a24 : PySem.W.nsIn K mainGlobals "_law_digit" = some (some (.ref f24)))
    (l24 : K.lookup f24 = some ⟨oc24, od24, .func (PySem.W.fnOf "_law_digit" "_law_digit" (defArgs s_law_digit) (defBody s_law_digit) (defScope s_law_digit) .none kV24 dc24 pm24 an24 cd24 ct24), sl24⟩)
    (c24 : PySem.W.codeIn K cd24 "_law_digit" = true) (k24 : PySem.W.keepIn K (.ref f24) = true)
    (a25 : PySem.W.nsIn K mainGlobals "_law_deed" = some (some (.ref f25)))
    (l25 : K.lookup f25 = some ⟨oc25, od25, .func (PySem.W.fnOf "_law_deed" "_law_deed" (defArgs s_law_deed) (defBody s_law_deed) (defScope s_law_deed) .none kV25 dc25 pm25 an25 cd25 ct25), sl25⟩)
    (c25 : PySem.W.codeIn K cd25 "_law_deed" = true) (k25 : PySem.W.keepIn K (.ref f25) = true)
    (a26 : PySem.W.nsIn K mainGlobals "_law_carrying" = some (some (.ref f26)))
    (l26 : K.lookup f26 = some ⟨oc26, od26, .func (PySem.W.fnOf "_law_carrying" "_law_carrying" (defArgs s_law_carrying) (defBody s_law_carrying) (defScope s_law_carrying) .none kV26 dc26 pm26 an26 cd26 ct26), sl26⟩)
    (c26 : PySem.W.codeIn K cd26 "_law_carrying" = true) (k26 : PySem.W.keepIn K (.ref f26) = true)
    (a27 : PySem.W.nsIn K mainGlobals "_law_row" = some (some (.ref f27)))
    (l27 : K.lookup f27 = some ⟨oc27, od27, .func (PySem.W.fnOf "_law_row" "_law_row" (defArgs s_law_row) (defBody s_law_row) (defScope s_law_row) .none kV27 dc27 pm27 an27 cd27 ct27), sl27⟩)
    (c27 : PySem.W.codeIn K cd27 "_law_row" = true) (k27 : PySem.W.keepIn K (.ref f27) = true)
    (a28 : PySem.W.nsIn K mainGlobals "_law_value" = some (some (.ref f28)))
    (l28 : K.lookup f28 = some ⟨oc28, od28, .func (PySem.W.fnOf "_law_value" "_law_value" (defArgs s_law_value) (defBody s_law_value) (defScope s_law_value) .none kV28 dc28 pm28 an28 cd28 ct28), sl28⟩)
    (c28 : PySem.W.codeIn K cd28 "_law_value" = true) (k28 : PySem.W.keepIn K (.ref f28) = true)
    (a29 : PySem.W.nsIn K mainGlobals "_law_values" = some (some (.ref f29)))
    (l29 : K.lookup f29 = some ⟨oc29, od29, .func (PySem.W.fnOf "_law_values" "_law_values" (defArgs s_law_values) (defBody s_law_values) (defScope s_law_values) .none kV29 dc29 pm29 an29 cd29 ct29), sl29⟩)
    (c29 : PySem.W.codeIn K cd29 "_law_values" = true) (k29 : PySem.W.keepIn K (.ref f29) = true)
    (a30 : PySem.W.nsIn K mainGlobals "_law_bit" = some (some (.ref f30)))
    (l30 : K.lookup f30 = some ⟨oc30, od30, .func (PySem.W.fnOf "_law_bit" "_law_bit" (defArgs s_law_bit) (defBody s_law_bit) (defScope s_law_bit) .none kV30 dc30 pm30 an30 cd30 ct30), sl30⟩)
    (c30 : PySem.W.codeIn K cd30 "_law_bit" = true) (k30 : PySem.W.keepIn K (.ref f30) = true)
    (a31 : PySem.W.nsIn K mainGlobals "_law_carry" = some (some (.ref f31)))
    (l31 : K.lookup f31 = some ⟨oc31, od31, .func (PySem.W.fnOf "_law_carry" "_law_carry" (defArgs s_law_carry) (defBody s_law_carry) (defScope s_law_carry) .none kV31 dc31 pm31 an31 cd31 ct31), sl31⟩)
    (c31 : PySem.W.codeIn K cd31 "_law_carry" = true) (k31 : PySem.W.keepIn K (.ref f31) = true)
    (a32 : PySem.W.nsIn K mainGlobals "_law_step" = some (some (.ref f32)))
    (l32 : K.lookup f32 = some ⟨oc32, od32, .func (PySem.W.fnOf "_law_step" "_law_step" (defArgs s_law_step) (defBody s_law_step) (defScope s_law_step) .none kV32 dc32 pm32 an32 cd32 ct32), sl32⟩)
    (c32 : PySem.W.codeIn K cd32 "_law_step" = true) (k32 : PySem.W.keepIn K (.ref f32) = true)
    (a33 : PySem.W.nsIn K mainGlobals "_law_first" = some (some (.ref f33)))
    (l33 : K.lookup f33 = some ⟨oc33, od33, .func (PySem.W.fnOf "_law_first" "_law_first" (defArgs s_law_first) (defBody s_law_first) (defScope s_law_first) .none kV33 dc33 pm33 an33 cd33 ct33), sl33⟩)
    (c33 : PySem.W.codeIn K cd33 "_law_first" = true) (k33 : PySem.W.keepIn K (.ref f33) = true)
    (a34 : PySem.W.nsIn K mainGlobals "_law_bits" = some (some (.ref f34)))
    (l34 : K.lookup f34 = some ⟨oc34, od34, .func (PySem.W.fnOf "_law_bits" "_law_bits" (defArgs s_law_bits) (defBody s_law_bits) (defScope s_law_bits) .none kV34 dc34 pm34 an34 cd34 ct34), sl34⟩)
    (c34 : PySem.W.codeIn K cd34 "_law_bits" = true) (k34 : PySem.W.keepIn K (.ref f34) = true)
    (a35 : PySem.W.nsIn K mainGlobals "_law_rewritten" = some (some (.ref f35)))
    (l35 : K.lookup f35 = some ⟨oc35, od35, .func (PySem.W.fnOf "_law_rewritten" "_law_rewritten" (defArgs s_law_rewritten) (defBody s_law_rewritten) (defScope s_law_rewritten) .none kV35 dc35 pm35 an35 cd35 ct35), sl35⟩)
    (c35 : PySem.W.codeIn K cd35 "_law_rewritten" = true) (k35 : PySem.W.keepIn K (.ref f35) = true)
    (a36 : PySem.W.nsIn K mainGlobals "_law_like" = some (some (.ref f36)))
    (l36 : K.lookup f36 = some ⟨oc36, od36, .func (PySem.W.fnOf "_law_like" "_law_like" (defArgs s_law_like) (defBody s_law_like) (defScope s_law_like) .none kV36 dc36 pm36 an36 cd36 ct36), sl36⟩)
    (c36 : PySem.W.codeIn K cd36 "_law_like" = true) (k36 : PySem.W.keepIn K (.ref f36) = true)
    (a37 : PySem.W.nsIn K mainGlobals "_law_bent" = some (some (.ref f37)))
    (l37 : K.lookup f37 = some ⟨oc37, od37, .func (PySem.W.fnOf "_law_bent" "_law_bent" (defArgs s_law_bent) (defBody s_law_bent) (defScope s_law_bent) .none kV37 dc37 pm37 an37 cd37 ct37), sl37⟩)
    (c37 : PySem.W.codeIn K cd37 "_law_bent" = true) (k37 : PySem.W.keepIn K (.ref f37) = true)
    (a38 : PySem.W.nsIn K mainGlobals "_law_pair" = some (some (.ref f38)))
    (l38 : K.lookup f38 = some ⟨oc38, od38, .func (PySem.W.fnOf "_law_pair" "_law_pair" (defArgs s_law_pair) (defBody s_law_pair) (defScope s_law_pair) .none kV38 dc38 pm38 an38 cd38 ct38), sl38⟩)
    (c38 : PySem.W.codeIn K cd38 "_law_pair" = true) (k38 : PySem.W.keepIn K (.ref f38) = true)
    (a39 : PySem.W.nsIn K mainGlobals "_law_behind" = some (some (.ref f39)))
    (l39 : K.lookup f39 = some ⟨oc39, od39, .func (PySem.W.fnOf "_law_behind" "_law_behind" (defArgs s_law_behind) (defBody s_law_behind) (defScope s_law_behind) .none kV39 dc39 pm39 an39 cd39 ct39), sl39⟩)
    (c39 : PySem.W.codeIn K cd39 "_law_behind" = true) (k39 : PySem.W.keepIn K (.ref f39) = true)
    (a40 : PySem.W.nsIn K mainGlobals "_law_most" = some (some (.ref f40)))
    (l40 : K.lookup f40 = some ⟨oc40, od40, .func (PySem.W.fnOf "_law_most" "_law_most" (defArgs s_law_most) (defBody s_law_most) (defScope s_law_most) .none kV40 dc40 pm40 an40 cd40 ct40), sl40⟩)
    (c40 : PySem.W.codeIn K cd40 "_law_most" = true) (k40 : PySem.W.keepIn K (.ref f40) = true)
    (a41 : PySem.W.nsIn K mainGlobals "_law_told_right" = some (some (.ref f41)))
    (l41 : K.lookup f41 = some ⟨oc41, od41, .func (PySem.W.fnOf "_law_told_right" "_law_told_right" (defArgs s_law_told_right) (defBody s_law_told_right) (defScope s_law_told_right) .none kV41 dc41 pm41 an41 cd41 ct41), sl41⟩)
    (c41 : PySem.W.codeIn K cd41 "_law_told_right" = true) (k41 : PySem.W.keepIn K (.ref f41) = true)
    (a42 : PySem.W.nsIn K mainGlobals "_law_right" = some (some (.ref f42)))
    (l42 : K.lookup f42 = some ⟨oc42, od42, .func (PySem.W.fnOf "_law_right" "_law_right" (defArgs s_law_right) (defBody s_law_right) (defScope s_law_right) .none kV42 dc42 pm42 an42 cd42 ct42), sl42⟩)
    (c42 : PySem.W.codeIn K cd42 "_law_right" = true) (k42 : PySem.W.keepIn K (.ref f42) = true)
    (a43 : PySem.W.nsIn K mainGlobals "_law_kinds" = some (some (.ref f43)))
    (l43 : K.lookup f43 = some ⟨oc43, od43, .func (PySem.W.fnOf "_law_kinds" "_law_kinds" (defArgs s_law_kinds) (defBody s_law_kinds) (defScope s_law_kinds) .none kV43 dc43 pm43 an43 cd43 ct43), sl43⟩)
    (c43 : PySem.W.codeIn K cd43 "_law_kinds" = true) (k43 : PySem.W.keepIn K (.ref f43) = true)
    (a44 : PySem.W.nsIn K mainGlobals "_law_refused" = some (some (.ref f44)))
    (l44 : K.lookup f44 = some ⟨oc44, od44, .func (PySem.W.fnOf "_law_refused" "_law_refused" (defArgs s_law_refused) (defBody s_law_refused) (defScope s_law_refused) .none kV44 dc44 pm44 an44 cd44 ct44), sl44⟩)
    (c44 : PySem.W.codeIn K cd44 "_law_refused" = true) (k44 : PySem.W.keepIn K (.ref f44) = true)
    (a45 : PySem.W.nsIn K mainGlobals "_law_width" = some (some (.ref f45)))
    (l45 : K.lookup f45 = some ⟨oc45, od45, .func (PySem.W.fnOf "_law_width" "_law_width" (defArgs s_law_width) (defBody s_law_width) (defScope s_law_width) .none kV45 dc45 pm45 an45 cd45 ct45), sl45⟩)
    (c45 : PySem.W.codeIn K cd45 "_law_width" = true) (k45 : PySem.W.keepIn K (.ref f45) = true)
    (a46 : PySem.W.nsIn K mainGlobals "law" = some (some (.ref f46)))
    (l46 : K.lookup f46 = some ⟨oc46, od46, .func (PySem.W.fnOf "law" "law" (defArgs s_law) (defBody s_law) (defScope s_law) .none kV46 dc46 pm46 an46 cd46 ct46), sl46⟩)
    (c46 : PySem.W.codeIn K cd46 "law" = true) (k46 : PySem.W.keepIn K (.ref f46) = true)
    (oa_Walk : PySem.W.nsIn K mainGlobals "Walk" = some (some (.ref CWalk)))
    (ma_Walk___init__ : PySem.W.findIn K (.ref CWalk) "__init__" = some (some (.ref fWalk___init__)))
    (mi_Walk___init__ : PySem.W.isFn K (.ref fWalk___init__) = true)
    (ml_Walk___init__ : K.lookup fWalk___init__ = some ⟨ocWalk___init__, odWalk___init__, .func (PySem.W.fnOf "__init__" "Walk.__init__" (defArgs sWalk___init__) (defBody sWalk___init__) (defScope sWalk___init__) .none kVWalk___init__ dcWalk___init__ pmWalk___init__ anWalk___init__ cdWalk___init__ ctWalk___init__), slWalk___init__⟩)
    (mc_Walk___init__ : PySem.W.codeIn K cdWalk___init__ "Walk.__init__" = true)
    (mk_Walk___init__ : PySem.W.keepIn K (.ref fWalk___init__) = true)
    (ma_Walk_meet : PySem.W.findIn K (.ref CWalk) "meet" = some (some (.ref fWalk_meet)))
    (mi_Walk_meet : PySem.W.isFn K (.ref fWalk_meet) = true)
    (ml_Walk_meet : K.lookup fWalk_meet = some ⟨ocWalk_meet, odWalk_meet, .func (PySem.W.fnOf "meet" "Walk.meet" (defArgs sWalk_meet) (defBody sWalk_meet) (defScope sWalk_meet) .none kVWalk_meet dcWalk_meet pmWalk_meet anWalk_meet cdWalk_meet ctWalk_meet), slWalk_meet⟩)
    (mc_Walk_meet : PySem.W.codeIn K cdWalk_meet "Walk.meet" = true)
    (mk_Walk_meet : PySem.W.keepIn K (.ref fWalk_meet) = true)
    (pg_Walk : PySem.W.plainGet K CWalk Str.empty = true)
    (hd_Walk : PySem.W.hasDictIn K CWalk = true)
    (po_Walk : PySem.W.plainOver K CWalk = true)
    (sa_Walk : PySem.W.findIn K (.ref CWalk) "__setattr__" = some (some (.builtin "object.__setattr__")))
    (mk_Walk : PySem.W.makesIn K CWalk = true)
    (kc_Walk : PySem.W.keepIn K (.ref CWalk) = true)
    (na_Walk_met : PySem.W.findIn K (.ref CWalk) "met" = some none)
    (na_Walk_numbers : PySem.W.findIn K (.ref CWalk) "numbers" = some none)
    (na_Walk_ways : PySem.W.findIn K (.ref CWalk) "ways" = some none)
    (a_WideError : PySem.W.nsIn K mainGlobals "WideError" = some (some (.ref cWideError)))
    (x_WideError : PySem.W.excIn K cWideError [.type "ValueError", .type "Exception", .type "BaseException", .type "object"] "ValueError.__new__" = true)
    (k_WideError : PySem.W.keepIn K (.ref cWideError) = true)
    (e1_WideError : PySem.W.findIn K (.ref cWideError) "__getattribute__" = some (some (.builtin "BaseException.__getattribute__")))
    (e2_WideError : PySem.W.findIn K (.ref cWideError) "__getattr__" = some none)
    (e3_WideError : PySem.W.subIn K (.ref cWideError) (.type "BaseException") = some true)
    (e4_WideError : PySem.W.hasDictIn K cWideError = true)
    (e5_WideError : PySem.W.findIn K (.ref cWideError) "__class__" = some (some (.builtin "object.__class__")))
    (e6_WideError : PySem.W.specialIn K (.builtin "object.__class__") "__get__" = some (some (.builtin "getset_descriptor.__get__")))
    (e7_WideError : PySem.W.takesIn K (.builtin "object.__class__") = some true)
    (e8_WideError : PySem.W.mroIn K cWideError (.type "object") = some true)
    (e9_WideError : PySem.W.isClsIn K cWideError = true)
    (e10_WideError : PySem.W.typeIn K (.ref cWideError) = some (.type "type"))
    (e11_WideError : PySem.W.subIn K (.ref cWideError) (.type "ValueError") = some true)
    (a_NoRow : PySem.W.nsIn K mainGlobals "NoRow" = some (some (.ref cNoRow)))
    (x_NoRow : PySem.W.excIn K cNoRow [.type "ValueError", .type "Exception", .type "BaseException", .type "object"] "ValueError.__new__" = true)
    (k_NoRow : PySem.W.keepIn K (.ref cNoRow) = true)
    (e1_NoRow : PySem.W.findIn K (.ref cNoRow) "__getattribute__" = some (some (.builtin "BaseException.__getattribute__")))
    (e2_NoRow : PySem.W.findIn K (.ref cNoRow) "__getattr__" = some none)
    (e3_NoRow : PySem.W.subIn K (.ref cNoRow) (.type "BaseException") = some true)
    (e4_NoRow : PySem.W.hasDictIn K cNoRow = true)
    (e5_NoRow : PySem.W.findIn K (.ref cNoRow) "__class__" = some (some (.builtin "object.__class__")))
    (e6_NoRow : PySem.W.specialIn K (.builtin "object.__class__") "__get__" = some (some (.builtin "getset_descriptor.__get__")))
    (e7_NoRow : PySem.W.takesIn K (.builtin "object.__class__") = some true)
    (e8_NoRow : PySem.W.mroIn K cNoRow (.type "object") = some true)
    (e9_NoRow : PySem.W.isClsIn K cNoRow = true)
    (e10_NoRow : PySem.W.typeIn K (.ref cNoRow) = some (.type "type"))
    (e11_NoRow : PySem.W.subIn K (.ref cNoRow) (.type "ValueError") = some true)
    (a_NoPair : PySem.W.nsIn K mainGlobals "NoPair" = some (some (.ref cNoPair)))
    (x_NoPair : PySem.W.excIn K cNoPair [.type "ValueError", .type "Exception", .type "BaseException", .type "object"] "ValueError.__new__" = true)
    (k_NoPair : PySem.W.keepIn K (.ref cNoPair) = true)
    (e1_NoPair : PySem.W.findIn K (.ref cNoPair) "__getattribute__" = some (some (.builtin "BaseException.__getattribute__")))
    (e2_NoPair : PySem.W.findIn K (.ref cNoPair) "__getattr__" = some none)
    (e3_NoPair : PySem.W.subIn K (.ref cNoPair) (.type "BaseException") = some true)
    (e4_NoPair : PySem.W.hasDictIn K cNoPair = true)
    (e5_NoPair : PySem.W.findIn K (.ref cNoPair) "__class__" = some (some (.builtin "object.__class__")))
    (e6_NoPair : PySem.W.specialIn K (.builtin "object.__class__") "__get__" = some (some (.builtin "getset_descriptor.__get__")))
    (e7_NoPair : PySem.W.takesIn K (.builtin "object.__class__") = some true)
    (e8_NoPair : PySem.W.mroIn K cNoPair (.type "object") = some true)
    (e9_NoPair : PySem.W.isClsIn K cNoPair = true)
    (e10_NoPair : PySem.W.typeIn K (.ref cNoPair) = some (.type "type"))
    (e11_NoPair : PySem.W.subIn K (.ref cNoPair) (.type "ValueError") = some true)
    (a_NoRule : PySem.W.nsIn K mainGlobals "NoRule" = some (some (.ref cNoRule)))
    (x_NoRule : PySem.W.excIn K cNoRule [.type "ValueError", .type "Exception", .type "BaseException", .type "object"] "ValueError.__new__" = true)
    (k_NoRule : PySem.W.keepIn K (.ref cNoRule) = true)
    (e1_NoRule : PySem.W.findIn K (.ref cNoRule) "__getattribute__" = some (some (.builtin "BaseException.__getattribute__")))
    (e2_NoRule : PySem.W.findIn K (.ref cNoRule) "__getattr__" = some none)
    (e3_NoRule : PySem.W.subIn K (.ref cNoRule) (.type "BaseException") = some true)
    (e4_NoRule : PySem.W.hasDictIn K cNoRule = true)
    (e5_NoRule : PySem.W.findIn K (.ref cNoRule) "__class__" = some (some (.builtin "object.__class__")))
    (e6_NoRule : PySem.W.specialIn K (.builtin "object.__class__") "__get__" = some (some (.builtin "getset_descriptor.__get__")))
    (e7_NoRule : PySem.W.takesIn K (.builtin "object.__class__") = some true)
    (e8_NoRule : PySem.W.mroIn K cNoRule (.type "object") = some true)
    (e9_NoRule : PySem.W.isClsIn K cNoRule = true)
    (e10_NoRule : PySem.W.typeIn K (.ref cNoRule) = some (.type "type"))
    (e11_NoRule : PySem.W.subIn K (.ref cNoRule) (.type "ValueError") = some true)
    (a_NoName : PySem.W.nsIn K mainGlobals "NoName" = some (some (.ref cNoName)))
    (x_NoName : PySem.W.excIn K cNoName [.type "ValueError", .type "Exception", .type "BaseException", .type "object"] "ValueError.__new__" = true)
    (k_NoName : PySem.W.keepIn K (.ref cNoName) = true)
    (e1_NoName : PySem.W.findIn K (.ref cNoName) "__getattribute__" = some (some (.builtin "BaseException.__getattribute__")))
    (e2_NoName : PySem.W.findIn K (.ref cNoName) "__getattr__" = some none)
    (e3_NoName : PySem.W.subIn K (.ref cNoName) (.type "BaseException") = some true)
    (e4_NoName : PySem.W.hasDictIn K cNoName = true)
    (e5_NoName : PySem.W.findIn K (.ref cNoName) "__class__" = some (some (.builtin "object.__class__")))
    (e6_NoName : PySem.W.specialIn K (.builtin "object.__class__") "__get__" = some (some (.builtin "getset_descriptor.__get__")))
    (e7_NoName : PySem.W.takesIn K (.builtin "object.__class__") = some true)
    (e8_NoName : PySem.W.mroIn K cNoName (.type "object") = some true)
    (e9_NoName : PySem.W.isClsIn K cNoName = true)
    (e10_NoName : PySem.W.typeIn K (.ref cNoName) = some (.type "type"))
    (e11_NoName : PySem.W.subIn K (.ref cNoName) (.type "ValueError") = some true)
    (a_NoText : PySem.W.nsIn K mainGlobals "NoText" = some (some (.ref cNoText)))
    (x_NoText : PySem.W.excIn K cNoText [.type "ValueError", .type "Exception", .type "BaseException", .type "object"] "ValueError.__new__" = true)
    (k_NoText : PySem.W.keepIn K (.ref cNoText) = true)
    (e1_NoText : PySem.W.findIn K (.ref cNoText) "__getattribute__" = some (some (.builtin "BaseException.__getattribute__")))
    (e2_NoText : PySem.W.findIn K (.ref cNoText) "__getattr__" = some none)
    (e3_NoText : PySem.W.subIn K (.ref cNoText) (.type "BaseException") = some true)
    (e4_NoText : PySem.W.hasDictIn K cNoText = true)
    (e5_NoText : PySem.W.findIn K (.ref cNoText) "__class__" = some (some (.builtin "object.__class__")))
    (e6_NoText : PySem.W.specialIn K (.builtin "object.__class__") "__get__" = some (some (.builtin "getset_descriptor.__get__")))
    (e7_NoText : PySem.W.takesIn K (.builtin "object.__class__") = some true)
    (e8_NoText : PySem.W.mroIn K cNoText (.type "object") = some true)
    (e9_NoText : PySem.W.isClsIn K cNoText = true)
    (e10_NoText : PySem.W.typeIn K (.ref cNoText) = some (.type "type"))
    (e11_NoText : PySem.W.subIn K (.ref cNoText) (.type "ValueError") = some true)
    (a_TooMany : PySem.W.nsIn K mainGlobals "TooMany" = some (some (.ref cTooMany)))
    (x_TooMany : PySem.W.excIn K cTooMany [.type "ValueError", .type "Exception", .type "BaseException", .type "object"] "ValueError.__new__" = true)
    (k_TooMany : PySem.W.keepIn K (.ref cTooMany) = true)
    (e1_TooMany : PySem.W.findIn K (.ref cTooMany) "__getattribute__" = some (some (.builtin "BaseException.__getattribute__")))
    (e2_TooMany : PySem.W.findIn K (.ref cTooMany) "__getattr__" = some none)
    (e3_TooMany : PySem.W.subIn K (.ref cTooMany) (.type "BaseException") = some true)
    (e4_TooMany : PySem.W.hasDictIn K cTooMany = true)
    (e5_TooMany : PySem.W.findIn K (.ref cTooMany) "__class__" = some (some (.builtin "object.__class__")))
    (e6_TooMany : PySem.W.specialIn K (.builtin "object.__class__") "__get__" = some (some (.builtin "getset_descriptor.__get__")))
    (e7_TooMany : PySem.W.takesIn K (.builtin "object.__class__") = some true)
    (e8_TooMany : PySem.W.mroIn K cTooMany (.type "object") = some true)
    (e9_TooMany : PySem.W.isClsIn K cTooMany = true)
    (e10_TooMany : PySem.W.typeIn K (.ref cTooMany) = some (.type "type"))
    (e11_TooMany : PySem.W.subIn K (.ref cTooMany) (.type "ValueError") = some true)
    (a_Nothing : PySem.W.nsIn K mainGlobals "Nothing" = some (some (.ref cNothing)))
    (x_Nothing : PySem.W.excIn K cNothing [.type "ValueError", .type "Exception", .type "BaseException", .type "object"] "ValueError.__new__" = true)
    (k_Nothing : PySem.W.keepIn K (.ref cNothing) = true)
    (e1_Nothing : PySem.W.findIn K (.ref cNothing) "__getattribute__" = some (some (.builtin "BaseException.__getattribute__")))
    (e2_Nothing : PySem.W.findIn K (.ref cNothing) "__getattr__" = some none)
    (e3_Nothing : PySem.W.subIn K (.ref cNothing) (.type "BaseException") = some true)
    (e4_Nothing : PySem.W.hasDictIn K cNothing = true)
    (e5_Nothing : PySem.W.findIn K (.ref cNothing) "__class__" = some (some (.builtin "object.__class__")))
    (e6_Nothing : PySem.W.specialIn K (.builtin "object.__class__") "__get__" = some (some (.builtin "getset_descriptor.__get__")))
    (e7_Nothing : PySem.W.takesIn K (.builtin "object.__class__") = some true)
    (e8_Nothing : PySem.W.mroIn K cNothing (.type "object") = some true)
    (e9_Nothing : PySem.W.isClsIn K cNothing = true)
    (e10_Nothing : PySem.W.typeIn K (.ref cNothing) = some (.type "type"))
    (e11_Nothing : PySem.W.subIn K (.ref cNothing) (.type "ValueError") = some true)
    (s_WideError_WideError : PySem.W.subIn K (.ref cWideError) (.ref cWideError) = some true)
    (s_WideError_NoRow : PySem.W.subIn K (.ref cWideError) (.ref cNoRow) = some false)
    (s_WideError_NoPair : PySem.W.subIn K (.ref cWideError) (.ref cNoPair) = some false)
    (s_WideError_NoRule : PySem.W.subIn K (.ref cWideError) (.ref cNoRule) = some false)
    (s_WideError_NoName : PySem.W.subIn K (.ref cWideError) (.ref cNoName) = some false)
    (s_WideError_NoText : PySem.W.subIn K (.ref cWideError) (.ref cNoText) = some false)
    (s_WideError_TooMany : PySem.W.subIn K (.ref cWideError) (.ref cTooMany) = some false)
    (s_WideError_Nothing : PySem.W.subIn K (.ref cWideError) (.ref cNothing) = some false)
    (s_NoRow_WideError : PySem.W.subIn K (.ref cNoRow) (.ref cWideError) = some true)
    (s_NoRow_NoRow : PySem.W.subIn K (.ref cNoRow) (.ref cNoRow) = some true)
    (s_NoRow_NoPair : PySem.W.subIn K (.ref cNoRow) (.ref cNoPair) = some false)
    (s_NoRow_NoRule : PySem.W.subIn K (.ref cNoRow) (.ref cNoRule) = some false)
    (s_NoRow_NoName : PySem.W.subIn K (.ref cNoRow) (.ref cNoName) = some false)
    (s_NoRow_NoText : PySem.W.subIn K (.ref cNoRow) (.ref cNoText) = some false)
    (s_NoRow_TooMany : PySem.W.subIn K (.ref cNoRow) (.ref cTooMany) = some false)
    (s_NoRow_Nothing : PySem.W.subIn K (.ref cNoRow) (.ref cNothing) = some false)
    (s_NoPair_WideError : PySem.W.subIn K (.ref cNoPair) (.ref cWideError) = some true)
    (s_NoPair_NoRow : PySem.W.subIn K (.ref cNoPair) (.ref cNoRow) = some false)
    (s_NoPair_NoPair : PySem.W.subIn K (.ref cNoPair) (.ref cNoPair) = some true)
    (s_NoPair_NoRule : PySem.W.subIn K (.ref cNoPair) (.ref cNoRule) = some false)
    (s_NoPair_NoName : PySem.W.subIn K (.ref cNoPair) (.ref cNoName) = some false)
    (s_NoPair_NoText : PySem.W.subIn K (.ref cNoPair) (.ref cNoText) = some false)
    (s_NoPair_TooMany : PySem.W.subIn K (.ref cNoPair) (.ref cTooMany) = some false)
    (s_NoPair_Nothing : PySem.W.subIn K (.ref cNoPair) (.ref cNothing) = some false)
    (s_NoRule_WideError : PySem.W.subIn K (.ref cNoRule) (.ref cWideError) = some true)
    (s_NoRule_NoRow : PySem.W.subIn K (.ref cNoRule) (.ref cNoRow) = some false)
    (s_NoRule_NoPair : PySem.W.subIn K (.ref cNoRule) (.ref cNoPair) = some false)
    (s_NoRule_NoRule : PySem.W.subIn K (.ref cNoRule) (.ref cNoRule) = some true)
    (s_NoRule_NoName : PySem.W.subIn K (.ref cNoRule) (.ref cNoName) = some false)
    (s_NoRule_NoText : PySem.W.subIn K (.ref cNoRule) (.ref cNoText) = some false)
    (s_NoRule_TooMany : PySem.W.subIn K (.ref cNoRule) (.ref cTooMany) = some false)
    (s_NoRule_Nothing : PySem.W.subIn K (.ref cNoRule) (.ref cNothing) = some false)
    (s_NoName_WideError : PySem.W.subIn K (.ref cNoName) (.ref cWideError) = some true)
    (s_NoName_NoRow : PySem.W.subIn K (.ref cNoName) (.ref cNoRow) = some false)
    (s_NoName_NoPair : PySem.W.subIn K (.ref cNoName) (.ref cNoPair) = some false)
    (s_NoName_NoRule : PySem.W.subIn K (.ref cNoName) (.ref cNoRule) = some false)
    (s_NoName_NoName : PySem.W.subIn K (.ref cNoName) (.ref cNoName) = some true)
    (s_NoName_NoText : PySem.W.subIn K (.ref cNoName) (.ref cNoText) = some false)
    (s_NoName_TooMany : PySem.W.subIn K (.ref cNoName) (.ref cTooMany) = some false)
    (s_NoName_Nothing : PySem.W.subIn K (.ref cNoName) (.ref cNothing) = some false)
    (s_NoText_WideError : PySem.W.subIn K (.ref cNoText) (.ref cWideError) = some true)
    (s_NoText_NoRow : PySem.W.subIn K (.ref cNoText) (.ref cNoRow) = some false)
    (s_NoText_NoPair : PySem.W.subIn K (.ref cNoText) (.ref cNoPair) = some false)
    (s_NoText_NoRule : PySem.W.subIn K (.ref cNoText) (.ref cNoRule) = some false)
    (s_NoText_NoName : PySem.W.subIn K (.ref cNoText) (.ref cNoName) = some false)
    (s_NoText_NoText : PySem.W.subIn K (.ref cNoText) (.ref cNoText) = some true)
    (s_NoText_TooMany : PySem.W.subIn K (.ref cNoText) (.ref cTooMany) = some false)
    (s_NoText_Nothing : PySem.W.subIn K (.ref cNoText) (.ref cNothing) = some false)
    (s_TooMany_WideError : PySem.W.subIn K (.ref cTooMany) (.ref cWideError) = some true)
    (s_TooMany_NoRow : PySem.W.subIn K (.ref cTooMany) (.ref cNoRow) = some false)
    (s_TooMany_NoPair : PySem.W.subIn K (.ref cTooMany) (.ref cNoPair) = some false)
    (s_TooMany_NoRule : PySem.W.subIn K (.ref cTooMany) (.ref cNoRule) = some false)
    (s_TooMany_NoName : PySem.W.subIn K (.ref cTooMany) (.ref cNoName) = some false)
    (s_TooMany_NoText : PySem.W.subIn K (.ref cTooMany) (.ref cNoText) = some false)
    (s_TooMany_TooMany : PySem.W.subIn K (.ref cTooMany) (.ref cTooMany) = some true)
    (s_TooMany_Nothing : PySem.W.subIn K (.ref cTooMany) (.ref cNothing) = some false)
    (s_Nothing_WideError : PySem.W.subIn K (.ref cNothing) (.ref cWideError) = some true)
    (s_Nothing_NoRow : PySem.W.subIn K (.ref cNothing) (.ref cNoRow) = some false)
    (s_Nothing_NoPair : PySem.W.subIn K (.ref cNothing) (.ref cNoPair) = some false)
    (s_Nothing_NoRule : PySem.W.subIn K (.ref cNothing) (.ref cNoRule) = some false)
    (s_Nothing_NoName : PySem.W.subIn K (.ref cNothing) (.ref cNoName) = some false)
    (s_Nothing_NoText : PySem.W.subIn K (.ref cNothing) (.ref cNoText) = some false)
    (s_Nothing_TooMany : PySem.W.subIn K (.ref cNothing) (.ref cTooMany) = some false)
    (s_Nothing_Nothing : PySem.W.subIn K (.ref cNothing) (.ref cNothing) = some true)
    (z_ValueError : PySem.W.nsIn K mainGlobals "ValueError" = some none)
    (z_abs : PySem.W.nsIn K mainGlobals "abs" = some none)
    (z_bool : PySem.W.nsIn K mainGlobals "bool" = some none)
    (z_enumerate : PySem.W.nsIn K mainGlobals "enumerate" = some none)
    (z_int : PySem.W.nsIn K mainGlobals "int" = some none)
    (z_isinstance : PySem.W.nsIn K mainGlobals "isinstance" = some none)
    (z_len : PySem.W.nsIn K mainGlobals "len" = some none)
    (z_list : PySem.W.nsIn K mainGlobals "list" = some none)
    (z_max : PySem.W.nsIn K mainGlobals "max" = some none)
    (z_min : PySem.W.nsIn K mainGlobals "min" = some none)
    (z_range : PySem.W.nsIn K mainGlobals "range" = some none)
    (z_repr : PySem.W.nsIn K mainGlobals "repr" = some none)
    (z_sorted : PySem.W.nsIn K mainGlobals "sorted" = some none)
    (z_tuple : PySem.W.nsIn K mainGlobals "tuple" = some none)
    (z_zip : PySem.W.nsIn K mainGlobals "zip" = some none)
    : ∀ (s : Shared) (a : Addr) (ns : List Int) (base : Heap) (H : Hp), ns.length ≤ 63 → (∀ z ∈ ns, Builtin.Int.intBits z ≤ 1048576) → Env0 l.prog w K mg base callerA [] s H → SqL K H a (ns.map V.int) →
      codeAny (model l.prog w) callerA (.call (.ref fa) ⟨[.ref a], []⟩) (CR CX0 [] l.prog w H s (fun v _ => v = .bl true) E0) s := by
  have F_wall := fun_mk (st := s_wall) l0 c0 k0
  have b_wall := F_wall.binds (ps := ["k"]) fun _ _ _ _ _ _ us hl => match us, hl with | [_], _ => rfl
  have g_wall := PySem.W.mg_of X G a0
  have F_all_bits := fun_mk (st := s_all_bits) l1 c1 k1
  have b_all_bits := F_all_bits.binds (ps := ["many"]) fun _ _ _ _ _ _ us hl => match us, hl with | [_], _ => rfl
  have g_all_bits := PySem.W.mg_of X G a1
  have F_first_carry := fun_mk (st := s_first_carry) l2 c2 k2
  have b_first_carry := F_first_carry.binds (ps := ["row"]) fun _ _ _ _ _ _ us hl => match us, hl with | [_], _ => rfl
  have g_first_carry := PySem.W.mg_of X G a2
  have F_deed_bit := fun_mk (st := s_deed_bit) l3 c3 k3
  have b_deed_bit := F_deed_bit.binds (ps := ["deed", "held", "told"]) fun _ _ _ _ _ _ us hl => match us, hl with | [_, _, _], _ => rfl
  have g_deed_bit := PySem.W.mg_of X G a3
  have F_bits_of := fun_mk (st := s_bits_of) l4 c4 k4
  have b_bits_of := F_bits_of.binds (ps := ["row", "carry", "bits"]) fun _ _ _ _ _ _ us hl => match us, hl with | [_, _, _], _ => rfl
  have g_bits_of := PySem.W.mg_of X G a4
  have F_two_or_more := fun_mk (st := s_two_or_more) l5 c5 k5
  have b_two_or_more := F_two_or_more.binds (ps := ["one", "other", "third"]) fun _ _ _ _ _ _ us hl => match us, hl with | [_, _, _], _ => rfl
  have g_two_or_more := PySem.W.mg_of X G a5
  have F_deed_carry := fun_mk (st := s_deed_carry) l6 c6 k6
  have b_deed_carry := F_deed_carry.binds (ps := ["deed", "held", "told"]) fun _ _ _ _ _ _ us hl => match us, hl with | [_, _, _], _ => rfl
  have g_deed_carry := PySem.W.mg_of X G a6
  have F_carry_behind := fun_mk (st := s_carry_behind) l7 c7 k7
  have b_carry_behind := F_carry_behind.binds (ps := ["row", "carry", "told"]) fun _ _ _ _ _ _ us hl => match us, hl with | [_, _, _], _ => rfl
  have g_carry_behind := PySem.W.mg_of X G a7
  have F_steps := fun_mk (st := s_steps) l8 c8 k8
  have b_steps := F_steps.binds (ps := ["row", "carry"]) fun _ _ _ _ _ _ us hl => match us, hl with | [_, _], _ => rfl
  have g_steps := PySem.W.mg_of X G a8
  have F_both_steps := fun_mk (st := s_both_steps) l9 c9 k9
  have b_both_steps := F_both_steps.binds (ps := ["ones", "others"]) fun _ _ _ _ _ _ us hl => match us, hl with | [_, _], _ => rfl
  have g_both_steps := PySem.W.mg_of X G a9
  have F_check_pair := fun_mk (st := s_check_pair) l10 c10 k10
  have b_check_pair := F_check_pair.binds (ps := ["row", "other"]) fun _ _ _ _ _ _ us hl => match us, hl with | [_, _], _ => rfl
  have g_check_pair := PySem.W.mg_of X G a10
  have F_whole_machine := fun_mk (st := s_whole_machine) l11 c11 k11
  have b_whole_machine := F_whole_machine.binds (ps := ["row"]) fun _ _ _ _ _ _ us hl => match us, hl with | [_], _ => rfl
  have g_whole_machine := PySem.W.mg_of X G a11
  have F_numbered := fun_mk (st := s_numbered) l12 c12 k12
  have b_numbered := F_numbered.binds (ps := ["looks"]) fun _ _ _ _ _ _ us hl => match us, hl with | [_], _ => rfl
  have g_numbered := PySem.W.mg_of X G a12
  have F_kinds_of_states := fun_mk (st := s_kinds_of_states) l13 c13 k13
  have b_kinds_of_states := F_kinds_of_states.binds (ps := ["machine"]) fun _ _ _ _ _ _ us hl => match us, hl with | [_], _ => rfl
  have g_kinds_of_states := PySem.W.mg_of X G a13
  have F_least_machine := fun_mk (st := s_least_machine) l14 c14 k14
  have b_least_machine := F_least_machine.binds (ps := ["row"]) fun _ _ _ _ _ _ us hl => match us, hl with | [_], _ => rfl
  have g_least_machine := PySem.W.mg_of X G a14
  have F_packed := fun_mk (st := s_packed) l15 c15 k15
  have b_packed := F_packed.binds (ps := ["width", "gain", "bits"]) fun _ _ _ _ _ _ us hl => match us, hl with | [_, _, _], _ => rfl
  have g_packed := PySem.W.mg_of X G a15
  have F_unpacked := fun_mk (st := s_unpacked) l16 c16 k16
  have b_unpacked := F_unpacked.binds (ps := ["many", "width", "number"]) fun _ _ _ _ _ _ us hl => match us, hl with | [_, _, _], _ => rfl
  have g_unpacked := PySem.W.mg_of X G a16
  have F_best_ways := fun_mk (st := s_best_ways) l17 c17 k17
  have b_best_ways := F_best_ways.binds (ps := ["width", "choices", "pairs"]) fun _ _ _ _ _ _ us hl => match us, hl with | [_, _, _], _ => rfl
  have g_best_ways := PySem.W.mg_of X G a17
  have F_greatest := fun_mk (st := s_greatest) l18 c18 k18
  have b_greatest := F_greatest.binds (ps := ["many", "width", "gains"]) fun _ _ _ _ _ _ us hl => match us, hl with | [_, _, _], _ => rfl
  have g_greatest := PySem.W.mg_of X G a18
  have F_greatest_worth := fun_mk (st := s_greatest_worth) l19 c19 k19
  have b_greatest_worth := F_greatest_worth.binds (ps := ["row", "width"]) fun _ _ _ _ _ _ us hl => match us, hl with | [_, _], _ => rfl
  have g_greatest_worth := PySem.W.mg_of X G a19
  have F_least_worth := fun_mk (st := s_least_worth) l20 c20 k20
  have b_least_worth := F_least_worth.binds (ps := ["row", "width"]) fun _ _ _ _ _ _ us hl => match us, hl with | [_, _], _ => rfl
  have g_least_worth := PySem.W.mg_of X G a20
  have F_gains_of_both := fun_mk (st := s_gains_of_both) l21 c21 k21
  have b_gains_of_both := F_gains_of_both.binds (ps := ["row", "other"]) fun _ _ _ _ _ _ us hl => match us, hl with | [_, _], _ => rfl
  have g_gains_of_both := PySem.W.mg_of X G a21
  have F_greatest_ahead := fun_mk (st := s_greatest_ahead) l22 c22 k22
  have b_greatest_ahead := F_greatest_ahead.binds (ps := ["row", "other", "width"]) fun _ _ _ _ _ _ us hl => match us, hl with | [_, _, _], _ => rfl
  have g_greatest_ahead := PySem.W.mg_of X G a22
  have F_law_tape := fun_mk (st := s_law_tape) l23 c23 k23
  have b_law_tape := F_law_tape.binds (ps := ["script", "start"]) fun _ _ _ _ _ _ us hl => match us, hl with | [_, _], _ => rfl
  have g_law_tape := PySem.W.mg_of X G a23
  have F_law_digit := fun_mk (st := s_law_digit) l24 c24 k24
  have b_law_digit := F_law_digit.binds (ps := ["tape", "many"]) fun _ _ _ _ _ _ us hl => match us, hl with | [_, _], _ => rfl
  have g_law_digit := PySem.W.mg_of X G a24
  have F_law_deed := fun_mk (st := s_law_deed) l25 c25 k25
  have b_law_deed := F_law_deed.binds (ps := ["tape", "ahead", "left"]) fun _ _ _ _ _ _ us hl => match us, hl with | [_, _, _], _ => rfl
  have g_law_deed := PySem.W.mg_of X G a25
  have F_law_carrying := fun_mk (st := s_law_carrying) l26 c26 k26
  have b_law_carrying := F_law_carrying.binds (ps := ["deeds"]) fun _ _ _ _ _ _ us hl => match us, hl with | [_], _ => rfl
  have g_law_carrying := PySem.W.mg_of X G a26
  have F_law_row := fun_mk (st := s_law_row) l27 c27 k27
  have b_law_row := F_law_row.binds (ps := ["tape", "many", "most", "left"]) fun _ _ _ _ _ _ us hl => match us, hl with | [_, _, _, _], _ => rfl
  have g_law_row := PySem.W.mg_of X G a27
  have F_law_value := fun_mk (st := s_law_value) l28 c28 k28
  have b_law_value := F_law_value.binds (ps := ["deed", "told", "full"]) fun _ _ _ _ _ _ us hl => match us, hl with | [_, _, _], _ => rfl
  have g_law_value := PySem.W.mg_of X G a28
  have F_law_values := fun_mk (st := s_law_values) l29 c29 k29
  have b_law_values := F_law_values.binds (ps := ["row", "width", "words"]) fun _ _ _ _ _ _ us hl => match us, hl with | [_, _, _], _ => rfl
  have g_law_values := PySem.W.mg_of X G a29
  have F_law_bit := fun_mk (st := s_law_bit) l30 c30 k30
  have b_law_bit := F_law_bit.binds (ps := ["deed", "carry", "bits"]) fun _ _ _ _ _ _ us hl => match us, hl with | [_, _, _], _ => rfl
  have g_law_bit := PySem.W.mg_of X G a30
  have F_law_carry := fun_mk (st := s_law_carry) l31 c31 k31
  have b_law_carry := F_law_carry.binds (ps := ["deed", "carry", "bits"]) fun _ _ _ _ _ _ us hl => match us, hl with | [_, _, _], _ => rfl
  have g_law_carry := PySem.W.mg_of X G a31
  have F_law_step := fun_mk (st := s_law_step) l32 c32 k32
  have b_law_step := F_law_step.binds (ps := ["row", "carry", "bits"]) fun _ _ _ _ _ _ us hl => match us, hl with | [_, _, _], _ => rfl
  have g_law_step := PySem.W.mg_of X G a32
  have F_law_first := fun_mk (st := s_law_first) l33 c33 k33
  have b_law_first := F_law_first.binds (ps := ["row"]) fun _ _ _ _ _ _ us hl => match us, hl with | [_], _ => rfl
  have g_law_first := PySem.W.mg_of X G a33
  have F_law_bits := fun_mk (st := s_law_bits) l34 c34 k34
  have b_law_bits := F_law_bits.binds (ps := ["many"]) fun _ _ _ _ _ _ us hl => match us, hl with | [_], _ => rfl
  have g_law_bits := PySem.W.mg_of X G a34
  have F_law_rewritten := fun_mk (st := s_law_rewritten) l35 c35 k35
  have b_law_rewritten := F_law_rewritten.binds (ps := ["tape", "deed", "at"]) fun _ _ _ _ _ _ us hl => match us, hl with | [_, _, _], _ => rfl
  have g_law_rewritten := PySem.W.mg_of X G a35
  have F_law_like := fun_mk (st := s_law_like) l36 c36 k36
  have b_law_like := F_law_like.binds (ps := ["tape", "row"]) fun _ _ _ _ _ _ us hl => match us, hl with | [_, _], _ => rfl
  have g_law_like := PySem.W.mg_of X G a36
  have F_law_bent := fun_mk (st := s_law_bent) l37 c37 k37
  have b_law_bent := F_law_bent.binds (ps := ["tape", "row"]) fun _ _ _ _ _ _ us hl => match us, hl with | [_, _], _ => rfl
  have g_law_bent := PySem.W.mg_of X G a37
  have F_law_pair := fun_mk (st := s_law_pair) l38 c38 k38
  have b_law_pair := F_law_pair.binds (ps := ["tape", "many"]) fun _ _ _ _ _ _ us hl => match us, hl with | [_, _], _ => rfl
  have g_law_pair := PySem.W.mg_of X G a38
  have F_law_behind := fun_mk (st := s_law_behind) l39 c39 k39
  have b_law_behind := F_law_behind.binds (ps := ["row", "other", "pair"]) fun _ _ _ _ _ _ us hl => match us, hl with | [_, _, _], _ => rfl
  have g_law_behind := PySem.W.mg_of X G a39
  have F_law_most := fun_mk (st := s_law_most) l40 c40 k40
  have b_law_most := F_law_most.binds (ps := ["row", "other", "width"]) fun _ _ _ _ _ _ us hl => match us, hl with | [_, _, _], _ => rfl
  have g_law_most := PySem.W.mg_of X G a40
  have F_law_told_right := fun_mk (st := s_law_told_right) l41 c41 k41
  have b_law_told_right := F_law_told_right.binds (ps := ["row", "width", "found"]) fun _ _ _ _ _ _ us hl => match us, hl with | [_, _, _], _ => rfl
  have g_law_told_right := PySem.W.mg_of X G a41
  have F_law_right := fun_mk (st := s_law_right) l42 c42 k42
  have b_law_right := F_law_right.binds (ps := ["row", "other", "width"]) fun _ _ _ _ _ _ us hl => match us, hl with | [_, _, _], _ => rfl
  have g_law_right := PySem.W.mg_of X G a42
  have F_law_kinds := fun_mk (st := s_law_kinds) l43 c43 k43
  have b_law_kinds := F_law_kinds.binds (ps := ["caught"]) fun _ _ _ _ _ _ us hl => match us, hl with | [_], _ => rfl
  have g_law_kinds := PySem.W.mg_of X G a43
  have F_law_refused := fun_mk (st := s_law_refused) l44 c44 k44
  have b_law_refused := F_law_refused.binds (ps := ["row", "other", "width"]) fun _ _ _ _ _ _ us hl => match us, hl with | [_, _, _], _ => rfl
  have g_law_refused := PySem.W.mg_of X G a44
  have F_law_width := fun_mk (st := s_law_width) l45 c45 k45
  have b_law_width := F_law_width.binds (ps := ["tape", "row", "other"]) fun _ _ _ _ _ _ us hl => match us, hl with | [_, _, _], _ => rfl
  have g_law_width := PySem.W.mg_of X G a45
  have F_law := fun_mk (st := s_law) l46 c46 k46
  have b_law := F_law.binds (ps := ["script"]) fun _ _ _ _ _ _ us hl => match us, hl with | [_], _ => rfl
  obtain rfl : fa = f46 := by
    have e := hfa.symm.trans (PySem.W.mg_of X G a46)
    cases e
    rfl
  have FWalk___init__ := fun_mk (st := sWalk___init__) ml_Walk___init__ mc_Walk___init__ mk_Walk___init__
  have MWalk___init__ : Meth K CWalk "__init__" fWalk___init__ := ⟨ma_Walk___init__, mi_Walk___init__, mk_Walk___init__⟩
  have FWalk_meet := fun_mk (st := sWalk_meet) ml_Walk_meet mc_Walk_meet mk_Walk_meet
  have MWalk_meet : Meth K CWalk "meet" fWalk_meet := ⟨ma_Walk_meet, mi_Walk_meet, mk_Walk_meet⟩
  have TWalk : Cls K CWalk := ⟨pg_Walk, hd_Walk, po_Walk, sa_Walk⟩
  have gWalk := PySem.W.mg_of X G oa_Walk
  have KWalk : Mk K CWalk fWalk___init__ := ⟨mk_Walk, ma_Walk___init__, mi_Walk___init__, kc_Walk⟩
  have g_WideError := PySem.W.mg_of X G a_WideError
  have X_WideError : ExcC K cWideError := ⟨e1_WideError, e2_WideError, e3_WideError, e4_WideError, e5_WideError, e6_WideError, e7_WideError, e8_WideError⟩
  have g_NoRow := PySem.W.mg_of X G a_NoRow
  have X_NoRow : ExcC K cNoRow := ⟨e1_NoRow, e2_NoRow, e3_NoRow, e4_NoRow, e5_NoRow, e6_NoRow, e7_NoRow, e8_NoRow⟩
  have g_NoPair := PySem.W.mg_of X G a_NoPair
  have X_NoPair : ExcC K cNoPair := ⟨e1_NoPair, e2_NoPair, e3_NoPair, e4_NoPair, e5_NoPair, e6_NoPair, e7_NoPair, e8_NoPair⟩
  have g_NoRule := PySem.W.mg_of X G a_NoRule
  have X_NoRule : ExcC K cNoRule := ⟨e1_NoRule, e2_NoRule, e3_NoRule, e4_NoRule, e5_NoRule, e6_NoRule, e7_NoRule, e8_NoRule⟩
  have g_NoName := PySem.W.mg_of X G a_NoName
  have X_NoName : ExcC K cNoName := ⟨e1_NoName, e2_NoName, e3_NoName, e4_NoName, e5_NoName, e6_NoName, e7_NoName, e8_NoName⟩
  have g_NoText := PySem.W.mg_of X G a_NoText
  have X_NoText : ExcC K cNoText := ⟨e1_NoText, e2_NoText, e3_NoText, e4_NoText, e5_NoText, e6_NoText, e7_NoText, e8_NoText⟩
  have g_TooMany := PySem.W.mg_of X G a_TooMany
  have X_TooMany : ExcC K cTooMany := ⟨e1_TooMany, e2_TooMany, e3_TooMany, e4_TooMany, e5_TooMany, e6_TooMany, e7_TooMany, e8_TooMany⟩
  have g_Nothing := PySem.W.mg_of X G a_Nothing
  have X_Nothing : ExcC K cNothing := ⟨e1_Nothing, e2_Nothing, e3_Nothing, e4_Nothing, e5_Nothing, e6_Nothing, e7_Nothing, e8_Nothing⟩
  have t_WideError_WideError := kit_ref e9_WideError e10_WideError s_WideError_WideError s_WideError_WideError
  have t_WideError_NoRow := kit_ref e9_NoRow e10_NoRow s_WideError_NoRow s_NoRow_NoRow
  have t_WideError_NoPair := kit_ref e9_NoPair e10_NoPair s_WideError_NoPair s_NoPair_NoPair
  have t_WideError_NoRule := kit_ref e9_NoRule e10_NoRule s_WideError_NoRule s_NoRule_NoRule
  have t_WideError_NoName := kit_ref e9_NoName e10_NoName s_WideError_NoName s_NoName_NoName
  have t_WideError_NoText := kit_ref e9_NoText e10_NoText s_WideError_NoText s_NoText_NoText
  have t_WideError_TooMany := kit_ref e9_TooMany e10_TooMany s_WideError_TooMany s_TooMany_TooMany
  have t_WideError_Nothing := kit_ref e9_Nothing e10_Nothing s_WideError_Nothing s_Nothing_Nothing
  have v_WideError := kit_ve e11_WideError
  have t_NoRow_WideError := kit_ref e9_WideError e10_WideError s_NoRow_WideError s_WideError_WideError
  have t_NoRow_NoRow := kit_ref e9_NoRow e10_NoRow s_NoRow_NoRow s_NoRow_NoRow
  have t_NoRow_NoPair := kit_ref e9_NoPair e10_NoPair s_NoRow_NoPair s_NoPair_NoPair
  have t_NoRow_NoRule := kit_ref e9_NoRule e10_NoRule s_NoRow_NoRule s_NoRule_NoRule
  have t_NoRow_NoName := kit_ref e9_NoName e10_NoName s_NoRow_NoName s_NoName_NoName
  have t_NoRow_NoText := kit_ref e9_NoText e10_NoText s_NoRow_NoText s_NoText_NoText
  have t_NoRow_TooMany := kit_ref e9_TooMany e10_TooMany s_NoRow_TooMany s_TooMany_TooMany
  have t_NoRow_Nothing := kit_ref e9_Nothing e10_Nothing s_NoRow_Nothing s_Nothing_Nothing
  have v_NoRow := kit_ve e11_NoRow
  have t_NoPair_WideError := kit_ref e9_WideError e10_WideError s_NoPair_WideError s_WideError_WideError
  have t_NoPair_NoRow := kit_ref e9_NoRow e10_NoRow s_NoPair_NoRow s_NoRow_NoRow
  have t_NoPair_NoPair := kit_ref e9_NoPair e10_NoPair s_NoPair_NoPair s_NoPair_NoPair
  have t_NoPair_NoRule := kit_ref e9_NoRule e10_NoRule s_NoPair_NoRule s_NoRule_NoRule
  have t_NoPair_NoName := kit_ref e9_NoName e10_NoName s_NoPair_NoName s_NoName_NoName
  have t_NoPair_NoText := kit_ref e9_NoText e10_NoText s_NoPair_NoText s_NoText_NoText
  have t_NoPair_TooMany := kit_ref e9_TooMany e10_TooMany s_NoPair_TooMany s_TooMany_TooMany
  have t_NoPair_Nothing := kit_ref e9_Nothing e10_Nothing s_NoPair_Nothing s_Nothing_Nothing
  have v_NoPair := kit_ve e11_NoPair
  have t_NoRule_WideError := kit_ref e9_WideError e10_WideError s_NoRule_WideError s_WideError_WideError
  have t_NoRule_NoRow := kit_ref e9_NoRow e10_NoRow s_NoRule_NoRow s_NoRow_NoRow
  have t_NoRule_NoPair := kit_ref e9_NoPair e10_NoPair s_NoRule_NoPair s_NoPair_NoPair
  have t_NoRule_NoRule := kit_ref e9_NoRule e10_NoRule s_NoRule_NoRule s_NoRule_NoRule
  have t_NoRule_NoName := kit_ref e9_NoName e10_NoName s_NoRule_NoName s_NoName_NoName
  have t_NoRule_NoText := kit_ref e9_NoText e10_NoText s_NoRule_NoText s_NoText_NoText
  have t_NoRule_TooMany := kit_ref e9_TooMany e10_TooMany s_NoRule_TooMany s_TooMany_TooMany
  have t_NoRule_Nothing := kit_ref e9_Nothing e10_Nothing s_NoRule_Nothing s_Nothing_Nothing
  have v_NoRule := kit_ve e11_NoRule
  have t_NoName_WideError := kit_ref e9_WideError e10_WideError s_NoName_WideError s_WideError_WideError
  have t_NoName_NoRow := kit_ref e9_NoRow e10_NoRow s_NoName_NoRow s_NoRow_NoRow
  have t_NoName_NoPair := kit_ref e9_NoPair e10_NoPair s_NoName_NoPair s_NoPair_NoPair
  have t_NoName_NoRule := kit_ref e9_NoRule e10_NoRule s_NoName_NoRule s_NoRule_NoRule
  have t_NoName_NoName := kit_ref e9_NoName e10_NoName s_NoName_NoName s_NoName_NoName
  have t_NoName_NoText := kit_ref e9_NoText e10_NoText s_NoName_NoText s_NoText_NoText
  have t_NoName_TooMany := kit_ref e9_TooMany e10_TooMany s_NoName_TooMany s_TooMany_TooMany
  have t_NoName_Nothing := kit_ref e9_Nothing e10_Nothing s_NoName_Nothing s_Nothing_Nothing
  have v_NoName := kit_ve e11_NoName
  have t_NoText_WideError := kit_ref e9_WideError e10_WideError s_NoText_WideError s_WideError_WideError
  have t_NoText_NoRow := kit_ref e9_NoRow e10_NoRow s_NoText_NoRow s_NoRow_NoRow
  have t_NoText_NoPair := kit_ref e9_NoPair e10_NoPair s_NoText_NoPair s_NoPair_NoPair
  have t_NoText_NoRule := kit_ref e9_NoRule e10_NoRule s_NoText_NoRule s_NoRule_NoRule
  have t_NoText_NoName := kit_ref e9_NoName e10_NoName s_NoText_NoName s_NoName_NoName
  have t_NoText_NoText := kit_ref e9_NoText e10_NoText s_NoText_NoText s_NoText_NoText
  have t_NoText_TooMany := kit_ref e9_TooMany e10_TooMany s_NoText_TooMany s_TooMany_TooMany
  have t_NoText_Nothing := kit_ref e9_Nothing e10_Nothing s_NoText_Nothing s_Nothing_Nothing
  have v_NoText := kit_ve e11_NoText
  have t_TooMany_WideError := kit_ref e9_WideError e10_WideError s_TooMany_WideError s_WideError_WideError
  have t_TooMany_NoRow := kit_ref e9_NoRow e10_NoRow s_TooMany_NoRow s_NoRow_NoRow
  have t_TooMany_NoPair := kit_ref e9_NoPair e10_NoPair s_TooMany_NoPair s_NoPair_NoPair
  have t_TooMany_NoRule := kit_ref e9_NoRule e10_NoRule s_TooMany_NoRule s_NoRule_NoRule
  have t_TooMany_NoName := kit_ref e9_NoName e10_NoName s_TooMany_NoName s_NoName_NoName
  have t_TooMany_NoText := kit_ref e9_NoText e10_NoText s_TooMany_NoText s_NoText_NoText
  have t_TooMany_TooMany := kit_ref e9_TooMany e10_TooMany s_TooMany_TooMany s_TooMany_TooMany
  have t_TooMany_Nothing := kit_ref e9_Nothing e10_Nothing s_TooMany_Nothing s_Nothing_Nothing
  have v_TooMany := kit_ve e11_TooMany
  have t_Nothing_WideError := kit_ref e9_WideError e10_WideError s_Nothing_WideError s_WideError_WideError
  have t_Nothing_NoRow := kit_ref e9_NoRow e10_NoRow s_Nothing_NoRow s_NoRow_NoRow
  have t_Nothing_NoPair := kit_ref e9_NoPair e10_NoPair s_Nothing_NoPair s_NoPair_NoPair
  have t_Nothing_NoRule := kit_ref e9_NoRule e10_NoRule s_Nothing_NoRule s_NoRule_NoRule
  have t_Nothing_NoName := kit_ref e9_NoName e10_NoName s_Nothing_NoName s_NoName_NoName
  have t_Nothing_NoText := kit_ref e9_NoText e10_NoText s_Nothing_NoText s_NoText_NoText
  have t_Nothing_TooMany := kit_ref e9_TooMany e10_TooMany s_Nothing_TooMany s_TooMany_TooMany
  have t_Nothing_Nothing := kit_ref e9_Nothing e10_Nothing s_Nothing_Nothing s_Nothing_Nothing
  have v_Nothing := kit_ve e11_Nothing
  have m_ValueError := PySem.W.mg_none_of X G z_ValueError
  have m_abs := PySem.W.mg_none_of X G z_abs
  have m_bool := PySem.W.mg_none_of X G z_bool
  have m_enumerate := PySem.W.mg_none_of X G z_enumerate
  have m_int := PySem.W.mg_none_of X G z_int
  have m_isinstance := PySem.W.mg_none_of X G z_isinstance
  have m_len := PySem.W.mg_none_of X G z_len
  have m_list := PySem.W.mg_none_of X G z_list
  have m_max := PySem.W.mg_none_of X G z_max
  have m_min := PySem.W.mg_none_of X G z_min
  have m_range := PySem.W.mg_none_of X G z_range
  have m_repr := PySem.W.mg_none_of X G z_repr
  have m_sorted := PySem.W.mg_none_of X G z_sorted
  have m_tuple := PySem.W.mg_none_of X G z_tuple
  have m_zip := PySem.W.mg_none_of X G z_zip
  intro s a ns base H hlen hbits e0 hS
  have GT := ok_tape (P := l.prog) (w := w) (mg := mg) (base := base) (k := 0) F_law_tape m_abs m_len
  have GD := ok_digit (P := l.prog) (w := w) (mg := mg) (base := base) (k := 0) F_law_digit
  have GE := ok_td (P := l.prog) (w := w) (mg := mg) (base := base) (k := 0) F_law_deed GD F_law_digit.kp b_law_digit g_law_digit
  have GCr := ok_cr (P := l.prog) (w := w) (mg := mg) (base := base) (k := 0) F_law_carrying m_len
  have GR := ok_tr (P := l.prog) (w := w) (mg := mg) (base := base) (k := 0) F_law_row GD F_law_digit.kp GE F_law_deed.kp GCr F_law_carrying.kp b_law_digit b_law_deed b_law_carrying g_law_digit g_law_deed g_law_carrying m_tuple m_range m_len
  have GBe := ok_be (P := l.prog) (w := w) (mg := mg) (base := base) (k := 0) F_law_bent GD F_law_digit.kp GE F_law_deed.kp b_law_digit b_law_deed g_law_digit g_law_deed m_len
  have GF := ok_fc (P := l.prog) (w := w) (mg := mg) (base := base) (k := 0) F_first_carry m_tuple
  have GDb := ok_db (P := l.prog) (w := w) (mg := mg) (base := base) (k := 0) F_deed_bit
  have GB := ok_bo (P := l.prog) (w := w) (mg := mg) (base := base) (k := 0) F_bits_of GDb F_deed_bit.kp b_deed_bit g_deed_bit m_list m_tuple m_zip
  have GTm := ok_tm (P := l.prog) (w := w) (mg := mg) (base := base) (k := 0) F_two_or_more
  have GDc := ok_dc (P := l.prog) (w := w) (mg := mg) (base := base) (k := 0) F_deed_carry GTm F_two_or_more.kp b_two_or_more g_two_or_more
  have GCb := ok_cb (P := l.prog) (w := w) (mg := mg) (base := base) (k := 0) F_carry_behind GDc F_deed_carry.kp b_deed_carry g_deed_carry m_tuple m_zip
  have GAl := ok_all (P := l.prog) (w := w) (mg := mg) (base := base) (k := 0) F_all_bits m_range
  have GSt := ok_st (P := l.prog) (w := w) (mg := mg) (base := base) (k := 0) F_steps GAl F_all_bits.kp b_all_bits g_all_bits GB F_bits_of.kp b_bits_of g_bits_of GCb F_carry_behind.kp b_carry_behind g_carry_behind
  have WT : WCls K mg CWalk := ⟨TWalk, na_Walk_met, na_Walk_numbers, na_Walk_ways, gWalk⟩
  have bI := FWalk___init__.binds (ps := ["self", "first"]) fun _ _ _ _ _ _ us hl => match us, hl with | [_, _], _ => rfl
  have bM := FWalk_meet.binds (ps := ["self", "thing", "ahead", "bits"]) fun _ _ _ _ _ _ us hl => match us, hl with | [_, _, _, _], _ => rfl
  have GI := ok_wi (P := l.prog) (w := w) (mg := mg) (base := base) (k := 0) FWalk___init__ WT
  have GM := ok_wm (P := l.prog) (w := w) (mg := mg) (base := base) (k := 0) FWalk_meet WT m_len
  have rP : Rai K mg "NoPair" cNoPair := ⟨x_NoPair, g_NoPair, k_NoPair, e3_NoPair, e10_NoPair⟩
  have GCp := ok_cp (P := l.prog) (w := w) (base := base) (k := 0) F_check_pair rP
  have GRw := ok_rw (P := l.prog) (w := w) (mg := mg) (base := base) (k := 0) F_law_rewritten GD F_law_digit.kp b_law_digit g_law_digit
  have GLk := ok_lk (P := l.prog) (w := w) (mg := mg) (base := base) (k := 0) F_law_like GD F_law_digit.kp b_law_digit g_law_digit GRw F_law_rewritten.kp b_law_rewritten g_law_rewritten m_len m_list m_range m_tuple m_enumerate
  have GPr := ok_pr (P := l.prog) (w := w) (mg := mg) (base := base) (k := 0) F_law_pair GD F_law_digit.kp b_law_digit g_law_digit GR F_law_row.kp b_law_row g_law_row GLk F_law_like.kp b_law_like g_law_like GBe F_law_bent.kp b_law_bent g_law_bent
  have GWh := ok_wh (P := l.prog) (w := w) (mg := mg) (base := base) (k := 0) F_whole_machine WT GAl F_all_bits.kp b_all_bits g_all_bits GF F_first_carry.kp b_first_carry g_first_carry GSt F_steps.kp b_steps g_steps KWalk GI bI MWalk_meet GM bM m_len m_zip
  have GN := ok_nu (P := l.prog) (w := w) (mg := mg) (base := base) (k := 0) F_numbered m_len
  have GKi := ok_ki (P := l.prog) (w := w) (mg := mg) (base := base) (k := 0) F_kinds_of_states GN F_numbered.kp b_numbered g_numbered m_max m_tuple m_list m_zip
  have GLm := ok_lm (P := l.prog) (w := w) (mg := mg) (base := base) (k := 0) F_least_machine GWh F_whole_machine.kp b_whole_machine g_whole_machine GKi F_kinds_of_states.kp b_kinds_of_states g_kinds_of_states m_len m_zip
  have GBo := ok_bs (P := l.prog) (w := w) (mg := mg) (base := base) (k := 0) F_both_steps m_zip
  have GPk := ok_pk (P := l.prog) (w := w) (mg := mg) (base := base) (k := 0) F_packed
  have GUp := ok_up (P := l.prog) (w := w) (mg := mg) (base := base) (k := 0) F_unpacked m_range
  have GBw := ok_bw (P := l.prog) (w := w) (mg := mg) (base := base) (k := 0) F_best_ways GPk F_packed.kp b_packed g_packed m_zip m_max m_list
  have GGr := ok_gr (P := l.prog) (w := w) (mg := mg) (base := base) (k := 0) F_greatest GAl F_all_bits.kp b_all_bits g_all_bits GBw F_best_ways.kp b_best_ways g_best_ways GUp F_unpacked.kp b_unpacked g_unpacked m_range m_len m_max
  have GGw := ok_gw (P := l.prog) (w := w) (mg := mg) (base := base) (k := 0) F_greatest_worth GGr F_greatest.kp b_greatest g_greatest GLm F_least_machine.kp b_least_machine g_least_machine
  have GLw := ok_lw (P := l.prog) (w := w) (mg := mg) (base := base) (k := 0) F_least_worth GGr F_greatest.kp b_greatest g_greatest GLm F_least_machine.kp b_least_machine g_least_machine
  have GGn := ok_gn (P := l.prog) (w := w) (mg := mg) (base := base) (k := 0) F_gains_of_both WT GLm F_least_machine.kp b_least_machine g_least_machine GAl F_all_bits.kp b_all_bits g_all_bits GBo F_both_steps.kp b_both_steps g_both_steps KWalk GI bI MWalk_meet GM bM m_len m_zip
  have GGa := ok_ga (P := l.prog) (w := w) (mg := mg) (base := base) (k := 0) F_greatest_ahead GCp F_check_pair.kp b_check_pair g_check_pair GGr F_greatest.kp b_greatest g_greatest GGn F_gains_of_both.kp b_gains_of_both g_gains_of_both
  have GCt := ok_crT (P := l.prog) (w := w) (mg := mg) (base := base) (k := 0) F_law_carrying m_len
  have GWd := ok_wd91 (P := l.prog) (w := w) (mg := mg) (base := base) (k := 0) F_law_width GD F_law_digit.kp b_law_digit g_law_digit GCt F_law_carrying.kp b_law_carrying g_law_carrying
  have GVw := ok_lwV (P := l.prog) (w := w) (mg := mg) (base := base) (k := 0) F_law_value
  have GV := ok_lvs (P := l.prog) (w := w) (mg := mg) (base := base) (k := 0) F_law_values GVw F_law_value.kp b_law_value g_law_value m_list
  have GLb := ok_lb (P := l.prog) (w := w) (mg := mg) (base := base) (k := 0) F_law_bit m_int m_max
  have GLc := ok_lc (P := l.prog) (w := w) (mg := mg) (base := base) (k := 0) F_law_carry m_int
  have GLs := ok_ls (P := l.prog) (w := w) (mg := mg) (base := base) (k := 0) F_law_step GLb F_law_bit.kp b_law_bit g_law_bit GLc F_law_carry.kp b_law_carry g_law_carry m_list m_tuple m_zip
  have GLf := ok_lf (P := l.prog) (w := w) (mg := mg) (base := base) (k := 0) F_law_first m_tuple m_int
  have GAb := ok_abf (P := l.prog) (w := w) (mg := mg) (base := base) (k := 0) F_law_bits m_range m_sorted
  have KX : KP8 K mg cWideError cNoPair cNoName cNoRow cNoRule cNoText cNothing cTooMany := ⟨g_WideError, g_NoPair, g_NoName, g_NoRow, g_NoRule, g_NoText, g_Nothing, g_TooMany, X_NoPair, PySem.W.exm_ref e3_WideError e4_WideError e10_WideError s_NoPair_WideError, t_NoPair_NoName, t_NoPair_NoRow, t_NoPair_NoRule, t_NoPair_NoText, t_NoPair_Nothing, t_NoPair_TooMany, v_NoPair, t_NoPair_NoPair⟩
  have GK8 := ok_k8 (P := l.prog) (w := w) (base := base) (k := 0) F_law_kinds KX m_isinstance m_ValueError
  have GBh := ok_bh90 (P := l.prog) (w := w) (mg := mg) (base := base) (k := 0) F_law_behind GAb F_law_bits.kp b_law_bits g_law_bits GLs F_law_step.kp b_law_step g_law_step
  have GMo := ok_mo90 (P := l.prog) (w := w) (mg := mg) (base := base) (k := 0) F_law_most GLf F_law_first.kp b_law_first g_law_first GBh F_law_behind.kp b_law_behind g_law_behind m_range m_max
  have GTr := ok_tr90 (P := l.prog) (w := w) (mg := mg) (base := base) (k := 0) F_law_told_right GV F_law_values.kp b_law_values g_law_values m_isinstance m_tuple m_list m_len m_int m_bool
  have GRi := ok_ri90 (P := l.prog) (w := w) (mg := mg) (base := base) (k := 0) F_law_right GGw F_greatest_worth.kp b_greatest_worth g_greatest_worth GLw F_least_worth.kp b_least_worth g_least_worth GGa F_greatest_ahead.kp b_greatest_ahead g_greatest_ahead GTr F_law_told_right.kp b_law_told_right g_law_told_right GMo F_law_most.kp b_law_most g_law_most GV F_law_values.kp b_law_values g_law_values
  have GRf := ok_rf90 (P := l.prog) (w := w) (base := base) (k := 0) F_law_refused KX GGa F_greatest_ahead.kp b_greatest_ahead g_greatest_ahead GK8 F_law_kinds.kp b_law_kinds g_law_kinds
  exact law_run F_law b_law GT F_law_tape.kp b_law_tape g_law_tape GD F_law_digit.kp b_law_digit g_law_digit GPr F_law_pair.kp b_law_pair g_law_pair GR F_law_row.kp b_law_row g_law_row GRi F_law_right.kp b_law_right g_law_right GWd F_law_width.kp b_law_width g_law_width GRf F_law_refused.kp b_law_refused g_law_refused m_range m_len m_max m_min m_repr hlen hbits e0 hS
end
end KK
open PySem PySem.W PyProof.Rows
set_option maxHeartbeats 0 in
theorem PySem.Challenge.cw_anywide_k90_greatest_and_least_worths_holds : PySem.Challenge.rw_anywide_k90_greatest_and_least_worths.Holds := by
  w_on; o_law; k_head; (case hw => w_witness2)
  k_fill
  refine AW.walkG (l := PySem.Challenge.rw_anywide_k90_greatest_and_least_worths) (n := 63) rfl (by decide) rfl (fun w h Y => PySem.W.kIn_of Y) ?F
  case F =>
    intro w mg fa h KX G hmg
    refine' KK.all_mk KX G hmg ?a0 ?l0 ?c0 ?k0 ?a1 ?l1 ?c1 ?k1 ?a2 ?l2 ?c2 ?k2 ?a3 ?l3 ?c3 ?k3 ?a4 ?l4 ?c4 ?k4 ?a5 ?l5 ?c5 ?k5 ?a6 ?l6 ?c6 ?k6 ?a7 ?l7 ?c7 ?k7 ?a8 ?l8 ?c8 ?k8 ?a9 ?l9 ?c9 ?k9 ?a10 ?l10 ?c10 ?k10 ?a11 ?l11 ?c11 ?k11 ?a12 ?l12 ?c12 ?k12 ?a13 ?l13 ?c13 ?k13 ?a14 ?l14 ?c14 ?k14 ?a15 ?l15 ?c15 ?k15 ?a16 ?l16 ?c16 ?k16 ?a17 ?l17 ?c17 ?k17 ?a18 ?l18 ?c18 ?k18 ?a19 ?l19 ?c19 ?k19 ?a20 ?l20 ?c20 ?k20 ?a21 ?l21 ?c21 ?k21 ?a22 ?l22 ?c22 ?k22 ?a23 ?l23 ?c23 ?k23 ?a24 ?l24 ?c24 ?k24 ?a25 ?l25 ?c25 ?k25 ?a26 ?l26 ?c26 ?k26 ?a27 ?l27 ?c27 ?k27 ?a28 ?l28 ?c28 ?k28 ?a29 ?l29 ?c29 ?k29 ?a30 ?l30 ?c30 ?k30 ?a31 ?l31 ?c31 ?k31 ?a32 ?l32 ?c32 ?k32 ?a33 ?l33 ?c33 ?k33 ?a34 ?l34 ?c34 ?k34 ?a35 ?l35 ?c35 ?k35 ?a36 ?l36 ?c36 ?k36 ?a37 ?l37 ?c37 ?k37 ?a38 ?l38 ?c38 ?k38 ?a39 ?l39 ?c39 ?k39 ?a40 ?l40 ?c40 ?k40 ?a41 ?l41 ?c41 ?k41 ?a42 ?l42 ?c42 ?k42 ?a43 ?l43 ?c43 ?k43 ?a44 ?l44 ?c44 ?k44 ?a45 ?l45 ?c45 ?k45 ?a46 ?l46 ?c46 ?k46 ?oa_Walk ?ma_Walk___init__ ?mi_Walk___init__ ?ml_Walk___init__ ?mc_Walk___init__ ?mk_Walk___init__ ?ma_Walk_meet ?mi_Walk_meet ?ml_Walk_meet ?mc_Walk_meet ?mk_Walk_meet ?pg_Walk ?hd_Walk ?po_Walk ?sa_Walk ?mk_Walk ?kc_Walk ?na_Walk_met ?na_Walk_numbers ?na_Walk_ways ?a_WideError ?x_WideError ?k_WideError ?e1_WideError ?e2_WideError ?e3_WideError ?e4_WideError ?e5_WideError ?e6_WideError ?e7_WideError ?e8_WideError ?e9_WideError ?e10_WideError ?e11_WideError ?a_NoRow ?x_NoRow ?k_NoRow ?e1_NoRow ?e2_NoRow ?e3_NoRow ?e4_NoRow ?e5_NoRow ?e6_NoRow ?e7_NoRow ?e8_NoRow ?e9_NoRow ?e10_NoRow ?e11_NoRow ?a_NoPair ?x_NoPair ?k_NoPair ?e1_NoPair ?e2_NoPair ?e3_NoPair ?e4_NoPair ?e5_NoPair ?e6_NoPair ?e7_NoPair ?e8_NoPair ?e9_NoPair ?e10_NoPair ?e11_NoPair ?a_NoRule ?x_NoRule ?k_NoRule ?e1_NoRule ?e2_NoRule ?e3_NoRule ?e4_NoRule ?e5_NoRule ?e6_NoRule ?e7_NoRule ?e8_NoRule ?e9_NoRule ?e10_NoRule ?e11_NoRule ?a_NoName ?x_NoName ?k_NoName ?e1_NoName ?e2_NoName ?e3_NoName ?e4_NoName ?e5_NoName ?e6_NoName ?e7_NoName ?e8_NoName ?e9_NoName ?e10_NoName ?e11_NoName ?a_NoText ?x_NoText ?k_NoText ?e1_NoText ?e2_NoText ?e3_NoText ?e4_NoText ?e5_NoText ?e6_NoText ?e7_NoText ?e8_NoText ?e9_NoText ?e10_NoText ?e11_NoText ?a_TooMany ?x_TooMany ?k_TooMany ?e1_TooMany ?e2_TooMany ?e3_TooMany ?e4_TooMany ?e5_TooMany ?e6_TooMany ?e7_TooMany ?e8_TooMany ?e9_TooMany ?e10_TooMany ?e11_TooMany ?a_Nothing ?x_Nothing ?k_Nothing ?e1_Nothing ?e2_Nothing ?e3_Nothing ?e4_Nothing ?e5_Nothing ?e6_Nothing ?e7_Nothing ?e8_Nothing ?e9_Nothing ?e10_Nothing ?e11_Nothing ?s_WideError_WideError ?s_WideError_NoRow ?s_WideError_NoPair ?s_WideError_NoRule ?s_WideError_NoName ?s_WideError_NoText ?s_WideError_TooMany ?s_WideError_Nothing ?s_NoRow_WideError ?s_NoRow_NoRow ?s_NoRow_NoPair ?s_NoRow_NoRule ?s_NoRow_NoName ?s_NoRow_NoText ?s_NoRow_TooMany ?s_NoRow_Nothing ?s_NoPair_WideError ?s_NoPair_NoRow ?s_NoPair_NoPair ?s_NoPair_NoRule ?s_NoPair_NoName ?s_NoPair_NoText ?s_NoPair_TooMany ?s_NoPair_Nothing ?s_NoRule_WideError ?s_NoRule_NoRow ?s_NoRule_NoPair ?s_NoRule_NoRule ?s_NoRule_NoName ?s_NoRule_NoText ?s_NoRule_TooMany ?s_NoRule_Nothing ?s_NoName_WideError ?s_NoName_NoRow ?s_NoName_NoPair ?s_NoName_NoRule ?s_NoName_NoName ?s_NoName_NoText ?s_NoName_TooMany ?s_NoName_Nothing ?s_NoText_WideError ?s_NoText_NoRow ?s_NoText_NoPair ?s_NoText_NoRule ?s_NoText_NoName ?s_NoText_NoText ?s_NoText_TooMany ?s_NoText_Nothing ?s_TooMany_WideError ?s_TooMany_NoRow ?s_TooMany_NoPair ?s_TooMany_NoRule ?s_TooMany_NoName ?s_TooMany_NoText ?s_TooMany_TooMany ?s_TooMany_Nothing ?s_Nothing_WideError ?s_Nothing_NoRow ?s_Nothing_NoPair ?s_Nothing_NoRule ?s_Nothing_NoName ?s_Nothing_NoText ?s_Nothing_TooMany ?s_Nothing_Nothing ?z_ValueError ?z_abs ?z_bool ?z_enumerate ?z_int ?z_isinstance ?z_len ?z_list ?z_max ?z_min ?z_range ?z_repr ?z_sorted ?z_tuple ?z_zip
    (case a0 => k_is)
    (case l0 => k_is)
    (case c0 => k_is)
    (case k0 => k_is)
    (case a1 => k_is)
    (case l1 => k_is)
    (case c1 => k_is)
    (case k1 => k_is)
    (case a2 => k_is)
    (case l2 => k_is)
    (case c2 => k_is)
    (case k2 => k_is)
    (case a3 => k_is)
    (case l3 => k_is)
    (case c3 => k_is)
    (case k3 => k_is)
    (case a4 => k_is)
    (case l4 => k_is)
    (case c4 => k_is)
    (case k4 => k_is)
    (case a5 => k_is)
    (case l5 => k_is)
    (case c5 => k_is)
    (case k5 => k_is)
    (case a6 => k_is)
    (case l6 => k_is)
    (case c6 => k_is)
    (case k6 => k_is)
    (case a7 => k_is)
    (case l7 => k_is)
    (case c7 => k_is)
    (case k7 => k_is)
    (case a8 => k_is)
    (case l8 => k_is)
    (case c8 => k_is)
    (case k8 => k_is)
    (case a9 => k_is)
    (case l9 => k_is)
    (case c9 => k_is)
    (case k9 => k_is)
    (case a10 => k_is)
    (case l10 => k_is)
    (case c10 => k_is)
    (case k10 => k_is)
    (case a11 => k_is)
    (case l11 => k_is)
    (case c11 => k_is)
    (case k11 => k_is)
    (case a12 => k_is)
    (case l12 => k_is)
    (case c12 => k_is)
    (case k12 => k_is)
    (case a13 => k_is)
    (case l13 => k_is)
    (case c13 => k_is)
    (case k13 => k_is)
    (case a14 => k_is)
    (case l14 => k_is)
    (case c14 => k_is)
    (case k14 => k_is)
    (case a15 => k_is)
    (case l15 => k_is)
    (case c15 => k_is)
    (case k15 => k_is)
    (case a16 => k_is)
    (case l16 => k_is)
    (case c16 => k_is)
    (case k16 => k_is)
    (case a17 => k_is)
    (case l17 => k_is)
    (case c17 => k_is)
    (case k17 => k_is)
    (case a18 => k_is)
    (case l18 => k_is)
    (case c18 => k_is)
    (case k18 => k_is)
    (case a19 => k_is)
    (case l19 => k_is)
    (case c19 => k_is)
    (case k19 => k_is)
    (case a20 => k_is)
    (case l20 => k_is)
    (case c20 => k_is)
    (case k20 => k_is)
    (case a21 => k_is)
    (case l21 => k_is)
    (case c21 => k_is)
    (case k21 => k_is)
    (case a22 => k_is)
    (case l22 => k_is)
    (case c22 => k_is)
    (case k22 => k_is)
    (case a23 => k_is)
    (case l23 => k_is)
    (case c23 => k_is)
    (case k23 => k_is)
    (case a24 => k_is)
    (case l24 => k_is)
    (case c24 => k_is)
    (case k24 => k_is)
    (case a25 => k_is)
    (case l25 => k_is)
    (case c25 => k_is)
    (case k25 => k_is)
    (case a26 => k_is)
    (case l26 => k_is)
    (case c26 => k_is)
    (case k26 => k_is)
    (case a27 => k_is)
    (case l27 => k_is)
    (case c27 => k_is)
    (case k27 => k_is)
    (case a28 => k_is)
    (case l28 => k_is)
    (case c28 => k_is)
    (case k28 => k_is)
    (case a29 => k_is)
    (case l29 => k_is)
    (case c29 => k_is)
    (case k29 => k_is)
    (case a30 => k_is)
    (case l30 => k_is)
    (case c30 => k_is)
    (case k30 => k_is)
    (case a31 => k_is)
    (case l31 => k_is)
    (case c31 => k_is)
    (case k31 => k_is)
    (case a32 => k_is)
    (case l32 => k_is)
    (case c32 => k_is)
    (case k32 => k_is)
    (case a33 => k_is)
    (case l33 => k_is)
    (case c33 => k_is)
    (case k33 => k_is)
    (case a34 => k_is)
    (case l34 => k_is)
    (case c34 => k_is)
    (case k34 => k_is)
    (case a35 => k_is)
    (case l35 => k_is)
    (case c35 => k_is)
    (case k35 => k_is)
    (case a36 => k_is)
    (case l36 => k_is)
    (case c36 => k_is)
    (case k36 => k_is)
    (case a37 => k_is)
    (case l37 => k_is)
    (case c37 => k_is)
    (case k37 => k_is)
    (case a38 => k_is)
    (case l38 => k_is)
    (case c38 => k_is)
    (case k38 => k_is)
    (case a39 => k_is)
    (case l39 => k_is)
    (case c39 => k_is)
    (case k39 => k_is)
    (case a40 => k_is)
    (case l40 => k_is)
    (case c40 => k_is)
    (case k40 => k_is)
    (case a41 => k_is)
    (case l41 => k_is)
    (case c41 => k_is)
    (case k41 => k_is)
    (case a42 => k_is)
    (case l42 => k_is)
    (case c42 => k_is)
    (case k42 => k_is)
    (case a43 => k_is)
    (case l43 => k_is)
    (case c43 => k_is)
    (case k43 => k_is)
    (case a44 => k_is)
    (case l44 => k_is)
    (case c44 => k_is)
    (case k44 => k_is)
    (case a45 => k_is)
    (case l45 => k_is)
    (case c45 => k_is)
    (case k45 => k_is)
    (case a46 => k_is)
    (case l46 => k_is)
    (case c46 => k_is)
    (case k46 => k_is)
    (case oa_Walk => k_is)
    (case ma_Walk___init__ => k_is)
    (case mi_Walk___init__ => k_is)
    (case ml_Walk___init__ => k_is)
    (case mc_Walk___init__ => k_is)
    (case mk_Walk___init__ => k_is)
    (case ma_Walk_meet => k_is)
    (case mi_Walk_meet => k_is)
    (case ml_Walk_meet => k_is)
    (case mc_Walk_meet => k_is)
    (case mk_Walk_meet => k_is)
    (case pg_Walk => k_is)
    (case hd_Walk => k_is)
    (case po_Walk => k_is)
    (case sa_Walk => k_is)
    (case mk_Walk => k_is)
    (case kc_Walk => k_is)
    (case na_Walk_met => k_is)
    (case na_Walk_numbers => k_is)
    (case na_Walk_ways => k_is)
    (case a_WideError => k_is)
    (case x_WideError => k_exc)
    (case k_WideError => k_is)
    (case e1_WideError => k_is)
    (case e2_WideError => k_is)
    (case e3_WideError => k_is)
    (case e4_WideError => k_is)
    (case e5_WideError => k_is)
    (case e6_WideError => k_is)
    (case e7_WideError => k_is)
    (case e8_WideError => k_is)
    (case e9_WideError => k_is)
    (case e10_WideError => k_is)
    (case e11_WideError => k_is)
    (case a_NoRow => k_is)
    (case x_NoRow => k_exc)
    (case k_NoRow => k_is)
    (case e1_NoRow => k_is)
    (case e2_NoRow => k_is)
    (case e3_NoRow => k_is)
    (case e4_NoRow => k_is)
    (case e5_NoRow => k_is)
    (case e6_NoRow => k_is)
    (case e7_NoRow => k_is)
    (case e8_NoRow => k_is)
    (case e9_NoRow => k_is)
    (case e10_NoRow => k_is)
    (case e11_NoRow => k_is)
    (case a_NoPair => k_is)
    (case x_NoPair => k_exc)
    (case k_NoPair => k_is)
    (case e1_NoPair => k_is)
    (case e2_NoPair => k_is)
    (case e3_NoPair => k_is)
    (case e4_NoPair => k_is)
    (case e5_NoPair => k_is)
    (case e6_NoPair => k_is)
    (case e7_NoPair => k_is)
    (case e8_NoPair => k_is)
    (case e9_NoPair => k_is)
    (case e10_NoPair => k_is)
    (case e11_NoPair => k_is)
    (case a_NoRule => k_is)
    (case x_NoRule => k_exc)
    (case k_NoRule => k_is)
    (case e1_NoRule => k_is)
    (case e2_NoRule => k_is)
    (case e3_NoRule => k_is)
    (case e4_NoRule => k_is)
    (case e5_NoRule => k_is)
    (case e6_NoRule => k_is)
    (case e7_NoRule => k_is)
    (case e8_NoRule => k_is)
    (case e9_NoRule => k_is)
    (case e10_NoRule => k_is)
    (case e11_NoRule => k_is)
    (case a_NoName => k_is)
    (case x_NoName => k_exc)
    (case k_NoName => k_is)
    (case e1_NoName => k_is)
    (case e2_NoName => k_is)
    (case e3_NoName => k_is)
    (case e4_NoName => k_is)
    (case e5_NoName => k_is)
    (case e6_NoName => k_is)
    (case e7_NoName => k_is)
    (case e8_NoName => k_is)
    (case e9_NoName => k_is)
    (case e10_NoName => k_is)
    (case e11_NoName => k_is)
    (case a_NoText => k_is)
    (case x_NoText => k_exc)
    (case k_NoText => k_is)
    (case e1_NoText => k_is)
    (case e2_NoText => k_is)
    (case e3_NoText => k_is)
    (case e4_NoText => k_is)
    (case e5_NoText => k_is)
    (case e6_NoText => k_is)
    (case e7_NoText => k_is)
    (case e8_NoText => k_is)
    (case e9_NoText => k_is)
    (case e10_NoText => k_is)
    (case e11_NoText => k_is)
    (case a_TooMany => k_is)
    (case x_TooMany => k_exc)
    (case k_TooMany => k_is)
    (case e1_TooMany => k_is)
    (case e2_TooMany => k_is)
    (case e3_TooMany => k_is)
    (case e4_TooMany => k_is)
    (case e5_TooMany => k_is)
    (case e6_TooMany => k_is)
    (case e7_TooMany => k_is)
    (case e8_TooMany => k_is)
    (case e9_TooMany => k_is)
    (case e10_TooMany => k_is)
    (case e11_TooMany => k_is)
    (case a_Nothing => k_is)
    (case x_Nothing => k_exc)
    (case k_Nothing => k_is)
    (case e1_Nothing => k_is)
    (case e2_Nothing => k_is)
    (case e3_Nothing => k_is)
    (case e4_Nothing => k_is)
    (case e5_Nothing => k_is)
    (case e6_Nothing => k_is)
    (case e7_Nothing => k_is)
    (case e8_Nothing => k_is)
    (case e9_Nothing => k_is)
    (case e10_Nothing => k_is)
    (case e11_Nothing => k_is)
    (case s_WideError_WideError => k_is)
    (case s_WideError_NoRow => k_is)
    (case s_WideError_NoPair => k_is)
    (case s_WideError_NoRule => k_is)
    (case s_WideError_NoName => k_is)
    (case s_WideError_NoText => k_is)
    (case s_WideError_TooMany => k_is)
    (case s_WideError_Nothing => k_is)
    (case s_NoRow_WideError => k_is)
    (case s_NoRow_NoRow => k_is)
    (case s_NoRow_NoPair => k_is)
    (case s_NoRow_NoRule => k_is)
    (case s_NoRow_NoName => k_is)
    (case s_NoRow_NoText => k_is)
    (case s_NoRow_TooMany => k_is)
    (case s_NoRow_Nothing => k_is)
    (case s_NoPair_WideError => k_is)
    (case s_NoPair_NoRow => k_is)
    (case s_NoPair_NoPair => k_is)
    (case s_NoPair_NoRule => k_is)
    (case s_NoPair_NoName => k_is)
    (case s_NoPair_NoText => k_is)
    (case s_NoPair_TooMany => k_is)
    (case s_NoPair_Nothing => k_is)
    (case s_NoRule_WideError => k_is)
    (case s_NoRule_NoRow => k_is)
    (case s_NoRule_NoPair => k_is)
    (case s_NoRule_NoRule => k_is)
    (case s_NoRule_NoName => k_is)
    (case s_NoRule_NoText => k_is)
    (case s_NoRule_TooMany => k_is)
    (case s_NoRule_Nothing => k_is)
    (case s_NoName_WideError => k_is)
    (case s_NoName_NoRow => k_is)
    (case s_NoName_NoPair => k_is)
    (case s_NoName_NoRule => k_is)
    (case s_NoName_NoName => k_is)
    (case s_NoName_NoText => k_is)
    (case s_NoName_TooMany => k_is)
    (case s_NoName_Nothing => k_is)
    (case s_NoText_WideError => k_is)
    (case s_NoText_NoRow => k_is)
    (case s_NoText_NoPair => k_is)
    (case s_NoText_NoRule => k_is)
    (case s_NoText_NoName => k_is)
    (case s_NoText_NoText => k_is)
    (case s_NoText_TooMany => k_is)
    (case s_NoText_Nothing => k_is)
    (case s_TooMany_WideError => k_is)
    (case s_TooMany_NoRow => k_is)
    (case s_TooMany_NoPair => k_is)
    (case s_TooMany_NoRule => k_is)
    (case s_TooMany_NoName => k_is)
    (case s_TooMany_NoText => k_is)
    (case s_TooMany_TooMany => k_is)
    (case s_TooMany_Nothing => k_is)
    (case s_Nothing_WideError => k_is)
    (case s_Nothing_NoRow => k_is)
    (case s_Nothing_NoPair => k_is)
    (case s_Nothing_NoRule => k_is)
    (case s_Nothing_NoName => k_is)
    (case s_Nothing_NoText => k_is)
    (case s_Nothing_TooMany => k_is)
    (case s_Nothing_Nothing => k_is)
    (case z_ValueError => k_is)
    (case z_abs => k_is)
    (case z_bool => k_is)
    (case z_enumerate => k_is)
    (case z_int => k_is)
    (case z_isinstance => k_is)
    (case z_len => k_is)
    (case z_list => k_is)
    (case z_max => k_is)
    (case z_min => k_is)
    (case z_range => k_is)
    (case z_repr => k_is)
    (case z_sorted => k_is)
    (case z_tuple => k_is)
    (case z_zip => k_is)
