import PyProof.Rows.All
import Wide.All
import OpenK.AllK
import Wide.FinOn
import PyProof.EqAt
import PyProof.EqKinds
import PyProof.TupleCall
import PyProof.ReprRoads
import PyProof.InstNe
import HandS.ForMost
import HandS.ForExc
import HandS.EndTab
import HandS.HeadHook4
import HandS.HeadWalk
import HandS.Head0
import HandS.Head1
import HandS.Head2
import HandS.ExcIs
import HandS.HotCalls
import HandS.IsInst
import HandS.Zip
import HandS.Walk
import HandS.TupAny
import HandS.Conv
import HandS.Deep
import HandS.OwnEq
import HandS.SetFor
import HandS.Defaults
import HandS.RaiseMore
import HandS.CallSlots
import KE.GoesMore
import HandS.FStr
import HandS.Style
import HandS.Strs
import PySem.Challenge.RW_bestsbook_k01_events_and_marks
set_option Elab.async false
set_option linter.all false
set_option maxRecDepth 100000
set_option maxHeartbeats 2000000
namespace Bb
open PySem PySem.Spec PyProof.Rows L2

/-! repr of data that holds no dict -/
mutual
theorem dp_nodict {K : PySem.W.Frag} {H : Hp} : ∀ (d : PyData) (v : V), Dp K H v d → d.hasDict = false
  | .none, _, _ => rfl
  | .bool _, _, _ => rfl
  | .int _, _, _ => rfl
  | .str _, _, _ => rfl
  | .list ds, _, h => by
    cases h with
    | lst _ ha => exact dpall_nodict ds _ ha
  | .tuple ds, _, h => by
    cases h with
    | tup _ ha => exact dpall_nodict ds _ ha
  | .dict _, _, h => by cases h
theorem dpall_nodict {K : PySem.W.Frag} {H : Hp} : ∀ (ds : List PyData) (vs : List V), DpAll K H vs ds → PyData.hasDictAll ds = false
  | [], _, _ => rfl
  | d :: ds, _, h => by
    cases h with
    | cons h1 h2 =>
      show (PyData.hasDict d || PyData.hasDictAll ds) = false
      rw [dp_nodict d _ h1, dpall_nodict ds _ h2]
      rfl
end
def rRepr (K : PySem.W.Frag) : List V → Hp → VK → Prop := fun xs H Q => ∃ (x : V) (d : PyData), xs = [x] ∧ Dp K H x d ∧ d.showable = true ∧ d.depth ≤ 60 ∧ d.shown.length ≤ sizeLine ∧ Q (.str d.shown) H
theorem call_repr {X : Cx} (hg : X.A.guards = some []) (hu : X.A.units + 64 < cLine) : CallR X (.builtin "repr") (rRepr X.K) := by
  intro pins s σ H xs us Q I r h
  obtain ⟨x, d, rfl, hd, hs, hde, hz, q⟩ := h
  obtain ⟨u, rfl, ru⟩ := vals1 r
  have nd := dp_nodict d x hd
  obtain ⟨as, rd⟩ := Dp.reads I d x u hd ru
  cases hd with
  | non =>
    cases ru
    exact PySem.P.repr_of_none ⟨.str _, H, I.tok _, ⟨_, rfl⟩, q⟩
  | bl b =>
    cases ru
    exact PySem.P.repr_of_bool ⟨.str _, H, I.tok _, ⟨_, rfl⟩, q⟩
  | int i =>
    obtain ⟨t, rfl⟩ := ru
    exact PySem.P.repr_of_int (of_decide_eq_true hs) ⟨.str _, H, I.tok _, ⟨_, rfl⟩, q⟩
  | str z =>
    obtain ⟨t, rfl⟩ := ru
    exact PySem.P.repr_of_str ⟨.str _, H, I.tok _, ⟨_, rfl⟩, q⟩ hz
  | lst h1 h2 =>
    cases ru
    exact repr_of_reads' rd hs (fun z => by rw [nd] at z; cases z) hg (by omega) (fun _ _ e => e) (fun h' u' tk k => ⟨.str _, H, I.kept k, ⟨_, rfl⟩, q⟩) hz
  | tup h1 h2 =>
    cases ru
    exact repr_of_reads' rd hs (fun z => by rw [nd] at z; cases z) hg (by omega) (fun _ _ e => e) (fun h' u' tk k => ⟨.str _, H, I.kept k, ⟨_, rfl⟩, q⟩) hz
end Bb
set_option Elab.async false
set_option linter.all false
set_option maxRecDepth 100000
set_option maxHeartbeats 2000000
namespace Bb
open PySem PySem.Spec PyProof.Rows L2

/-! a def that is run where no repr is under way -/
structure FnG (P : Program) (w : World) (K : PySem.W.Frag) (mg : Str → Option Value) (base : Heap) (CX : CXT) (k : Nat) (f : Addr) (fd : FuncData) (ps : List Str) (sp : Sp) : Prop where
  args : ∀ vs H Q E, sp vs H Q E → vs.length = ps.length
  go : ∀ (A : Around) (outer : List Env) (s : Shared) (H : Hp) (ar : Args) (us : List Value) (vs : List V) (Q : VK) (E : XK), A.guards = some [] → Room k A → Env0 P w K mg base A outer s H → BindsTo s fd ar (ps.zip us) → Vals vs us → sp vs H Q E →
    codeAny (model P w) A (.call (.ref f) ar) (CR CX outer P w H s Q E) s

section
variable {P : Program} {w : World} {K : PySem.W.Frag} {mg : Str → Option Value} {base : Heap} {x qual : Str} {params : Arguments} {body : List Stmt} {scope : Scope} {dvs : List V} {kws : List (Str × V)} {f : Addr} {fd : FuncData}
theorem fnG {CX : CXT} {N ps : List Str} {k : Nat} {sp : Sp} (F : FunD K x qual params body scope dvs kws f fd) (S : FnScope N ps scope) (len : ∀ vs H Q E, sp vs H Q E → vs.length = ps.length)
    (bd : ∀ (cdv : Value) (A : Around) (outer : List Env) (s : Shared) (H : Hp) (vs : List V) (Q : VK) (E : XK), A.guards = some [] → Room k (A.deeper (envOfC qual scope s.heap.objs.size f cdv)) →
      (∀ c, fd.code = .ref c → cdv = .ref c) → sp vs H Q E →
      ∃ t, PSs (cxOf CX P w K mg base N qual scope f cdv A outer s H E) body t ∧ t { nx := fun _ H' => Q .non H', rt := Q } (start N vs) H) : FnG P w K mg base CX (k + 1) f fd ps sp := by
  obtain ⟨oc, od, dV, kV, doc, pm, an, cdv, ct, osl, rfl, lk, hcd, _, _⟩ := F.ex
  refine ⟨len, fun A outer s H ar us vs Q E gd room env bnd vals h => ?_⟩
  exact LamX.run_ofS (N := N) lk hcd S room env bnd vals (len _ _ _ _ h) fun room' => bd cdv A outer s H vs Q E gd room' (fun c e => e) h
end

section
variable {X : Cx} {CX : CXT} {k : Nat} {f : Addr} {fd : FuncData} {ps : List Str} {sp : Sp} {E : XK} {x : Str} {p pos : Pos} {e : Expr} {es : List Expr} {t : TA}
/-- such a def called by its name, all parameters given -/
theorem pe_callG (F : FnG X.prog X.w X.K X.mg X.base CX k f fd ps sp) (gd : X.A.guards = some []) (hr : Room k X.A) (hg : Gl X x) (hm : X.mg x = some (.ref f)) (hk : PySem.W.keepIn X.K (.ref f) = true) (hb : Binds X.K fd ps []) (hx : Passes CX X E)
    (ha : PA X (e :: es) t) (hdb : (x == ("__debug__" : Str)) = false := by decide) (he : starEach (e :: es) X.env = (false, eval e X.env) :: starEach es X.env := by rfl) (hpl : (backTo pos (starEach es X.env)).any (·.1) = false := by rfl) :
    PE X (.Call (.Name x p) (e :: es) [] pos) (tCall sp [] E t) := by
  constructor
  intro pins s σ H Q I h
  refine wpAny_Call_Name_kw (ld_glob I hg hm ?_ hdb)
  refine PySem.W.callWith_K (h₀ := X.base) I.ok.mod.kin hk ?_ he hpl
  refine thn (ha.run pos pins s σ H _ I h) ?_
  rintro us s1 ⟨vs, H1, I1, r, q⟩
  refine ⟨I1.kIn, ?_⟩
  have q' : sp vs H1 Q E := by
    have z : sp (vs ++ []) H1 Q E := q
    rw [List.append_nil] at z
    exact z
  have hl : us.length = ps.length := by
    rw [← r.length]
    exact F.args _ _ _ _ q'
  have bnd := hb s1 us I1.kIn (by rw [List.append_nil]; exact hl)
  rw [List.append_nil] at bnd
  refine wpAny_call (codeAny_mono (F.go X.A X.stack s1 H1 ⟨us, []⟩ us vs Q E gd hr I1.env0 bnd r q') ?_)
  rintro (er | fl) s' hq
  · exact hx pins σ H1 s1 er s' I1 hq
  · cases fl with
    | ret u => exact I1.after hq
    | next => exact hq.elim
    | brk => exact hq.elim
    | cont => exact hq.elim
end

/-! the end of a law row: the script is read, the tables are written, no repr is under way -/
section
variable {P : Program} {w : World} {K : PySem.W.Frag} {mg mb : Str → Option Value} {a : Addr} {cs : List (Addr × Addr)} {s₁ : Shared} {vs : List Value} {ns : List Int}
abbrev scO (vs : List Value) : Obj := { cls := .type "list", data := .seq vs.toArray }
abbrev emptyO : Obj := { cls := .none, data := .fields #[] }
/-- what is tracked at the start -/
def h0 (K : PySem.W.Frag) (T : List Addr) (a : Addr) (vs : List Value) (ns : List Int) : Hp := fun b =>
  if b ∈ T then some (.tbl #[]) else if b = a ∧ (K.lookup a).isNone = true then some (.frz (scO vs) (.lst (ns.map V.int))) else none
theorem h0_cases (K : PySem.W.Frag) (T : List Addr) (a : Addr) (vs : List Value) (ns : List Int) (b : Addr) :
    (h0 K T a vs ns b = none) ∨ (b ∈ T ∧ h0 K T a vs ns b = some (.tbl #[])) ∨ (b = a ∧ K.lookup a = none ∧ h0 K T a vs ns b = some (.frz (scO vs) (.lst (ns.map V.int)))) := by
  unfold h0
  by_cases h1 : b ∈ T
  · rw [if_pos h1]
    exact .inr (.inl ⟨h1, rfl⟩)
  · rw [if_neg h1]
    by_cases h2 : b = a ∧ (K.lookup a).isNone = true
    · rw [if_pos h2]
      exact .inr (.inr ⟨h2.1, Option.isNone_iff_eq_none.mp h2.2, rfl⟩)
    · rw [if_neg h2]
      exact .inl rfl
theorem law_callG {CX : CXT} {k : Nat} {fa : Addr} {fd : FuncData} {x : Str} {sp : Sp}
    (KX : K.In s₁.heap) (hns : s₁.heap.Ns mainGlobals mg) (hb : s₁.heap.Ns builtinsNs mb) (hbb : ∀ x : Str, x ≠ "__name__" → mb x = bootBuiltins x) (hlim : s₁.heap.NoLimit) (hg : s₁.gens = #[])
    (hT : ∀ p ∈ cs, s₁.heap.get? p.2 = some emptyO) (nT : ∀ p ∈ cs, K.lookup p.2 = none) (C : ∀ p ∈ cs, PySem.W.CodeHd s₁.heap p.1 p.2)
    (hbm : ∃ (bm : Addr) (ob : Obj), mg "__builtins__" = some (.ref bm) ∧ bm ≠ builtinsNs ∧ s₁.heap.get? bm = some ob ∧ ob.cls = .type "module" ∧ ob.dict = some builtinsNs ∧ ob.data = .plain)
    (ha : s₁.heap.get? a = some (scO vs)) (hi : IntsAre vs ns) (hl : ns.length ≤ sizeLine) (hr : Room k callerA)
    (F : ∀ base : Heap, K.In base → base.Ns mainGlobals mg → (∀ p ∈ cs, LamX.TabB base mg p.1 p.2) → FnG P w K mg base CX k fa fd [x] sp) (hbind : ∀ (s : Shared) (u : Value), BindsTo s fd ⟨[u], []⟩ [(x, u)])
    (hsp : ∀ H : Hp, (∀ p ∈ cs, H p.2 = some (.tbl #[])) → SqL K H a (ns.map V.int) → sp [.ref a] H (fun v _ => v = .bl true) fun _ _ _ => False)
    (hCX : ∀ H e s', CX [] H s₁ (fun _ _ _ => False) e s' → False) :
    codeAny (model P w) callerA (.call (.ref fa) ⟨[.ref a], []⟩) (fun r s' => r = .ok (.ret (.bool true)) ∧ OldK s₁.heap s'.heap ∧ s'.os = s₁.os ∧ AllBare s'.gens) s₁ := by
  have tbl : ∀ b ∈ cs.map (·.2), s₁.heap.get? b = some emptyO := by
    intro b hm
    obtain ⟨p, hp, rfl⟩ := List.mem_map.mp hm
    exact hT p hp
  have aT : a ∉ cs.map (·.2) := by
    intro hm
    have z := (tbl a hm).symm.trans ha
    injection z with z
    injection z with z1 z2 z3 z4
    cases z1
  let H : Hp := h0 K (cs.map (·.2)) a vs ns
  have hc : ∀ b, H b = none ∨ (b ∈ cs.map (·.2) ∧ H b = some (.tbl #[])) ∨ (b = a ∧ K.lookup a = none ∧ H b = some (.frz (scO vs) (.lst (ns.map V.int)))) := fun b => h0_cases K _ a vs ns b
  have hH : ∀ p ∈ cs, H p.2 = some (.tbl #[]) := fun p hp => by
    show h0 K _ a vs ns p.2 = _
    unfold h0
    rw [if_pos (List.mem_map.mpr ⟨p, hp, rfl⟩)]
  have lenV : vs.length = ns.length := hi.length
  have rv := vals_ints hi
  have sq : SqL K H a (ns.map V.int) := by
    cases hk : K.lookup a with
    | some o =>
      have e := (KX a o hk).symm.trans ha
      injection e with e
      subst e
      exact .inr ⟨_, vs.toArray, _, hk, rfl, rfl, rfl, by rw [List.size_toArray, lenV]; exact hl, by simpa using rv⟩
    | none =>
      refine .inl (.inr ⟨scO vs, ?_⟩)
      show h0 K _ a vs ns a = _
      unfold h0
      rw [if_neg aT, if_pos ⟨rfl, by rw [hk]; rfl⟩]
  have hok : HOk P w H s₁.heap := by
    intro b u e
    rcases hc b with z | ⟨m, z⟩ | ⟨rfl, _, z⟩
    · rw [z] at e
      cases e
    · rw [z] at e
      cases e
      exact tbl b m
    · rw [z] at e
      cases e
      exact ⟨ha, by rw [List.length_map]; exact hl, vs, _, rv, ha⟩
  -- what is no list and no empty table is not tracked
  have other : ∀ {b : Addr} {o : Obj}, s₁.heap.get? b = some o → o.data ≠ Data.seq vs.toArray 0 → o.data ≠ Data.fields #[] → H b = none := by
    intro b o e n1 n2
    rcases hc b with z | ⟨m, _⟩ | ⟨rfl, _, _⟩
    · exact z
    · have q := (tbl b m).symm.trans e
      injection q with q
      subst q
      exact absurd rfl n2
    · have q := ha.symm.trans e
      injection q with q
      subst q
      exact absurd rfl n1
  have down : ∀ {b : Addr} {o : Obj}, s₁.heap.get? b = some o → o.data ≠ Data.seq vs.toArray 0 → o.data ≠ Data.fields #[] → (hidT s₁.heap H).get? b = some o := fun e n1 n2 => hidT_get e (other e n1 n2)
  have nsD : ∀ {b : Addr} {m : Str → Option Value}, s₁.heap.Ns b m → (hidT s₁.heap H).Ns b m := by
    rintro b m ⟨o, es, ep, e, d, r⟩
    refine ⟨o, es, ep, down e ?_ ?_, d, r⟩
    · rw [d]
      intro q
      cases q
    · rw [d]
      intro q
      cases q
  have kin : K.In (hidT s₁.heap H) := by
    intro b o e
    refine hidT_get (KX b o e) ?_
    rcases hc b with z | ⟨m, _⟩ | ⟨rfl, n, _⟩
    · exact z
    · obtain ⟨p, hp, rfl⟩ := List.mem_map.mp m
      rw [nT p hp] at e
      cases e
    · rw [n] at e
      cases e
  have md : L2.Mod K mg (hidT s₁.heap H) := ⟨kin, nsD hns, ⟨mb, nsD hb, hbb⟩, by
    obtain ⟨mc, e1, e2⟩ := hlim
    exact ⟨mc, nsD e1, e2⟩⟩
  have tabs : ∀ p ∈ cs, LamX.TabB (hidT s₁.heap H) mg p.1 p.2 := by
    intro p hp
    constructor
    · obtain ⟨o, us, file, tf, flags, tg, inF, text, tt, g1, g2, g3, g4, g5⟩ := C p hp
      refine ⟨o, us, file, tf, flags, tg, inF, text, tt, down g1 ?_ ?_, g2, g3, g4, g5⟩
      · rw [g3]
        intro q
        cases q
      · rw [g3]
        intro q
        injection q with q
        rw [q] at g4
        simp at g4
    · obtain ⟨bm, ob, b1, b2, b3, b4, b5, b6⟩ := hbm
      refine ⟨bm, ob, b1, b2, ?_, ?_, down b3 ?_ ?_, b4, b5, b6⟩
      · intro q
        obtain ⟨o, es, ep, e, d, _⟩ := hns
        rw [q, e] at b3
        injection b3 with b3
        rw [← b3, d] at b6
        cases b6
      · intro q
        rw [q, hT p hp] at b3
        injection b3 with b3
        rw [← b3] at b6
        cases b6
      · rw [b6]
        intro q
        cases q
      · rw [b6]
        intro q
        cases q
    · intro z
      obtain ⟨o, es, ep, e, d, _⟩ := hns
      rw [z, hT p hp] at e
      injection e with e
      rw [← e] at d
      cases d
  have env : Env0 P w K mg (hidT s₁.heap H) callerA [] s₁ H :=
    { frames := rfl, mod := md, bs := fun b o e => of_hidT e, bsz := Nat.le_of_eq (hidT_size _ _), funs := True.intro, frf := (fun b z => by cases z), hok := hok, bare := .of_eq hg }
  refine codeAny_mono ((F _ kin (nsD hns) tabs).go callerA [] s₁ H ⟨[.ref a], []⟩ [.ref a] [.ref a] _ _ rfl hr env (hbind s₁ (.ref a)) (.cons rfl .nil) (hsp H hH sq)) ?_
  rintro (er | fl) s' h
  · exact (hCX H er s' h).elim
  · cases fl with
    | next => exact h.elim
    | brk => exact h.elim
    | cont => exact h.elim
    | ret u =>
      obtain ⟨v, H', os, bare, un, hok', r', q⟩ := h
      have q' : v = .bl true := q
      subst q'
      obtain rfl : u = Value.bool true := r'
      have same : ∀ b o, b ∉ cs.map (·.2) → s₁.heap.get? b = some o → s'.heap.get? b = some o := by
        intro b o nb e
        rcases hc b with z | ⟨m, _⟩ | ⟨rfl, _, z⟩
        · exact un.keep b o e z (by simp [frs]) (by simp)
        · exact absurd m nb
        · have z2 := un.frzs _ _ _ z
          obtain ⟨e2, _⟩ := hok' _ _ z2
          rw [ha] at e
          rw [← e]
          exact e2
      have grown : ∀ p ∈ cs, ∃ more : Array Value, s'.heap.get? p.2 = some { cls := .none, data := .fields more } := by
        intro p hp
        obtain ⟨more, z⟩ := un.tbls p.2 #[] (hH p hp)
        exact ⟨_, hok' p.2 _ z⟩
      refine ⟨rfl, ⟨fun b o e => ?_, fun b o e => ?_⟩, os, bare⟩
      · by_cases m : b ∈ cs.map (·.2)
        · obtain ⟨p, hp, rfl⟩ := List.mem_map.mp m
          obtain ⟨more, hm⟩ := grown p hp
          have e' := (hT p hp).symm.trans e
          injection e' with e'
          subst e'
          refine .inr (.inl ⟨((C p hp).tab (hT p hp)).isCodeTable, rfl, #[], more, rfl, ?_⟩)
          rw [Array.empty_append]
          exact hm
        · exact .inl (same b o m e)
      · by_cases m : b ∈ cs.map (·.2)
        · obtain ⟨p, hp, rfl⟩ := List.mem_map.mp m
          obtain ⟨more, hm⟩ := grown p hp
          exact ⟨_, hm⟩
        · exact ⟨o, same b o m e⟩
/-- what a law's facts at the head's heap h come to -/
def LawG (l : PySem.W.OpenLaw) (w : World) (K : PySem.W.Frag) (CX : CXT) (k n : Nat) (x : Str) (mg : Str → Option Value) (fa : Addr) (h : Heap) : Prop :=
  ∃ (fd : FuncData) (cs : List (Addr × Addr)) (sp : Sp), (∀ p ∈ cs, h.get? p.2 = some emptyO) ∧ (∀ p ∈ cs, K.lookup p.2 = none) ∧ (∀ p ∈ cs, PySem.W.CodeHd h p.1 p.2) ∧ (∀ (s : Shared) (u : Value), BindsTo s fd ⟨[u], []⟩ [(x, u)]) ∧
    (∀ (H : Hp) (a : Addr) (ns : List Int), ns.length ≤ n → (∀ z ∈ ns, Builtin.Int.intBits z ≤ 1048576) → (∀ p ∈ cs, H p.2 = some (.tbl #[])) → SqL K H a (ns.map V.int) → sp [.ref a] H (fun v _ => v = .bl true) fun _ _ _ => False) ∧
    ∀ base : Heap, K.In base → base.Ns mainGlobals mg → (∀ p ∈ cs, LamX.TabB base mg p.1 p.2) → FnG l.prog w K mg base CX k fa fd [x] sp
theorem walkG {l : PySem.W.OpenLaw} {n k : Nat} {q : Program} {loose : List Str} {XP : (Str → Option Value) → Heap → Prop} {YP : World → Heap → Prop} {d : DefRec} {CX : World → CXT} {x : Str}
    (hn : l.most = some n) (hn2 : n ≤ sizeLine) (hdf : d.params.defaults = []) (hr : Room k callerA)
    (F : ∀ (w : World) (mg : Str → Option Value) (fa : Addr) (h : Heap), YP w h → h.Ns mainGlobals mg → mg d.name = some (.ref fa) → ∃ K : PySem.W.Frag, K.In h ∧ LawG l w K (CX w) k n x mg fa h)
    (hCX : ∀ (w : World) (H : Hp) (s : Shared) (e : Value) (s' : Shared), CX w [] H s (fun _ _ _ => False) e s' → False) :
    PySem.W.WalkO q loose XP YP l.row.toRowW d [] (fun f vs => PySem.call f vs) := by
  refine Att.attach_callB hn hdf ?_
  intro w s₀ s₁ mg mb fa o pm cd doc a vs ns G Y ho hd hcd hmg hobj hints hlen hbits hg
  obtain ⟨K, KX, fd, cs, sp, c1, c2, c3, c4, c5, c6⟩ := F w mg fa _ Y G.T.g hmg
  exact law_callG KX G.T.g G.T.b G.T.builtins G.T.nolimit hg c1 c2 c3 G.T.bmain hobj hints (Nat.le_trans hlen hn2) hr c6 c4 (fun H hH hS => c5 H a ns hlen hbits hH hS) fun H e s' => hCX w H s₁ e s'
end
end Bb
set_option Elab.async false
set_option linter.all false
set_option maxRecDepth 100000
set_option maxHeartbeats 2000000
namespace Bb
open PySem PySem.Spec PyProof.Rows L2

/-! several clauses, each with a name: try: .. except x as n: .. except y as m: .. -/
abbrev Cl : Type := Value × Nat × (Addr → Value → Option Addr → TS)
/-- what the clauses wish of an exception, from the first on -/
def wAll (K : PySem.W.Frag) (Wout : WX) (D : Ends) : List Cl → WX
  | [] => Wout
  | q :: r => wAs K q.1 q.2.1 q.2.2 (wAll K Wout D r) D
inductive Cls2 (X : Cx) : List ExceptHandler → List Cl → Prop
  | nil : Cls2 X [] []
  | cons {x n : Str} {c : Value} {i : Nat} {ts : Addr → Value → Option Addr → TS} {b : Stmt} {su : List Stmt} {np pos' : Pos} {hds : List ExceptHandler} {l : List Cl} (hi : X.N[i]? = some n) (hl : X.env.kindOf n = some .local) (hc : Names X x c)
      (hsu : ∀ (a : Addr) (oe : Obj) (cls : Value) (d : Option Addr) (pn : List (Addr × Obj)), Zc cls d oe → (∃ vs, oe.data = .fields vs) → PSs (X.suite a ((a, oe) :: pn)) (b :: su) (ts a cls d)) (r : Cls2 X hds l) :
      Cls2 X (.ExceptHandler (some (.Name x np)) (some n) (b :: su) pos' :: hds) ((c, i, ts) :: l)
section
variable {X : Cx} {body : List Stmt} {h₁ : ExceptHandler} {hds : List ExceptHandler} {l : List Cl} {pos : Pos} {tb : WX → TS} {Wout : WX}
theorem ps_try_all (hs : X.stack = X.env :: X.outer) (hf : X.env.frame = some X.env.locals) (hN : X.N.Nodup) (tk : Takes X Wout)
    (hb : ∀ (W : WX) (pn : List (Addr × Obj)) (xe : Value → Shared → Prop), Takes (X.tr pn xe) W → PassesOwn (model X.prog X.w) X.A X.env xe → PSs (X.tr pn xe) body (tb W))
    (hh : Cls2 X (h₁ :: hds) l) : PS X (.Try body (h₁ :: hds) [] [] pos) (fun D σ H => tb (wAll X.K Wout D l) D σ H) := by
  constructor
  intro pins s σ H D I h
  have ok := I.ok
  have fr : X.A.frames = some (X.env :: X.outer) := by
    rw [ok.frames, hs]
  refine wpAny_Try_except ?_
  let land : Value → Shared → Prop := fun e s₁ => wpAny (model X.prog X.w) X.A (noteFrame e X.env)
    (fun _ s₂ => wpAny (model X.prog X.w) X.A (setFlight e none) (fun _ s₃ => wpAny (model X.prog X.w) X.A (handleBy e X.env (h₁ :: hds)) (SP X pins D) X.xe s₃) X.xe s₂) X.xe s₁
  have took : Takes (X.tr (X.pn ++ pins) land) (wAll X.K Wout D l) := by
    rintro u s' ⟨a, B, sI, pins', σ', H', cls, d, rfl, J', nb, up, sky, na, os, ag, wish⟩
    have J : Inv X pins σ' H' sI := J'.ofTry ok
    have over : Sky B (X.env :: X.outer) a (Zc cls d) X.env.locals s'.heap := by
      rw [← hs]
      exact sky
    show wpAny (model X.prog X.w) X.A (noteFrame (.ref a) X.env) _ _ _
    refine Sky.land Zc.steady fr hf over ?_
    intro h3 fl up3
    have J3 : Inv X pins σ' H' { s' with heap := h3 } := J.landed nb fl.1 (up.trans up3) os ag
    obtain ⟨oe, vs, ge, ze, de⟩ := fl.there
    have off : a ∉ frs (X.env :: X.outer) := by
      intro hm
      obtain ⟨_, o', e', hnf⟩ := fl.2.2.1.mem hm
      rw [ge] at e'
      cases e'
      exact hnf _ de
    have offL : a ≠ X.env.locals := by
      intro z
      refine off (List.mem_filterMap.mpr ⟨X.env, List.mem_cons_self, ?_⟩)
      rw [hf, z]
    have offF : a ∉ X.fs := by
      intro hm
      obtain ⟨e, he, q⟩ := List.mem_filterMap.mp hm
      exact off (List.mem_filterMap.mpr ⟨e, List.mem_cons_of_mem _ he, q⟩)
    have inS := J3.suite ge de na offL offF
    have looksT : PySem.W.Looks (model X.prog X.w) h3 (typeOf (.ref a)) cls := by
      intro A Q E s k q
      refine wpAny_typeOf_ref (k _ _ ge) ?_
      rw [ze.1]
      exact q
    -- the clauses, one behind the other
    have go : ∀ {hs' : List ExceptHandler} {l' : List Cl}, Cls2 X hs' l' → wAll X.K Wout D l' cls d σ' H' →
        wpAny (model X.prog X.w) X.A (handleBy (.ref a) X.env hs') (SP X pins D) X.xe { s' with heap := h3 } := by
      intro hs' l' ck
      induction ck with
      | nil =>
        intro w
        refine wpAny_handleBy_nil ?_
        obtain ⟨_, _, _, oe1, vs1, T, oT, ts1, g1, z1, d1, t1, _⟩ := id fl
        unfold PySem.passOn
        refine wpAny_bind (wpAny_field g1 d1 t1 ?_)
        rw [if_neg (by simp)]
        have last : wpAny (model X.prog X.w) X.A (setFlight (.ref a) X.env.frame) (fun _ s4 => wpAny (model X.prog X.w) X.A (throw (.ref a) : Sem Flow) (SP X pins D) X.xe s4) X.xe { s' with heap := h3 } := by
          rw [hf]
          refine HandSPX.setFlight_upZ fl ?_
          intro h4 held up4
          refine wpAny_throw (tk _ _ ⟨a, B, sI, pins, σ', H', cls, d, rfl, J, nb, (up.trans up3).trans up4, .inr (.inr ?_), na, os, ag, w⟩)
          rw [hs]
          exact held
        first
          | exact wpAny_bind (wpAny_pure (wpAny_bind last))
          | exact wpAny_bind last
      | @cons x n c i ts b su np pos' hds2 l2 hi hl hc hsu r ih =>
        intro w
        have w' : wAs X.K c i ts (wAll X.K Wout D l2) D cls d σ' H' := w
        obtain ⟨t, ht, yes, no⟩ := w'
        refine wpAny_handleBy_cons (codeAny_handlers_test ?_) (by intro q; cases q)
        have asked := PySem.W.exm_one (M := model X.prog X.w) J3.kIn looksT ht
        have name : ∀ {Q : Value → Shared → Prop} {E : Value → Shared → Prop}, Q c { s' with heap := h3 } → wpAny (model X.prog X.w) (X.A.mark (some (.ref a))) (eval (.Name x np) X.env) Q E { s' with heap := h3 } := by
          intro Q E q
          rcases hc with ⟨g, db, m | ⟨m, v, nn⟩⟩
          · exact ld_glob (X := X.suite a ((a, oe) :: (X.pn ++ pins))) inS g m q db
          · exact ld_blt (X := X.suite a ((a, oe) :: (X.pn ++ pins))) inS g m v q nn db
        refine name (asked.here ?_)
        cases t with
        | false => exact ih (no rfl)
        | true =>
          refine codeAny_handlers_suite_as ?_
          refine HandSPX.lands_againZ fl ?_
          intro h4 fl4 up4
          have J4 : Inv X pins σ' H' { s' with heap := h4 } := J.landed nb fl4.1 ((up.trans up3).trans up4) os ag
          obtain ⟨oe4, vs4, g4, z4, d4⟩ := fl4.there
          refine store_ok (X := X.suite a ((a, oe4) :: (X.pn ++ pins))) (v := .ref a) (J4.suite g4 d4 na offL offF) hN hi (.inl hl) rfl ?_ (.inr hl)
          intro s5 S5
          refine wpAny_mono ((hsu a oe4 cls d (X.pn ++ pins) z4 ⟨_, d4⟩).run [] s5 _ H' _ S5 (yes rfl a na)) ?_ (fun _ _ z => z.elim)
          have gone : ∀ {s6 : Shared} {σ6 : L2.St} {H6 : Hp} {Q : Shared → Prop}, Inv (X.suite a ((a, oe4) :: (X.pn ++ pins))) [] σ6 H6 s6 → (∀ s7, Inv X pins (σ6.set i none) H6 s7 → Q s7) →
              wpAny (model X.prog X.w) X.A (do bindName X.env n .none; unbindBehindTheSuite X.env n pos') (fun _ s7 => Q s7) X.xe s6 := fun S6 q => gone_ok (S6.unsuite ok) hN hi hl q
          intro f s6 sp
          cases f with
          | next =>
            obtain ⟨σ6, H6, S6, q6⟩ := sp
            exact gone S6 (fun s7 J7 => ⟨_, _, J7, q6⟩)
          | brk =>
            obtain ⟨σ6, H6, S6, q6⟩ := sp
            exact gone S6 (fun s7 J7 => ⟨_, _, J7, q6⟩)
          | cont =>
            obtain ⟨σ6, H6, S6, q6⟩ := sp
            exact gone S6 (fun s7 J7 => ⟨_, _, J7, q6⟩)
          | ret u =>
            obtain ⟨v6, σ6, H6, S6, r6, q6⟩ := sp
            exact gone S6 (fun s7 J7 => ⟨_, _, _, J7, r6, q6⟩)
    exact go hh wish
  refine wpAny_mono ((hb _ (X.pn ++ pins) land took PassesOwn.looking).run [] s σ H D (I.toTry _) h) ?_ (fun e s1 he => he)
  intro f s1 sp
  cases f with
  | next =>
    obtain ⟨σ1, H1, J1, q⟩ := sp
    exact wpAny_execs_nil ⟨σ1, H1, J1.ofTry ok, q⟩
  | brk =>
    obtain ⟨σ1, H1, J1, q⟩ := sp
    exact ⟨σ1, H1, J1.ofTry ok, q⟩
  | cont =>
    obtain ⟨σ1, H1, J1, q⟩ := sp
    exact ⟨σ1, H1, J1.ofTry ok, q⟩
  | ret u =>
    obtain ⟨v1, σ1, H1, J1, r, q⟩ := sp
    exact ⟨v1, σ1, H1, J1.ofTry ok, r, q⟩
end

/-! a def that is handed the exception of an except clause, in the clause's suite -/
section
variable {P : Program} {w : World} {K : PySem.W.Frag} {mg : Str → Option Value} {base : Heap}
/-- called with the exception at a, whose object is oe, it hands back z and leaves all as it was -/
structure FnE (P : Program) (w : World) (K : PySem.W.Frag) (mg : Str → Option Value) (base : Heap) (k : Nat) (f : Addr) (fd : FuncData) (ps : List Str) (D : Addr) (z : V) : Prop where
  one : ps.length = 1
  go : ∀ (A : Around) (outer : List Env) (s : Shared) (H : Hp) (ar : Args) (a : Addr) (oe : Obj) (Q : VK), L2H.RoomH k A → L2H.PinOk outer H s (a, oe) → Zc (.ref D) none oe → (∃ vs, oe.data = .fields vs) → Env0 P w K mg base A outer s H →
    BindsTo s fd ar (ps.zip [.ref a]) → (∀ H', (∀ b o, H b = some o → H' b = some o) → Q z H') → codeAny (model P w) A (.call (.ref f) ar) (CR (fun _ _ _ _ _ _ => False) outer P w H s Q (fun _ _ _ => False)) s
theorem fnE {x qual : Str} {params : Arguments} {body : List Stmt} {scope : Scope} {dvs : List V} {kws : List (Str × V)} {f : Addr} {fd : FuncData} {N : List Str} {p1 : Str} {k : Nat} {D : Addr} {z : V} (F : FunD K x qual params body scope dvs kws f fd) (S : FnScope N [p1] scope)
    (bd : ∀ (cdv : Value) (A : Around) (outer : List Env) (s : Shared) (H : Hp) (a : Addr) (oe : Obj) (Q : VK), L2H.RoomH k (A.deeper (envOfC qual scope s.heap.objs.size f cdv)) → Zc (.ref D) none oe → (∃ vs, oe.data = .fields vs) → (∀ H', (∀ b o, H b = some o → H' b = some o) → Q z H') →
      ∃ t, PSs (L2H.cxH (fun _ _ _ _ _ _ => False) P w K mg base N qual scope f cdv A outer s H (fun _ _ _ => False) (a, oe)) body t ∧ t { nx := fun _ H' => Q .non H', rt := Q } (start N [.ref a]) H) : FnE P w K mg base (k + 1) f fd [p1] D z := by
  obtain ⟨oc, od, dV, kV, doc, pm, an, cdv, ct, osl, rfl, lk, hcd, _, _⟩ := F.ex
  refine ⟨rfl, ?_⟩
  intro A outer s H ar a oe Q room pin hz hd env bnd back
  have kin : K.In s.heap := env.mod.kin.keeps fun b o e => (env.bs b o e).1
  have lim : s.heap.NoLimit := env.mod.nolimit.keeps fun b o e => (env.bs b o e).1
  have kinds : ∀ y ∈ [p1].zip [Value.ref a], scope.names.lookup y.1 = some .local ∨ (scope.names.lookup y.1 = some .cell ∧ ((cellsFrom (s.heap.objs.size + 1) scope.names []).lookup y.1).isSome = true) := by
    rintro ⟨n, v⟩ hy
    rcases S.par n (List.of_mem_zip hy).1 with q | q
    · exact .inl q
    · exact .inr ⟨q, PySem.W.cellsFrom_some _ _ _ (.inl q)⟩
  refine codeAny_call_function room.depth (kin _ _ lk) rfl S.co S.gen rfl (PySem.W.codeRec_of kin hcd) (bnd _ _ _ _ ?_)
  refine wpAny_newFunctionEnv_cells S.kind kinds ?_
  rintro env1 rfl s1 x1
  refine ⟨lim.keeps x1.toInCall.keep, codeAny_func ?_⟩
  obtain ⟨t, ht, hq⟩ := bd cdv A outer s H a oe Q (room.deeper _) hz hd back
  have start1 := L2H.inv_startH (CX := fun _ _ _ _ _ _ => False) (E := fun _ _ _ => False) S pin env (vs := [.ref a]) rfl (.cons rfl .nil) x1
  refine wpAny_mono (ht.run [] s1 (start N [.ref a]) H _ start1 hq) ?_ (fun e s' hx => hx)
  intro fl s' sp
  cases fl with
  | next =>
    obtain ⟨σ', H', J, q⟩ := sp
    exact ⟨V.non, H', J.os, J.bare, J.base, J.hok, rfl, q⟩
  | brk =>
    obtain ⟨_, _, _, q⟩ := sp
    exact q.elim
  | cont =>
    obtain ⟨_, _, _, q⟩ := sp
    exact q.elim
  | ret u =>
    obtain ⟨v, σ', H', J, rv, q⟩ := sp
    exact ⟨v, H', J.os, J.bare, J.base, J.hok, rv, q⟩
end
/-- kind(e) in the suite: e stands in slot i -/
theorem pe_callE {X : Cx} {a : Addr} {oe : Obj} {pn : List (Addr × Obj)} {k : Nat} {f D : Addr} {fd : FuncData} {ps : List Str} {z : V} {x : Str} {p pos : Pos} {e : Expr} (F : FnE X.prog X.w X.K X.mg X.base k f fd ps D z) (hr : L2H.RoomH k X.A) (hg : Gl X x) (hm : X.mg x = some (.ref f)) (hk : PySem.W.keepIn X.K (.ref f) = true)
    (hb : Binds X.K fd ps []) (hz : Zc (.ref D) none oe) (hd : ∃ vs, oe.data = .fields vs) {t : TA} (he : PA (X.suite a ((a, oe) :: pn)) [e] t)
    (hdb : (x == ("__debug__" : Str)) = false := by decide) (hst : starEach [e] X.env = (false, eval e X.env) :: starEach [] X.env := by rfl) (hpl : (backTo pos (starEach [] X.env)).any (·.1) = false := by rfl) :
    PE (X.suite a ((a, oe) :: pn)) (.Call (.Name x p) [e] [] pos) (fun σ H Q => t σ H fun vs H1 => vs = [.ref a] ∧ ∀ H', (∀ b o, H1 b = some o → H' b = some o) → Q z H') := by
  constructor
  intro pins s σ H Q I h
  refine wpAny_Call_Name_kw (ld_glob I hg hm ?_ hdb)
  refine PySem.W.callWith_K (h₀ := X.base) I.ok.mod.kin hk ?_ hst hpl
  refine thn (he.run pos pins s σ H _ I h) ?_
  rintro us s1 ⟨vs, H1, I1, r, rfl, q⟩
  refine ⟨I1.kIn, ?_⟩
  obtain ⟨u, rfl, ru⟩ := vals1 r
  cases ru
  have one : [Value.ref a].length = ps.length := F.one.symm
  have bnd := hb s1 [.ref a] I1.kIn (by rw [List.append_nil]; exact one)
  rw [List.append_nil] at bnd
  have pin1 := I1.pin (a, oe) (List.mem_append_left _ List.mem_cons_self)
  have pinned : L2H.PinOk X.stack H1 s1 (a, oe) := ⟨pin1.1, pin1.2.1, fun hm => (List.mem_cons.mp (I1.stkSub a hm)).elim pin1.2.2.1 pin1.2.2.2.1, pin1.2.2.2.2⟩
  refine wpAny_call (codeAny_mono (F.go _ X.stack s1 H1 ⟨[.ref a], []⟩ a oe Q ⟨hr.dp, hr.un⟩ pinned hz hd I1.env0 bnd q) ?_)
  rintro (er | fl) s' hq
  · exact hq.elim
  · cases fl with
    | ret u => exact I1.after hq
    | next => exact hq.elim
    | brk => exact hq.elim
    | cont => exact hq.elim
end Bb
set_option Elab.async false
set_option linter.all false
set_option maxRecDepth 100000
set_option maxHeartbeats 2000000
namespace Bb
open PySem PySem.Spec PyProof.Rows L2

/-! isinstance of the exception that the caller's suite holds -/
theorem call_isP {X : Cx} {a D : Addr} {oe : Obj} (hp : (a, oe) ∈ X.pn) (C : ExcC X.K D) (hz : Zc (.ref D) none oe) (hf : ∃ vs, oe.data = .fields vs) : CallR X (.builtin "isinstance") (rIsE X.K D a) := by
  intro pins s σ H xs us Q I r h
  obtain ⟨c, cv, b, rfl, hcv, e, q⟩ := h
  obtain ⟨u1, u2, rfl, r1, r2⟩ := vals2 r
  cases r1
  have ec := hcv _ r2
  subst ec
  have there := (I.pin (a, oe) (List.mem_append_left _ hp)).1
  obtain ⟨vs, hv⟩ := hf
  have J : PySem.W.InstAt s.heap a oe D none := by
    obtain ⟨oc, od, oda, osl⟩ := oe
    obtain ⟨h1, h2⟩ := hz
    dsimp only at h1 h2 hv
    subst h1 h2 hv
    exact ⟨there, rfl, rfl, trivial⟩
  refine PySem.W.kia_one (PySem.W.handS_kitx_exc C.hg C.hk C.hs C.hd C.ha C.hn C.ht C.hm) I.kIn J e (fun z => nomatch z) ?_
  intro tk
  exact ⟨.bl b, H, I.kept (t' := tk) (fun _ _ z => z), rfl, q⟩

/-! list.count of flat items -/
def rCntF (K : PySem.W.Frag) : V → List V → Hp → VK → Prop := fun x xs H Q => ∃ (p : Addr) (ys : List V) (y : V), x = .ref p ∧ xs = [y] ∧ SqL K H p ys ∧ flatV y = true ∧ ys.all flatV = true ∧ Q (.int ((ys.countP fun z => eqV z y : Nat) : Int)) H
theorem count_eqU {x : V} : ∀ {xs : List V} {us : List Value}, Vals xs us → xs.all flatV = true → us.countP (eqU x) = xs.countP fun y => eqV y x
  | _, _, .nil, _ => rfl
  | y :: xs, u :: us, .cons r t, f => by
    rw [List.all_cons, Bool.and_eq_true] at f
    rw [List.countP_cons, List.countP_cons, eqU_of r f.1, count_eqU t f.2]
theorem mt_countF {X : Cx} : MtR X "list.count" (rCntF X.K) := by
  intro pins s σ H x xs v us Q I rx rxs h
  obtain ⟨p, ys, y, rfl, rfl, hs, fy, fys, q⟩ := h
  cases rx
  obtain ⟨u, rfl, ru⟩ := vals1 rxs
  obtain ⟨its, rv, ⟨⟨cls, dd, data, sl⟩, n, ho, hc, hdn, hd⟩, hlen⟩ := I.list hs
  dsimp only at hc hd
  subst hc hd
  refine call_meets PySem.F.slot_list_count ⟨_, ho, rfl⟩ PySem.F.entry_list_count (PySem.F.args_list_count_2 _ _) (SeqAt.list_countAt p its.toArray n dd sl u (eqU y)) ⟨ho, ?_, ?_⟩
  · intro z hz
    exact mem_eqAt ru fy rv fys z (by simpa using hz)
  · refine ⟨.int ((ys.countP fun z => eqV z y : Nat) : Int), H, I.tok _, ⟨s.toks, ?_⟩, q⟩
    have e := count_eqU (x := y) rv fys
    show Value.int ((its.toArray.toList.countP (eqU y) : Nat) : Int) s.toks = _
    rw [show its.toArray.toList = its from rfl, e]

/-! len of an own instance; != by an own == -/
section
variable {X : Cx}
theorem call_lenOwn {CX : CXT} {C f : Addr} {fd : FuncData} {ps : List Str} {sp : Sp} {k : Nat} {E : XK} (F : FnOk X.prog X.w X.K X.mg X.base CX k f fd ps sp) (hr : Room (k + 1) X.A) (hs : PySem.W.findIn X.K (.ref C) "__len__" = some (some (.ref f))) (hf : PySem.W.isFn X.K (.ref f) = true)
    (hb : Binds X.K fd ps []) (hx : Passes CX X E) :
    CallR X (.builtin "len") (fun xs H Q => ∃ a dx fs, xs = [.ref a] ∧ H a = some (.ins C dx fs) ∧ sp [.ref a] H (fun v H' => ∃ n : Int, v = .int n ∧ (0 ≤ n ∧ n < 2 ^ 63) ∧ Q (.int n) H') E) := by
  intro pins s σ H xs us Q I r h
  obtain ⟨a, dx, fs, rfl, ha, hsp⟩ := h
  obtain ⟨u, rfl, ru⟩ := vals1 r
  cases ru
  obtain ⟨mA, J, _⟩ := ins_get I.hok ha
  obtain ⟨od, J, _⟩ := J.look
  obtain ⟨m, hF⟩ := I.fr
  refine PySem.W.len_K hF I.ok.mod.kin J hs hf ?_
  have hl := F.len _ _ _ _ hsp
  have bnd := hb s [.ref a] I.kIn (by simpa using hl)
  rw [List.append_nil] at bnd
  refine wpAny_call (codeAny_mono (F.run X.A.in1 X.stack s H ⟨[.ref a], []⟩ [.ref a] [.ref a] _ E hr.in1 I.env0.in1 bnd (.cons rfl .nil) hsp) ?_)
  rintro (er | fl) s' hq
  · exact hx pins σ H s er s' I hq
  · cases fl with
    | ret w' =>
      obtain ⟨z, H', I', rz, n, rfl, hn, q⟩ := I.after hq
      obtain ⟨t, rfl⟩ := rz
      exact ⟨hn, .int n, H', I'.tok _, ⟨_, rfl⟩, q⟩
    | next => exact hq.elim
    | brk => exact hq.elim
    | cont => exact hq.elim
end
namespace Ne
open PySem.W PySem.Calls
section
variable {prog : Program} {w : World} {A : Around} {E : Value → Shared → Prop} {s : Shared} {K : Frag} {x y C f : Addr} {ox oy : Obj} {od od' : Option Obj}
theorem wrap_ty : typeOf (.builtin "object.__ne__") = pure (.type "wrapper_descriptor") := by
  first
    | rfl
    | kernel_rfl
theorem obj_ne {Q : Value → Shared → Prop} (X : K.In s.heap) (I : InstAt s.heap x ox C od) (J : InstAt s.heap y oy C od') (hu : A.units + 1 < cLine) (he : findIn K (.ref C) "__eq__" = some (some (.ref f))) (hf : isFn K (.ref f) = true)
    (hn : findIn K (.ref C) "__ne__" = some (some (.builtin "object.__ne__"))) (hsub : subIn K (.ref C) (.type "object") = some true)
    (h : wpAny (model prog w) A.in1 (call (.ref f) [.ref x, .ref y]) (fun v s' => ∃ b, v = .bool b ∧ Q (.bool (!b)) s') E s) : wpAny (model prog w) A (compareOp .NotEq (.ref x) (.ref y)) Q E s := by
  obtain ⟨hp, g, d, tk, os⟩ := s
  have isO : Looks (model prog w) hp (isInstance (.ref x) (.type "object")) true := I.type.andThen (looks_subIn X hsub)
  -- object.__ne__(x, y)
  have slot : wpAny (model prog w) A (call (.builtin "object.__ne__") [.ref x, .ref y]) (fun v s' => ∃ b, v = .bool b ∧ Q (.bool b) s') E ⟨hp, g, d, tk, os⟩ := by
    refine wpAny_call (codeAny_call_builtin (by decide +kernel) F.cmpEntry_ne ?_)
    refine @check_slot (model prog w) _ _ ⟨hp, g, d, tk, os⟩ "object.__ne__" "object" "__ne__" (.ref x) [.ref y] [] _ F.cmpKind_ne F.cmpSplit_ne isO (F.cmpArgs_ne _ _) ?_
    unfold Builtin.«object.__ne__»
    have eqc : ∀ {R : Option Value → Shared → Prop} {E' : Value → Shared → Prop}, wpAny (model prog w) A.in1 (call (.ref f) [.ref x, .ref y]) (fun v => R (some v)) E' ⟨hp, g, d, tk, os⟩ →
        wpAny (model prog w) A.in1 (callSpecialIfBound? (.ref x) (Str.ofString "__eq__") [.ref y]) R E' ⟨hp, g, d, tk, os⟩ := fun z => ifBound_K X I he hf z
    have rest : ∀ (v : Value) (s' : Shared), (∃ b, v = .bool b ∧ Q (.bool (!b)) s') → wpAny (model prog w) A.in1 (match some v with | some Value.notImplemented => ret .notImplemented | none => ret .notImplemented | some r => do ret (.bool (!(← truthy r))))
        (fun fin s' => match fin with
          | .done f => wants (fun v s' => ∃ b, v = Value.bool b ∧ Q (Value.bool b) s') E (.ok f) s'
          | .again c' => c'.quiet = true ∧ codeAny (model prog w) A c' (wants (fun v s' => ∃ b, v = Value.bool b ∧ Q (Value.bool b) s') E) s') (fun e s' => wants (fun v s' => ∃ b, v = Value.bool b ∧ Q (Value.bool b) s') E (.error e) s') s' := by
      rintro v s' ⟨b, rfl, hq⟩
      refine wpAny_bind (wpAny_truthy_bool (wpAny_pure ?_))
      exact ⟨!b, rfl, hq⟩
    repeat (first
      | with_reducible refine wpAny_cRoomFor hu ?_
      | exact wpAny_bind (m := callSpecialIfBound? (.ref x) (Str.ofString "__eq__") [.ref y]) (eqc (wpAny_mono h (fun v s' hv => rest v s' hv) fun _ _ e => e))
      | wp_step)
  have bs : bindSpecial (.builtin "object.__ne__") (.ref x) = pure (.builtin "object.__ne__", [.ref x]) := by
    unfold bindSpecial
    rw [wrap_ty]
    rfl
  have two : wpAny (model prog w) A (callSpecialIfBound? (.ref x) (Str.ofString "__ne__") [.ref y]) (fun r s' => ∃ b, r = some (Value.bool b) ∧ Q (Value.bool b) s') E ⟨hp, g, d, tk, os⟩ := by
    simp only [callSpecialIfBound?, bindSpecialIfBound?]
    refine wpAny_holding (wpAny_bind (wpAny_bind (wpAny_bind (I.type.here ((looks_findIn X hn).here ?_)))))
    refine wpAny_bind (wpAny_askSetting (wpAny_ite ?_))
    have fin : wpAny (model prog w) A (call (.builtin "object.__ne__") ([.ref x] ++ [.ref y]) >>= fun v => pure (some v)) (fun r s' => ∃ b, r = some (Value.bool b) ∧ Q (Value.bool b) s') E ⟨hp, g, d, tk, os⟩ := by
      refine wpAny_bind (wpAny_mono slot ?_ fun _ _ e => e)
      rintro v s' ⟨b, rfl, hq⟩
      exact wpAny_pure ⟨b, rfl, hq⟩
    split
    · rw [bs]
      exact wpAny_bind (wpAny_pure (wpAny_pure (by exact fin)))
    · rw [bs]
      exact wpAny_tryCatch (wpAny_bind (wpAny_pure (wpAny_pure (by exact fin))))
  have one : wpAny (model prog w) A (tryCompare (.ref x) (Str.ofString "__ne__") (.ref y)) (fun r s' => ∃ v, r = some v ∧ Q v s') E ⟨hp, g, d, tk, os⟩ := by
    unfold tryCompare
    refine wpAny_bind (wpAny_mono two ?_ fun _ _ e => e)
    rintro r s' ⟨b, rfl, hq⟩
    exact wpAny_pure ⟨_, rfl, hq⟩
  show wpAny (model prog w) A (richCompare .NotEq (.ref x) (.ref y)) Q E _
  unfold richCompare
  simp only [oneThing_ref]
  refine wpAny_holding (wpAny_bind (wpAny_cRoomFor (Nat.lt_of_succ_lt hu) ?_))
  refine wpAny_bind (I.type.here (wpAny_bind (J.type.here ?_)))
  rw [show (Value.ref C != Value.ref C) = false from by simp]
  simp only [Bool.false_eq_true, if_false]
  refine wpAny_bind (wpAny_pure ?_)
  simp only [Bool.false_eq_true, if_false]
  refine wpAny_bind (wpAny_mono one ?_ fun _ _ e => e)
  rintro r s' ⟨v, rfl, hq⟩
  exact wpAny_pure hq
end
end Ne
end Bb
set_option Elab.async false
set_option linter.all false
set_option maxRecDepth 100000
set_option maxHeartbeats 2000000
namespace Bb
open PySem PySem.Spec PyProof.Rows L2
open Builtin

/-! ==, != by an own ==: what it answers is told -/
section
variable {X : Cx} {CX : CXT} {C f : Addr} {fd : FuncData} {ps : List Str} {sp : Sp} {k : Nat} {E : XK}
theorem op_neOwn (F : FnOk X.prog X.w X.K X.mg X.base CX k f fd ps sp) (hr : Room (k + 1) X.A) (he : PySem.W.findIn X.K (.ref C) "__eq__" = some (some (.ref f))) (hf : PySem.W.isFn X.K (.ref f) = true)
    (hn : PySem.W.findIn X.K (.ref C) "__ne__" = some (some (.builtin "object.__ne__"))) (hsub : PySem.W.subIn X.K (.ref C) (.type "object") = some true) (hb : Binds X.K fd ps []) (hx : Passes CX X E) :
    OpR X (compareOp .NotEq) (fun x y H Q => ∃ a b dx dy fs gs, x = .ref a ∧ y = .ref b ∧ H a = some (.ins C dx fs) ∧ H b = some (.ins C dy gs) ∧ sp [.ref a, .ref b] H (fun v H' => ∃ t, v = .bl t ∧ Q (.bl (!t)) H') E) := by
  intro pins s σ H x y v u Q I rx ry h
  obtain ⟨a, b, dx, dy, fs, gs, rfl, rfl, ha, hb', hsp⟩ := h
  cases rx
  cases ry
  obtain ⟨mA, J, _⟩ := ins_get I.hok ha
  obtain ⟨od, J, _⟩ := J.look
  obtain ⟨mB, J', _⟩ := ins_get I.hok hb'
  obtain ⟨od', J', _⟩ := J'.look
  have un := hr.units
  refine Ne.obj_ne I.kIn J J' (by omega) he hf hn hsub ?_
  have hl := F.len _ _ _ _ hsp
  have bnd := hb s [.ref a, .ref b] I.kIn (by simpa using hl)
  rw [List.append_nil] at bnd
  refine wpAny_call (codeAny_mono (F.run X.A.in1 X.stack s H ⟨[.ref a, .ref b], []⟩ [.ref a, .ref b] [.ref a, .ref b] _ E hr.in1 I.env0.in1 bnd (.cons rfl (.cons rfl .nil)) hsp) ?_)
  rintro (er | fl) s' hq
  · exact hx pins σ H s er s' I hq
  · cases fl with
    | ret w' =>
      obtain ⟨z, H', I', rz, t, rfl, q⟩ := I.after hq
      cases rz
      exact ⟨t, rfl, .bl (!t), H', I', rfl, q⟩
    | next => exact hq.elim
    | brk => exact hq.elim
    | cont => exact hq.elim
theorem op_eqOwn (F : FnOk X.prog X.w X.K X.mg X.base CX k f fd ps sp) (hr : Room k X.A) (he : PySem.W.findIn X.K (.ref C) "__eq__" = some (some (.ref f))) (hf : PySem.W.isFn X.K (.ref f) = true)
    (hb : Binds X.K fd ps []) (hx : Passes CX X E) :
    OpR X (compareOp .Eq) (fun x y H Q => ∃ a b dx dy fs gs, x = .ref a ∧ y = .ref b ∧ H a = some (.ins C dx fs) ∧ H b = some (.ins C dy gs) ∧ sp [.ref a, .ref b] H (fun v H' => ∃ t, v = .bl t ∧ Q (.bl t) H') E) := by
  intro pins s σ H x y v u Q I rx ry h
  obtain ⟨a, b, dx, dy, fs, gs, rfl, rfl, ha, hb', hsp⟩ := h
  cases rx
  cases ry
  obtain ⟨mA, J, _⟩ := ins_get I.hok ha
  obtain ⟨od, J, _⟩ := J.look
  obtain ⟨mB, J', _⟩ := ins_get I.hok hb'
  obtain ⟨od', J', _⟩ := J'.look
  obtain ⟨m, hF⟩ := I.fr
  show wpAny (model X.prog X.w) X.A (richCompare .Eq (.ref a) (.ref b)) _ _ _
  refine PySem.W.cmp_K (op := .Eq) (tb := .ref C) hr.units0 hF I.ok.mod.kin J J'.type (by simp [PySem.W.notFirst]) he hf ?_
  have hl := F.len _ _ _ _ hsp
  have bnd := hb s [.ref a, .ref b] I.kIn (by simpa using hl)
  rw [List.append_nil] at bnd
  refine wpAny_call (codeAny_mono (F.run X.A X.stack s H ⟨[.ref a, .ref b], []⟩ [.ref a, .ref b] [.ref a, .ref b] _ E hr I.env0 bnd (.cons rfl (.cons rfl .nil)) hsp) ?_)
  rintro (er | fl) s' hq
  · exact hx pins σ H s er s' I hq
  · cases fl with
    | ret w' =>
      obtain ⟨z, H', I', rz, t, rfl, q⟩ := I.after hq
      cases rz
      exact ⟨.bl t, H', I', rfl, q⟩
    | next => exact hq.elim
    | brk => exact hq.elim
    | cont => exact hq.elim
end

/-! enumerate over a tuple -/
def IteT (K : PySem.W.Frag) (a : Addr) : It :=
  ⟨fun i H => ∃ (xs : List V) (x : V), SqT K H a xs ∧ xs[i]? = some x, fun i H v H' => ∃ T x, v = .ref T ∧ H T = none ∧ H' = upd H T (.tup [.int (i : Nat), x]) ∧ ∀ xs, SqT K H a xs → xs[i]? = some x, fun i H => ∃ xs : List V, SqT K H a xs ∧ xs.length ≤ i⟩
theorem tup_ne_iter {h : Heap} {a it : Addr} {items : Array Value} {i : Nat} (t : h.IsTuple a items) (x : h.IsTupleIter it a i) : a ≠ it := by
  rintro rfl
  obtain ⟨o, e, c, _⟩ := t
  obtain ⟨o', e', c', _⟩ := x
  rw [e] at e'
  injection e' with e'
  subst e'
  rw [c] at c'
  exact absurd c' (by decide)
theorem tup_ne_enum {h : Heap} {a e it : Addr} {items : Array Value} {i : Int} {old : Value} (t : h.IsTuple a items) (x : IsEnum h e it i old) : e ≠ a := by
  rintro rfl
  obtain ⟨o, g, c, _⟩ := t
  have g' : h.get? e = _ := x
  rw [g] at g'
  injection g' with g'
  subst g'
  have c' : Value.type "enumerate" = Value.type "tuple" := c
  exact absurd c' (by decide)
theorem turn_enumT {P : Program} {w : World} {K : PySem.W.Frag} {elts : List Expr} {kk : Nat} {tpos : Pos} (a e it : Addr) :
    Turn P w K (.Tuple elts kk tpos) (IteT K a) [e, it] e (fun i h => (∃ old, IsEnum h e it ((i : Nat) : Int) old) ∧ h.IsTupleIter it a i ∧ e ≠ it) where
  mem := by simp
  obj := by
    rintro i h ⟨⟨old, he⟩, ⟨o, ho, hc, hd⟩, _⟩ b hb
    have two : b = e ∨ b = it := by simpa using hb
    rcases two with rfl | rfl
    · exact ⟨_, he, fun v q => nomatch q⟩
    · refine ⟨o, ho, fun v q => ?_⟩
      rw [hd] at q
      cases q
  keep := by
    rintro i h h' ⟨⟨old, he⟩, hi, ne⟩ k
    exact ⟨⟨old, k e (by simp) _ he⟩, hi.at (fun o q => k it (by simp) o q), ne⟩
  item := by
    intro X hP hw hK hc i pins s σ H E I hf st hg
    subst hP hw hK
    obtain ⟨⟨old, he⟩, hit, ne⟩ := st
    obtain ⟨xs, x, hq, hx⟩ := hg
    obtain ⟨its, rv, p, hz⟩ := I.tuple hq
    have pt : s.heap.IsTuple a its.toArray := p
    obtain ⟨u, hu, ru⟩ := rv.get hx
    have szE : e < s.heap.objs.size := Heap.lt_size he
    have szI : it < s.heap.objs.size := by
      obtain ⟨_, q, _⟩ := hit
      exact Heap.lt_size q
    have lt : i < its.toArray.size := by
      have z := (List.getElem?_eq_some_iff.mp hu).1
      simpa using z
    have D : Draws X.prog X.w X.A.in1 it [it, a] its.toArray.size (fun i v => its.toArray[i]? = some v) (fun i h => h.IsTupleIter it a i ∧ h.IsTuple a its.toArray) := Draws.tuple (show X.A.in1.handled = none from I.ok.hd hc) it a (tup_ne_iter pt hit) its.toArray
    refine wpAny_pyNext_enum_itemD D he ⟨hit, pt⟩ lt ne (by simp [ne, tup_ne_enum pt he]) ?_
    intro x' h' tk hx' ho st' hT hsz hk
    have ex : x' = u := by
      have z : its.toArray[i]? = some u := by simpa using hu
      rw [z] at hx'
      exact (Option.some.inj hx').symm
    subst ex
    refine ⟨_, rfl, wpAny_letOwnedTupleGo_enum (s := { s with heap := h', toks := tk + 1 }) ho ?_⟩
    intro h'' he' sb
    have hT2 : h''.get? s.heap.objs.size = some { cls := .type "tuple", data := .seq #[.int i tk, x'] } := (sb.2 _ (Nat.ne_of_gt szE)).trans hT
    have fresh : ObjOk X.prog X.w (upd H s.heap.objs.size (.tup [.int (i : Nat), x])) h'' s.heap.objs.size (.tup [.int (i : Nat), x]) :=
      ⟨(by show 2 ≤ sizeLine; decide), [.int i tk, x'], .cons ⟨_, rfl⟩ (.cons ru .nil), ⟨_, hT2, rfl, _, rfl⟩⟩
    have I1 : Inv X pins σ (upd H s.heap.objs.size (.tup [.int (i : Nat), x])) { s with heap := h'', toks := tk + 1 } := by
      refine I.turnedNew (ch := [e, it]) ?_ hf (Nat.le_refl _) fresh
      intro b ob hb q
      have n1 : b ≠ e := fun z => hb (by simp [z])
      have n2 : b ≠ it := fun z => hb (by simp [z])
      exact (sb.2 b n1).trans (hk b ob n1 n2 q)
    refine ⟨.ref s.heap.objs.size, _, I1, rfl, ⟨_, x, rfl, I.hok.fresh (Nat.le_refl _), rfl, ?_⟩, ⟨⟨x', ?_⟩, st'.1.at (fun o q => (sb.2 it (Ne.symm ne)).trans q), ne⟩, ?_⟩
    · intro ys hy
      rw [I.tuple_inj hy hq]
      exact hx
    · have e1 : ((i + 1 : Nat) : Int) = (i : Int) + 1 := by omega
      rw [e1]
      exact he'
    · intro b hb
      have two : b = e ∨ b = it := by simpa using hb
      have low : b < s.heap.objs.size := by
        rcases two with rfl | rfl
        · exact szE
        · exact szI
      rw [upd_ne (Nat.ne_of_lt low)]
      exact (hf b hb).1
  done := by
    intro X hP hw hK hc i pins s σ H E I hf st hg
    subst hP hw hK
    obtain ⟨⟨old, he⟩, hit, ne⟩ := st
    obtain ⟨xs, hq, hx⟩ := hg
    obtain ⟨its, rv, p, hz⟩ := I.tuple hq
    have pt : s.heap.IsTuple a its.toArray := p
    obtain ⟨f0, f1, f2, f3, f4, f5⟩ := hf it (by simp)
    have hl := rv.length
    have end_ : ∀ {Q : Option Value → Shared → Prop}, (∀ h', Heap.ExtBut it s.heap h' → Q none { s with heap := h' }) → wpAny (model X.prog X.w) X.A (pyNext (.ref e)) Q E s := by
      intro Q hQ
      unfold pyNext
      refine wpAny_bind (wpAny_attempt (wpAny_callSpecial?_slot (name := Str.ofString "__next__") ⟨_, he, rfl⟩ F.slot_enumerate_next (wpAny_call_entry F.slot_enumerate_next ⟨_, he, rfl⟩ F.entry_enumerate_next ?_ (F.args_enumerate_next_1 _))))
      show wpAny _ _ (field (.ref e) 2 >>= _) _ _ _
      refine wpAny_bind (wpAny_field he rfl (x := .ref it) rfl ?_)
      refine wpAny_bind (wpAny_nextOf_tuple_end (I.ok.hd hc) hit pt (by simp; omega) ?_)
      rintro h' x eb ⟨o, ho, hc'⟩
      refine wpAny_bind (wpAny_isInstance (T := "StopIteration") (b := true) ⟨o, ho, hc'⟩ isSubtype_stop ?_)
      exact wpAny_pure (hQ h' eb)
    exact end_ (fun h' eb => ⟨rfl, I.turned (t' := s.toks) (fun b o hb q => eb b o hb q) f0 f1 f3 f4 f5⟩)
  self := by
    rintro A i s Q E ⟨⟨_, he⟩, _⟩ h
    exact wpAny_pyIter_enum he h
theorem walk_enumT {K : PySem.W.Frag} {a : Addr} {xs : List V} : Walk (IteT K a) xs.length (fun H => SqT K H a xs) (YPair (fun i => some (.int (i : Nat))) (fun i => xs[i]?)) := by
  refine ⟨fun i _ hi q => ⟨xs, xs[i], q, by simp [hi]⟩, fun _ q => ⟨xs, q, Nat.le_refl _⟩, ?_⟩
  rintro i H v H' _ q ⟨T, x, h1, h2, h3, h4⟩
  exact ⟨T, .int (i : Nat), x, h1, h2, h3, rfl, h4 xs q⟩
theorem walk_zipT {K : PySem.W.Frag} {a b : Addr} {xs ys : List V} {n : Nat} (hn : n = min xs.length ys.length) : Walk (RZ.ItzT K a b) n (fun H => SqT K H a xs ∧ SqT K H b ys) (YPair (fun i => xs[i]?) (fun i => ys[i]?)) := by
  subst hn
  refine ⟨?_, fun _ q => ⟨xs, ys, q.1, q.2, by omega⟩, ?_⟩
  · intro i _ hi q
    have h1 : i < xs.length := by omega
    have h2 : i < ys.length := by omega
    exact ⟨xs, ys, xs[i], ys[i], q.1, q.2, by simp [h1], by simp [h2]⟩
  · rintro i H v H' _ q ⟨T, x, z, h1, h2, h3, h4, h5⟩
    exact ⟨T, x, z, h1, h2, h3, h4 xs q.1, h5 ys q.2⟩

/-! enumerate(t) is made -/
theorem meets_enumT (l : Addr) (items : Array Value) (n : Nat) (dct : Option Addr) (sl : Array (Option Value)) :
    Meets (Builtin.«enumerate.__new__» ⟨[.type "enumerate", .ref l], []⟩) (fun _ R s => s.heap.get? l = some { cls := .type "tuple", dict := dct, data := .seq items n, slots := sl } ∧
      R (.ok (.ret (.ref (s.heap.push { cls := .type "tuple_iterator", data := .fields #[.ref l, .int 0 0] }).objs.size)))
        { s with heap := (s.heap.push { cls := .type "tuple_iterator", data := .fields #[.ref l, .int 0 0] }).push { cls := .type "enumerate", data := .fields #[.none, .bool false, .ref s.heap.objs.size, rawInt 0, .none, .none] } }) :=
  .of_wp fun prog w A R s h => by
    obtain ⟨hp, g, d, tk, os⟩ := s
    obtain ⟨hl, h⟩ := h
    have hsub := sub_enumerate
    have tup : Heap.IsTuple (Shared.heap ⟨hp, g, d, tk, os⟩) l items := ⟨_, hl, rfl, n, rfl⟩
    wp_walk using AutoSeq1.wpAny_loadPart' hl
    refine wpAny_stack_any fun st => wpAny_pure ?_
    split
    · rename_i c _ _ _ _ _
      cases (c == Value.type "enumerate")
      · wp_walk using AutoSeq1.wpAny_loadPart' hl, wpAny_pyIter_tuple tup
        exact ⟨_, rfl, h⟩
      · wp_walk using AutoSeq1.wpAny_loadPart' hl, wpAny_pyIter_tuple tup
        exact ⟨_, rfl, h⟩
    · wp_walk using AutoSeq1.wpAny_loadPart' hl, wpAny_pyIter_tuple tup
      exact ⟨_, rfl, h⟩
theorem call_enumT {prog : Program} {w : World} {A : Around} {E : Value → Shared → Prop} {s : Shared} {l : Addr} {items : Array Value} {Q : Value → Shared → Prop} (hL : s.heap.IsTuple l items)
    (h : ∀ h', IsEnum h' (s.heap.objs.size + 1) s.heap.objs.size 0 .none → h'.IsTupleIter s.heap.objs.size l 0 → (∀ b o, s.heap.get? b = some o → h'.get? b = some o) → Q (.ref (s.heap.objs.size + 1)) { s with heap := h' }) :
    wpAny (model prog w) A (call (.type "enumerate") [.ref l]) Q E s := by
  obtain ⟨⟨c, dct, dt, sl⟩, hl, hc, n, hd⟩ := hL
  dsimp only at hc hd
  subst hc hd
  refine callType_new F.called_enumerate (by decide) (F.typeCall_enumerate_1 _) (F.newCall_enumerate_1 _) (fun obj => F.args_object_init_2 obj _) F.entry_enumerate_new (meets_enumT l items n dct sl) ⟨hl, ?_⟩
  have hz : (s.heap.push { cls := .type "tuple_iterator", data := .fields #[.ref l, .int 0 0] }).objs.size = s.heap.objs.size + 1 := Heap.size_push ..
  show _ ∧ _
  rw [hz]
  have he : IsEnum ((s.heap.push { cls := .type "tuple_iterator", data := .fields #[.ref l, .int 0 0] }).push { cls := .type "enumerate", data := .fields #[.none, .bool false, .ref s.heap.objs.size, rawInt 0, .none, .none] }) (s.heap.objs.size + 1) s.heap.objs.size 0 .none := by
    have q := Heap.get?_push_size (s.heap.push { cls := .type "tuple_iterator", data := .fields #[.ref l, .int 0 0] }) (o := { cls := .type "enumerate", data := .fields #[.none, .bool false, .ref s.heap.objs.size, rawInt 0, .none, .none] }) rfl
    rw [hz] at q
    exact q
  exact ⟨⟨_, he, rfl⟩, h _ he ⟨_, Heap.get?_push_of_some _ (Heap.get?_push_size _ rfl), rfl, rfl⟩ (fun b o x => Heap.get?_push_of_some _ (Heap.get?_push_of_some _ x))⟩
def iEnumT (K : PySem.W.Frag) (ta : TA) : TI := fun σ H R => ta σ H fun vs H1 => ∃ a xs, vs = [.ref a] ∧ SqT K H1 a xs ∧ R (IteT K a) H1
theorem pi_enumT {X : Cx} {e : Expr} {ta : TA} {p pos tpos : Pos} {elts : List Expr} {kk : Nat} (hg : Gl X "enumerate") (hm : X.mg "enumerate" = none) (ha : PA X [e] ta) (hs : starEach [e] X.env = [(false, eval e X.env)] := by rfl) :
    PI X (.Tuple elts kk tpos) (.Call (.Name "enumerate" p) [e] [] pos) (iEnumT X.K ta) := by
  constructor
  intro pins s σ H R I h
  refine Call_ (ld_blt I hg hm boot_enumerate (PyProof.Rows.callWith_type1 (thn (ha.run pos pins s σ H _ I h) ?_) hs rfl))
  rintro us s1 ⟨vs, H1, I1, r1, a, xs, rfl, hq, q⟩
  obtain ⟨u, rfl, ru⟩ := vals1 r1
  cases ru
  obtain ⟨its, rv, p', hz⟩ := I1.tuple hq
  refine call_enumT (show s1.heap.IsTuple a its.toArray from p') ?_
  intro h' he hit hk
  refine wpAny_pyIter_enum he ?_
  have I2 : Inv X pins σ H1 { s1 with heap := h' } := I1.kept (t' := s1.toks) hk
  refine ⟨s1.heap.objs.size + 1, [s1.heap.objs.size + 1, s1.heap.objs.size], _, _, H1, rfl, I2, turn_enumT a (s1.heap.objs.size + 1) s1.heap.objs.size, ⟨⟨.none, he⟩, hit, Nat.succ_ne_self _⟩, ?_, q⟩
  intro b hb
  have two : b = s1.heap.objs.size + 1 ∨ b = s1.heap.objs.size := by simpa using hb
  have hle : s1.heap.objs.size ≤ b := by
    rcases two with rfl | rfl
    · exact Nat.le_succ _
    · exact Nat.le_refl _
  exact I1.fpOk hle (I1.hok.fresh hle)
end Bb
set_option Elab.async false
set_option linter.all false
set_option maxRecDepth 100000
set_option maxHeartbeats 2000000
namespace Bb
open PySem PySem.Spec PyProof.Rows L2
/-! lists of ints as data -/
theorem dp_ints {K : PySem.W.Frag} {H : Hp} : ∀ ns : List Int, DpAll K H (ns.map V.int) (ns.map PyData.int)
  | [] => .nil
  | n :: ns => .cons (.int n) (dp_ints ns)
theorem eqv_ints : ∀ ns ms : List Int, PyData.eqvAll (ns.map PyData.int) (ms.map PyData.int) = decide (ns = ms)
  | [], [] => rfl
  | [], m :: ms => by simp [PyData.eqvAll]
  | n :: ns, [] => by simp [PyData.eqvAll]
  | n :: ns, m :: ms => by
    have ih := eqv_ints ns ms
    simp only [List.map_cons, PyData.eqvAll, PyData.eqv, ih]
    by_cases h : n = m
    · subst h
      simp
    · simp [h]
theorem lay_ints : ∀ ns : List Int, PyData.canLayAll0 (ns.map PyData.int) = true
  | [] => rfl
  | n :: ns => by
    have ih := lay_ints ns
    simp [PyData.canLayAll0, PyData.canLay0, ih]
theorem depth_ints : ∀ ns : List Int, PyData.depthAll (ns.map PyData.int) = 0
  | [] => rfl
  | n :: ns => by
    have ih := depth_ints ns
    simp [PyData.depthAll, PyData.depth, ih]
theorem shaped_list (ns : List Int) : SeqAt.shaped (.list (ns.map PyData.int)) = true := by
  unfold SeqAt.shaped
  simp [PyData.canLay0, lay_ints, PyData.depth, depth_ints]
theorem shaped_tup (ns : List Int) : SeqAt.shaped (.tuple (ns.map PyData.int)) = true := by
  unfold SeqAt.shaped
  simp [PyData.canLay0, lay_ints, PyData.depth, depth_ints]
theorem show_ints : ∀ ns : List Int, (∀ n ∈ ns, n.natAbs < 10 ^ 18) → PyData.showableAll (ns.map PyData.int) = true
  | [], _ => rfl
  | n :: ns, h => by
    have ih := show_ints ns fun x hx => h x (List.mem_cons_of_mem _ hx)
    have h1 := h n List.mem_cons_self
    have h2 : n.natAbs.log2 < 1920 := by
      by_cases z : n.natAbs = 0
      · rw [z]
        decide
      · exact (Nat.log2_lt z).mpr (Nat.lt_of_lt_of_le h1 (by decide +kernel))
    simp [PyData.showableAll, PyData.showable, ih, h2]
theorem textFrom_le : ∀ (ts : List Str) (k : Nat) (acc : Str), (textFrom k acc ts).length ≤ acc.length + piled ts
  | [], k, acc => Nat.le_add_right _ _
  | t :: r, k, acc => by
    have ih := textFrom_le r (k + 1) (acc ++ (if k > 0 then ", " else "" : String) ++ t)
    show (textFrom (k + 1) (acc ++ (if k > 0 then ", " else "" : String) ++ t) r).length ≤ _
    rw [strLen_append, strLen_append] at ih
    rw [piled_cons]
    have e : (((if k > 0 then ", " else "" : String) : Str)).length ≤ 2 := by
      split <;> decide +kernel
    omega
theorem listText_le (ts : List Str) : (listText ts).length ≤ piled ts + 2 := by
  unfold listText
  rw [strLen_append]
  have h := textFrom_le ts 0 "["
  have e1 : (("[" : String) : Str).length = 1 := by decide +kernel
  have e2 : (("]" : String) : Str).length = 1 := by decide +kernel
  rw [e1] at h
  rw [e2]
  omega
theorem int_shown {i : Int} (h : i.natAbs < 10 ^ 18) : (PyData.int i).shown.length ≤ 19 := by
  have e := int_text_length_le10 (k := 18) (by decide) h
  show (Str.ofString (toString i)).length ≤ 19
  rw [PySem.ofString_length]
  exact e
theorem piled_ints : ∀ ns : List Int, (∀ n ∈ ns, n.natAbs < 10 ^ 18) → piled (PyData.shownAll (ns.map PyData.int)) ≤ 21 * ns.length
  | [], _ => Nat.le_refl _
  | n :: ns, h => by
    have ih := piled_ints ns fun x hx => h x (List.mem_cons_of_mem _ hx)
    have h1 := int_shown (h n List.mem_cons_self)
    rw [List.map_cons]
    show piled ((PyData.int n).shown :: PyData.shownAll (ns.map PyData.int)) ≤ _
    rw [piled_cons, List.length_cons]
    omega
/-- what repr asks of a list of ints -/
theorem repr_ints {K : PySem.W.Frag} {H : Hp} {a : Addr} {ns : List Int} {Q : VK} (h : SqL K H a (ns.map V.int)) (hr : ∀ n ∈ ns, n.natAbs < 10 ^ 18) (hl : ns.length ≤ 1000) (q : Q (.str (PyData.list (ns.map PyData.int)).shown) H) : rRepr K [.ref a] H Q := by
  refine ⟨_, .list (ns.map PyData.int), rfl, .lst h (dp_ints ns), show_ints ns hr, ?_, ?_, q⟩
  · show PyData.depthAll (ns.map PyData.int) + 1 ≤ 60
    rw [depth_ints]
    decide
  · have h1 := listText_le (PyData.shownAll (ns.map PyData.int))
    have h2 := piled_ints ns hr
    show (listText (PyData.shownAll (ns.map PyData.int))).length ≤ sizeLine
    rw [sizeLine_eq]
    omega
theorem repr_txt {K : PySem.W.Frag} {H : Hp} {z : Str} {Q : VK} (hz : (reprText z).length ≤ sizeLine) (q : Q (.str (PyData.str z).shown) H) : rRepr K [.str z] H Q :=
  ⟨_, .str z, rfl, .str z, rfl, Nat.zero_le _, hz, q⟩
/-! t + u, t[lo:hi] of tuples: some tuple, new or not -/
def rCatB (K : PySem.W.Frag) : R2 := fun x y H Q => ∃ a b xs ys, x = .ref a ∧ y = .ref b ∧ SqT K H a xs ∧ SqT K H b ys ∧ xs.length + ys.length ≤ sizeLine ∧ ∀ p H', Same H H' → SqT K H' p (xs ++ ys) → Q (.ref p) H'
theorem op_catB {X : Cx} : OpR X (binaryOp .Add) (rCatB X.K) := by
  intro pins s σ H x y v u Q I rx ry h
  obtain ⟨a, b, xs, ys, rfl, rfl, ha, hb, hz, q⟩ := h
  refine op_catA pins s σ H _ _ v u Q I rx ry ⟨a, b, xs, ys, rfl, rfl, ha, hb, hz, ?_, ?_, ?_⟩
  · rintro rfl
    exact q b H (Same.refl H) hb
  · rintro _ rfl
    exact q a H (Same.refl H) (by rw [List.append_nil]; exact ha)
  · intro _ _ p hp
    refine q p _ (fun c o e => ?_) (SqT.of upd_same)
    rw [upd_ne (ne_of_none e hp)]
    exact e
end Bb
set_option Elab.async false
set_option linter.all false
set_option maxRecDepth 100000
set_option maxHeartbeats 2000000
namespace Bb
open PySem PySem.Spec PyProof.Rows L2
/-! things of any kind as data, dicts with int keys too; Z: the addresses that may change -/
mutual
inductive Da (Z : Addr → Prop) (H : Hp) : V → PyData → Prop
  | non : Da Z H .non .none
  | bl (b : Bool) : Da Z H (.bl b) (.bool b)
  | int (i : Int) : Da Z H (.int i) (.int i)
  | str (x : Str) : Da Z H (.str x) (.str x)
  | lst {a : Addr} {xs : List V} {ds : List PyData} : H a = some (.lst xs) → ¬ Z a → DaAll Z H xs ds → Da Z H (.ref a) (.list ds)
  | tup {a : Addr} {xs : List V} {ds : List PyData} : H a = some (.tup xs) → ¬ Z a → DaAll Z H xs ds → Da Z H (.ref a) (.tuple ds)
  | d0 {a : Addr} : H a = some (.dK []) → ¬ Z a → Da Z H (.ref a) (.dict [])
  | d1 {a : Addr} {i j : Int} : H a = some (.dK [(Sum.inl i, .int j)]) → ¬ Z a → Da Z H (.ref a) (.dict [(.int i, .int j)])
inductive DaAll (Z : Addr → Prop) (H : Hp) : List V → List PyData → Prop
  | nil : DaAll Z H [] []
  | cons {v : V} {vs : List V} {d : PyData} {ds : List PyData} : Da Z H v d → DaAll Z H vs ds → DaAll Z H (v :: vs) (d :: ds)
end
/-- all stays but what Z names -/
def Keeps (Z : Addr → Prop) (H H' : Hp) : Prop := ∀ b o, H b = some o → (∀ xs, o ≠ .tbl xs) → ¬ Z b → H' b = some o
theorem Keeps.refl {Z : Addr → Prop} {H : Hp} : Keeps Z H H := fun _ _ e _ _ => e
theorem Keeps.trans {Z : Addr → Prop} {H H1 H2 : Hp} (a : Keeps Z H H1) (b : Keeps Z H1 H2) : Keeps Z H H2 := fun c o e t n => b c o (a c o e t n) t n
theorem Keeps.of {Z : Addr → Prop} {H H' : Hp} (s : Same H H') : Keeps Z H H' := fun b o e _ _ => s b o e
theorem Keeps.ext {Z : Addr → Prop} {H H' : Hp} (x : LamX.ExtN H H') : Keeps Z H H' := fun b o e n _ => x b o e n
section
variable {Z Z' : Addr → Prop} {H H' : Hp}
mutual
theorem Da.keep (k : Keeps Z H H') : ∀ (d : PyData) (v : V), Da Z H v d → Da Z H' v d
  | .none, _, h => by
    cases h
    exact .non
  | .bool b, _, h => by
    cases h
    exact .bl b
  | .int i, _, h => by
    cases h
    exact .int i
  | .str x, _, h => by
    cases h
    exact .str x
  | .list ds, _, h => by
    cases h with
    | lst e n a => exact .lst (k _ _ e (fun _ z => by cases z) n) n (DaAll.keep k ds _ a)
  | .tuple ds, _, h => by
    cases h with
    | tup e n a => exact .tup (k _ _ e (fun _ z => by cases z) n) n (DaAll.keep k ds _ a)
  | .dict _, _, h => by
    cases h with
    | d0 e n => exact .d0 (k _ _ e (fun _ z => by cases z) n) n
    | d1 e n => exact .d1 (k _ _ e (fun _ z => by cases z) n) n
theorem DaAll.keep (k : Keeps Z H H') : ∀ (ds : List PyData) (vs : List V), DaAll Z H vs ds → DaAll Z H' vs ds
  | [], _, h => by
    cases h
    exact .nil
  | d :: ds, _, h => by
    cases h with
    | cons a b => exact .cons (Da.keep k d _ a) (DaAll.keep k ds _ b)
end
mutual
/-- other addresses that may change: none of the data's -/
theorem Da.zed (n : ∀ b o, H b = some o → ¬ Z b → ¬ Z' b) : ∀ (d : PyData) (v : V), Da Z H v d → Da Z' H v d
  | .none, _, h => by
    cases h
    exact .non
  | .bool b, _, h => by
    cases h
    exact .bl b
  | .int i, _, h => by
    cases h
    exact .int i
  | .str x, _, h => by
    cases h
    exact .str x
  | .list ds, _, h => by
    cases h with
    | lst e z a => exact .lst e (n _ _ e z) (DaAll.zed n ds _ a)
  | .tuple ds, _, h => by
    cases h with
    | tup e z a => exact .tup e (n _ _ e z) (DaAll.zed n ds _ a)
  | .dict _, _, h => by
    cases h with
    | d0 e z => exact .d0 e (n _ _ e z)
    | d1 e z => exact .d1 e (n _ _ e z)
theorem DaAll.zed (n : ∀ b o, H b = some o → ¬ Z b → ¬ Z' b) : ∀ (ds : List PyData) (vs : List V), DaAll Z H vs ds → DaAll Z' H vs ds
  | [], _, h => by
    cases h
    exact .nil
  | d :: ds, _, h => by
    cases h with
    | cons a b => exact .cons (Da.zed n d _ a) (DaAll.zed n ds _ b)
end
theorem DaAll.len : ∀ {ds : List PyData} {vs : List V}, DaAll Z H vs ds → vs.length = ds.length
  | [], _, h => by
    cases h
    rfl
  | d :: ds, _, h => by
    cases h with
    | cons a b =>
      rw [List.length_cons, List.length_cons, b.len]
theorem DaAll.get : ∀ {ds : List PyData} {vs : List V}, DaAll Z H vs ds → ∀ {i : Nat} {v : V}, vs[i]? = some v → ∃ d, ds[i]? = some d ∧ Da Z H v d
  | [], _, h, i, v, e => by
    cases h
    simp at e
  | d :: ds, _, h, i, v, e => by
    cases h with
    | cons a b =>
      cases i with
      | zero =>
        have e' := Option.some.inj e
        subst e'
        exact ⟨d, rfl, a⟩
      | succ i =>
        obtain ⟨d', h1, h2⟩ := b.get (i := i) (v := v) (by simpa using e)
        exact ⟨d', by simpa using h1, h2⟩
theorem DaAll.app : ∀ {ds es : List PyData} {vs us : List V}, DaAll Z H vs ds → DaAll Z H us es → DaAll Z H (vs ++ us) (ds ++ es)
  | [], _, _, _, h, g => by
    cases h
    exact g
  | d :: ds, _, _, _, h, g => by
    cases h with
    | cons a b => exact .cons a (b.app g)
theorem DaAll.take : ∀ {ds : List PyData} {vs : List V}, DaAll Z H vs ds → ∀ n : Nat, DaAll Z H (vs.take n) (ds.take n)
  | [], _, h, n => by
    cases h
    simp
    exact .nil
  | d :: ds, _, h, n => by
    cases h with
    | cons a b =>
      cases n with
      | zero => exact .nil
      | succ n => exact .cons a (b.take n)
theorem DaAll.drop : ∀ {ds : List PyData} {vs : List V}, DaAll Z H vs ds → ∀ n : Nat, DaAll Z H (vs.drop n) (ds.drop n)
  | [], _, h, n => by
    cases h
    simp
    exact .nil
  | d :: ds, _, h, n => by
    cases h with
    | cons a b =>
      cases n with
      | zero => exact .cons a b
      | succ n => exact b.drop n
theorem DaAll.ints : ∀ ns : List Int, DaAll Z H (ns.map V.int) (ns.map PyData.int)
  | [] => .nil
  | n :: ns => .cons (.int n) (DaAll.ints ns)
end
/-! no list within -/
mutual
def noList : PyData → Bool
  | .list _ => false
  | .tuple ds => noLists ds
  | _ => true
def noLists : List PyData → Bool
  | [] => true
  | d :: ds => noList d && noLists ds
end
section
variable {Z : Addr → Prop} {X : Cx} {pins : List (Addr × Obj)} {σ : L2.St} {H : Hp} {s : Shared}
theorem dict_reads {a : Addr} {kvs : List (Int × Int)} (I : Inv X pins σ H s) (h : H a = some (.dK (kvs.map fun p => (Sum.inl p.1, V.int p.2)))) : ∃ as, Reads s.heap (.ref a) (.dict (kvs.map fun p => (PyData.int p.1, PyData.int p.2))) (a :: as) ∧ as = [] ∧ (a == sysModules) = false := by
  obtain ⟨_, hs, vs, kv, o, es, ep, ho, ex, hd, _, pr, _⟩ := dk_of I.hok h
  have key : ∀ (kvs : List (Int × Int)) (vs : List (Key × Value)) (es : List DictEntry), KV (kvs.map fun p => ((Sum.inl p.1 : Key), V.int p.2)) vs → Pairs (mixKind X.prog X.w) es vs →
      ReadsAll s.heap (es.map (·.key)) ((kvs.map fun p => (PyData.int p.1, PyData.int p.2)).map (·.1)) [] ∧ ReadsAll s.heap (es.map (·.val)) ((kvs.map fun p => (PyData.int p.1, PyData.int p.2)).map (·.2)) [] := by
    intro kvs
    induction kvs with
    | nil =>
      intro vs es h1 h2
      cases h1
      cases h2
      exact ⟨.nil, .nil⟩
    | cons p kvs ih =>
      intro vs es h1 h2
      cases h1 with
      | cons e r =>
        cases h2 with
        | cons k v t =>
          obtain ⟨i1, i2⟩ := ih _ _ r t
          obtain ⟨e1, tk, e2⟩ := e
          dsimp only at e1 e2
          rw [← e1] at k
          have k' : keyIs (Sum.inl p.1) _ = true := k
          rcases keyIs_shape k' with ⟨i, t', q1, q2⟩ | ⟨x, t', q1, q2⟩
          · injection q1 with q1
            subst q1
            refine ⟨?_, ?_⟩
            · rw [List.map_cons, q2]
              exact ReadsAll.cons (as := []) (Reads.int _ _) i1
            · rw [List.map_cons, v, e2]
              exact ReadsAll.cons (as := []) (Reads.int _ _) i2
          · cases q1
  obtain ⟨r1, r2⟩ := key kvs vs es.toList kv pr
  exact ⟨[], Reads.dict ho ex.1 hd r1 r2, rfl, hs⟩
mutual
theorem Da.reads (I : Inv X pins σ H s) : ∀ (d : PyData) (v : V) (u : Value), Da Z H v d → RelV v u → ∃ as, Reads s.heap u d as ∧ (noList d = true → ∀ b ∈ as, (b == sysModules) = false)
  | .none, _, _, h, r => by
    cases h
    cases r
    exact ⟨_, Reads.none, fun _ b hb => by cases hb⟩
  | .bool b, _, _, h, r => by
    cases h
    cases r
    exact ⟨_, Reads.bool b, fun _ b hb => by cases hb⟩
  | .int i, _, _, h, r => by
    cases h
    obtain ⟨t, rfl⟩ := r
    exact ⟨_, Reads.int i t, fun _ b hb => by cases hb⟩
  | .str x, _, _, h, r => by
    cases h
    obtain ⟨t, rfl⟩ := r
    exact ⟨_, Reads.str x t, fun _ b hb => by cases hb⟩
  | .list ds, _, _, h, r => by
    cases h with
    | lst hs _ ha =>
      cases r
      obtain ⟨its, rv, ⟨o, n, ho, hc, _, hd⟩, _⟩ := I.list (SqL.of hs)
      obtain ⟨as, hr, _⟩ := DaAll.reads I ds _ its ha rv
      exact ⟨_, Reads.list ho hc hd hr, fun z => by
        unfold noList at z
        cases z⟩
  | .tuple ds, _, _, h, r => by
    cases h with
    | tup hs _ ha =>
      cases r
      obtain ⟨its, rv, ⟨o, ho, hc, n, hd⟩, _⟩ := I.tuple (SqT.of hs)
      obtain ⟨as, hr, q⟩ := DaAll.reads I ds _ its ha rv
      exact ⟨_, Reads.tuple ho hc hd hr, fun z => q (by unfold noList at z; exact z)⟩
  | .dict _, _, _, h, r => by
    cases h with
    | d0 e _ =>
      cases r
      obtain ⟨as, h1, h2, h3⟩ := dict_reads (kvs := []) I e
      subst h2
      exact ⟨_, h1, fun _ b hb => by
        rw [List.mem_singleton.mp hb]
        exact h3⟩
    | @d1 _ i j e _ =>
      cases r
      obtain ⟨as, h1, h2, h3⟩ := dict_reads (kvs := [(i, j)]) I e
      subst h2
      exact ⟨_, h1, fun _ b hb => by
        rw [List.mem_singleton.mp hb]
        exact h3⟩
theorem DaAll.reads (I : Inv X pins σ H s) : ∀ (ds : List PyData) (vs : List V) (us : List Value), DaAll Z H vs ds → Vals vs us → ∃ as, ReadsAll s.heap us ds as ∧ (noLists ds = true → ∀ b ∈ as, (b == sysModules) = false)
  | [], _, _, h, r => by
    cases h
    cases r
    exact ⟨_, ReadsAll.nil, fun _ b hb => by cases hb⟩
  | d :: ds, _, _, h, r => by
    cases h with
    | cons h1 h2 =>
      cases r with
      | cons r1 r2 =>
        obtain ⟨as, q1, n1⟩ := Da.reads I d _ _ h1 r1
        obtain ⟨bs, q2, n2⟩ := DaAll.reads I ds _ _ h2 r2
        refine ⟨_, ReadsAll.cons q1 q2, fun z b hb => ?_⟩
        unfold noLists at z
        rw [Bool.and_eq_true] at z
        rcases List.mem_append.mp hb with m | m
        · exact n1 z.1 b m
        · exact n2 z.2 b m
end
end
mutual
theorem Da.dp {K : PySem.W.Frag} {Z : Addr → Prop} {H : Hp} : ∀ (d : PyData) (v : V), Da Z H v d → d.hasDict = false → Dp K H v d
  | .none, _, h, _ => by
    cases h
    exact .non
  | .bool b, _, h, _ => by
    cases h
    exact .bl b
  | .int i, _, h, _ => by
    cases h
    exact .int i
  | .str x, _, h, _ => by
    cases h
    exact .str x
  | .list ds, _, h, n => by
    cases h with
    | lst e _ a =>
      unfold PyData.hasDict at n
      exact .lst (SqL.of e) (DaAll.dp ds _ a n)
  | .tuple ds, _, h, n => by
    cases h with
    | tup e _ a =>
      unfold PyData.hasDict at n
      exact .tup (SqT.of e) (DaAll.dp ds _ a n)
  | .dict _, _, _, n => by
    unfold PyData.hasDict at n
    cases n
theorem DaAll.dp {K : PySem.W.Frag} {Z : Addr → Prop} {H : Hp} : ∀ (ds : List PyData) (vs : List V), DaAll Z H vs ds → PyData.hasDictAll ds = false → DpAll K H vs ds
  | [], _, h, _ => by
    cases h
    exact .nil
  | d :: ds, _, h, n => by
    cases h with
    | cons a b =>
      unfold PyData.hasDictAll at n
      rw [Bool.or_eq_false_iff] at n
      exact .cons (Da.dp d _ a n.1) (DaAll.dp ds _ b n.2)
end
/-! repr of any such thing, where no repr is under way -/
def rReprA : List V → Hp → VK → Prop := fun xs H Q => ∃ (Z : Addr → Prop) (x : V) (d : PyData), xs = [x] ∧ Da Z H x d ∧ (d.hasDict = true → noList d = true) ∧ d.showable = true ∧ d.depth ≤ 60 ∧ d.shown.length ≤ sizeLine ∧ Q (.str d.shown) H
theorem call_reprA {X : Cx} (hg : X.A.guards = some []) (hu : X.A.units + 64 < cLine) : CallR X (.builtin "repr") rReprA := by
  intro pins s σ H xs us Q I r h
  obtain ⟨Z, x, d, rfl, hd, hn, hs, hde, hz, q⟩ := h
  obtain ⟨u, rfl, ru⟩ := vals1 r
  obtain ⟨as, rd, no⟩ := Da.reads I d x u hd ru
  have hsm : d.hasDict = true → sysModules ∉ as := fun z m => by
    have q := no (hn z) _ m
    simp at q
  cases hd with
  | non =>
    cases ru
    exact PySem.P.repr_of_none ⟨.str _, H, I.tok _, ⟨_, rfl⟩, q⟩
  | bl b =>
    cases ru
    exact PySem.P.repr_of_bool ⟨.str _, H, I.tok _, ⟨_, rfl⟩, q⟩
  | int i =>
    obtain ⟨t, rfl⟩ := ru
    exact PySem.P.repr_of_int (of_decide_eq_true hs) ⟨.str _, H, I.tok _, ⟨_, rfl⟩, q⟩
  | str z =>
    obtain ⟨t, rfl⟩ := ru
    exact PySem.P.repr_of_str ⟨.str _, H, I.tok _, ⟨_, rfl⟩, q⟩ hz
  | lst h1 _ h2 =>
    cases ru
    exact repr_of_reads' rd hs hsm hg (by omega) (fun _ _ e => e) (fun h' u' tk k => ⟨.str _, H, I.kept k, ⟨_, rfl⟩, q⟩) hz
  | tup h1 _ h2 =>
    cases ru
    exact repr_of_reads' rd hs hsm hg (by omega) (fun _ _ e => e) (fun h' u' tk k => ⟨.str _, H, I.kept k, ⟨_, rfl⟩, q⟩) hz
  | d0 h1 _ =>
    cases ru
    exact repr_of_reads' rd hs hsm hg (by omega) (fun _ _ e => e) (fun h' u' tk k => ⟨.str _, H, I.kept k, ⟨_, rfl⟩, q⟩) hz
  | d1 h1 _ =>
    cases ru
    exact repr_of_reads' rd hs hsm hg (by omega) (fun _ _ e => e) (fun h' u' tk k => ⟨.str _, H, I.kept k, ⟨_, rfl⟩, q⟩) hz
end Bb
set_option Elab.async false
set_option linter.all false
set_option maxRecDepth 100000
set_option maxHeartbeats 2000000
namespace Bb
open PySem PySem.Spec PyProof.Rows L2
open Builtin
/-! {x!r} of any such thing -/
section
variable {X : Cx}
def tFmtA (te : TE) : TE := fun σ H Q => te σ H fun x H1 => ∃ (Z : Addr → Prop) (d : PyData), Da Z H1 x d ∧ (d.hasDict = true → noList d = true) ∧ d.showable = true ∧ d.depth ≤ 60 ∧ d.shown.length ≤ sizeLine ∧ Q (.str d.shown) H1
theorem pe_fmtA {e : Expr} {te : TE} {pos : Pos} (hg : X.A.guards = some []) (hu : X.A.units + 64 < cLine) (he : PE X e te) : PE X (.FormattedValue e 114 none pos) (tFmtA te) := by
  refine ⟨fun pins s σ H Q I h => ?_⟩
  refine wpAny_FormattedValue_repr (thn (he.run pins s σ H _ I h) fun v s1 hv => ?_)
  obtain ⟨x, H1, I1, r1, Z, d, hd, hn, hs, hde, hz, q⟩ := hv
  obtain ⟨as, rd, no⟩ := Da.reads I1 d x v hd r1
  have hsm : d.hasDict = true → sysModules ∉ as := fun z m => by
    have q := no (hn z) _ m
    simp at q
  have fin : ∀ {s2 : Shared} {u : Tok}, Inv X pins σ H1 s2 → Inv X pins σ H1 { s2 with toks := s2.toks + 1 } → wpAny (model X.prog X.w) X.A (formatField (.str d.shown u) Str.empty) (EP X pins σ Q) X.xe s2 := fun {s2 u} I2 I3 =>
    wpAny_formatField_str ⟨.str d.shown, H1, I2, ⟨_, rfl⟩, q⟩ ⟨.str d.shown, H1, I3, ⟨_, rfl⟩, q⟩ hz
  cases hd with
  | non =>
    cases r1
    exact pyReprObj_none (fin (I1.tok _) (I1.tok _))
  | bl b =>
    cases r1
    exact pyReprObj_bool (fin (I1.tok _) (I1.tok _))
  | int i =>
    obtain ⟨t, rfl⟩ := r1
    exact pyReprObj_int (of_decide_eq_true hs) (fin (I1.tok _) (I1.tok _))
  | str z =>
    obtain ⟨t, rfl⟩ := r1
    exact pyReprObj_str (fin (I1.tok _) (I1.tok _)) hz
  | lst h1 _ h2 =>
    cases r1
    exact pyReprObj_of_reads rd hs hsm hg (by omega) (fun _ _ e => e) (fun h' u tk k => fin (I1.kept k) ((I1.kept (t' := tk) k).tok _)) hz
  | tup h1 _ h2 =>
    cases r1
    exact pyReprObj_of_reads rd hs hsm hg (by omega) (fun _ _ e => e) (fun h' u tk k => fin (I1.kept k) ((I1.kept (t' := tk) k).tok _)) hz
  | d0 h1 _ =>
    cases r1
    exact pyReprObj_of_reads rd hs hsm hg (by omega) (fun _ _ e => e) (fun h' u tk k => fin (I1.kept k) ((I1.kept (t' := tk) k).tok _)) hz
  | d1 h1 _ =>
    cases r1
    exact pyReprObj_of_reads rd hs hsm hg (by omega) (fun _ _ e => e) (fun h' u tk k => fin (I1.kept k) ((I1.kept (t' := tk) k).tok _)) hz
/-! a context in which no repr is under way, one level within -/
theorem in1_guards {A : Around} (h : A.guards = some []) : A.in1.guards = some [] := h
/-! repr of an own instance, by its own __repr__ -/
theorem call_reprOwn {CX : CXT} {C f : Addr} {fd : FuncData} {ps : List Str} {sp : Sp} {k : Nat} {E : XK} (F : FnG X.prog X.w X.K X.mg X.base CX k f fd ps sp) (gd : X.A.guards = some []) (hr : Room (k + 1) X.A) (hs : PySem.W.findIn X.K (.ref C) "__repr__" = some (some (.ref f))) (hf : PySem.W.isFn X.K (.ref f) = true)
    (hb : Binds X.K fd ps []) (hx : Passes CX X E) :
    CallR X (.builtin "repr") (fun xs H Q => ∃ a dx fs, xs = [.ref a] ∧ H a = some (.ins C dx fs) ∧ sp [.ref a] H (fun v H' => ∃ z : Str, v = .str z ∧ Q (.str z) H') E) := by
  intro pins s σ H xs us Q I r h
  obtain ⟨a, dx, fs, rfl, ha, hsp⟩ := h
  obtain ⟨u, rfl, ru⟩ := vals1 r
  cases ru
  obtain ⟨mA, J, _⟩ := ins_get I.hok ha
  obtain ⟨od, J, _⟩ := J.look
  have un := hr.units
  refine Calls.call_function_entry PySem.F.kind_repr PySem.F.plain_repr PySem.F.entry_repr (PySem.F.args_repr1 _) ?_
  unfold Builtin.«repr»
  refine wpAny_bind (m := oneArg "repr" _) (wpAny_pure ?_)
  refine wpAny_bind (m := cRoomFor _ _) (wpAny_cRoomFor (by show X.A.units + 1 < cLine; omega) ?_)
  refine wpAny_bind (wpAny_bind (J.type.here ((PySem.W.looks_findIn I.kIn hs).here ?_)))
  refine wpAny_bind (m := callSpecialIfBound? (.ref a) (Str.ofString "__repr__")) (PySem.W.ifBound_K (args := []) I.kIn J hs hf ?_)
  have hl := F.args _ _ _ _ hsp
  have bnd := hb s [.ref a] I.kIn (by simpa using hl)
  rw [List.append_nil] at bnd
  refine wpAny_call (codeAny_mono (F.go X.A.in1 X.stack s H ⟨[.ref a], []⟩ [.ref a] [.ref a] _ E (in1_guards gd) hr.in1 I.env0.in1 bnd (.cons rfl .nil) hsp) ?_)
  rintro (er | fl) s' hq
  · exact hx pins σ H s er s' I hq
  · cases fl with
    | ret w' =>
      obtain ⟨z, H', I', rz, n, rfl, q⟩ := I.after hq
      obtain ⟨t, rfl⟩ := rz
      refine wpAny_bind (wpAny_isInstance (T := "str") (b := true) rfl isSubtype_str_str ?_)
      exact wpAny_pure ⟨_, rfl, .str n, H', I', ⟨_, rfl⟩, q⟩
    | next => exact hq.elim
    | brk => exact hq.elim
    | cont => exact hq.elim
end
end Bb
set_option Elab.async false
set_option linter.all false
set_option maxRecDepth 100000
set_option maxHeartbeats 2000000
namespace Bb
open PySem PySem.Spec PyProof.Rows L2
open Builtin
/-! ==, != of an own instance and any such thing -/
def tyNames : List String := ["NoneType", "bool", "int", "str", "list", "tuple", "dict"]
theorem da_looks {M : Model} {X : Cx} {pins : List (Addr × Obj)} {σ : L2.St} {H : Hp} {s : Shared} {Z : Addr → Prop} {x : V} {d : PyData} {u : Value} (I : Inv X pins σ H s) (h : Da Z H x d) (r : RelV x u) : ∃ n, PySem.W.Looks M s.heap (typeOf u) (.type n) ∧ n ∈ tyNames := by
  have ref : ∀ {a : Addr} {o : Obj} {n : String}, s.heap.get? a = some o → o.cls = .type n → PySem.W.Looks M s.heap (typeOf (.ref a)) (.type n) := fun {a o n} e c A Q E s' k q => wpAny_typeOf (v := .ref a) ⟨o, k _ _ e, c⟩ q
  cases h with
  | non =>
    cases r
    exact ⟨_, PySem.W.Looks.of_pure rfl, by decide⟩
  | bl b =>
    cases r
    exact ⟨_, PySem.W.Looks.of_pure rfl, by decide⟩
  | int i =>
    obtain ⟨t, rfl⟩ := r
    exact ⟨_, PySem.W.Looks.of_pure rfl, by decide⟩
  | str z =>
    obtain ⟨t, rfl⟩ := r
    exact ⟨_, PySem.W.Looks.of_pure rfl, by decide⟩
  | lst e _ _ =>
    cases r
    obtain ⟨its, rv, ⟨o, n, ho, hc, _, hd⟩, _⟩ := I.list (SqL.of e)
    exact ⟨_, ref ho hc, by decide⟩
  | tup e _ _ =>
    cases r
    obtain ⟨its, rv, ⟨o, ho, hc, n, hd⟩, _⟩ := I.tuple (SqT.of e)
    exact ⟨_, ref ho hc, by decide⟩
  | d0 e _ =>
    cases r
    obtain ⟨_, hs, vs, kv, o, es, ep, ho, ex, _⟩ := dk_of I.hok e
    exact ⟨_, ref ho ex.1, by decide⟩
  | d1 e _ =>
    cases r
    obtain ⟨_, hs, vs, kv, o, es, ep, ho, ex, _⟩ := dk_of I.hok e
    exact ⟨_, ref ho ex.1, by decide⟩
/-- a value of a built-in type: data, or a list of anything -/
def Bt (H : Hp) (v : V) : Prop := (∃ (Z : Addr → Prop) (d : PyData), Da Z H v d) ∨ ∃ (a : Addr) (xs : List V), v = .ref a ∧ H a = some (.lst xs)
theorem bt_looks {M : Model} {X : Cx} {pins : List (Addr × Obj)} {σ : L2.St} {H : Hp} {s : Shared} {x : V} {u : Value} (I : Inv X pins σ H s) (h : Bt H x) (r : RelV x u) : ∃ n, PySem.W.Looks M s.heap (typeOf u) (.type n) ∧ n ∈ tyNames := by
  rcases h with ⟨Z, d, h⟩ | ⟨a, xs, rfl, e⟩
  · exact da_looks I h r
  · cases r
    obtain ⟨its, rv, ⟨o, n, ho, hc, _, hd⟩, _⟩ := I.list (SqL.of e)
    exact ⟨_, fun A Q E s' k q => wpAny_typeOf (v := .ref a) ⟨o, k _ _ ho, hc⟩ q, by decide⟩
theorem not_sub {K : PySem.W.Frag} {C : Addr} {n : String} (h : n ∈ tyNames) : PySem.W.subIn K (.type n) (.ref C) = some false := by
  simp only [tyNames, List.mem_cons, List.not_mem_nil, or_false] at h
  rcases h with rfl | rfl | rfl | rfl | rfl | rfl | rfl <;> rfl
theorem not_first {K : PySem.W.Frag} {C : Addr} {n : String} (h : n ∈ tyNames) : PySem.W.notFirst K C (.type n) = true := by
  unfold PySem.W.notFirst
  rw [not_sub h]
  simp
section
variable {X : Cx} {CX : CXT} {C f : Addr} {fd : FuncData} {ps : List Str} {sp : Sp} {k : Nat} {E : XK}
theorem op_eqOwnX (F : FnOk X.prog X.w X.K X.mg X.base CX k f fd ps sp) (hr : Room k X.A) (he : PySem.W.findIn X.K (.ref C) "__eq__" = some (some (.ref f))) (hf : PySem.W.isFn X.K (.ref f) = true)
    (hb : Binds X.K fd ps []) (hx : Passes CX X E) :
    OpR X (compareOp .Eq) (fun x y H Q => ∃ (a dx : Addr) (fs : List (Str × V)), x = .ref a ∧ H a = some (.ins C dx fs) ∧ Bt H y ∧ sp [.ref a, y] H (fun v H' => ∃ t, v = .bl t ∧ Q (.bl t) H') E) := by
  intro pins s σ H x y v u Q I rx ry h
  obtain ⟨a, dx, fs, rfl, ha, hd, hsp⟩ := h
  cases rx
  obtain ⟨mA, J, _⟩ := ins_get I.hok ha
  obtain ⟨od, J, _⟩ := J.look
  obtain ⟨n, lk, hn⟩ := bt_looks (M := model X.prog X.w) I hd ry
  obtain ⟨m, hF⟩ := I.fr
  show wpAny (model X.prog X.w) X.A (richCompare .Eq (.ref a) u) _ _ _
  refine PySem.W.cmp_K (op := .Eq) (tb := .type n) hr.units0 hF I.ok.mod.kin J lk (not_first hn) he hf ?_
  have hl := F.len _ _ _ _ hsp
  have bnd := hb s [.ref a, u] I.kIn (by simpa using hl)
  rw [List.append_nil] at bnd
  refine wpAny_call (codeAny_mono (F.run X.A X.stack s H ⟨[.ref a, u], []⟩ [.ref a, u] [.ref a, y] _ E hr I.env0 bnd (.cons rfl (.cons ry .nil)) hsp) ?_)
  rintro (er | fl) s' hq
  · exact hx pins σ H s er s' I hq
  · cases fl with
    | ret w' =>
      obtain ⟨z, H', I', rz, t, rfl, q⟩ := I.after hq
      cases rz
      exact ⟨.bl t, H', I', rfl, q⟩
    | next => exact hq.elim
    | brk => exact hq.elim
    | cont => exact hq.elim
end
namespace Ne
open PySem.W PySem.Calls
section
variable {prog : Program} {w : World} {A : Around} {E : Value → Shared → Prop} {s : Shared} {K : Frag} {x C f : Addr} {ox : Obj} {od : Option Obj}
theorem obj_neX {v : Value} {tb : Value} {Q : Value → Shared → Prop} (X : K.In s.heap) (I : InstAt s.heap x ox C od) (J : Looks (model prog w) s.heap (typeOf v) tb) (htb : tb ≠ .ref C) (hn1 : subIn K tb (.ref C) = some false) (hu : A.units + 1 < cLine) (he : findIn K (.ref C) "__eq__" = some (some (.ref f))) (hf : isFn K (.ref f) = true)
    (hn : findIn K (.ref C) "__ne__" = some (some (.builtin "object.__ne__"))) (hsub : subIn K (.ref C) (.type "object") = some true)
    (h : wpAny (model prog w) A.in1 (call (.ref f) [.ref x, v]) (fun r s' => ∃ b, r = .bool b ∧ Q (.bool (!b)) s') E s) : wpAny (model prog w) A (compareOp .NotEq (.ref x) v) Q E s := by
  obtain ⟨hp, g, d, tk, os⟩ := s
  have isO : Looks (model prog w) hp (isInstance (.ref x) (.type "object")) true := I.type.andThen (looks_subIn X hsub)
  -- object.__ne__(x, y)
  have slot : wpAny (model prog w) A (call (.builtin "object.__ne__") [.ref x, v]) (fun r s' => ∃ b, r = .bool b ∧ Q (.bool b) s') E ⟨hp, g, d, tk, os⟩ := by
    refine wpAny_call (codeAny_call_builtin (by decide +kernel) F.cmpEntry_ne ?_)
    refine @check_slot (model prog w) _ _ ⟨hp, g, d, tk, os⟩ "object.__ne__" "object" "__ne__" (.ref x) [v] [] _ F.cmpKind_ne F.cmpSplit_ne isO (F.cmpArgs_ne _ _) ?_
    unfold Builtin.«object.__ne__»
    have eqc : ∀ {R : Option Value → Shared → Prop} {E' : Value → Shared → Prop}, wpAny (model prog w) A.in1 (call (.ref f) [.ref x, v]) (fun v => R (some v)) E' ⟨hp, g, d, tk, os⟩ →
        wpAny (model prog w) A.in1 (callSpecialIfBound? (.ref x) (Str.ofString "__eq__") [v]) R E' ⟨hp, g, d, tk, os⟩ := fun z => ifBound_K X I he hf z
    have rest : ∀ (r0 : Value) (s' : Shared), (∃ b, r0 = .bool b ∧ Q (.bool (!b)) s') → wpAny (model prog w) A.in1 (match some r0 with | some Value.notImplemented => ret .notImplemented | none => ret .notImplemented | some r => do ret (.bool (!(← truthy r))))
        (fun fin s' => match fin with
          | .done f => wants (fun v s' => ∃ b, v = Value.bool b ∧ Q (Value.bool b) s') E (.ok f) s'
          | .again c' => c'.quiet = true ∧ codeAny (model prog w) A c' (wants (fun v s' => ∃ b, v = Value.bool b ∧ Q (Value.bool b) s') E) s') (fun e s' => wants (fun v s' => ∃ b, v = Value.bool b ∧ Q (Value.bool b) s') E (.error e) s') s' := by
      rintro v s' ⟨b, rfl, hq⟩
      refine wpAny_bind (wpAny_truthy_bool (wpAny_pure ?_))
      exact ⟨!b, rfl, hq⟩
    repeat (first
      | with_reducible refine wpAny_cRoomFor hu ?_
      | exact wpAny_bind (m := callSpecialIfBound? (.ref x) (Str.ofString "__eq__") [v]) (eqc (wpAny_mono h (fun v s' hv => rest v s' hv) fun _ _ e => e))
      | wp_step)
  have bs : bindSpecial (.builtin "object.__ne__") (.ref x) = pure (.builtin "object.__ne__", [.ref x]) := by
    unfold bindSpecial
    rw [wrap_ty]
    rfl
  have two : wpAny (model prog w) A (callSpecialIfBound? (.ref x) (Str.ofString "__ne__") [v]) (fun r s' => ∃ b, r = some (Value.bool b) ∧ Q (Value.bool b) s') E ⟨hp, g, d, tk, os⟩ := by
    simp only [callSpecialIfBound?, bindSpecialIfBound?]
    refine wpAny_holding (wpAny_bind (wpAny_bind (wpAny_bind (I.type.here ((looks_findIn X hn).here ?_)))))
    refine wpAny_bind (wpAny_askSetting (wpAny_ite ?_))
    have fin : wpAny (model prog w) A (call (.builtin "object.__ne__") ([.ref x] ++ [v]) >>= fun v => pure (some v)) (fun r s' => ∃ b, r = some (Value.bool b) ∧ Q (Value.bool b) s') E ⟨hp, g, d, tk, os⟩ := by
      refine wpAny_bind (wpAny_mono slot ?_ fun _ _ e => e)
      rintro v s' ⟨b, rfl, hq⟩
      exact wpAny_pure ⟨b, rfl, hq⟩
    split
    · rw [bs]
      exact wpAny_bind (wpAny_pure (wpAny_pure (by exact fin)))
    · rw [bs]
      exact wpAny_tryCatch (wpAny_bind (wpAny_pure (wpAny_pure (by exact fin))))
  have one : wpAny (model prog w) A (tryCompare (.ref x) (Str.ofString "__ne__") v) (fun r s' => ∃ v, r = some v ∧ Q v s') E ⟨hp, g, d, tk, os⟩ := by
    unfold tryCompare
    refine wpAny_bind (wpAny_mono two ?_ fun _ _ e => e)
    rintro r s' ⟨b, rfl, hq⟩
    exact wpAny_pure ⟨_, rfl, hq⟩
  show wpAny (model prog w) A (richCompare .NotEq (.ref x) v) Q E _
  unfold richCompare
  simp only [oneThing_ref]
  refine wpAny_holding (wpAny_bind (wpAny_cRoomFor (Nat.lt_of_succ_lt hu) ?_))
  refine wpAny_bind (I.type.here (wpAny_bind (J.here ?_)))
  rw [show (Value.ref C != tb) = true from bne_iff_ne.mpr (Ne.symm htb)]
  simp only [if_true]
  refine wpAny_bind ((looks_subIn X hn1).here ?_)
  simp only [Bool.false_eq_true, if_false]
  refine wpAny_bind (wpAny_mono one ?_ fun _ _ e => e)
  rintro r s' ⟨v, rfl, hq⟩
  exact wpAny_pure hq
end
end Ne
section
variable {X : Cx} {CX : CXT} {C f : Addr} {fd : FuncData} {ps : List Str} {sp : Sp} {k : Nat} {E : XK}
theorem op_neOwnX (F : FnOk X.prog X.w X.K X.mg X.base CX k f fd ps sp) (hr : Room (k + 1) X.A) (he : PySem.W.findIn X.K (.ref C) "__eq__" = some (some (.ref f))) (hf : PySem.W.isFn X.K (.ref f) = true)
    (hn : PySem.W.findIn X.K (.ref C) "__ne__" = some (some (.builtin "object.__ne__"))) (hsub : PySem.W.subIn X.K (.ref C) (.type "object") = some true) (hb : Binds X.K fd ps []) (hx : Passes CX X E) :
    OpR X (compareOp .NotEq) (fun x y H Q => ∃ (a dx : Addr) (fs : List (Str × V)), x = .ref a ∧ H a = some (.ins C dx fs) ∧ Bt H y ∧ sp [.ref a, y] H (fun v H' => ∃ t, v = .bl t ∧ Q (.bl (!t)) H') E) := by
  intro pins s σ H x y v u Q I rx ry h
  obtain ⟨a, dx, fs, rfl, ha, hd, hsp⟩ := h
  cases rx
  obtain ⟨mA, J, _⟩ := ins_get I.hok ha
  obtain ⟨od, J, _⟩ := J.look
  obtain ⟨n, lk, hin⟩ := bt_looks (M := model X.prog X.w) I hd ry
  have un := hr.units
  refine Ne.obj_neX I.kIn J lk (fun z => by cases z) (not_sub hin) (by omega) he hf hn hsub ?_
  have hl := F.len _ _ _ _ hsp
  have bnd := hb s [.ref a, u] I.kIn (by simpa using hl)
  rw [List.append_nil] at bnd
  refine wpAny_call (codeAny_mono (F.run X.A.in1 X.stack s H ⟨[.ref a, u], []⟩ [.ref a, u] [.ref a, y] _ E hr.in1 I.env0.in1 bnd (.cons rfl (.cons ry .nil)) hsp) ?_)
  rintro (er | fl) s' hq
  · exact hx pins σ H s er s' I hq
  · cases fl with
    | ret w' =>
      obtain ⟨z, H', I', rz, t, rfl, q⟩ := I.after hq
      cases rz
      exact ⟨t, rfl, .bl (!t), H', I', rfl, q⟩
    | next => exact hq.elim
    | brk => exact hq.elim
    | cont => exact hq.elim
end
end Bb
set_option Elab.async false
set_option linter.all false
set_option maxRecDepth 100000
set_option maxHeartbeats 2000000
namespace Bb
namespace Co
open PySem PySem.SeqAt
open AutoSeq1 (wpAny_loadPart')
open MeetsSeq MeetsSeq2 MeetsSeq3 SeqRoads2
section
variable {prog : Program} {w : World} {A : Around} {R : Result → Shared → Prop}
/-- list.__contains__ where == may be a def's -/
theorem contains_loopG (l : Addr) (items : Array Value) (x : Value) (I : Nat → Shared → Prop) (hl : ∀ i s, I i s → ∃ n, s.heap.get? l = some { cls := .type "list", data := .seq items n })
    (turn : ∀ i (h : i < items.size) s, I i s → wpAny (model prog w) A.in1 (eqBool items[i] x) (fun r s' => (r = true → R (.ok (.ret (.bool true))) s') ∧ (r = false → I (i + 1) s')) (fun e s' => R (.error e) s') s)
    (fin : ∀ s, I items.size s → R (.ok (.ret (.bool false))) s) (k : Nat) :
    ∀ i : Nat, items.size - i = k → i ≤ items.size → ∀ s, I i s →
      wpAny (model prog w) A.in1 (Builtin.«list.__contains__.loop» ⟨[.ref l, x, rawInt i], []⟩) (GQ.FinOf prog w A R) (fun e s' => R (.error e) s') s := by
  induction k with
  | zero =>
    intro i hk hi s h
    obtain ⟨n, hl1⟩ := hl _ _ h
    have hi' : i = items.size := by omega
    have hR : R (.ok (.ret (.bool false))) s := fin s (hi' ▸ h)
    obtain ⟨hp, g, d, tk, os⟩ := s
    wp_walk using wpAny_loadPart' hl1
    have hi1 : items[((i : Nat) : Int).toNat]? = none := by simp; omega
    rw [hi1]
    wp_walk using wpAny_loadPart' hl1
    exact hR
  | succ k ih =>
    intro i hk hi s h
    obtain ⟨n, hl1⟩ := hl _ _ h
    have hlt : i < items.size := by omega
    have ht := turn i hlt s h
    obtain ⟨hp, g, d, tk, os⟩ := s
    wp_walk using wpAny_loadPart' hl1
    have hi1 : items[((i : Nat) : Int).toNat]? = some items[i] := by simp [hlt]
    have hc : ((i : Int) + 1) = ((i + 1 : Nat) : Int) := by omega
    rw [hi1]
    refine wpAny_bind (wpAny_mono ht (fun r s2 h2 => ?_) fun _ _ x => x)
    cases r with
    | true =>
      have h3 := h2.1 rfl
      obtain ⟨hp2, g2, d2, tk2, os2⟩ := s2
      wp_walk
      exact h3
    | false =>
      have hrec := ih (i + 1) (by omega) (by omega) s2 (h2.2 rfl)
      obtain ⟨hp2, g2, d2, tk2, os2⟩ := s2
      wp_walk
      rw [hc]
      exact ⟨plainId_quiet plain_contains_loop _, codeAny_builtin entry_contains_loop (by
        rw [Around.under_plainId plain_contains_loop _]
        exact hrec)⟩
theorem list_containsG (l : Addr) (items : Array Value) (x : Value) (I : Nat → Shared → Prop) (hl : ∀ i s, I i s → ∃ n, s.heap.get? l = some { cls := .type "list", data := .seq items n })
    (turn : ∀ i (h : i < items.size) s, I i s → wpAny (model prog w) A.in1 (eqBool items[i] x) (fun r s' => (r = true → R (.ok (.ret (.bool true))) s') ∧ (r = false → I (i + 1) s')) (fun e s' => R (.error e) s') s)
    (fin : ∀ s, I items.size s → R (.ok (.ret (.bool false))) s) {s : Shared} (h : I 0 s) :
    wpAny (model prog w) A.in1 (Builtin.«list.__contains__» ⟨[.ref l, x], []⟩) (GQ.FinOf prog w A R) (fun e s' => R (.error e) s') s := by
  obtain ⟨n, hl1⟩ := hl _ _ h
  have hrec := contains_loopG (A := A) (R := R) l items x I hl turn fin _ 0 rfl (Nat.zero_le _) s h
  obtain ⟨hp, g, d, tk, os⟩ := s
  wp_walk using wpAny_loadPart' hl1
  exact ⟨plainId_quiet plain_contains_loop _, codeAny_builtin entry_contains_loop (by
    rw [Around.under_plainId plain_contains_loop _]
    exact hrec)⟩
end
section
variable {prog : Program} {w : World} {A : Around} {E : Value → Shared → Prop} {s : Shared}
theorem in_listG {l : Addr} {items : Array Value} {x : Value} {Q : Value → Shared → Prop} (I : Nat → Shared → Prop) (hl : ∀ i s, I i s → ∃ n, s.heap.get? l = some { cls := .type "list", data := .seq items n })
    (turn : ∀ i (h : i < items.size) s, I i s → wpAny (model prog w) A.in1 (eqBool items[i] x) (fun r s' => (r = true → Q (.bool true) s') ∧ (r = false → I (i + 1) s')) E s)
    (fin : ∀ s, I items.size s → Q (.bool false) s) (h : I 0 s) : wpAny (model prog w) A (compareOp .In x (.ref l)) Q E s := by
  obtain ⟨n, hl1⟩ := hl _ _ h
  show wpAny _ A (do return .bool (← contains (.ref l) x)) Q E s
  refine wpAny_bind (wpAny_contains_slot ⟨_, hl1, rfl⟩ F.slot_list_contains (wpAny_mono (GQ.call_here (Q := fun v s' => ∃ b, v = .bool b ∧ Q (.bool b) s') F.slot_list_contains ⟨_, hl1, rfl⟩ F.entry_list_contains (F.args_list_contains_2 _ _) ?_) (fun v s' hv => ?_) fun _ _ e => e))
  · exact list_containsG (R := wants (fun v s' => ∃ b, v = .bool b ∧ Q (.bool b) s') E) l items x I hl (fun i h s hi => wpAny_mono (turn i h s hi) (fun r s' q => ⟨fun e => ⟨_, rfl, q.1 e⟩, q.2⟩) fun _ _ e => e) (fun s hs => ⟨_, rfl, fin s hs⟩) h
  · obtain ⟨b, rfl, hq⟩ := hv
    exact wpAny_truthy_bool (wpAny_pure hq)
end
end Co
open PySem PySem.Spec PyProof.Rows L2
open Builtin
namespace Ne
open PySem.W PySem.Calls
section
variable {prog : Program} {w : World} {A : Around} {E : Value → Shared → Prop} {s : Shared} {K : Frag} {x C f : Addr} {ox : Obj} {od : Option Obj}
/-- None == an own instance: its own == answers -/
theorem none_eq {Q : Value → Shared → Prop} (X : K.In s.heap) (I : InstAt s.heap x ox C od) (hu : A.units < cLine) (he : findIn K (.ref C) "__eq__" = some (some (.ref f))) (hf : isFn K (.ref f) = true) (hsub : subIn K (.ref C) (.type "NoneType") = some false)
    (h : wpAny (model prog w) A (call (.ref f) [.ref x, .none]) (fun r s' => ∃ b, r = .bool b ∧ Q (.bool b) s') E s) : wpAny (model prog w) A (richCompare .Eq .none (.ref x)) Q E s := by
  have hT : s.TypeIs .none "NoneType" := rfl
  unfold richCompare
  simp only [hT.oneThing_none]
  refine wpAny_holding (wpAny_bind (wpAny_cRoomFor hu ?_))
  refine wpAny_bind (wpAny_typeOf hT (wpAny_bind (I.type.here ?_)))
  rw [show (Value.type "NoneType" != Value.ref C) = true from rfl]
  simp only [if_true]
  refine wpAny_bind ((looks_subIn X hsub).here ?_)
  simp only [Bool.false_eq_true, if_false, Bool.not_false, if_true]
  refine wpAny_bind (m := tryCompare .none _ (.ref x)) (wpAny_tryCompare_declines hT PySem.F.slot_NoneType_eq (call_gives PySem.F.slot_NoneType_eq hT PySem.F.entry_NoneType_eq (PySem.F.args_NoneType_eq_2 _ _) (PySem.SeqAt.NoneType___eq___none_ref_0 x) ?_))
  refine ⟨rfl, ?_⟩
  have one : wpAny (model prog w) A (tryCompare (.ref x) (cmpInfo .Eq).2.2 .none) (fun r s' => ∃ v, r = some v ∧ Q v s') E s := by
    unfold tryCompare
    refine wpAny_bind (ifBound_K X I he hf (wpAny_mono h ?_ fun _ _ e => e))
    rintro v s' ⟨b, rfl, hq⟩
    exact wpAny_pure ⟨_, rfl, hq⟩
  refine wpAny_bind (wpAny_mono one ?_ fun _ _ e => e)
  rintro r s' ⟨v, rfl, hq⟩
  exact wpAny_pure hq
end
end Ne
section
variable {X : Cx} {CX : CXT} {C f : Addr} {fd : FuncData} {ps : List Str} {sp : Sp} {k : Nat} {E : XK}
/-- x in [None, y], x and y own instances -/
theorem op_inOwn (F : FnOk X.prog X.w X.K X.mg X.base CX k f fd ps sp) (hr : Room (k + 1) X.A) (he : PySem.W.findIn X.K (.ref C) "__eq__" = some (some (.ref f))) (hf : PySem.W.isFn X.K (.ref f) = true)
    (hno : PySem.W.subIn X.K (.ref C) (.type "NoneType") = some false) (hb : Binds X.K fd ps []) (hx : Passes CX X E) :
    OpR X (compareOp .In) (fun x y H Q => ∃ (a b l dx dy : Addr) (fs gs : List (Str × V)), x = .ref a ∧ y = .ref l ∧ H l = some (.lst [.non, .ref b]) ∧ a ≠ b ∧ H a = some (.ins C dx fs) ∧ H b = some (.ins C dy gs) ∧
      sp [.ref a, .non] H (fun v H' => v = .bl false ∧ H' = H) E ∧ sp [.ref b, .ref a] H (fun v H' => v = .bl true ∧ Q (.bl true) H') E) := by
  intro pins s σ H x y v u Q I rx ry h
  obtain ⟨a, b, l, dx, dy, fs, gs, rfl, rfl, hl, hab, ha, hbb, h1, h2⟩ := h
  cases rx
  cases ry
  have its : ∀ s' : Shared, Inv X pins σ H s' → ∃ n, s'.heap.get? l = some { cls := .type "list", data := .seq #[.none, .ref b] n } := by
    intro s' I'
    obtain ⟨_, it, n, r, _, e⟩ := I'.lstM hl
    cases r with
    | cons r1 r2 =>
      cases r2 with
      | cons r3 r4 =>
        cases r4
        cases r1
        cases r3
        exact ⟨n, e⟩
  have un := hr.units0
  have un2 := hr.units
  refine Co.in_listG (items := #[.none, .ref b]) (fun i s' => i < 2 ∧ Inv X pins σ H s') (fun i s' q => its s' q.2) ?_ (fun s' q => absurd q.1 (Nat.lt_irrefl 2)) ⟨by decide, I⟩
  intro i hi s' hs'
  have I' := hs'.2
  obtain ⟨mA, J, _⟩ := ins_get I'.hok ha
  obtain ⟨od, J, _⟩ := J.look
  obtain ⟨mB, J2, _⟩ := ins_get I'.hok hbb
  obtain ⟨od2, J2, _⟩ := J2.look
  have two : i = 0 ∨ i = 1 := by
    have := hs'.1
    omega
  rcases two with rfl | rfl
  · show wpAny (model X.prog X.w) X.A.in1 (eqBool .none (.ref a)) _ _ s'
    unfold eqBool
    refine wpAny_holding ?_
    refine wpAny_ite_split (fun q => by cases q) (fun _ => ?_)
    refine wpAny_bind (wpAny_mono (Ne.none_eq (Q := fun v s2 => v = .bool false ∧ Inv X pins σ H s2) I'.kIn J (by show X.A.units + 1 < cLine; omega) he hf hno ?_) ?_ fun _ _ e => e)
    · have hl1 := F.len _ _ _ _ h1
      have bnd := hb s' [.ref a, .none] I'.kIn (by simpa using hl1)
      rw [List.append_nil] at bnd
      refine wpAny_call (codeAny_mono (F.run X.A.in1 X.stack s' H ⟨[.ref a, .none], []⟩ [.ref a, .none] [.ref a, .non] _ E hr.in1 I'.env0.in1 bnd (.cons rfl (.cons rfl .nil)) h1) ?_)
      rintro (er | fl) s2 hq
      · exact hx pins σ H s' er s2 I' hq
      · cases fl with
        | ret w' =>
          obtain ⟨z, H2, I2, rz, rfl, rfl⟩ := I'.after hq
          cases rz
          exact ⟨false, rfl, rfl, I2⟩
        | next => exact hq.elim
        | brk => exact hq.elim
        | cont => exact hq.elim
    · rintro v s2 ⟨rfl, I2⟩
      exact wpAny_truthy_bool ⟨fun e => (by cases e), fun _ => ⟨by decide, I2⟩⟩
  · show wpAny (model X.prog X.w) X.A.in1 (eqBool (.ref b) (.ref a)) _ _ s'
    refine GQ.eqBool_refG (Ne.symm hab) ?_
    obtain ⟨m, hF⟩ := I'.fr
    refine PySem.W.cmp_K (op := .Eq) (tb := .ref C) (by show X.A.units + 1 < cLine; omega) hF I'.ok.mod.kin J2 J.type (by simp [PySem.W.notFirst]) he hf ?_
    have hl1 := F.len _ _ _ _ h2
    have bnd := hb s' [.ref b, .ref a] I'.kIn (by simpa using hl1)
    rw [List.append_nil] at bnd
    refine wpAny_call (codeAny_mono (F.run X.A.in1 X.stack s' H ⟨[.ref b, .ref a], []⟩ [.ref b, .ref a] [.ref b, .ref a] _ E hr.in1 I'.env0.in1 bnd (.cons rfl (.cons rfl .nil)) h2) ?_)
    rintro (er | fl) s2 hq
    · exact hx pins σ H s' er s2 I' hq
    · cases fl with
      | ret w' =>
        obtain ⟨z, H2, I2, rz, rfl, q⟩ := I'.after hq
        cases rz
        exact ⟨true, rfl, fun _ => ⟨.bl true, H2, I2, rfl, q⟩, fun e => by cases e⟩
      | next => exact hq.elim
      | brk => exact hq.elim
      | cont => exact hq.elim
end
end Bb
set_option Elab.async false
set_option linter.all false
set_option maxRecDepth 100000
set_option maxHeartbeats 2000000
namespace L2
open PySem PySem.Spec PyProof.Rows
open HT
section
variable {prog : Program} {w : World} {A : Around} {E : Value → Shared → Prop} {s : Shared}
theorem sliceApplied_rev {sl : Addr} {vl vu vs : Value} {n : Nat} {Q : Int × Int × Nat → Shared → Prop} (hs : s.heap.IsSliceOf sl vl vu vs) (pl : IsPart vl none) (pu : IsPart vu none) (ps : IsPart vs (some (-1)))
    (h : Q ((n : Int) - 1, -1, n) s) : wpAny (model prog w) A (Builtin.Slice.sliceApplied (.ref sl) (pure (n : Int))) Q E s := by
  obtain ⟨os, hos, hcs, hds⟩ := id hs
  unfold Builtin.Slice.sliceApplied Builtin.Slice.sliceFields
  refine wpAny_bind (wpAny_bind (wpAny_field hos hds (x := vl) rfl (wpAny_bind (wpAny_field hos hds (x := vu) rfl (wpAny_bind (wpAny_field hos hds (x := vs) rfl (wpAny_pure ?_)))))))
  refine wpAny_bind (slicePart_ ps ?_)
  show wpAny _ _ (if ((-1 : Int) == 0) = true then _ else _) _ _ s
  rw [if_neg (by decide)]
  refine wpAny_bind (slicePart_ pl (wpAny_bind (slicePart_ pu (wpAny_bind (wpAny_pure ?_)))))
  have e1 : Builtin.Slice.sliceAdjust none none (-1) (n : Int) = ((n : Int) - 1, -1) := by
    unfold Builtin.Slice.sliceAdjust
    simp
  show wpAny _ _ (match Builtin.Slice.sliceAdjust none none (-1) (n : Int) with | (lo, hi) => pure (lo, (-1 : Int), Builtin.Slice.slicePlaces lo hi (-1))) _ _ s
  rw [e1]
  have e2 : Builtin.Slice.slicePlaces ((n : Int) - 1) (-1) (-1) = n := by
    unfold Builtin.Slice.slicePlaces
    have h1 : ¬ ((-1 : Int) > 0) := by decide
    simp only [h1, if_false]
    split
    · rw [show (- -1 : Int) = 1 by decide, Int.ediv_one]
      omega
    · omega
  show wpAny _ _ (pure ((n : Int) - 1, (-1 : Int), Builtin.Slice.slicePlaces ((n : Int) - 1) (-1) (-1))) _ _ s
  rw [e2]
  exact wpAny_pure h
theorem pick_rev (xs : Array Value) : ((List.range xs.size).filterMap fun (m : Nat) => xs[((xs.size : Int) - 1 + (m : Int) * (-1)).toNat]?).toArray = xs.toList.reverse.toArray := by
  have e : (fun (m : Nat) => xs[((xs.size : Int) - 1 + (m : Int) * (-1)).toNat]?) = fun m => xs[xs.size - 1 - m]? := by
    funext m
    have : ((xs.size : Int) - 1 + (m : Int) * (-1)).toNat = xs.size - 1 - m := by omega
    rw [this]
  rw [e]
  have h2 : (List.range xs.size).filterMap (fun m => xs[xs.size - 1 - m]?) = ((List.range xs.size).map (fun k => xs.size - 1 - k)).filterMap (xs[·]?) := by
    rw [List.filterMap_map]
    rfl
  rw [h2, PySem.W.krv_range, List.filterMap_reverse, PySem.W.krv_all]
theorem getItem_tuple_rev {t sl : Addr} {items : Array Value} {vl vu vs : Value} {Q : Value → Shared → Prop} (ht : IsTup s.heap t items) (hs : s.heap.IsSliceOf sl vl vu vs) (pl : IsPart vl none) (pu : IsPart vu none) (ps : IsPart vs (some (-1)))
    (h : Q (.ref s.heap.objs.size) { s with heap := s.heap.push { cls := .type "tuple", data := .seq items.toList.reverse.toArray } })
    (hsz : items.size ≤ sizeLine) : wpAny (model prog w) A (getItem (.ref t) (.ref sl)) Q E s := by
  have htake : sizeOk (.seq items.toList.reverse.toArray) := by
    show items.toList.reverse.toArray.size ≤ sizeLine
    rw [List.size_toArray, List.length_reverse, Array.length_toList]
    exact hsz
  obtain ⟨os, hos, hcs, hds⟩ := id hs
  have hTs : s.TypeIs (.ref sl) "slice" := ⟨os, hos, hcs⟩
  unfold getItem
  try with_reducible refine wpAny_holding ?_
  first | refine wpAny_bind (wpAny_pure ?_) | skip
  refine wpAny_bind (wpAny_sequenceKey ht.typeIs (by decide) ?_)
  refine wpAny_bind (wpAny_callSpecial?_slot (name := Str.ofString "__getitem__") ht.typeIs PyProof.Rows.slot_tuple_getitem
    (wpAny_call_entry PyProof.Rows.slot_tuple_getitem ht.typeIs entry_tuple_getitem ?_ (args_tuple_getitem _ _)))
  show wpAny _ _ (Builtin.Tuple.tupleItemsOf (.ref t) >>= _) _ _ s
  refine wpAny_bind (tupleItemsOf_ ht ?_)
  refine wpAny_bind (wpAny_typeOf hTs ?_)
  rw [if_pos (by decide)]
  refine wpAny_bind (sliceApplied_rev hs pl pu ps ?_)
  have hno : ¬ (((items.size : Int) - 1 == 0 && (-1 : Int) == 1 && (items.size) == items.size) = true) := by
    intro q
    rw [Bool.and_eq_true, Bool.and_eq_true] at q
    have q1 := q.1.2
    exact absurd q1 (by decide)
  show wpAny _ _ (if ((items.size : Int) - 1 == 0 && (-1 : Int) == 1 && (items.size) == items.size) = true then _ else _) _ _ s
  rw [if_neg hno, pick_rev]
  first
    | exact wpAny_bind (m := Builtin.Tuple.tupleExact _) (wpAny_newObj_type (wpAny_pure ⟨_, rfl, wpAny_pure h⟩) htake)
    | exact wpAny_bind (m := Builtin.Tuple.tupleExact _) (wpAny_newObj_type (wpAny_bind (wpAny_pure (wpAny_pure ⟨_, rfl, wpAny_pure h⟩))) htake)
    | exact wpAny_bind (wpAny_bind (m := Builtin.Tuple.tupleExact _) (wpAny_newObj_type (wpAny_pure (wpAny_pure ⟨_, rfl, wpAny_pure h⟩)) htake))
    | exact wpAny_bind (wpAny_bind (m := Builtin.Tuple.tupleExact _) (wpAny_newObj_type (wpAny_pure ⟨_, rfl, wpAny_pure h⟩) htake))
end
end L2
namespace Bb
open PySem PySem.Spec PyProof.Rows L2
section
variable {X : Cx}
/-! t[::-1] of a tuple -/
def tRevT (te : TE) : TE := fun σ H Q => te σ H fun x H1 => ∃ a xs, x = .ref a ∧ H1 a = some (.tup xs) ∧ ∀ p, H1 p = none → Q (.ref p) (upd H1 p (.tup xs.reverse))
theorem pe_revT {e : Expr} {te : TE} {k : Nat} {p1 p2 p3 pos : Pos} (he : PE X e te) : PE X (.Subscript e (.Slice none none (some (.UnaryOp .USub (.Constant (.int 1) k p1) p2)) p3) pos) (tRevT te) := by
  refine ⟨fun pins s σ H Q I h => ?_⟩
  refine Subscript_ (thn (he.run pins s σ H _ I h) fun v s1 ⟨x, H1, I1, r1, q1⟩ => ?_)
  obtain ⟨a, xs, ex, hx, q⟩ := q1
  subst ex
  cases r1
  have hst : PO X (some (.UnaryOp .USub (.Constant (.int 1) k p1) p2)) (tPart (tUn (rU fun i => .int (-i)) (tC (.int 1)))) := po_some (pe_un un_neg pe_int)
  refine wpAny_Slice (thn (po_none.run pins s1 σ H1 (fun o H2 => o = none ∧ H2 = H1) I1 ⟨rfl, rfl⟩) fun vl s2 ⟨l, H2, I2, pl, el, e2⟩ => ?_)
  subst el e2
  refine thn (po_none.run pins s2 σ H2 (fun o H3 => o = none ∧ H3 = H2) I2 ⟨rfl, rfl⟩) fun vu s3 ⟨u, H3, I3, pu, eu, e3⟩ => ?_
  subst eu e3
  refine thn (hst.run pins s3 σ H3 (fun o H4 => o = some (-1) ∧ H4 = H3) I3 ⟨1, rfl, -1, rfl, rfl, rfl⟩) fun vs s4 ⟨o, H4, I4, ps, eo, e4⟩ => ?_
  subst eo e4
  have I5 : Inv X pins σ H4 { s4 with heap := s4.heap.push { cls := .type "slice", data := .fields #[vl, vu, vs] } } := I4.kept (t' := s4.toks) fun b ob q => Heap.get?_push_of_some _ q
  obtain ⟨its, r, ht, hz⟩ := I5.tuple (SqT.of hx)
  have hlen := r.length
  show wpAny (model X.prog X.w) X.A (subscriptTail e (.Slice none none (some (.UnaryOp .USub (.Constant (.int 1) k p1) p2)) p3) (.ref a) (.ref s4.heap.objs.size)) (EP X pins σ Q) X.xe { s4 with heap := s4.heap.push { cls := .type "slice", data := .fields #[vl, vu, vs] } }
  refine tail_any (ops := [.ref a, .ref s4.heap.objs.size]) ht.typeIs (PyProof.Rows.slot_tuple_getitem.lookup) ?_ (by with_unfolding_all rfl)
  refine getItem_tuple_rev ht (Heap.IsSliceOf.new _ vl vu vs) pl pu ps ?_ (by rw [List.size_toArray]; omega)
  refine ⟨.ref _, _, I5.laid (t' := s4.toks) (o := .tup xs.reverse) (fun b ob q => Heap.get?_push_of_some _ q) (Nat.le_refl _) ?_, rfl, q _ (I5.hok.fresh (Nat.le_refl _))⟩
  exact ⟨by rw [List.length_reverse]; exact hz, its.reverse, r.reverse, ⟨_, Heap.get?_push_size _ rfl, rfl, 0, by rfl⟩⟩
/-! set(t) of a tuple of ints -/
theorem call_setT (hc : X.calm = true) : CallR X (.type "set") (fun xs H Q => ∃ (l : Addr) (ns : List Int), xs = [.ref l] ∧ SqT X.K H l (ns.map V.int) ∧ ns.length ≤ 60 ∧ ∀ p n, H p = none → n ≤ ns.length → Q (.ref p) (upd H p (SetO X.w p (fun k => decide (k ∈ ns)) n))) := by
  intro pins s σ H xs us Q I r h
  obtain ⟨l, ns, rfl, hq, hn, q⟩ := h
  obtain ⟨u, rfl, ru⟩ := vals1 r
  cases ru
  obtain ⟨its, rv, pt, hz⟩ := I.tuple hq
  have hi : IntsAre its.toArray.toList ns := ints_of_vals rv
  refine call_set_tupI ns (I.ok.hd hc) (show s.heap.IsTuple l its.toArray from pt) hi (by unfold scanBound; omega) fun h' tk c R1 hcn k => ?_
  exact ⟨.ref s.heap.objs.size, _, I.laid (t' := tk) k (Nat.le_refl _) (setO_new R1), rfl, q _ c (I.hok.fresh (Nat.le_refl _)) hcn⟩
end
end Bb
set_option Elab.async false
set_option linter.all false
set_option maxRecDepth 100000
set_option maxHeartbeats 2000000
namespace Bb
open PySem PySem.Spec PyProof.Rows L2
/-! kinds of data -/
def dInt : PyData → Bool
  | .int _ => true
  | .bool _ => true
  | _ => false
def dBool : PyData → Bool
  | .bool _ => true
  | _ => false
def dTup : PyData → Bool
  | .tuple _ => true
  | _ => false
def dStr : PyData → Bool
  | .str _ => true
  | _ => false
def dList : PyData → Bool
  | .list _ => true
  | _ => false
theorem kitE {a b : String} {r r' : Bool} (h : kitB a b = some r) (e : r = r') : kitB a b = some r' := by
  rw [← e]
  exact h
structure TyD (K : PySem.W.Frag) (H : Hp) (x : V) (d : PyData) (n : String) : Prop where
  ty : TyX K H x (.type n)
  i : kitB n "int" = some (dInt d)
  b : kitB n "bool" = some (dBool d)
  t : kitB n "tuple" = some (dTup d)
  s : kitB n "str" = some (dStr d)
  l : kitB n "list" = some (dList d)
theorem Da.ty {K : PySem.W.Frag} {Z : Addr → Prop} {H : Hp} {x : V} {d : PyData} (h : Da Z H x d) : ∃ n, TyD K H x d n := by
  cases h with
  | non => exact ⟨_, .base .non, kitE (r := false) (by decide +kernel) rfl, kitE (r := false) (by decide +kernel) rfl, kitE (r := false) (by decide +kernel) rfl, kitE (r := false) (by decide +kernel) rfl, kitE (r := false) (by decide +kernel) rfl⟩
  | bl b => exact ⟨_, .base (.bl b), kitE (r := true) (by decide +kernel) rfl, kitE (r := true) (by decide +kernel) rfl, kitE (r := false) (by decide +kernel) rfl, kitE (r := false) (by decide +kernel) rfl, kitE (r := false) (by decide +kernel) rfl⟩
  | int i => exact ⟨_, .base (.int i), kitE (r := true) (by decide +kernel) rfl, kitE (r := false) (by decide +kernel) rfl, kitE (r := false) (by decide +kernel) rfl, kitE (r := false) (by decide +kernel) rfl, kitE (r := false) (by decide +kernel) rfl⟩
  | str z => exact ⟨_, .base (.str z), kitE (r := false) (by decide +kernel) rfl, kitE (r := false) (by decide +kernel) rfl, kitE (r := false) (by decide +kernel) rfl, kitE (r := true) (by decide +kernel) rfl, kitE (r := false) (by decide +kernel) rfl⟩
  | lst h _ _ => exact ⟨_, .base (.lst h), kitE (r := false) (by decide +kernel) rfl, kitE (r := false) (by decide +kernel) rfl, kitE (r := false) (by decide +kernel) rfl, kitE (r := false) (by decide +kernel) rfl, kitE (r := true) (by decide +kernel) rfl⟩
  | tup h _ _ => exact ⟨_, .base (.tup h), kitE (r := false) (by decide +kernel) rfl, kitE (r := false) (by decide +kernel) rfl, kitE (r := true) (by decide +kernel) rfl, kitE (r := false) (by decide +kernel) rfl, kitE (r := false) (by decide +kernel) rfl⟩
  | d0 h _ => exact ⟨_, .base (.dK h), kitE (r := false) (by decide +kernel) rfl, kitE (r := false) (by decide +kernel) rfl, kitE (r := false) (by decide +kernel) rfl, kitE (r := false) (by decide +kernel) rfl, kitE (r := false) (by decide +kernel) rfl⟩
  | d1 h _ => exact ⟨_, .base (.dK h), kitE (r := false) (by decide +kernel) rfl, kitE (r := false) (by decide +kernel) rfl, kitE (r := false) (by decide +kernel) rfl, kitE (r := false) (by decide +kernel) rfl, kitE (r := false) (by decide +kernel) rfl⟩
/-! slices and sums of tuples: where they are new, where not -/
theorem same_up {H : Hp} {p : Addr} {o : HO} (h : H p = none) : Same H (upd H p o) := fun b u e => by
  rw [upd_ne (ne_of_none e h)]
  exact e
section
variable {X : Cx}
def rSlC : V → Option Int → Option Int → Hp → VK → Prop := fun x lo hi H Q => ∃ a xs, x = .ref a ∧ H a = some (.tup xs) ∧ ∀ p H', Same H H' → H' p = some (.tup (cutV xs lo hi)) → (p = a ∨ H p = none) → Q (.ref p) H'
theorem cut_whole {xs : List V} {lo hi : Option Int} (h : HT.sIx xs.length 0 lo = 0 ∧ HT.sIx xs.length xs.length hi = xs.length) : cutV xs lo hi = xs := by
  unfold cutV
  rw [h.1, h.2]
  simp
theorem sl_tupC : SlR X rSlC := by
  intro pins s σ H x v vl vu lo hi sl Q I rx hs pl pu h
  obtain ⟨a, xs, rfl, hx, q⟩ := h
  refine sl_tupA pins s σ H _ v vl vu lo hi sl Q I rx hs pl pu ⟨a, xs, rfl, SqT.of hx, fun wh => ?_, fun _ p hp => ?_⟩
  · exact q a H (Same.refl H) (by rw [cut_whole wh]; exact hx) (.inl rfl)
  · exact q p _ (same_up hp) upd_same (.inr hp)
def rCatC : R2 := fun x y H Q => ∃ a b xs ys, x = .ref a ∧ y = .ref b ∧ H a = some (.tup xs) ∧ H b = some (.tup ys) ∧ xs.length + ys.length ≤ sizeLine ∧ ∀ p H', Same H H' → H' p = some (.tup (xs ++ ys)) → (p = a ∨ p = b ∨ H p = none) → Q (.ref p) H'
theorem op_catC : OpR X (binaryOp .Add) rCatC := by
  intro pins s σ H x y v u Q I rx ry h
  obtain ⟨a, b, xs, ys, rfl, rfl, ha, hb, hz, q⟩ := h
  refine op_catA pins s σ H _ _ v u Q I rx ry ⟨a, b, xs, ys, rfl, rfl, SqT.of ha, SqT.of hb, hz, ?_, ?_, ?_⟩
  · rintro rfl
    exact q b H (Same.refl H) hb (.inr (.inl rfl))
  · rintro _ rfl
    exact q a H (Same.refl H) (by rw [List.append_nil]; exact ha) (.inl rfl)
  · intro _ _ p hp
    exact q p _ (same_up hp) upd_same (.inr (.inr hp))
end
theorem cut_from (xs : List V) (k : Nat) : cutV xs (some (k : Int)) none = xs.drop k := by
  unfold cutV
  rw [HT.sIx_nat, HT.sIx_none]
  by_cases h : k ≤ xs.length
  · rw [Nat.min_eq_left h, List.take_of_length_le (by simp)]
  · rw [Nat.min_eq_right (by omega), List.drop_of_length_le (Nat.le_refl _), List.drop_of_length_le (by omega)]
    simp
theorem cut_to (xs : List V) (k : Nat) : cutV xs none (some (k : Int)) = xs.take k := by
  unfold cutV
  rw [HT.sIx_nat, HT.sIx_none]
  by_cases h : k ≤ xs.length
  · rw [Nat.min_eq_left h]
    simp
  · rw [Nat.min_eq_right (by omega), List.take_of_length_le (show xs.length ≤ k by omega)]
    simp
/-- what the laws' things are: small enough to be shown -/
structure Sm (d : PyData) : Prop where
  sh : d.showable = true
  dp : d.depth ≤ 4
  ln : d.shown.length ≤ 200
  nl : d.hasDict = true → noList d = true
  ly : ∀ ds, d = .tuple ds → PyData.canLayAll0 ds = true
theorem Sm.int {i : Int} (h : i.natAbs < 10 ^ 40) : Sm (.int i) := by
  refine ⟨?_, Nat.zero_le _, ?_, fun z => (by cases z), fun ds z => (by cases z)⟩
  · show decide (i.natAbs.log2 < 1920) = true
    apply decide_eq_true
    by_cases z : i.natAbs = 0
    · rw [z]
      decide
    · exact (Nat.log2_lt z).mpr (Nat.lt_of_lt_of_le h (by decide +kernel))
  · have e := int_text_length_le10 (k := 40) (by decide) h
    show (Str.ofString (toString i)).length ≤ 200
    rw [PySem.ofString_length]
    omega
theorem Sm.bl (b : Bool) : Sm (.bool b) := by
  refine ⟨rfl, Nat.zero_le _, ?_, fun z => (by cases z), fun ds z => (by cases z)⟩
  cases b <;> decide +kernel
theorem Sm.non : Sm .none := ⟨rfl, Nat.zero_le _, by decide +kernel, fun z => (by cases z), fun ds z => (by cases z)⟩
theorem tupleText_le (ts : List Str) : (tupleText ts).length ≤ piled ts + 3 := by
  unfold tupleText
  rw [strLen_append, strLen_append]
  have e1 : (("(" : String) : Str).length = 1 := by decide +kernel
  have e2 : (((if ts.length == 1 then ",)" else ")" : String) : Str)).length ≤ 2 := by
    split <;> decide +kernel
  rw [e1]
  by_cases h : ts = []
  · subst h
    have e3 : (Str.join ", " []).length = 0 := by decide +kernel
    omega
  · have := join_length_add ts h
    omega
theorem Sm.ints {ns : List Int} (hr : ∀ n ∈ ns, n.natAbs < 10 ^ 18) (hl : ns.length ≤ 8) : Sm (.tuple (ns.map PyData.int)) := by
  have nd : ∀ ns : List Int, PyData.hasDictAll (ns.map PyData.int) = false := by
    intro ns
    induction ns with
    | nil => rfl
    | cons n ns ih =>
      show (PyData.hasDict (.int n) || PyData.hasDictAll (ns.map PyData.int)) = false
      rw [ih]
      rfl
  refine ⟨show_ints ns hr, ?_, ?_, fun z => ?_, fun ds z => ?_⟩
  · show PyData.depthAll (ns.map PyData.int) + 1 ≤ 4
    rw [depth_ints]
    decide
  · have h1 := tupleText_le (PyData.shownAll (ns.map PyData.int))
    have h2 := piled_ints ns hr
    show (tupleText (PyData.shownAll (ns.map PyData.int))).length ≤ 200
    omega
  · have z2 : PyData.hasDictAll (ns.map PyData.int) = true := z
    rw [nd] at z2
    cases z2
  · injection z with z
    rw [← z]
    exact lay_ints ns
end Bb
set_option Elab.async false
set_option linter.all false
set_option maxRecDepth 100000
set_option maxHeartbeats 2000000
namespace Bb
open PySem PySem.Spec PyProof.Rows L2
/-! min, max of a tuple of ints -/
section
variable {prog : Program} {w : World} {A : Around} {E : Value → Shared → Prop} {s : Shared} {l : Addr} {its : List Value} {ns : List Int} {Q : Value → Shared → Prop} {xs : Array (Int × Tok)}
theorem iter_intTup {Q : Value → Shared → Prop} (hl : s.heap.IsTuple l (intItems xs))
    (h : ∀ s₂ : Shared, s₂ = { s with heap := s.heap.push { cls := .type "tuple_iterator", data := .fields #[.ref l, .int 0 0] } } →
      (s₂.heap.IsTupleIter s.heap.objs.size l 0 ∧ s₂.heap.IsTuple l (intItems xs)) → (∀ b ∈ [s.heap.objs.size, l], b < s₂.heap.objs.size) → l ≠ s.heap.objs.size → Q (.ref s.heap.objs.size) s₂) :
    wpAny (model prog w) A (pyIter (.ref l)) Q E s := by
  have hlt : l < s.heap.objs.size := by
    obtain ⟨_, e, _⟩ := hl
    exact Heap.lt_size e
  refine wpAny_pyIter_tuple hl (h _ rfl ⟨⟨_, Heap.get?_push_size _ rfl, rfl, rfl⟩, hl.push _⟩ (fun b hb => ?_) (Nat.ne_of_lt hlt))
  show b < (s.heap.push _).objs.size
  rw [Heap.size_push]
  rcases List.mem_cons.mp hb with rfl | hb
  · exact Nat.lt_succ_self _
  · rcases List.mem_cons.mp hb with rfl | hb
    · exact Nat.lt_succ_of_lt hlt
    · cases hb
theorem old_keptT {h' : Heap} (hk : ∀ b o, b ∉ [s.heap.objs.size] → (s.heap.push { cls := .type "tuple_iterator", data := .fields #[.ref l, .int 0 0] }).get? b = some o → h'.get? b = some o) :
    ∀ b o, s.heap.get? b = some o → h'.get? b = some o := fun b o e => by
  refine hk b o (fun hm => ?_) (Heap.get?_push_of_some _ e)
  have := Heap.lt_size e
  have z : b = s.heap.objs.size := by simpa using hm
  exact absurd z (Nat.ne_of_lt this)
theorem min_intTup (hh : A.handled = none) (hl : s.heap.IsTuple l (intItems xs)) (hne : 0 < xs.size)
    (h : ∀ v h' tk, (intItems xs)[argBest (fun i j => decide (numAt xs i < numAt xs j)) (xs.size - 1)]? = some v → (∀ b o, s.heap.get? b = some o → h'.get? b = some o) → Q v { s with heap := h', toks := tk }) :
    wpAny (model prog w) A (call (.builtin "min") [.ref l]) Q E s := by
  refine call_min_walk (iter_intTup hl fun s₂ e st hfp hlI => ?_)
  subst e
  refine ⟨_, _, _, _, _, _, _, rfl, Walks.tuple (A := A.in1) hh _ l hlI (intItems xs), st, hfp, by simpa [intItems] using hne, CmpOf.ints_lt (numAt xs) (fun _ _ => intItems_at), fun v h' tk hP hk => ?_⟩
  exact h v h' tk (by simpa [intItems] using hP) (old_keptT hk)
theorem max_intTup (hh : A.handled = none) (hl : s.heap.IsTuple l (intItems xs)) (hne : 0 < xs.size)
    (h : ∀ v h' tk, (intItems xs)[argBest (fun i j => decide (numAt xs i > numAt xs j)) (xs.size - 1)]? = some v → (∀ b o, s.heap.get? b = some o → h'.get? b = some o) → Q v { s with heap := h', toks := tk }) :
    wpAny (model prog w) A (call (.builtin "max") [.ref l]) Q E s := by
  refine call_max_walk (iter_intTup hl fun s₂ e st hfp hlI => ?_)
  subst e
  refine ⟨_, _, _, _, _, _, _, rfl, Walks.tuple (A := A.in1) hh _ l hlI (intItems xs), st, hfp, by simpa [intItems] using hne, CmpOf.ints_gt (numAt xs) (fun _ _ => intItems_at), fun v h' tk hP hk => ?_⟩
  exact h v h' tk (by simpa [intItems] using hP) (old_keptT hk)
theorem min_rawT (hh : A.handled = none) (hl : s.heap.IsTuple l its.toArray) (hi : IntsAre its ns) (hne : 0 < ns.length)
    (h : ∀ h' tk M t', (∀ b o, s.heap.get? b = some o → h'.get? b = some o) → M ∈ ns → (∀ a, a ∈ ns → M ≤ a) → Q (.int M t') { s with heap := h', toks := tk }) : wpAny (model prog w) A (call (.builtin "min") [.ref l]) Q E s := by
  obtain ⟨xs, e⟩ := hi.allInts.items
  have hn : numsOf (intItems xs).toList = ns := by rw [← e]; exact hi.numsOf
  rw [nums_intItems] at hn
  subst hn
  rw [e] at hl
  have hsz : 0 < xs.size := by simpa using hne
  refine min_intTup hh hl hsz fun v h' tk hv hk => ?_
  obtain ⟨t, rfl⟩ := intItems_at hv
  obtain ⟨h1, h2⟩ := argBest_lt (numAt xs) (xs.size - 1)
  refine h h' tk _ t hk ?_ fun a ha => ?_
  · rw [numAt_eq]; exact PySem.getD_mem (by rw [List.length_map, Array.length_toList]; omega)
  · obtain ⟨j, hj, rfl⟩ := mem_getD ha
    rw [List.length_map, Array.length_toList] at hj
    rw [← numAt_eq]; exact h2 j (by omega)
theorem max_rawT (hh : A.handled = none) (hl : s.heap.IsTuple l its.toArray) (hi : IntsAre its ns) (hne : 0 < ns.length)
    (h : ∀ h' tk M t', (∀ b o, s.heap.get? b = some o → h'.get? b = some o) → M ∈ ns → (∀ a, a ∈ ns → a ≤ M) → Q (.int M t') { s with heap := h', toks := tk }) : wpAny (model prog w) A (call (.builtin "max") [.ref l]) Q E s := by
  obtain ⟨xs, e⟩ := hi.allInts.items
  have hn : numsOf (intItems xs).toList = ns := by rw [← e]; exact hi.numsOf
  rw [nums_intItems] at hn
  subst hn
  rw [e] at hl
  have hsz : 0 < xs.size := by simpa using hne
  refine max_intTup hh hl hsz fun v h' tk hv hk => ?_
  obtain ⟨t, rfl⟩ := intItems_at hv
  obtain ⟨h1, h2⟩ := argBest_gt (numAt xs) (xs.size - 1)
  refine h h' tk _ t hk ?_ fun a ha => ?_
  · rw [numAt_eq]; exact PySem.getD_mem (by rw [List.length_map, Array.length_toList]; omega)
  · obtain ⟨j, hj, rfl⟩ := mem_getD ha
    rw [List.length_map, Array.length_toList] at hj
    rw [← numAt_eq]; exact h2 j (by omega)
end
section
variable {X : Cx}
/-- min(xs), max(xs), xs a list or a tuple of ints -/
def rMinS (K : PySem.W.Frag) : List V → Hp → VK → Prop := fun vs H Q => ∃ (a : Addr) (ns : List Int), vs = [V.ref a] ∧ (SqL K H a (ns.map V.int) ∨ SqT K H a (ns.map V.int)) ∧ 0 < ns.length ∧ ∀ m, m ∈ ns → (∀ y, y ∈ ns → m ≤ y) → Q (.int m) H
def rMaxS (K : PySem.W.Frag) : List V → Hp → VK → Prop := fun vs H Q => ∃ (a : Addr) (ns : List Int), vs = [V.ref a] ∧ (SqL K H a (ns.map V.int) ∨ SqT K H a (ns.map V.int)) ∧ 0 < ns.length ∧ ∀ m, m ∈ ns → (∀ y, y ∈ ns → y ≤ m) → Q (.int m) H
theorem cr_minS (hc : X.calm = true) : CallR X (.builtin "min") (rMinS X.K) := by
  intro pins s σ H vs us Q I r h
  obtain ⟨a, ns, rfl, hs, hne, q⟩ := h
  rcases hs with hs | hs
  · exact cr_min hc pins s σ H _ us Q I r ⟨a, ns, rfl, hs, hne, q⟩
  · obtain ⟨its, rv, hl, _⟩ := I.tuple hs
    rw [Vals.ref1 r]
    exact min_rawT (I.ok.hd hc) (show s.heap.IsTuple a its.toArray from hl) rv.ints hne fun h' tk m t' hk h1 h2 => ⟨.int _, H, I.kept hk, ⟨_, rfl⟩, q m h1 h2⟩
theorem cr_maxS (hc : X.calm = true) : CallR X (.builtin "max") (rMaxS X.K) := by
  intro pins s σ H vs us Q I r h
  obtain ⟨a, ns, rfl, hs, hne, q⟩ := h
  rcases hs with hs | hs
  · exact cr_max hc pins s σ H _ us Q I r ⟨a, ns, rfl, hs, hne, q⟩
  · obtain ⟨its, rv, hl, _⟩ := I.tuple hs
    rw [Vals.ref1 r]
    exact max_rawT (I.ok.hd hc) (show s.heap.IsTuple a its.toArray from hl) rv.ints hne fun h' tk m t' hk h1 h2 => ⟨.int _, H, I.kept hk, ⟨_, rfl⟩, q m h1 h2⟩
end
end Bb
set_option Elab.async false
set_option linter.all false
set_option maxRecDepth 100000
set_option maxHeartbeats 4000000
namespace K1
open PySem PySem.Spec PyProof.Rows L2 Bb

/-! the text by places -/
def top (i : Nat) : Stmt := PySem.Challenge.pw_bestsbook_k01_events_and_marks.main.body.getD i (.Pass ⟨0, 0, 0, 0⟩)
abbrev sIsNum : Stmt := top 18
abbrev sFrom : Stmt := top 19
abbrev sIsName : Stmt := top 20
abbrev sIsMark : Stmt := top 24
abbrev sIsWay : Stmt := top 25
abbrev sIsEvent : Stmt := top 26
abbrev sChkM : Stmt := top 27
abbrev sChkMs : Stmt := top 28
abbrev sChkW : Stmt := top 29
abbrev sBetter : Stmt := top 30
abbrev sBest : Stmt := top 31
abbrev sCell : Stmt := top 33
abbrev sPen : Stmt := top 34
abbrev sDraw : Stmt := top 35
abbrev sPick : Stmt := top 36
abbrev sKind : Stmt := top 37
abbrev sCame : Stmt := top 38
abbrev sAny : Stmt := top 39
abbrev sOdd : Stmt := top 40
abbrev sName : Stmt := top 41
abbrev sOddName : Stmt := top 42
abbrev sNum : Stmt := top 43
abbrev sLName : Stmt := top 44
abbrev sLEvent : Stmt := top 45
abbrev sEvents : Stmt := top 46
abbrev sScore : Stmt := top 47
abbrev sIsScore : Stmt := top 48
abbrev sDueBetter : Stmt := top 49
abbrev sDueBest : Stmt := top 50
abbrev sMR : Stmt := top 51
abbrev sRR : Stmt := top 52
abbrev sLaw : Stmt := top 53
abbrev Fn (K : PySem.W.Frag) (x q : Str) (st : Stmt) (f : Addr) (fd : FuncData) : Prop := FunD K x q (defArgs st) (defBody st) (defScope st) [] [] f fd

/-! things of any kind, as the law makes them -/
inductive Th (H : Hp) : V → Prop where
  | non : Th H .non
  | bl (b : Bool) : Th H (.bl b)
  | int (i : Int) : Th H (.int i)
  | str (z : Str) : Th H (.str z)
  | lst {a : Addr} {xs : List V} (h : H a = some (.lst xs)) : Th H (.ref a)
  | tup {a : Addr} {xs : List V} (h : H a = some (.tup xs)) : Th H (.ref a)
  | dic {a : Addr} {kvs : List (Key × V)} (h : H a = some (.dK kvs)) : Th H (.ref a)
def isNum : V → Bool
  | .int _ => true
  | _ => false
def numIn (lo hi : Int) : V → Bool
  | .int i => decide (lo ≤ i) && decide (i ≤ hi)
  | _ => false
def anInt : V → Bool
  | .int _ => true
  | .bl _ => true
  | _ => false
def aBool : V → Bool
  | .bl _ => true
  | _ => false
theorem kt {a b : String} {r r' : Bool} (h : kitB a b = some r) (e : r = r') : kitB a b = some r' := by
  rw [← e]
  exact h
theorem Th.ty {K : PySem.W.Frag} {H : Hp} {x : V} (h : Th H x) : ∃ n, TyX K H x (.type n) ∧ kitB n "int" = some (anInt x) ∧ kitB n "bool" = some (aBool x) := by
  cases h with
  | non => exact ⟨_, .base .non, kt (r := false) (by decide +kernel) rfl, kt (r := false) (by decide +kernel) rfl⟩
  | bl b => exact ⟨_, .base (.bl b), kt (r := true) (by decide +kernel) rfl, kt (r := true) (by decide +kernel) rfl⟩
  | int i => exact ⟨_, .base (.int i), kt (r := true) (by decide +kernel) rfl, kt (r := false) (by decide +kernel) rfl⟩
  | str z => exact ⟨_, .base (.str z), kt (r := false) (by decide +kernel) rfl, kt (r := false) (by decide +kernel) rfl⟩
  | lst h => exact ⟨_, .base (.lst h), kt (r := false) (by decide +kernel) rfl, kt (r := false) (by decide +kernel) rfl⟩
  | tup h => exact ⟨_, .base (.tup h), kt (r := false) (by decide +kernel) rfl, kt (r := false) (by decide +kernel) rfl⟩
  | dic h => exact ⟨_, .base (.dK h), kt (r := false) (by decide +kernel) rfl, kt (r := false) (by decide +kernel) rfl⟩
/-- the built-in names are nobody else's -/
structure Free (mg : Str → Option Value) : Prop where
  isi : mg "isinstance" = none
  int_ : mg "int" = none
  bool_ : mg "bool" = none
  tup_ : mg "tuple" = none
  list_ : mg "list" = none
  str_ : mg "str" = none
  len_ : mg "len" = none
  all_ : mg "all" = none
  rng_ : mg "range" = none
  enu_ : mg "enumerate" = none
  rep_ : mg "repr" = none
  min_ : mg "min" = none
  max_ : mg "max" = none
  ve_ : mg "ValueError" = none
  le_ : mg "LookupError" = none

/-! is_number, is_number_from, _law_number -/
def spIsNum : Sp := fun vs H Q _ => ∃ x, vs = [x] ∧ Th H x ∧ Q (.bl (isNum x)) H
def spFrom : Sp := fun vs H Q _ => ∃ x lo hi, vs = [x, .int lo, .int hi] ∧ Th H x ∧ Q (.bl (numIn lo hi x)) H
section
variable {P : Program} {w : World} {K : PySem.W.Frag} {mg : Str → Option Value} {base : Heap} {f : Addr} {fd : FuncData}
theorem scIsNum : FnScope ["thing"] ["thing"] (defScope sIsNum) := ⟨rfl, rfl, rfl, by decide +kernel, rfl, by decide +kernel, by decide +kernel⟩
theorem ok_isnum (F : Fn K "is_number" "is_number" sIsNum f fd) (T : Free mg) : FnOk P w K mg base L2.CX0 1 f fd ["thing"] spIsNum := by
  refine F.ok scIsNum (fun vs H Q E h => ?_) (fun cdv A outer s H vs Q E hr h => ?_)
  · obtain ⟨x, rfl, _⟩ := h
    rfl
  · obtain ⟨x, rfl, hx, q⟩ := h
    obtain ⟨n, ty, k1, k2⟩ := hx.ty (K := K)
    refine ⟨_, PSs.nox (pss_one (ps_ret (pe_and (pe_callB call_isi rfl T.isi boot_isinstance (pa_cons (pv 0) (pa_cons (pe_bltn rfl T.int_ (by decide +kernel) (v := .ty "int") rfl) pa_nil)))
      (pe_one (pe_not (pe_callB call_isi rfl T.isi boot_isinstance (pa_cons (pv 0) (pa_cons (pe_bltn rfl T.bool_ (by decide +kernel) (v := .ty "bool") rfl) pa_nil)))))))), ?_⟩
    refine ⟨x, rfl, _, _, _, _, _, rfl, .ty "int", ty, kit_ty k1, _, rfl, ?_⟩
    cases x with
    | int i => exact ⟨_, rfl, _, _, _, _, _, rfl, .ty "bool", ty, kit_ty k2, _, rfl, q⟩
    | bl b => exact ⟨_, rfl, _, _, _, _, _, rfl, .ty "bool", ty, kit_ty k2, _, rfl, q⟩
    | _ => exact q
theorem scFrom : FnScope ["thing", "least", "most"] ["thing", "least", "most"] (defScope sFrom) := ⟨rfl, rfl, rfl, by decide +kernel, rfl, by decide +kernel, by decide +kernel⟩
theorem ok_from {fN : Addr} {fdN : FuncData} (F : Fn K "is_number_from" "is_number_from" sFrom f fd) (FN : Fn K "is_number" "is_number" sIsNum fN fdN) (gN : mg "is_number" = some (.ref fN)) (T : Free mg) : FnOk P w K mg base L2.CX0 2 f fd ["thing", "least", "most"] spFrom := by
  have GN : FnOk P w K mg base L2.CX0 1 fN fdN ["thing"] spIsNum := ok_isnum FN T
  have bN : Binds K fdN ["thing"] [] := FN.bindsN fun _ _ _ _ _ _ us hl => match us, hl with | [_], _ => rfl
  refine F.ok scFrom (fun vs H Q E h => ?_) (fun cdv A outer s H vs Q E hr h => ?_)
  · obtain ⟨x, lo, hi, rfl, _⟩ := h
    rfl
  · obtain ⟨x, lo, hi, rfl, hx, q⟩ := h
    refine ⟨_, PSs.nox (pss_one (ps_ret (pe_and (pe_call GN hr rfl gN FN.kp bN .nil pass0 (pa_cons (pv 0) pa_nil)) (pe_one (pe_chain op_le op_le (pv 1) (pv 0) (pv 2)))))), ?_⟩
    refine ⟨x, rfl, x, rfl, hx, _, rfl, ?_⟩
    cases x with
    | int i =>
      refine ⟨_, rfl, _, rfl, _, _, rfl, rfl, _, rfl, ?_⟩
      refine ite2 (fun c => ?_) (fun c => ?_)
      · refine ⟨_, rfl, _, _, rfl, rfl, ?_⟩
        have e : numIn lo hi (.int i) = decide (i ≤ hi) := by
          show (decide (lo ≤ i) && decide (i ≤ hi)) = _
          rw [c, Bool.true_and]
        rw [e] at q
        exact q
      · have e : numIn lo hi (.int i) = false := by
          show (decide (lo ≤ i) && decide (i ≤ hi)) = _
          rw [Bool.eq_false_iff.mpr c, Bool.false_and]
        rw [e] at q
        exact q
    | _ => exact q
end
end K1
set_option Elab.async false
set_option linter.all false
set_option maxRecDepth 100000
set_option maxHeartbeats 4000000
namespace K1
open PySem PySem.Spec PyProof.Rows L2 Bb
theorem same_upd {H H' : Hp} {D : Addr} {o : HO} (s : Same H H') (hD : H D = none) : Same H (upd H' D o) := fun b u e => by
  rw [upd_ne (ne_of_none e hD)]
  exact s b u e
theorem sqt_same {K : PySem.W.Frag} {H H' : Hp} {a : Addr} {xs : List V} (h : SqT K H a xs) (s : Same H H') : SqT K H' a xs := h.ext s
theorem sql_same {K : PySem.W.Frag} {H H' : Hp} {a : Addr} {xs : List V} (h : SqL K H a xs) (s : Same H H') : SqL K H' a xs := h.ext s
theorem get_map {ns : List Int} {i : Nat} {x : V} (h : (ns.map V.int)[i]? = some x) : ∃ n, ns[i]? = some n ∧ x = .int n := by
  rw [List.getElem?_map] at h
  cases e : ns[i]? with
  | none =>
    rw [e] at h
    cases h
  | some n =>
    rw [e] at h
    exact ⟨n, rfl, (Option.some.inj h).symm⟩
/-- a constant of the module -/
def IsI (mg : Str → Option Value) (x : Str) (i : Int) : Prop := ∃ t, mg x = some (.int i t)
theorem pe_k {X : Cx} {x : Str} {i : Int} {pos : Pos} (h : IsI X.mg x i) (hg : Gl X x) (hd : (x == ("__debug__" : Str)) = false := by decide) : PE X (.Name x pos) (tC (.int i)) := by
  obtain ⟨t, e⟩ := h
  exact pe_glob hg e ⟨t, rfl⟩ hd
structure ErrT (K : PySem.W.Frag) (mg : Str → Option Value) (x : Str) (C : Addr) : Prop where
  g : mg x = some (.ref C)
  ex : PySem.W.excIn K C He.veBase "ValueError.__new__" = true
  kp : PySem.W.keepIn K (.ref C) = true
  sb : PySem.W.subIn K (.ref C) (.type "BaseException") = some true
  ty : PySem.W.typeIn K (.ref C) = some (.type "type")
/-- a text of the module -/
def IsS (mg : Str → Option Value) (x z : Str) : Prop := ∃ t, mg x = some (.str z t)
theorem pe_kS {X : Cx} {x z : Str} {pos : Pos} (h : IsS X.mg x z) (hg : Gl X x) (hd : (x == ("__debug__" : Str)) = false := by decide) : PE X (.Name x pos) (tC (.str z)) := by
  obtain ⟨t, e⟩ := h
  exact pe_glob hg e ⟨t, rfl⟩ hd
abbrev letters : Str := "abcdefghijklmnopqrstuvwxyz"
structure Cons (mg : Str → Option Value) : Prop where
  least : IsI mg "LEAST_MARK" 1
  most : IsI mg "MOST_MARK" 1000000
  long : IsI mg "LONGEST_NAME" 8
  lett : IsS mg "LETTERS" letters
end K1
set_option Elab.async false
set_option linter.all false
set_option maxRecDepth 100000
set_option maxHeartbeats 4000000
namespace K1
open PySem PySem.Spec PyProof.Rows L2 Bb
/-! the law's pen: a list of two ints; all else stays -/
def Pen (H : Hp) (p : Addr) : Prop := ∃ x f : Int, H p = some (.lst [.int x, .int f])
structure Kp (p : Addr) (H H' : Hp) : Prop where
  keep : ∀ b o, H b = some o → b ≠ p → H' b = some o
  pen : Pen H' p
theorem Kp.refl {p : Addr} {H : Hp} (h : Pen H p) : Kp p H H := ⟨fun _ _ e _ => e, h⟩
theorem Kp.trans {p : Addr} {H H1 H2 : Hp} (a : Kp p H H1) (b : Kp p H1 H2) : Kp p H H2 := ⟨fun c o e n => b.keep c o (a.keep c o e n) n, b.pen⟩
theorem Kp.same {p : Addr} {H H1 H2 : Hp} (a : Kp p H H1) (s : Same H1 H2) : Kp p H H2 := ⟨fun c o e n => s c o (a.keep c o e n), let ⟨x, f, e⟩ := a.pen; ⟨x, f, s _ _ e⟩⟩
theorem Kp.free {p q : Addr} {H H' : Hp} (a : Kp p H H') (hp : Pen H p) (h : H' q = none) : H q = none := by
  cases e : H q with
  | none => rfl
  | some o =>
    by_cases z : q = p
    · obtain ⟨x, f, e2⟩ := a.pen
      rw [z, e2] at h
      cases h
    · rw [a.keep _ _ e z] at h
      cases h
theorem pen_ne {H : Hp} {p a : Addr} {o : HO} (hp : Pen H p) (h : H a = some o) (n : ∀ x f : Int, o ≠ .lst [.int x, .int f]) : a ≠ p := by
  rintro rfl
  obtain ⟨x, f, e⟩ := hp
  rw [h] at e
  exact n x f (Option.some.inj e)
def spCell (K : PySem.W.Frag) : Sp := fun vs H Q _ => ∃ (a : Addr) (ns : List Int), vs = [.ref a, .int 0] ∧ SqL K H a (ns.map V.int) ∧ ns.length ≤ 63 ∧ ∀ z, Q (.int z) H
def spPen : Sp := fun vs H Q _ => ∃ z : Int, vs = [.int z] ∧ ∀ p H', H p = none → Same H H' → Pen H' p → Q (.ref p) H'
def spDraw : Sp := fun vs H Q _ => ∃ (p : Addr) (m : Int), vs = [.ref p, .int m] ∧ Pen H p ∧ (0 < m ∧ m < 1073741824) ∧ ∀ r H', 0 ≤ r → r < m → Kp p H H' → Q (.int r) H'
def spPick (K : PySem.W.Frag) : Sp := fun vs H Q _ => ∃ (p a : Addr) (xs : List V), vs = [.ref p, .ref a] ∧ Pen H p ∧ H a = some (.lst xs) ∧ a ≠ p ∧ (0 < xs.length ∧ xs.length ≤ 1000) ∧ ∀ v H', v ∈ xs → Kp p H H' → Q v H'
section
variable {P : Program} {w : World} {K : PySem.W.Frag} {mg : Str → Option Value} {base : Heap} {f : Addr} {fd : FuncData}
theorem scCell : FnScope ["_law_script", "_law_k"] ["_law_script", "_law_k"] (defScope sCell) := ⟨rfl, rfl, rfl, by decide +kernel, rfl, by decide +kernel, by decide +kernel⟩
theorem ok_cell (F : Fn K "_law_cell" "_law_cell" sCell f fd) (T : Free mg) : FnOk P w K mg base L2.CX0 1 f fd ["_law_script", "_law_k"] (spCell K) := by
  refine F.ok scCell (fun vs H Q E h => ?_) (fun cdv A outer s H vs Q E hr hh => ?_)
  · obtain ⟨a, ns, rfl, _⟩ := h
    rfl
  · obtain ⟨a, ns, rfl, ha, hn, q⟩ := hh
    refine ⟨_, PSs.nox (pss_cons (ps_if (pt_cmpR op_lt (pv 1) (pe_callB call_len_seq rfl T.len_ boot_len (pa_cons (pv 0) pa_nil)) (nomark _)) (pss_one (ps_ret (pe_ix ix_list (pv 0) (pv 1) (fun _ _ => rfl)))) pss_nil) (pss_one (ps_ret pe_int))), ?_⟩
    refine ⟨_, rfl, _, rfl, a, _, rfl, .inl ha, _, _, rfl, rfl, _, rfl, ?_⟩
    refine ite2 (fun c => ?_) (fun c => ?_)
    · have c' : (0 : Int) < (((ns.map V.int).length : Nat) : Int) := of_decide_eq_true c
      rw [List.length_map] at c'
      have h0 : (ns.map V.int)[0]? = some (V.int (ns[0]'(by omega))) := by
        rw [List.getElem?_map, List.getElem?_eq_getElem (by omega)]
        rfl
      exact ⟨_, rfl, _, rfl, a, _, 0, _, rfl, rfl, ha, at_of (j := 0) rfl h0, q _⟩
    · exact q 0
theorem scPen : FnScope ["_law_cell_here"] ["_law_cell_here"] (defScope sPen) := ⟨rfl, rfl, rfl, by decide +kernel, rfl, by decide +kernel, by decide +kernel⟩
theorem ok_pen (F : Fn K "_law_pen" "_law_pen" sPen f fd) (T : Free mg) : FnOk P w K mg base L2.CX0 1 f fd ["_law_cell_here"] spPen := by
  refine F.ok scPen (fun vs H Q E h => ?_) (fun cdv A outer s H vs Q E hr hh => ?_)
  · obtain ⟨z, rfl, _⟩ := h
    rfl
  · obtain ⟨z, rfl, q⟩ := hh
    refine ⟨_, PSs.nox (pss_one (ps_ret (pe_lst (pa_cons (pv 0) (pa_cons (pe_callTy call_int1 rfl T.int_ (by decide +kernel) (pa_cons (pe_cmpR op_ge (pv 0) (pe_op op_pow pe_int pe_int) (nomark _)) pa_nil)) pa_nil))))), ?_⟩
    refine ⟨_, rfl, _, rfl, _, _, rfl, rfl, ⟨by decide, by decide, by decide⟩, _, _, rfl, rfl, .inr ⟨_, rfl, ?_⟩⟩
    refine ⟨(by show 2 ≤ sizeLine; decide), fun p hp => ?_⟩
    exact q p _ hp (same_upd (Same.refl H) hp) ⟨_, _, upd_same⟩
theorem scDraw : FnScope ["_law_pen_here", "_law_many", "_law_drawn"] ["_law_pen_here", "_law_many"] (defScope sDraw) := ⟨rfl, rfl, rfl, by decide +kernel, rfl, by decide +kernel, by decide +kernel⟩
theorem ok_draw (F : Fn K "_law_draw" "_law_draw" sDraw f fd) : FnOk P w K mg base L2.CX0 1 f fd ["_law_pen_here", "_law_many"] spDraw := by
  refine F.ok scDraw (fun vs H Q E h => ?_) (fun cdv A outer s H vs Q E hr hh => ?_)
  · obtain ⟨p, m, rfl, _⟩ := h
    rfl
  · obtain ⟨p, m, rfl, ⟨x, g, hp⟩, ⟨m0, m1⟩, q⟩ := hh
    refine ⟨_, PSs.nox (pss_cons (ps_if (pt_cmpR op_eq (pe_ix ix_list (pv 0) pe_int (fun _ _ => rfl)) pe_int (nomark _))
        (pss_cons (ps_set (i := 2) scDraw.nd rfl (.inl rfl) (pe_op op_mod (pe_ix ix_list (pv 0) pe_int (fun _ _ => rfl)) (pv 1)))
        (pss_cons (ps_asg (pe_op op_fdiv (pe_ix ix_list (pv 0) pe_int (fun _ _ => rfl)) (pv 1)) (pg_sub (pv 0) pe_int set_list))
        (pss_one (ps_ret (pv 2))))) pss_nil)
      (pss_cons (ps_asg (pe_op op_mod (pe_op op_add (pe_op op_mul (pe_op op_mod (pe_ix ix_list (pv 0) pe_int (fun _ _ => rfl)) pe_int) pe_int) pe_int) pe_int) (pg_sub (pv 0) pe_int set_list))
      (pss_one (ps_ret (pe_op op_mod (pe_op op_fdiv (pe_op op_mod (pe_op op_add (pe_op op_mul (pe_ix ix_list (pv 0) pe_int (fun _ _ => rfl)) (pe_ix ix_list (pv 0) pe_int (fun _ _ => rfl)))
        (pe_op op_mul pe_int (pe_ix ix_list (pv 0) pe_int (fun _ _ => rfl)))) pe_int) pe_int) (pv 1)))))), ?_⟩
    have i0 : ∀ {a b : V}, atI [a, b] (0 : Int) = some a := fun {a b} => at_of (j := 0) rfl rfl
    have i1 : ∀ {a b : V}, atI [a, b] (1 : Int) = some b := fun {a b} => at_of (j := 1) rfl rfl
    refine ⟨_, rfl, p, _, 1, _, rfl, rfl, SqL.of hp, i1, rfl, _, rfl, ?_⟩
    refine ite2 (fun c => ?_) (fun c => ?_)
    · refine ⟨_, rfl, p, _, 0, _, rfl, rfl, SqL.of hp, i0, _, rfl, x, m, rfl, rfl, m0, ?_⟩
      refine ⟨_, rfl, p, _, 0, _, rfl, rfl, SqL.of hp, i0, _, rfl, x, m, rfl, rfl, ⟨m0, m1⟩, ?_⟩
      refine ⟨_, rfl, p, _, 0, 0, rfl, rfl, hp, rfl, _, rfl, ?_⟩
      refine q _ _ (Int.emod_nonneg _ (by omega)) (Int.emod_lt_of_pos _ m0) ⟨fun b o e n => ?_, ?_⟩
      · rw [upd_ne n]
        exact e
      · exact ⟨x / m, g, upd_same⟩
    · refine ⟨_, rfl, p, _, 0, _, rfl, rfl, SqL.of hp, i0, x, 2147483629, rfl, rfl, (by show (0 : Int) < 2147483629; decide), ?_⟩
      have b1 := Int.emod_nonneg x (show (2147483629 : Int) ≠ 0 by decide)
      have b2 := Int.emod_lt_of_pos x (show (0 : Int) < 2147483629 by decide)
      refine ⟨_, _, rfl, rfl, .inl ⟨by omega, by omega⟩, _, _, rfl, rfl, _, _, rfl, rfl, (by show (0 : Int) < 2147483629; decide), ?_⟩
      have c1 := Int.emod_nonneg (x % 2147483629 * 48271 + 11) (show (2147483629 : Int) ≠ 0 by decide)
      have c2 := Int.emod_lt_of_pos (x % 2147483629 * 48271 + 11) (show (0 : Int) < 2147483629 by decide)
      obtain ⟨z, hz⟩ : ∃ z, z = (x % 2147483629 * 48271 + 11) % 2147483629 := ⟨_, rfl⟩
      rw [← hz] at c1 c2
      refine ⟨_, rfl, p, _, 0, 0, rfl, rfl, hp, rfl, ?_⟩
      have hp2 : (upd H p (.lst ([V.int x, V.int g].set 0 (.int ((x % 2147483629 * 48271 + 11) % 2147483629))))) p = some (.lst [.int z, .int g]) := by
        rw [hz]
        exact upd_same
      refine ⟨_, rfl, p, _, 0, _, rfl, rfl, SqL.of hp2, i0, _, rfl, p, _, 0, _, rfl, rfl, SqL.of hp2, i0, z, z, rfl, rfl, .inl ⟨by omega, by omega⟩, ?_⟩
      refine ⟨_, rfl, p, _, 0, _, rfl, rfl, SqL.of hp2, i0, 40692, z, rfl, rfl, .inl ⟨by decide, by decide⟩, ?_⟩
      refine ⟨_, _, rfl, rfl, _, _, rfl, rfl, (by show (0 : Int) < 2147483647; decide), _, _, rfl, rfl, ⟨by decide, by decide⟩, _, rfl, _, _, rfl, rfl, m0, ?_⟩
      refine q _ _ (Int.emod_nonneg _ (by omega)) (Int.emod_lt_of_pos _ m0) ⟨fun b o e n => ?_, ?_⟩
      · rw [upd_ne n]
        exact e
      · exact ⟨z, g, hp2⟩
theorem scPick : FnScope ["_law_pen_here", "_law_things"] ["_law_pen_here", "_law_things"] (defScope sPick) := ⟨rfl, rfl, rfl, by decide +kernel, rfl, by decide +kernel, by decide +kernel⟩
theorem ok_pick {fD : Addr} {fdD : FuncData} (F : Fn K "_law_pick" "_law_pick" sPick f fd) (FD : Fn K "_law_draw" "_law_draw" sDraw fD fdD) (gD : mg "_law_draw" = some (.ref fD)) (T : Free mg) : FnOk P w K mg base L2.CX0 2 f fd ["_law_pen_here", "_law_things"] (spPick K) := by
  have GD : FnOk P w K mg base L2.CX0 1 fD fdD ["_law_pen_here", "_law_many"] spDraw := ok_draw FD
  have bD : Binds K fdD ["_law_pen_here", "_law_many"] [] := FD.bindsN fun _ _ _ _ _ _ us hl => match us, hl with | [_, _], _ => rfl
  refine F.ok scPick (fun vs H Q E h => ?_) (fun cdv A outer s H vs Q E hr hh => ?_)
  · obtain ⟨p, a, xs, rfl, _⟩ := h
    rfl
  · obtain ⟨p, a, xs, rfl, hp, ha, ne, hl, q⟩ := hh
    refine ⟨_, PSs.nox (pss_one (ps_ret (pe_ix ix_list (pv 1) (pe_call GD hr rfl gD FD.kp bD .nil pass0 (pa_cons (pv 0) (pa_cons (pe_callB call_len_seq rfl T.len_ boot_len (pa_cons (pv 1) pa_nil)) pa_nil))) (fun _ _ => rfl)))), ?_⟩
    refine ⟨_, rfl, _, rfl, _, rfl, a, xs, rfl, .inl (SqL.of ha), p, _, rfl, hp, ⟨by omega, by omega⟩, fun r H' r0 r1 kp => ?_⟩
    have hlt : r.toNat < xs.length := by omega
    refine ⟨a, xs, r, xs[r.toNat], rfl, rfl, SqL.of (kp.keep _ _ ha ne), ?_, q _ _ (List.getElem_mem _) kp⟩
    exact at_of (j := r.toNat) (by omega) (List.getElem?_eq_getElem hlt)
end
end K1
set_option Elab.async false
set_option linter.all false
set_option maxRecDepth 100000
set_option maxHeartbeats 4000000
namespace K1
open PySem PySem.Spec PyProof.Rows L2 Bb
theorem Th.kp {H H' : Hp} {p : Addr} {x : V} (h : Th H x) (k : Kp p H H') : Th H' x := by
  have one : ∀ {a : Addr} {o : HO}, H a = some o → Th H (.ref a) → (∀ H2 : Hp, H2 a = some o → Th H2 (.ref a)) → Th H' (.ref a) := by
    intro a o e _ back
    by_cases z : a = p
    · obtain ⟨x, f, e2⟩ := k.pen
      rw [z]
      exact .lst e2
    · exact back H' (k.keep _ _ e z)
  cases h with
  | non => exact .non
  | bl b => exact .bl b
  | int i => exact .int i
  | str z => exact .str z
  | lst e => exact one e (.lst e) fun _ e2 => .lst e2
  | tup e => exact one e (.tup e) fun _ e2 => .tup e2
  | dic e => exact one e (.dic e) fun _ e2 => .dic e2
theorem Th.same {H H' : Hp} {x : V} (h : Th H x) (s : Same H H') : Th H' x := by
  cases h with
  | non => exact .non
  | bl b => exact .bl b
  | int i => exact .int i
  | str z => exact .str z
  | lst e => exact .lst (s _ _ e)
  | tup e => exact .tup (s _ _ e)
  | dic e => exact .dic (s _ _ e)
theorem pen_same {H H' : Hp} {p : Addr} (h : Pen H p) (s : Same H H') : Pen H' p := by
  obtain ⟨x, f, e⟩ := h
  exact ⟨x, f, s _ _ e⟩
theorem up1 {H H1 : Hp} {q : Addr} {o : HO} (s : Same H H1) (h : H1 q = none) : Same H (upd H1 q o) := same_upd s (Same.free s h)
theorem up2 {H1 : Hp} {q : Addr} {o : HO} (h : H1 q = none) : Same H1 (upd H1 q o) := same_upd (Same.refl _) h
section
variable {P : Program} {w : World} {K : PySem.W.Frag} {mg : Str → Option Value} {base : Heap} {f : Addr} {fd : FuncData}
/-- the law's first helpers as they stand -/
structure Hl (K : PySem.W.Frag) (mg : Str → Option Value) : Prop where
  draw : ∃ a d, Fn K "_law_draw" "_law_draw" sDraw a d ∧ mg "_law_draw" = some (.ref a)
  pick : ∃ a d, Fn K "_law_pick" "_law_pick" sPick a d ∧ mg "_law_pick" = some (.ref a)
  fr : Free mg
theorem Hl.dr (h : Hl K mg) : ∃ a d, FnOk P w K mg base L2.CX0 1 a d ["_law_pen_here", "_law_many"] spDraw ∧ mg "_law_draw" = some (.ref a) ∧ PySem.W.keepIn K (.ref a) = true ∧ Binds K d ["_law_pen_here", "_law_many"] [] := by
  obtain ⟨a, d, F, g⟩ := h.draw
  exact ⟨a, d, ok_draw F, g, F.kp, F.bindsN fun _ _ _ _ _ _ us hl => match us, hl with | [_, _], _ => rfl⟩
theorem Hl.pk (h : Hl K mg) : ∃ a d, FnOk P w K mg base L2.CX0 2 a d ["_law_pen_here", "_law_things"] (spPick K) ∧ mg "_law_pick" = some (.ref a) ∧ PySem.W.keepIn K (.ref a) = true ∧ Binds K d ["_law_pen_here", "_law_things"] [] := by
  obtain ⟨a1, d1, F1, g1⟩ := h.draw
  obtain ⟨a, d, F, g⟩ := h.pick
  exact ⟨a, d, ok_pick F F1 g1 h.fr, g, F.kp, F.bindsN fun _ _ _ _ _ _ us hl => match us, hl with | [_, _], _ => rfl⟩
end
end K1
set_option Elab.async false
set_option linter.all false
set_option maxRecDepth 100000
set_option maxHeartbeats 4000000
namespace K1
open PySem PySem.Spec PyProof.Rows L2 Bb
section
variable {P : Program} {w : World} {K : PySem.W.Frag} {mg : Str → Option Value} {base : Heap} {f : Addr} {fd : FuncData}
theorem scNum : FnScope ["_law_thing", "_law_least", "_law_greatest"] ["_law_thing", "_law_least", "_law_greatest"] (defScope sNum) := ⟨rfl, rfl, rfl, by decide +kernel, rfl, by decide +kernel, by decide +kernel⟩
theorem ok_num (F : Fn K "_law_number" "_law_number" sNum f fd) (T : Free mg) : FnOk P w K mg base L2.CX0 1 f fd ["_law_thing", "_law_least", "_law_greatest"] spFrom := by
  refine F.ok scNum (fun vs H Q E h => ?_) (fun cdv A outer s H vs Q E hr hh => ?_)
  · obtain ⟨x, lo, hi, rfl, _⟩ := h
    rfl
  · obtain ⟨x, lo, hi, rfl, hx, q⟩ := hh
    obtain ⟨n, ty, k1, k2⟩ := hx.ty (K := K)
    refine ⟨_, PSs.nox (pss_one (ps_ret (pe_and (pe_callB call_isi rfl T.isi boot_isinstance (pa_cons (pv 0) (pa_cons (pe_bltn rfl T.int_ (by decide +kernel) (v := .ty "int") rfl) pa_nil)))
      (pe_and (pe_not (pe_callB call_isi rfl T.isi boot_isinstance (pa_cons (pv 0) (pa_cons (pe_bltn rfl T.bool_ (by decide +kernel) (v := .ty "bool") rfl) pa_nil))))
      (pe_one (pe_chain op_le op_le (pv 1) (pv 0) (pv 2))))))), ?_⟩
    refine ⟨x, rfl, _, _, _, _, _, rfl, .ty "int", ty, kit_ty k1, _, rfl, ?_⟩
    cases x with
    | int i =>
      refine ⟨_, rfl, _, _, _, _, _, rfl, .ty "bool", ty, kit_ty k2, _, rfl, _, rfl, iteT ?_⟩
      refine ⟨_, rfl, _, rfl, _, _, rfl, rfl, _, rfl, ?_⟩
      refine ite2 (fun c => ?_) (fun c => ?_)
      · refine ⟨_, rfl, _, _, rfl, rfl, ?_⟩
        have e : numIn lo hi (.int i) = decide (i ≤ hi) := by
          show (decide (lo ≤ i) && decide (i ≤ hi)) = _
          rw [c, Bool.true_and]
        rw [e] at q
        exact q
      · have e : numIn lo hi (.int i) = false := by
          show (decide (lo ≤ i) && decide (i ≤ hi)) = _
          rw [Bool.eq_false_iff.mpr c, Bool.false_and]
        rw [e] at q
        exact q
    | bl b => exact ⟨_, rfl, _, _, _, _, _, rfl, .ty "bool", ty, kit_ty k2, _, rfl, _, rfl, iteF q⟩
    | _ => exact q
end
end K1
set_option Elab.async false
set_option linter.all false
set_option maxRecDepth 100000
set_option maxHeartbeats 4000000
namespace K1
open PySem PySem.Spec PyProof.Rows L2 Bb
/-! which refusal it is: the classes in the order of the law's tests, the words -/
abbrev kOrd : List Str := ["NoMark", "NoWay", "NoRules", "NoAge", "NoPerson", "NoDay", "NoDeed", "NoSheet", "NoWord", "NoBook", "NoText", "NoName"]
abbrev kTxt : Str := "nomark noway norules noage noperson noday nodeed nosheet noword nobook notext noname"
def kWords : List Str := ["nomark", "noway", "norules", "noage", "noperson", "noday", "nodeed", "nosheet", "noword", "nobook", "notext", "noname"]
theorem kSplit : Txt.split kTxt " " = kWords := by decide +kernel
def bsV (j : Nat) : List V := [.bl (decide (0 = j)), .bl (decide (1 = j)), .bl (decide (2 = j)), .bl (decide (3 = j)), .bl (decide (4 = j)), .bl (decide (5 = j)), .bl (decide (6 = j)), .bl (decide (7 = j)), .bl (decide (8 = j)), .bl (decide (9 = j)), .bl (decide (10 = j)), .bl (decide (11 = j))]
theorem bs_flat (j : Nat) : (bsV j).all flatV = true := rfl
theorem bs_count : ∀ j : Fin 12, (bsV j).countP (fun z => eqV z (.bl true)) = 1 := by decide +kernel
theorem bs_at : ∀ j : Fin 12, (bsV j)[(j : Nat)]? = some (.bl true) := by
  intro j
  match j with
  | ⟨0, _⟩ => rfl
  | ⟨1, _⟩ => rfl
  | ⟨2, _⟩ => rfl
  | ⟨3, _⟩ => rfl
  | ⟨4, _⟩ => rfl
  | ⟨5, _⟩ => rfl
  | ⟨6, _⟩ => rfl
  | ⟨7, _⟩ => rfl
  | ⟨8, _⟩ => rfl
  | ⟨9, _⟩ => rfl
  | ⟨10, _⟩ => rfl
  | ⟨11, _⟩ => rfl
theorem bs_no : ∀ j m : Fin 12, m < j → ((bsV j)[(m : Nat)]?.all fun z => !eqV z (.bl true)) = true := by decide +kernel
/-- what the class D of errors must say: it is the j-th -/
structure Kd (K : PySem.W.Frag) (mg : Str → Option Value) (D : Addr) (j : Fin 12) : Prop where
  c : ∀ (i : Nat) (x : Str), kOrd[i]? = some x → ∃ C, mg x = some (.ref C) ∧ PySem.W.kitOne K (.ref D) (.ref C) = some (decide (i = (j : Nat)))
  ve : PySem.W.kitOne K (.ref D) (.type "ValueError") = some true
  le : PySem.W.kitOne K (.ref D) (.type "LookupError") = some false
  ex : ExcC K D
section
variable {P : Program} {w : World} {K : PySem.W.Frag} {mg : Str → Option Value} {base : Heap} {f : Addr} {fd : FuncData}
abbrev nKind : List Str := ["_law_e", "_law_tests", "_law_kinds"]
theorem scKind : FnScope nKind ["_law_e"] (defScope sKind) := ⟨rfl, rfl, rfl, by decide +kernel, rfl, by decide +kernel, by decide +kernel⟩
theorem ok_kind {D : Addr} {j : Fin 12} {z : Str} (F : Fn K "_law_kind" "_law_kind" sKind f fd) (T : Free mg) (k : Kd K mg D j) (hz : kWords[(j : Nat)]? = some z) : FnE P w K mg base 1 f fd ["_law_e"] D (.str z) := by
  refine fnE F scKind fun cdv A outer s H a oe Q hr hZ hd back => ?_
  obtain ⟨C0, g0, e0⟩ := k.c 0 _ rfl
  obtain ⟨C1, g1, e1⟩ := k.c 1 _ rfl
  obtain ⟨C2, g2, e2⟩ := k.c 2 _ rfl
  obtain ⟨C3, g3, e3⟩ := k.c 3 _ rfl
  obtain ⟨C4, g4, e4⟩ := k.c 4 _ rfl
  obtain ⟨C5, g5, e5⟩ := k.c 5 _ rfl
  obtain ⟨C6, g6, e6⟩ := k.c 6 _ rfl
  obtain ⟨C7, g7, e7⟩ := k.c 7 _ rfl
  obtain ⟨C8, g8, e8⟩ := k.c 8 _ rfl
  obtain ⟨C9, g9, e9⟩ := k.c 9 _ rfl
  obtain ⟨C10, g10, e10⟩ := k.c 10 _ rfl
  obtain ⟨C11, g11, e11⟩ := k.c 11 _ rfl
  let X := L2H.cxH (fun _ _ _ _ _ _ => False) P w K mg base nKind "_law_kind" (defScope sKind) f cdv A outer s H (fun _ _ _ => False) (a, oe)
  have isi : CallR X (.builtin "isinstance") (rIsE K D a) := call_isP (X := X) List.mem_cons_self k.ex hZ hd
  have cmp : ∀ {C : Addr} {x : Str} {p q r t : Pos}, mg x = some (.ref C) → Gl X x → (x == ("__debug__" : Str)) = false →
      PE X (.Call (.Name "isinstance" p) [.Name "_law_e" q, .Name x r] [] t) (tCB (rIsE K D a) (tCons (tVar 0) (tCons (tC (.ref C)) tNil))) := fun g gl db => pe_callB isi rfl T.isi boot_isinstance (pa_cons (pv 0) (pa_cons (pe_glob gl g (v := .ref _) rfl db) pa_nil))
  refine ⟨_, pss_cons (ps_set (i := 1) scKind.nd rfl (.inl rfl) (pe_lst (pa_cons (cmp g0 rfl (by decide)) (pa_cons (cmp g1 rfl (by decide)) (pa_cons (cmp g2 rfl (by decide)) (pa_cons (cmp g3 rfl (by decide)) pa_nil))))))
    (pss_cons (ps_set (i := 1) scKind.nd rfl (.inl rfl) (pe_op op_cat (pv 1) (pe_lst (pa_cons (cmp g4 rfl (by decide)) (pa_cons (cmp g5 rfl (by decide)) (pa_cons (cmp g6 rfl (by decide)) (pa_cons (cmp g7 rfl (by decide)) pa_nil)))))))
    (pss_cons (ps_set (i := 1) scKind.nd rfl (.inl rfl) (pe_op op_cat (pv 1) (pe_lst (pa_cons (cmp g8 rfl (by decide)) (pa_cons (cmp g9 rfl (by decide)) (pa_cons (cmp g10 rfl (by decide)) (pa_cons (cmp g11 rfl (by decide)) pa_nil)))))))
    (pss_cons (ps_if (PW.pt (pw_or (pt_cmpR op_ne (pe_bm PySem.F.plainAttrs_list PySem.F.slot_list_count PySem.F.type_list_count mt_countF (pv 1) (pa_cons pe_bl pa_nil)) pe_int (nomark _))
        (pw_or (pt_not (pt_val (pe_callB isi rfl T.isi boot_isinstance (pa_cons (pv 0) (pa_cons (pe_bltn rfl T.ve_ (by decide +kernel) (v := .ty "ValueError") rfl) pa_nil)))))
        (pw_or1 (pt_val (pe_callB isi rfl T.isi boot_isinstance (pa_cons (pv 0) (pa_cons (pe_bltn rfl T.le_ (by decide +kernel) (v := .ty "LookupError") rfl) pa_nil)))))))) (pss_one (ps_ret pe_str)) pss_nil)
    (pss_cons (ps_set (i := 2) scKind.nd rfl (.inl rfl) pe_str)
    (pss_one (ps_ret (pe_ix ix_list (pe_bm PySem.F.plainAttrs_str PySem.F.slot_str_split PySem.F.type_str_split mt_split (pv 2) (pa_cons pe_str pa_nil)) (pe_bm PySem.F.plainAttrs_list PySem.F.slot_list_index PySem.F.type_list_index mt_index (pv 1) (pa_cons pe_bl pa_nil)) (fun _ _ => rfl)))))))), ?_⟩
  have own : ∀ {C : Addr} (u : Value), RelV (.ref C) u → u = .ref C := fun u r => r
  have fs : 4 ≤ sizeLine := by decide
  refine ⟨_, rfl, _, _, _, rfl, own, e0, _, rfl, _, _, _, rfl, own, e1, _, rfl, _, _, _, rfl, own, e2, _, rfl, _, _, _, rfl, own, e3, fs, fun l1 h1 => ?_⟩
  have s1 := up2 (o := .lst [.bl (decide (0 = (j : Nat))), .bl (decide (1 = (j : Nat))), .bl (decide (2 = (j : Nat))), .bl (decide (3 = (j : Nat)))]) h1
  refine ⟨_, rfl, _, rfl, _, _, _, rfl, own, e4, _, rfl, _, _, _, rfl, own, e5, _, rfl, _, _, _, rfl, own, e6, _, rfl, _, _, _, rfl, own, e7, fs, fun l2 h2 => ?_⟩
  have s2 := up2 (o := .lst [.bl (decide (4 = (j : Nat))), .bl (decide (5 = (j : Nat))), .bl (decide (6 = (j : Nat))), .bl (decide (7 = (j : Nat)))]) h2
  refine ⟨l1, l2, _, _, rfl, rfl, s2 _ _ upd_same, upd_same, (by show 4 + 4 ≤ sizeLine; decide), fun l3 h3 => ?_⟩
  have s3 := up2 (o := .lst ([.bl (decide (0 = (j : Nat))), .bl (decide (1 = (j : Nat))), .bl (decide (2 = (j : Nat))), .bl (decide (3 = (j : Nat)))] ++ [.bl (decide (4 = (j : Nat))), .bl (decide (5 = (j : Nat))), .bl (decide (6 = (j : Nat))), .bl (decide (7 = (j : Nat)))])) h3
  refine ⟨_, rfl, _, rfl, _, _, _, rfl, own, e8, _, rfl, _, _, _, rfl, own, e9, _, rfl, _, _, _, rfl, own, e10, _, rfl, _, _, _, rfl, own, e11, fs, fun l4 h4 => ?_⟩
  have s4 := up2 (o := .lst [.bl (decide (8 = (j : Nat))), .bl (decide (9 = (j : Nat))), .bl (decide (10 = (j : Nat))), .bl (decide (11 = (j : Nat)))]) h4
  refine ⟨l3, l4, _, _, rfl, rfl, s4 _ _ upd_same, upd_same, (by show 8 + 4 ≤ sizeLine; decide), fun l5 h5 => ?_⟩
  have s5 := up2 (o := .lst (bsV j)) h5
  have all : Same H _ := (s1.trans s2).trans (s3.trans (s4.trans s5))
  refine ⟨_, rfl, .inl ⟨rfl, _, SqL.of upd_same⟩, l5, bsV j, .bl true, rfl, rfl, SqL.of upd_same, rfl, bs_flat j, rfl, _, rfl, ?_⟩
  have c1 : ((((bsV j).countP fun z => eqV z (.bl true)) : Nat) : Int) = 1 := by
    rw [bs_count j]
    rfl
  show if (!decide (V.int ((((bsV j).countP fun z => eqV z (.bl true)) : Nat) : Int) = V.int 1)) = true then _ else _
  rw [c1]
  refine iteF ?_
  refine ⟨_, rfl, _, _, _, rfl, (fun u r => r), k.ve, _, rfl, ?_⟩
  refine iteF ?_
  refine ⟨_, rfl, _, _, _, rfl, (fun u r => r), k.le, _, rfl, ?_⟩
  refine iteF ?_
  refine ⟨_, rfl, rfl, _, _, rfl, rfl, rfl, (by decide +kernel), fun l6 h6 => ?_⟩
  have s6 := up2 (o := .lst ((Txt.split kTxt " ").map V.str)) h6
  have h5b : (upd _ l6 (.lst ((Txt.split kTxt " ").map V.str))) l5 = some (.lst (bsV j)) := s6 _ _ upd_same
  refine ⟨_, rfl, .inl ⟨rfl, _, SqL.of h5b⟩, l5, bsV j, .bl true, j, .bl true, rfl, rfl, SqL.of h5b, rfl, bs_flat j, bs_at j, rfl, ?_, ?_⟩
  · intro m z' hm hz'
    have lt : m < 12 := Nat.lt_trans hm j.isLt
    have q := bs_no j ⟨m, lt⟩ hm
    have hz2 : (bsV j)[((⟨m, lt⟩ : Fin 12) : Nat)]? = some z' := hz'
    rw [hz2] at q
    simpa using q
  · refine ⟨l6, (Txt.split kTxt " ").map V.str, _, .str z, rfl, rfl, SqL.of upd_same, ?_, back _ (all.trans s6)⟩
    refine at_of (j := (j : Nat)) rfl ?_
    rw [kSplit, List.getElem?_map, hz]
    rfl
end
end K1
set_option Elab.async false
set_option linter.all false
set_option maxRecDepth 100000
set_option maxHeartbeats 4000000
namespace K1
open PySem PySem.Spec PyProof.Rows L2 Bb
/-! came: what is told, or the refusal. kt: the classes that the call may raise, each with its word -/
def wish (kt : List (Addr × Str)) (Q : VK) : XK := fun cls d H' => d = none ∧ ∃ D z, (D, z) ∈ kt ∧ cls = .ref D ∧ ∀ H'', Same H' H'' → ∀ p, H'' p = none → Q (.ref p) (upd H'' p (.tup [.str "no", .str z]))
def TCame (kt : List (Addr × Str)) : (XK → Hp → VK → Prop) → Hp → VK → Prop := fun tl H Q =>
  tl (wish kt Q) H (fun v H' => [V.str "told", v].length ≤ sizeLine ∧ ∀ p, H' p = none → Q (.ref p) (upd H' p (.tup [.str "told", v])))
/-- what a class of errors says in the law -/
structure Er (K : PySem.W.Frag) (mg : Str → Option Value) (CC : Addr) (D : Addr) (z : Str) : Prop where
  kd : ∃ j : Fin 12, Kd K mg D j ∧ kWords[(j : Nat)]? = some z
  ex : PySem.W.exmOne K (.ref D) (.ref CC) = some true
abbrev nCame : List Str := ["_law_call", "_law_e"]
theorem scCame : FnScope nCame ["_law_call"] (defScope sCame) := ⟨rfl, rfl, rfl, by decide +kernel, rfl, by decide +kernel, by decide +kernel⟩
theorem came_gives {X : Cx} {g fK CC CP : Addr} {fdK : FuncData} {cdg : Value} {q : Str} {kt : List (Addr × Str)} {m : Nat} (hr : Room (m + 2) X.A) (FK : Fn X.K "_law_kind" "_law_kind" sKind fK fdK) (gK : X.mg "_law_kind" = some (.ref fK)) (T : Free X.mg)
    (gC : X.mg "ClubError" = some (.ref CC)) (gP : X.mg "NoPlace" = some (.ref CP)) (hk : ∀ D z, (D, z) ∈ kt → Er X.K X.mg CC D z) :
    LamX.GivesTo X nCame "_law_came" (defScope sCame) g cdg (defBody sCame) "_law_call" q (TCame kt) := by
  intro f c' s H Q tl act hc h
  let Z : Cx := (cxOf C8.CX0 X.prog X.w X.K X.mg X.base nCame "_law_came" (defScope sCame) g cdg X.A X.stack s H C8.E0).nox
  have bK : Binds X.K fdK ["_law_e"] [] := FK.bindsN fun _ _ _ _ _ _ us hl => match us, hl with | [_], _ => rfl
  have room : L2H.RoomH 1 Z.A := ((L2H.roomH_of hr).mono (by omega)).deeper _
  let ts1 : Addr → Value → Option Addr → TS := fun a cls d => fun De σ H => ∃ D z, cls = .ref D ∧ d = none ∧ (D, z) ∈ kt ∧
    (σ.length = 2 → tRet (tTup (tCons (tC (.str "no")) (tCons (fun σ H Q => (tCons (tVar 1) tNil) σ H fun vs H1 => vs = [.ref a] ∧ ∀ H', (∀ b o, H1 b = some o → H' b = some o) → Q (.str z) H') tNil))) De σ H)
  refine ⟨_, pss_one (ps_try_all (X := Z) (l := [(.ref CC, 1, ts1), (.ref CP, 1, fun _ _ _ => tNever)]) (Wout := fun _ _ _ _ => False)
    (tb := fun W D σ H => ∃ Ech : XK, (∀ cls d σ' H', Ech cls d H' → W cls d σ' H') ∧ tRet (tTup (tCons (tC (.str "told")) (tCons (fun σZ HZ Q => σZ[0]? = some (some (.ref f)) ∧ HZ c' = some (LamX.CodeO c' q) ∧ tl Ech HZ Q) tNil))) D σ H)
    rfl rfl scCame.nd LamX.takes0 (fun W pn xe tk _ => ?_)
    (.cons rfl rfl ⟨rfl, by decide, .inl gC⟩ (fun a oe cls d pn hz hf => ?_) (.cons rfl rfl ⟨rfl, by decide, .inl gP⟩ (fun a oe cls d pn hz hf => pss_never) .nil))), ?_⟩
  · refine ⟨fun pins s' σ H' D I h' => ?_⟩
    obtain ⟨Ech, hW, h1⟩ := h'
    exact (pss_one (ps_ret (pe_tup (pa_cons pe_str (pa_cons (act W pn xe Ech _ _ tk hW) pa_nil))))).run pins s' σ H' D I h1
  · refine ⟨fun pins s' σ H' De I h' => ?_⟩
    obtain ⟨D, z, rfl, rfl, hm, h1⟩ := h'
    obtain ⟨j, kd, hw⟩ := (hk D z hm).kd
    have FE : FnE X.prog X.w X.K X.mg X.base 1 fK fdK ["_law_e"] D (.str z) := ok_kind FK T kd hw
    exact (pss_one (ps_ret (pe_tup (pa_cons pe_str (pa_cons (pe_callE (X := Z) (x := "_law_kind") FE room rfl gK FK.kp bK hz hf (pa_cons (pv 1) pa_nil)) pa_nil))))).run pins s' σ H' De I (h1 I.len)
  · refine ⟨wish kt Q, ?_, ?_⟩
    · rintro cls d σ' H' ⟨rfl, D, z, hm, rfl, back⟩
      refine ⟨true, (hk D z hm).ex, fun _ a ha => ?_, fun e => by cases e⟩
      refine ⟨D, z, rfl, rfl, hm, fun hlen => ?_⟩
      have e : (σ'.set 1 (some (V.ref a)))[1]? = some (some (V.ref a)) := by
        rw [List.length_set] at hlen
        rw [List.getElem?_set_self (by omega)]
      exact ⟨_, e, rfl, fun H'' sm => ⟨(by show 2 ≤ sizeLine; decide), fun p hp => back H'' sm p hp⟩⟩
    · exact ⟨rfl, hc, h⟩
end K1
set_option Elab.async false
set_option linter.all false
set_option maxRecDepth 100000
set_option maxHeartbeats 4000000
namespace K1
open PySem PySem.Spec PyProof.Rows L2 Bb
/-! things of any kind, as data -/
theorem Sm.str {z : Str} (h : (reprText z).length ≤ 200) : Sm (.str z) := ⟨rfl, Nat.zero_le _, h, fun z => (by cases z), fun ds z => (by cases z)⟩
theorem sm_t0 : Sm (.tuple []) := by exact ⟨by decide +kernel, by decide +kernel, by decide +kernel, by decide +kernel, fun ds e => by first | (cases e; done) | (cases e; decide +kernel)⟩
theorem sm_l0 : Sm (.list []) := by exact ⟨by decide +kernel, by decide +kernel, by decide +kernel, by decide +kernel, fun ds e => by first | (cases e; done) | (cases e; decide +kernel)⟩
theorem sm_d0 : Sm (.dict []) := by exact ⟨by decide +kernel, by decide +kernel, by decide +kernel, by decide +kernel, fun ds e => by first | (cases e; done) | (cases e; decide +kernel)⟩
theorem sm_t1 : Sm (.tuple [.int 0]) := by exact ⟨by decide +kernel, by decide +kernel, by decide +kernel, by decide +kernel, fun ds e => by first | (cases e; done) | (cases e; decide +kernel)⟩
theorem sm_t1b : Sm (.tuple [.int 1]) := by exact ⟨by decide +kernel, by decide +kernel, by decide +kernel, by decide +kernel, fun ds e => by first | (cases e; done) | (cases e; decide +kernel)⟩
theorem sm_l1 : Sm (.list [.int 0]) := by exact ⟨by decide +kernel, by decide +kernel, by decide +kernel, by decide +kernel, fun ds e => by first | (cases e; done) | (cases e; decide +kernel)⟩
theorem sm_tt : Sm (.tuple [.tuple []]) := by exact ⟨by decide +kernel, by decide +kernel, by decide +kernel, by decide +kernel, fun ds e => by first | (cases e; done) | (cases e; decide +kernel)⟩
theorem sm_t2 : Sm (.tuple [.int 1, .int 2]) := by exact ⟨by decide +kernel, by decide +kernel, by decide +kernel, by decide +kernel, fun ds e => by first | (cases e; done) | (cases e; decide +kernel)⟩
theorem sm_d1 : Sm (.dict [(.int 0, .int 0)]) := by exact ⟨by decide +kernel, by decide +kernel, by decide +kernel, by decide +kernel, fun ds e => by first | (cases e; done) | (cases e; decide +kernel)⟩
/-- all but the pen's address -/
abbrev Zp (p : Addr) : Addr → Prop := fun b => b = p
theorem Kp.keeps {p : Addr} {H H' : Hp} (k : Kp p H H') : Keeps (Zp p) H H' := fun b o e _ n => k.keep b o e n
/-- what stood at the entry -/
abbrev Old (H : Hp) : Addr → Prop := fun b => H b ≠ none
theorem Kp.keepsO {p : Addr} {H H' : Hp} {Z : Addr → Prop} (k : Kp p H H') (z : Z p) : Keeps Z H H' := fun b o e _ n => k.keep b o e fun q => n (by rw [q]; exact z)
theorem pen_old {p : Addr} {H : Hp} (hp : Pen H p) : H p ≠ none := fun z => by
  obtain ⟨x, f, e⟩ := hp
  rw [z] at e
  cases e
mutual
/-- no text, no list is long -/
def shortD : PyData → Bool
  | .str z => decide (z.length ≤ 1000) && PyData.canLay0 (.str z)
  | .list ds => decide (ds.length ≤ 1000) && shortAll ds
  | .tuple ds => decide (ds.length ≤ 1000) && shortAll ds
  | _ => true
def shortAll : List PyData → Bool
  | [] => true
  | d :: ds => shortD d && shortAll ds
end
def itemsD : PyData → List PyData
  | .list ds => ds
  | .tuple ds => ds
  | _ => []
def layD (d : PyData) : Bool := PyData.canLayAll0 (itemsD d) && decide (PyData.depthAll (itemsD d) ≤ 8)
def spThingD : Sp := fun vs H Q _ => ∃ p, vs = [.ref p] ∧ Pen H p ∧ ∀ v d H', Kp p H H' → Da (Old H) H' v d → Sm d → shortD d = true → layD d = true → Q v H'
def spOddD : Sp := fun vs H Q _ => ∃ (p : Addr) (lo hi : Int), vs = [.ref p, .int lo, .int hi] ∧ Pen H p ∧ (lo.natAbs < 10 ^ 17 ∧ hi.natAbs < 10 ^ 17) ∧ ∀ v d H', Kp p H H' → Da (Old H) H' v d → Sm d → shortD d = true → layD d = true → PyData.canLay0 d = true → Q v H'
section
variable {P : Program} {w : World} {K : PySem.W.Frag} {mg : Str → Option Value} {base : Heap} {f : Addr} {fd : FuncData}
theorem scAny : FnScope ["_law_pen_here", "_law_odd_here"] ["_law_pen_here"] (defScope sAny) := ⟨rfl, rfl, rfl, by decide +kernel, rfl, by decide +kernel, by decide +kernel⟩
theorem ok_any (F : Fn K "_law_anything" "_law_anything" sAny f fd) (h : Hl K mg) : FnOk P w K mg base L2.CX0 3 f fd ["_law_pen_here"] spThingD := by
  obtain ⟨aP, dP, GP, gP, kP, bP⟩ := h.pk (P := P) (w := w) (base := base)
  refine F.ok scAny (fun vs H Q E h => ?_) (fun cdv A outer s H vs Q E hr hh => ?_)
  · obtain ⟨p, rfl, _⟩ := h
    rfl
  · obtain ⟨p, rfl, hp, q⟩ := hh
    refine ⟨_, PSs.nox (pss_cons (ps_set (i := 1) scAny.nd rfl (.inl rfl) (pe_lst (pa_cons pe_non (pa_cons pe_bl (pa_cons pe_bl (pa_cons pe_str (pa_cons pe_str (pa_cons pe_str (pa_cons (pe_tup pa_nil) (pa_cons (pe_lst pa_nil) (pa_cons pe_dnewK
        (pa_cons (pe_un un_neg pe_int) (pa_cons (pe_op op_pow pe_int pe_int) (pa_cons pe_int (pa_cons pe_int (pa_cons (pe_tup (pa_cons pe_int pa_nil)) (pa_cons (pe_lst (pa_cons pe_int pa_nil)) (pa_cons (pe_tup (pa_cons (pe_tup pa_nil) pa_nil))
        (pa_cons (pe_tup (pa_cons pe_int (pa_cons pe_int pa_nil))) (pa_cons (pe_disp (pps_cons pe_int pe_int pps_nil) (by rfl) (by rfl) (fun z => by cases z) (by decide)) pa_nil))))))))))))))))))))
      (pss_one (ps_ret (pe_call GP hr rfl gP kP bP .nil pass0 (pa_cons (pv 0) (pa_cons (pv 1) pa_nil)))))), ?_⟩
    have zs : 0 ≤ sizeLine := Nat.zero_le _
    have os : 1 ≤ sizeLine := by decide
    have ts : 2 ≤ sizeLine := by decide
    refine ⟨zs, fun t1 h1 => ⟨zs, fun l1 h2 => fun d1 h3 => ⟨_, rfl, _, _, rfl, rfl, ⟨by decide, by decide, by decide⟩, os, fun t2 h4 => ⟨os, fun l2 h5 => ⟨zs, fun t3 h6 => ⟨os, fun t4 h7 => ⟨ts, fun t5 h8 => fun d2 h9 => ⟨upd_same, [(Sum.inl 0, .int 0)], rfl, (by decide), ?_⟩⟩⟩⟩⟩⟩⟩⟩
    refine ⟨(by show 18 ≤ sizeLine; decide), fun L hL => ?_⟩
    have c1 := up2 (o := .tup []) h1
    have c2 := up2 (o := .lst []) h2
    have c3 := up2 (o := .dK []) h3
    have c4 := up2 (o := .tup [V.int 0]) h4
    have c5 := up2 (o := .lst [V.int 0]) h5
    have c6 := up2 (o := .tup []) h6
    have c7 := up2 (o := .tup [V.ref t3]) h7
    have c8 := up2 (o := .tup [V.int 1, V.int 2]) h8
    have c10 := same_upd (o := .dK (mergeK [] [(Sum.inl 0, V.int 0)])) (up2 (o := .dK []) h9) h9
    have r9 := up2 (o := .lst [.non, .bl true, .bl false, .str "", .str "ann", .str "less", .ref t1, .ref l1, .ref d1, .int (-1), .int (10 ^ 39), .int 0, .int 7, .ref t2, .ref l2, .ref t4, .ref t5, .ref d2]) hL
    have r8 := c10.trans r9
    have r7 := c8.trans r8
    have r6 := c7.trans r7
    have r5 := c6.trans r6
    have r4 := c5.trans r5
    have r3 := c4.trans r4
    have r2 := c3.trans r3
    have r1 := c2.trans r2
    have r0 := c1.trans r1
    have hp' := pen_same hp r0
    refine ⟨_, rfl, _, rfl, p, L, _, rfl, hp', upd_same, ?_, ⟨(by show 0 < 18; decide), (by show 18 ≤ 1000; decide)⟩, fun v H' hv kp => ?_⟩
    · exact pen_ne hp' upd_same (fun x f z => by injection z with z; injection z with z _; cases z)
    · have k2 := ((Kp.refl hp).same r0).trans kp
      have kk : Keeps (Old H) _ _ := Kp.keepsO kp (pen_old hp)
      have fin : ∀ {u : V} {d : PyData}, Da (Old H) _ u d → Sm d → shortD d = true → layD d = true → Q u H' := fun {u d} a s t y => q u d H' k2 (Da.keep kk _ _ a) s t y
      have b1 := c1
      have b2 := b1.trans c2
      have b3 := b2.trans c3
      have b4 := b3.trans c4
      have b5 := b4.trans c5
      have b6 := b5.trans c6
      have b7 := b6.trans c7
      have b8 := b7.trans c8
      have fr : ∀ {G : Hp} {t : Addr}, Same H G → G t = none → ¬ Old H t := fun s e z => z (Same.free s e)
      simp only [List.mem_cons, List.not_mem_nil, or_false] at hv
      rcases hv with rfl | rfl | rfl | rfl | rfl | rfl | rfl | rfl | rfl | rfl | rfl | rfl | rfl | rfl | rfl | rfl | rfl | rfl
      · exact fin .non Sm.non (by first | rfl | decide +kernel) (by first | rfl | decide +kernel)
      · exact fin (.bl _) (Sm.bl _) (by first | rfl | decide +kernel) (by first | rfl | decide +kernel)
      · exact fin (.bl _) (Sm.bl _) (by first | rfl | decide +kernel) (by first | rfl | decide +kernel)
      · exact fin (.str _) (Sm.str (by decide +kernel)) (by first | rfl | decide +kernel) (by first | rfl | decide +kernel)
      · exact fin (.str _) (Sm.str (by decide +kernel)) (by first | rfl | decide +kernel) (by first | rfl | decide +kernel)
      · exact fin (.str _) (Sm.str (by decide +kernel)) (by first | rfl | decide +kernel) (by first | rfl | decide +kernel)
      · have e := r1 _ _ upd_same
        exact fin (.tup e (fr (Same.refl H) h1) .nil) sm_t0 (by first | rfl | decide +kernel) (by first | rfl | decide +kernel)
      · have e := r2 _ _ upd_same
        exact fin (.lst e (fr b1 h2) .nil) sm_l0 (by first | rfl | decide +kernel) (by first | rfl | decide +kernel)
      · have e := r3 _ _ upd_same
        exact fin (.d0 e (fr b2 h3)) sm_d0 (by first | rfl | decide +kernel) (by first | rfl | decide +kernel)
      · exact fin (.int _) (Sm.int (by decide)) (by first | rfl | decide +kernel) (by first | rfl | decide +kernel)
      · exact fin (.int _) (Sm.int (by decide +kernel)) (by first | rfl | decide +kernel) (by first | rfl | decide +kernel)
      · exact fin (.int _) (Sm.int (by decide)) (by first | rfl | decide +kernel) (by first | rfl | decide +kernel)
      · exact fin (.int _) (Sm.int (by decide)) (by first | rfl | decide +kernel) (by first | rfl | decide +kernel)
      · have e := r4 _ _ upd_same
        exact fin (.tup e (fr b3 h4) (.cons (.int _) .nil)) sm_t1 (by first | rfl | decide +kernel) (by first | rfl | decide +kernel)
      · have e := r5 _ _ upd_same
        exact fin (.lst e (fr b4 h5) (.cons (.int _) .nil)) sm_l1 (by first | rfl | decide +kernel) (by first | rfl | decide +kernel)
      · have e := r7 _ _ upd_same
        have e3 := r6 _ _ upd_same
        exact fin (.tup e (fr b6 h7) (.cons (.tup e3 (fr b5 h6) .nil) .nil)) sm_tt (by first | rfl | decide +kernel) (by first | rfl | decide +kernel)
      · have e := r8 _ _ upd_same
        exact fin (.tup e (fr b7 h8) (.cons (.int _) (.cons (.int _) .nil))) sm_t2 (by first | rfl | decide +kernel) (by first | rfl | decide +kernel)
      · have e := r9 _ _ upd_same
        exact fin (.d1 e (fr b8 h9)) sm_d1 (by first | rfl | decide +kernel) (by first | rfl | decide +kernel)
theorem scOdd : FnScope ["_law_pen_here", "_law_least", "_law_greatest", "_law_far"] ["_law_pen_here", "_law_least", "_law_greatest"] (defScope sOdd) := ⟨rfl, rfl, rfl, by decide +kernel, rfl, by decide +kernel, by decide +kernel⟩
theorem ok_odd (F : Fn K "_law_odd" "_law_odd" sOdd f fd) (h : Hl K mg) : FnOk P w K mg base L2.CX0 3 f fd ["_law_pen_here", "_law_least", "_law_greatest"] spOddD := by
  obtain ⟨aP, dP, GP, gP, kP, bP⟩ := h.pk (P := P) (w := w) (base := base)
  refine F.ok scOdd (fun vs H Q E h => ?_) (fun cdv A outer s H vs Q E hr hh => ?_)
  · obtain ⟨p, lo, hi, rfl, _⟩ := h
    rfl
  · obtain ⟨p, lo, hi, rfl, hp, ⟨b1, b2⟩, q⟩ := hh
    refine ⟨_, PSs.nox (pss_cons (ps_set (i := 3) scOdd.nd rfl (.inl rfl) (pe_lst (pa_cons (pv 1) (pa_cons (pv 2) (pa_cons (pe_op op_sub (pv 1) pe_int) (pa_cons (pe_op op_add (pv 2) pe_int) (pa_cons (pe_op op_pow pe_int pe_int)
        (pa_cons (pe_un un_neg (pe_op op_pow pe_int pe_int)) (pa_cons pe_bl (pa_cons pe_bl (pa_cons pe_non (pa_cons pe_str (pa_cons (pe_tup (pa_cons pe_int pa_nil)) (pa_cons (pe_lst (pa_cons pe_int pa_nil)) pa_nil))))))))))))))
      (pss_one (ps_ret (pe_call GP hr rfl gP kP bP .nil pass0 (pa_cons (pv 0) (pa_cons (pv 3) pa_nil)))))), ?_⟩
    have os : 1 ≤ sizeLine := by decide
    refine ⟨_, rfl, _, rfl, _, rfl, _, _, rfl, rfl, _, rfl, _, _, rfl, rfl, _, _, rfl, rfl, ⟨by decide, by decide, by decide⟩, _, _, rfl, rfl, ⟨by decide, by decide, by decide⟩, _, rfl, os, fun t1 h1 => ⟨os, fun l1 h2 => ⟨(by show 12 ≤ sizeLine; decide), fun L hL => ?_⟩⟩⟩
    have c1 := up2 (o := .tup [V.int 1]) h1
    have c2 := up2 (o := .lst [V.int 0]) h2
    have r2 := up2 (o := .lst [.int lo, .int hi, .int (lo - 1), .int (hi + 1), .int (10 ^ 39), .int (-(10 ^ 39)), .bl true, .bl false, .non, .str "1", .ref t1, .ref l1]) hL
    have r1 := c2.trans r2
    have r0 := c1.trans r1
    have hp' := pen_same hp r0
    refine ⟨_, rfl, _, rfl, p, L, _, rfl, hp', upd_same, ?_, ⟨(by show 0 < 12; decide), (by show 12 ≤ 1000; decide)⟩, fun v H' hv kp => ?_⟩
    · exact pen_ne hp' upd_same (fun x f z => by injection z with z; injection z with _ z; injection z with _ z; cases z)
    · have k2 := ((Kp.refl hp).same r0).trans kp
      have kk : Keeps (Old H) _ _ := Kp.keepsO kp (pen_old hp)
      have fin : ∀ {u : V} {d : PyData}, Da (Old H) _ u d → Sm d → shortD d = true → layD d = true → PyData.canLay0 d = true → Q u H' := fun {u d} a s t y l => q u d H' k2 (Da.keep kk _ _ a) s t y l
      have up : ∀ {i : Int}, i.natAbs < 10 ^ 18 → i.natAbs < 10 ^ 40 := fun h => Nat.lt_of_lt_of_le h (by decide +kernel)
      simp only [List.mem_cons, List.not_mem_nil, or_false] at hv
      rcases hv with rfl | rfl | rfl | rfl | rfl | rfl | rfl | rfl | rfl | rfl | rfl | rfl
      · exact fin (.int _) (Sm.int (up (by omega))) (by first | rfl | decide +kernel) (by first | rfl | decide +kernel) (by first | rfl | decide +kernel)
      · exact fin (.int _) (Sm.int (up (by omega))) (by first | rfl | decide +kernel) (by first | rfl | decide +kernel) (by first | rfl | decide +kernel)
      · exact fin (.int _) (Sm.int (up (by omega))) (by first | rfl | decide +kernel) (by first | rfl | decide +kernel) (by first | rfl | decide +kernel)
      · exact fin (.int _) (Sm.int (up (by omega))) (by first | rfl | decide +kernel) (by first | rfl | decide +kernel) (by first | rfl | decide +kernel)
      · exact fin (.int _) (Sm.int (by decide +kernel)) (by first | rfl | decide +kernel) (by first | rfl | decide +kernel) (by first | rfl | decide +kernel)
      · exact fin (.int _) (Sm.int (by decide +kernel)) (by first | rfl | decide +kernel) (by first | rfl | decide +kernel) (by first | rfl | decide +kernel)
      · exact fin (.bl _) (Sm.bl _) (by first | rfl | decide +kernel) (by first | rfl | decide +kernel) (by first | rfl | decide +kernel)
      · exact fin (.bl _) (Sm.bl _) (by first | rfl | decide +kernel) (by first | rfl | decide +kernel) (by first | rfl | decide +kernel)
      · exact fin .non Sm.non (by first | rfl | decide +kernel) (by first | rfl | decide +kernel) (by first | rfl | decide +kernel)
      · exact fin (.str _) (Sm.str (by decide +kernel)) (by first | rfl | decide +kernel) (by first | rfl | decide +kernel) (by first | rfl | decide +kernel)
      · have e := r1 _ _ upd_same
        exact fin (.tup e (fun z => z h1) (.cons (.int _) .nil)) sm_t1b (by first | rfl | decide +kernel) (by first | rfl | decide +kernel) (by first | rfl | decide +kernel)
      · have e := r2 _ _ upd_same
        exact fin (.lst e (fun z => z (Same.free c1 h2)) (.cons (.int _) .nil)) sm_l1 (by first | rfl | decide +kernel) (by first | rfl | decide +kernel) (by first | rfl | decide +kernel)
end
end K1
set_option Elab.async false
set_option linter.all false
set_option maxRecDepth 100000
set_option maxHeartbeats 4000000
namespace K1
open PySem PySem.Spec PyProof.Rows L2 Bb
/-! what a name, a way, an event, a mark is -/
def nameZ (z : Str) : Bool := decide (1 ≤ z.length ∧ z.length ≤ 8) && z.cps.toList.all (fun c => decide (c ∈ letters.cps.toList))
def nameD : PyData → Bool
  | .str z => nameZ z
  | _ => false
def wayZ (z : Str) : Bool := decide (z = "less") || decide (z = "more")
def wayD : PyData → Bool
  | .str z => wayZ z
  | _ => false
def markD : PyData → Bool
  | .int i => decide (1 ≤ i) && decide (i ≤ 1000000)
  | _ => false
def evD : PyData → Bool
  | .tuple [n, w, b] => nameD n && (wayD w && dBool b)
  | _ => false
def spPred (p : PyData → Bool) : Sp := fun vs H Q _ => ∃ (Z : Addr → Prop) (x : V) (d : PyData), vs = [x] ∧ Da Z H x d ∧ shortD d = true ∧ ∀ H', Same H H' → Q (.bl (p d)) H'
theorem nameZ_of {z : Str} {b : Bool} (h1 : 1 ≤ z.length) (h2 : z.length ≤ 8) (e : b = z.cps.toList.all (fun c => decide (c ∈ letters.cps.toList))) : nameZ z = b := by
  unfold nameZ
  rw [decide_eq_true ⟨h1, h2⟩, Bool.true_and, e]
theorem nameZ_no {z : Str} (h : ¬ (1 ≤ z.length ∧ z.length ≤ 8)) : nameZ z = false := by
  unfold nameZ
  rw [decide_eq_false h, Bool.false_and]
theorem take_sn {α : Type} {l : List α} {i : Nat} {x : α} (h : l[i]? = some x) : l.take (i + 1) = l.take i ++ [x] := by
  rw [List.take_succ, h]
  rfl
theorem strlen (z : Str) : z.length = z.cps.toList.length := by
  show z.cps.size = _
  rw [Array.length_toList]
theorem sign_at {z : Str} {i : Nat} {c : Nat} (h : z.cps[i]? = some c) : z.cps.toList[i]? = some c := by
  rw [Array.getElem?_toList]
  exact h
section
variable {P : Program} {w : World} {K : PySem.W.Frag} {mg : Str → Option Value} {base : Heap} {f : Addr} {fd : FuncData}
theorem scIsName : FnScope ["thing", "letter"] ["thing"] (defScope sIsName) := ⟨rfl, rfl, rfl, by decide +kernel, rfl, by decide +kernel, by decide +kernel⟩
theorem ok_isname (F : Fn K "is_name" "is_name" sIsName f fd) (T : Free mg) (C : Cons mg) : FnOk P w K mg base L2.CX0 1 f fd ["thing"] (spPred nameD) := by
  refine F.ok scIsName (fun vs H Q E h => ?_) (fun cdv A outer s H vs Q E hr hh => ?_)
  · obtain ⟨Z, x, d, rfl, _⟩ := h
    rfl
  · obtain ⟨Z, x, d, rfl, hx, sh, q⟩ := hh
    obtain ⟨n, ty⟩ := hx.ty (K := K)
    refine ⟨_, PSs.nox (pss_cons (ps_if (PW.pt (pw_or (pt_not (pt_val (pe_callB call_isi rfl T.isi boot_isinstance (pa_cons (pv 0) (pa_cons (pe_bltn rfl T.str_ (by decide +kernel) (v := .ty "str") rfl) pa_nil)))))
        (pw_or1 (pt_not (pt_chain op_le op_le pe_int (pe_callB call_len_str rfl T.len_ boot_len (pa_cons (pv 0) pa_nil)) (pe_k C.long rfl)))))) (pss_one (ps_ret pe_bl)) pss_nil)
      (pss_one (ps_ret (pe_callB (cr_all rfl) rfl T.all_ (by decide +kernel) (pa_cons (pe_lc (own := [("letter", 1)]) (g := gName 1) (tt := tYes) rfl scIsName.nd (pi_str (pv 0)) (blkOk_by (N := ["thing", "letter"]) (sc := defScope sIsName) (by decide +kernel)) (fun _ _ _ _ _ => pg_name (i := 1) scIsName.nd rfl (Or.inl rfl)) (fun _ _ _ _ _ => pts_nil)
        (fun _ _ _ _ _ => pe_cmpR op_in_sign (pv 1) (pe_kS C.lett rfl) rfl)) pa_nil))))), ?_⟩
    refine ⟨_, rfl, _, _, _, _, _, rfl, .ty "str", ty.ty, kit_ty ty.s, _, rfl, ?_⟩
    cases d with
    | str z =>
      cases hx
      refine iteF ?_
      have hz : z.length ≤ 1000 := of_decide_eq_true (Bool.and_eq_true_iff.mp sh).1
      refine ⟨_, rfl, z, rfl, Nat.le_of_lt (small1000 (by omega)), _, _, rfl, rfl, _, rfl, ?_⟩
      refine ite2 (fun c => ?_) (fun c => ?_)
      · have h1 : (1 : Int) ≤ (z.length : Int) := of_decide_eq_true c
        refine ⟨_, _, rfl, rfl, _, rfl, ?_⟩
        refine ite2 (fun c2 => ?_) (fun c2 => ?_)
        · have h2 : ¬ ((z.length : Int) ≤ 8) := by simpa using c2
          have e : nameD (.str z) = false := nameZ_no (fun z => h2 (by omega))
          rw [e] at q
          exact q H (Same.refl H)
        · have h2 : ((z.length : Int) ≤ 8) := by simpa using c2
          refine ⟨_, rfl, z, rfl, fun D hD => lc_it walk_str (fun i H' => Same H H' ∧ H' D = some (.lst ((z.cps.toList.take i).map fun c => V.bl (decide (c ∈ letters.cps.toList)))))
            ⟨up2 hD, by rw [List.take_zero]; exact upd_same⟩ (fun _ _ _ _ => True.intro) ?_ ?_⟩
          · rintro i v H1 H2 hi ⟨sm, hl⟩ ⟨rfl, c, hc, rfl⟩
            refine ⟨rfl, ?_⟩
            unfold tYes
            dsimp only
            rw [if_pos rfl]
            refine ⟨_, rfl, c, _, rfl, rfl, _, hl, small1000 ?_, same_upd sm hD, ?_⟩
            · rw [List.length_map, List.length_take]
              have := strlen z
              omega
            · rw [upd_same, take_sn (sign_at hc), List.map_append]
              rfl
          · rintro H1 ⟨sm, hl⟩
            rw [show z.cps.size = z.cps.toList.length by rw [Array.length_toList], List.take_length] at hl
            refine ⟨D, z.cps.toList.map (fun c => decide (c ∈ letters.cps.toList)), rfl, ?_, ?_⟩
            · have e : (z.cps.toList.map (fun c => decide (c ∈ letters.cps.toList))).map V.bl = z.cps.toList.map fun c => V.bl (decide (c ∈ letters.cps.toList)) := by
                rw [List.map_map]
                rfl
              rw [e]
              exact SqL.of hl
            · have e : nameD (.str z) = (z.cps.toList.map (fun c => decide (c ∈ letters.cps.toList))).all id := nameZ_of (by omega) (by omega) (by rw [List.all_map]; rfl)
              rw [e] at q
              exact q H1 sm
      · have h1 : ¬ ((1 : Int) ≤ (z.length : Int)) := fun z => c (decide_eq_true z)
        refine ⟨_, rfl, iteT ?_⟩
        have e : nameD (.str z) = false := nameZ_no (fun z => h1 (by omega))
        rw [e] at q
        exact q H (Same.refl H)
    | _ => exact q H (Same.refl H)
end
end K1
set_option Elab.async false
set_option linter.all false
set_option maxRecDepth 100000
set_option maxHeartbeats 4000000
namespace K1
open PySem PySem.Spec PyProof.Rows L2 Bb
theorem da_th {Z : Addr → Prop} {H : Hp} {x : V} {d : PyData} (h : Da Z H x d) : Th H x := by
  cases h with
  | non => exact .non
  | bl b => exact .bl b
  | int i => exact .int i
  | str z => exact .str z
  | lst e _ _ => exact .lst e
  | tup e _ _ => exact .tup e
  | d0 e _ => exact .dic e
  | d1 e _ => exact .dic e
theorem num_mark {Z : Addr → Prop} {H : Hp} {x : V} {d : PyData} (h : Da Z H x d) : numIn 1 1000000 x = markD d := by
  cases h <;> rfl
theorem way_in (z : Str) : inV (.str z) [.str "less", .str "more"] = wayZ z := by
  unfold wayZ inV
  simp only [List.any_cons, List.any_nil, Bool.or_false, eqV]
  have key : ∀ a z : Str, (a == z) = decide (z = a) := fun a z => by
    rw [Bool.eq_iff_iff, beq_iff_eq, decide_eq_true_iff]
    exact ⟨Eq.symm, Eq.symm⟩
  rw [key, key]
/-- the program's defs as they stand -/
structure Pr (K : PySem.W.Frag) (mg : Str → Option Value) : Prop where
  isn : ∃ a d, Fn K "is_number" "is_number" sIsNum a d ∧ mg "is_number" = some (.ref a)
  frm : ∃ a d, Fn K "is_number_from" "is_number_from" sFrom a d ∧ mg "is_number_from" = some (.ref a)
  nam : ∃ a d, Fn K "is_name" "is_name" sIsName a d ∧ mg "is_name" = some (.ref a)
  mrk : ∃ a d, Fn K "is_mark" "is_mark" sIsMark a d ∧ mg "is_mark" = some (.ref a)
  way : ∃ a d, Fn K "is_way" "is_way" sIsWay a d ∧ mg "is_way" = some (.ref a)
  chm : ∃ a d, Fn K "check_mark" "check_mark" sChkM a d ∧ mg "check_mark" = some (.ref a)
  chs : ∃ a d, Fn K "check_marks" "check_marks" sChkMs a d ∧ mg "check_marks" = some (.ref a)
  chw : ∃ a d, Fn K "check_way" "check_way" sChkW a d ∧ mg "check_way" = some (.ref a)
  fr : Free mg
  cs : Cons mg
section
variable {P : Program} {w : World} {K : PySem.W.Frag} {mg : Str → Option Value} {base : Heap} {f : Addr} {fd : FuncData}
theorem scIsMark : FnScope ["thing"] ["thing"] (defScope sIsMark) := ⟨rfl, rfl, rfl, by decide +kernel, rfl, by decide +kernel, by decide +kernel⟩
theorem ok_ismark (F : Fn K "is_mark" "is_mark" sIsMark f fd) (p : Pr K mg) : FnOk P w K mg base L2.CX0 3 f fd ["thing"] (spPred markD) := by
  obtain ⟨aN, dN, FN, gN⟩ := p.isn
  obtain ⟨aF, dF, FF, gF⟩ := p.frm
  have GF : FnOk P w K mg base L2.CX0 2 aF dF ["thing", "least", "most"] spFrom := ok_from FF FN gN p.fr
  have bF : Binds K dF ["thing", "least", "most"] [] := FF.bindsN fun _ _ _ _ _ _ us hl => match us, hl with | [_, _, _], _ => rfl
  refine F.ok scIsMark (fun vs H Q E h => ?_) (fun cdv A outer s H vs Q E hr hh => ?_)
  · obtain ⟨Z, x, d, rfl, _⟩ := h
    rfl
  · obtain ⟨Z, x, d, rfl, hx, sh, q⟩ := hh
    refine ⟨_, PSs.nox (pss_one (ps_ret (pe_call GF hr rfl gF FF.kp bF .nil pass0 (pa_cons (pv 0) (pa_cons (pe_k p.cs.least rfl) (pa_cons (pe_k p.cs.most rfl) pa_nil)))))), ?_⟩
    refine ⟨x, rfl, x, 1, 1000000, rfl, da_th hx, ?_⟩
    rw [num_mark hx]
    exact q H (Same.refl H)
theorem scIsWay : FnScope ["thing"] ["thing"] (defScope sIsWay) := ⟨rfl, rfl, rfl, by decide +kernel, rfl, by decide +kernel, by decide +kernel⟩
theorem ok_isway (F : Fn K "is_way" "is_way" sIsWay f fd) (T : Free mg) : FnOk P w K mg base L2.CX0 1 f fd ["thing"] (spPred wayD) := by
  refine F.ok scIsWay (fun vs H Q E h => ?_) (fun cdv A outer s H vs Q E hr hh => ?_)
  · obtain ⟨Z, x, d, rfl, _⟩ := h
    rfl
  · obtain ⟨Z, x, d, rfl, hx, sh, q⟩ := hh
    obtain ⟨n, ty⟩ := hx.ty (K := K)
    refine ⟨_, PSs.nox (pss_one (ps_ret (pe_and (pe_callB call_isi rfl T.isi boot_isinstance (pa_cons (pv 0) (pa_cons (pe_bltn rfl T.str_ (by decide +kernel) (v := .ty "str") rfl) pa_nil)))
      (pe_one (pe_cmpR op_in_seq (pv 0) (pe_tup (pa_cons pe_str (pa_cons pe_str pa_nil))) rfl))))), ?_⟩
    refine ⟨_, rfl, _, _, _, _, _, rfl, .ty "str", ty.ty, kit_ty ty.s, _, rfl, ?_⟩
    cases d with
    | str z =>
      cases hx
      refine iteT ?_
      refine ⟨_, rfl, (by show 2 ≤ sizeLine; decide), fun t ht => ?_⟩
      refine ⟨t, _, rfl, .inr (SqT.of upd_same), rfl, rfl, ?_⟩
      have z2 := q _ (up2 (o := .tup [.str "less", .str "more"]) ht)
      show Q (.bl (inV (.str z) [.str "less", .str "more"])) _
      rw [way_in]
      exact z2
    | _ => exact q H (Same.refl H)
theorem daall3 {Z : Addr → Prop} {H : Hp} {xs : List V} {ds : List PyData} (h : DaAll Z H xs ds) (l : xs.length = 3) : ∃ x1 x2 x3 d1 d2 d3, xs = [x1, x2, x3] ∧ ds = [d1, d2, d3] ∧ Da Z H x1 d1 ∧ Da Z H x2 d2 ∧ Da Z H x3 d3 := by
  match xs, ds, l, h with
  | [x1, x2, x3], [d1, d2, d3], _, .cons h1 (.cons h2 (.cons h3 .nil)) => exact ⟨x1, x2, x3, d1, d2, d3, rfl, rfl, h1, h2, h3⟩
theorem scIsEvent : FnScope ["thing", "name", "way", "windy"] ["thing"] (defScope sIsEvent) := ⟨rfl, rfl, rfl, by decide +kernel, rfl, by decide +kernel, by decide +kernel⟩
theorem evD_no {ds : List PyData} (h : ds.length ≠ 3) : evD (.tuple ds) = false := by
  match ds, h with
  | [], _ => rfl
  | [_], _ => rfl
  | [_, _], _ => rfl
  | [_, _, _], h => exact absurd rfl h
  | _ :: _ :: _ :: _ :: _, _ => rfl
theorem ok_isevent (F : Fn K "is_event" "is_event" sIsEvent f fd) (p : Pr K mg) : FnOk P w K mg base L2.CX0 2 f fd ["thing"] (spPred evD) := by
  have T := p.fr
  obtain ⟨aN, dN, FN, gN⟩ := p.nam
  obtain ⟨aW, dW, FW, gW⟩ := p.way
  have GN : FnOk P w K mg base L2.CX0 1 aN dN ["thing"] (spPred nameD) := ok_isname FN T p.cs
  have GW : FnOk P w K mg base L2.CX0 1 aW dW ["thing"] (spPred wayD) := ok_isway FW T
  have bN : Binds K dN ["thing"] [] := FN.bindsN fun _ _ _ _ _ _ us hl => match us, hl with | [_], _ => rfl
  have bW : Binds K dW ["thing"] [] := FW.bindsN fun _ _ _ _ _ _ us hl => match us, hl with | [_], _ => rfl
  refine F.ok scIsEvent (fun vs H Q E h => ?_) (fun cdv A outer s H vs Q E hr hh => ?_)
  · obtain ⟨Z, x, d, rfl, _⟩ := h
    rfl
  · obtain ⟨Z, x, d, rfl, hx, sh, q⟩ := hh
    obtain ⟨n, ty⟩ := hx.ty (K := K)
    refine ⟨_, PSs.nox (pss_cons (ps_if (PW.pt (pw_or (pt_not (pt_val (pe_callB call_isi rfl T.isi boot_isinstance (pa_cons (pv 0) (pa_cons (pe_bltn rfl T.tup_ (by decide +kernel) (v := .ty "tuple") rfl) pa_nil)))))
        (pw_or1 (pt_cmpR op_ne (pe_callB call_len_seq rfl T.len_ boot_len (pa_cons (pv 0) pa_nil)) pe_int (nomark _))))) (pss_one (ps_ret pe_bl)) pss_nil)
      (pss_cons (ps_asg (pv 0) (pg_tup rfl (pgs_cons (pg_name (i := 1) scIsEvent.nd rfl (Or.inl rfl)) (pgs_cons (pg_name (i := 2) scIsEvent.nd rfl (Or.inl rfl)) (pgs_cons (pg_name (i := 3) scIsEvent.nd rfl (Or.inl rfl)) pgs_nil)))))
      (pss_one (ps_ret (pe_and (pe_call GN hr rfl gN FN.kp bN .nil pass0 (pa_cons (pv 1) pa_nil)) (pe_and (pe_call GW hr rfl gW FW.kp bW .nil pass0 (pa_cons (pv 2) pa_nil))
        (pe_one (pe_callB call_isi rfl T.isi boot_isinstance (pa_cons (pv 3) (pa_cons (pe_bltn rfl T.bool_ (by decide +kernel) (v := .ty "bool") rfl) pa_nil)))))))))), ?_⟩
    refine ⟨_, rfl, _, _, _, _, _, rfl, .ty "tuple", ty.ty, kit_ty ty.t, _, rfl, ?_⟩
    cases d with
    | tuple ds =>
      cases hx with
      | @tup a xs _ e nz al =>
        refine iteF ?_
        refine ⟨_, rfl, a, _, rfl, .inr (SqT.of e), rfl, _, rfl, ?_⟩
        have hlen := al.len
        refine ite2 (fun c => ?_) (fun c => ?_)
        · have n3 : ds.length ≠ 3 := fun z => by
            rw [← hlen] at z
            rw [z] at c
            exact absurd c (by decide)
          have z := q H (Same.refl H)
          rw [evD_no n3] at z
          exact z
        · have l3 : xs.length = 3 := by
            have z : decide (V.int (xs.length : Nat) = V.int 3) = true := by simpa using c
            have z2 := V.int.inj (of_decide_eq_true z)
            omega
          obtain ⟨x1, x2, x3, d1, d2, d3, rfl, rfl, h1, h2, h3⟩ := daall3 al l3
          have sh' : shortD d1 = true ∧ shortD d2 = true ∧ shortD d3 = true := by
            have z : (decide ([d1, d2, d3].length ≤ 1000) && (shortD d1 && (shortD d2 && (shortD d3 && true)))) = true := sh
            simp only [Bool.and_eq_true] at z
            exact ⟨z.2.1, z.2.2.1, z.2.2.2.1⟩
          refine ⟨_, rfl, a, _, rfl, SqT.of e, rfl, _, _, rfl, _, _, rfl, _, _, rfl, rfl, ?_⟩
          refine ⟨_, rfl, Z, x1, d1, rfl, h1, sh'.1, fun H1 s1 => ⟨_, rfl, ?_⟩⟩
          have h2' := Da.keep (Keeps.of s1) _ _ h2
          refine ite2 (fun c1 => ?_) (fun c1 => ?_)
          · refine ⟨_, rfl, Z, x2, d2, rfl, h2', sh'.2.1, fun H2 s2 => ⟨_, rfl, ?_⟩⟩
            have h3' := Da.keep (Keeps.of (s1.trans s2)) _ _ h3
            obtain ⟨n3, ty3⟩ := h3'.ty (K := K)
            have z := q H2 (s1.trans s2)
            have ev : evD (.tuple [d1, d2, d3]) = (wayD d2 && dBool d3) := by
              show (nameD d1 && (wayD d2 && dBool d3)) = _
              rw [c1, Bool.true_and]
            rw [ev] at z
            refine ite2 (fun c2 => ?_) (fun c2 => ?_)
            · refine ⟨_, rfl, _, _, _, _, _, rfl, .ty "bool", ty3.ty, kit_ty ty3.b, ?_⟩
              rw [c2, Bool.true_and] at z
              exact z
            · have c3 : wayD d2 = false := by simpa using c2
              rw [c3, Bool.false_and] at z
              exact z
          · have c3 : nameD d1 = false := by simpa using c1
            have z := q H1 s1
            have ev : evD (.tuple [d1, d2, d3]) = false := by
              show (nameD d1 && (wayD d2 && dBool d3)) = _
              rw [c3, Bool.false_and]
            rw [ev] at z
            exact z
    | _ => exact q H (Same.refl H)
end
end K1
set_option Elab.async false
set_option linter.all false
set_option maxRecDepth 100000
set_option maxHeartbeats 4000000
namespace K1
open PySem PySem.Spec PyProof.Rows L2 Bb
def marksD : PyData → Bool
  | .list ds => ds.all markD
  | .tuple ds => ds.all markD
  | _ => false
theorem mark_int {d : PyData} (h : markD d = true) : ∃ i, d = .int i ∧ 1 ≤ i ∧ i ≤ 1000000 := by
  cases d with
  | int i =>
    have z : (decide (1 ≤ i) && decide (i ≤ 1000000)) = true := h
    rw [Bool.and_eq_true] at z
    exact ⟨i, rfl, of_decide_eq_true z.1, of_decide_eq_true z.2⟩
  | _ => cases h
theorem marks_ints : ∀ {ds : List PyData}, ds.all markD = true → ∃ ns : List Int, ds = ns.map PyData.int ∧ ∀ n ∈ ns, 1 ≤ n ∧ n ≤ 1000000
  | [], _ => ⟨[], rfl, fun n hn => by cases hn⟩
  | d :: ds, h => by
    rw [List.all_cons, Bool.and_eq_true] at h
    obtain ⟨i, rfl, a, b⟩ := mark_int h.1
    obtain ⟨ns, rfl, hn⟩ := marks_ints h.2
    exact ⟨i :: ns, rfl, fun n hm => by
      rcases List.mem_cons.mp hm with rfl | hm
      · exact ⟨a, b⟩
      · exact hn n hm⟩
theorem da_ints {Z : Addr → Prop} {H : Hp} : ∀ {ns : List Int} {xs : List V}, DaAll Z H xs (ns.map PyData.int) → xs = ns.map V.int
  | [], xs, h => by
    cases h
    rfl
  | n :: ns, xs, h => by
    cases h with
    | cons a b =>
      cases a
      rw [da_ints b]
      rfl
theorem short_at : ∀ {ds : List PyData} {i : Nat} {d : PyData}, shortAll ds = true → ds[i]? = some d → shortD d = true
  | [], i, d, _, e => by cases i <;> cases e
  | a :: ds, 0, d, h, e => by
    have z : (shortD a && shortAll ds) = true := h
    rw [Bool.and_eq_true] at z
    injection e with e
    rw [← e]
    exact z.1
  | a :: ds, i + 1, d, h, e => by
    have z : (shortD a && shortAll ds) = true := h
    rw [Bool.and_eq_true] at z
    exact short_at z.2 e
def spChk (C : Addr) (p : PyData → Bool) : Sp := fun vs H Q E => ∃ (Z : Addr → Prop) (x : V) (d : PyData), vs = [x] ∧ Da Z H x d ∧ shortD d = true ∧ (p d = true → ∀ H', Same H H' → Q .non H') ∧ (p d = false → ∀ H', Same H H' → E (.ref C) none H')
theorem kit2 {K : PySem.W.Frag} {H : Hp} {x : V} {d : PyData} {n : String} (ty : TyD K H x d n) : PySem.W.kitAny K (.type n) [.type "list", .type "tuple"] = some (dList d || dTup d) := by
  refine kitAny_cons (kit_ty ty.l) (fun e => ?_) (fun e => by rw [e]; rfl)
  refine kitAny_cons (kit_ty ty.t) (fun e2 => ?_) (fun e2 => by rw [e2, Bool.or_true])
  rw [e, e2]
  rfl
theorem lt_one {l : List PyData} {i : Nat} : i < l.length → ∃ d, l[i]? = some d := fun h => ⟨l[i], List.getElem?_eq_getElem h⟩
section
variable {P : Program} {w : World} {K : PySem.W.Frag} {mg : Str → Option Value} {base : Heap} {f : Addr} {fd : FuncData}
theorem scChkM : FnScope ["thing"] ["thing"] (defScope sChkM) := ⟨rfl, rfl, rfl, by decide +kernel, rfl, by decide +kernel, by decide +kernel⟩
theorem ok_chkm {CM : Addr} (F : Fn K "check_mark" "check_mark" sChkM f fd) (p : Pr K mg) (en : ErrT K mg "NoMark" CM) : FnOk P w K mg base (L2.CX P w) 4 f fd ["thing"] (spChk CM markD) := by
  obtain ⟨aM, dM, FM, gM⟩ := p.mrk
  have GM : FnOk P w K mg base L2.CX0 3 aM dM ["thing"] (spPred markD) := ok_ismark FM p
  have bM : Binds K dM ["thing"] [] := FM.bindsN fun _ _ _ _ _ _ us hl => match us, hl with | [_], _ => rfl
  refine F.ok (CX := L2.CX P w) scChkM (fun vs H Q E h => ?_) (fun cdv A outer s H vs Q E hr hh => ?_)
  · obtain ⟨Z, x, d, rfl, _⟩ := h
    rfl
  · obtain ⟨Z, x, d, rfl, hx, sh, yes, no⟩ := hh
    refine ⟨_, pss_one (ps_if (pt_not (pt_val (pe_call GM hr rfl gM FM.kp bM .nil pass0 (pa_cons (pv 0) pa_nil)))) (pss_one (ps_raise rfl (takes_of rfl rfl rfl rfl) (pmk_own PySem.F.excBase_ValueError en.ex en.g en.kp (raises_own en.sb en.ty) rfl))) pss_nil), ?_⟩
    refine ⟨_, rfl, Z, x, d, rfl, hx, sh, fun H1 s1 => ⟨_, rfl, ?_⟩⟩
    refine ite2 (fun c => ?_) (fun c => ?_)
    · exact no (by simpa using c) H1 s1
    · exact yes (by simpa using c) H1 s1
theorem scChkW : FnScope ["thing"] ["thing"] (defScope sChkW) := ⟨rfl, rfl, rfl, by decide +kernel, rfl, by decide +kernel, by decide +kernel⟩
theorem ok_chkw {CM : Addr} (F : Fn K "check_way" "check_way" sChkW f fd) (p : Pr K mg) (en : ErrT K mg "NoWay" CM) : FnOk P w K mg base (L2.CX P w) 2 f fd ["thing"] (spChk CM wayD) := by
  obtain ⟨aM, dM, FM, gM⟩ := p.way
  have GM : FnOk P w K mg base L2.CX0 1 aM dM ["thing"] (spPred wayD) := ok_isway FM p.fr
  have bM : Binds K dM ["thing"] [] := FM.bindsN fun _ _ _ _ _ _ us hl => match us, hl with | [_], _ => rfl
  refine F.ok (CX := L2.CX P w) scChkW (fun vs H Q E h => ?_) (fun cdv A outer s H vs Q E hr hh => ?_)
  · obtain ⟨Z, x, d, rfl, _⟩ := h
    rfl
  · obtain ⟨Z, x, d, rfl, hx, sh, yes, no⟩ := hh
    refine ⟨_, pss_one (ps_if (pt_not (pt_val (pe_call GM hr rfl gM FM.kp bM .nil pass0 (pa_cons (pv 0) pa_nil)))) (pss_one (ps_raise rfl (takes_of rfl rfl rfl rfl) (pmk_own PySem.F.excBase_ValueError en.ex en.g en.kp (raises_own en.sb en.ty) rfl))) pss_nil), ?_⟩
    refine ⟨_, rfl, Z, x, d, rfl, hx, sh, fun H1 s1 => ⟨_, rfl, ?_⟩⟩
    refine ite2 (fun c => ?_) (fun c => ?_)
    · exact no (by simpa using c) H1 s1
    · exact yes (by simpa using c) H1 s1
theorem scChkMs : FnScope ["thing", "mark"] ["thing"] (defScope sChkMs) := ⟨rfl, rfl, rfl, by decide +kernel, rfl, by decide +kernel, by decide +kernel⟩
theorem all_take_succ {ds : List PyData} {i : Nat} {d : PyData} (h : (ds.take i).all markD = true) (e : ds[i]? = some d) (m : markD d = true) : (ds.take (i + 1)).all markD = true := by
  rw [take_sn e, List.all_append, h, Bool.true_and, List.all_cons, m]
  rfl
theorem all_no {ds : List PyData} {i : Nat} {d : PyData} (e : ds[i]? = some d) (m : markD d = false) : ds.all markD = false := by
  rw [Bool.eq_false_iff]
  intro z
  rw [List.all_eq_true] at z
  rw [z d (List.mem_of_getElem? e)] at m
  cases m
theorem ok_chkms {CM : Addr} (F : Fn K "check_marks" "check_marks" sChkMs f fd) (p : Pr K mg) (en : ErrT K mg "NoMark" CM) : FnOk P w K mg base (L2.CX P w) 5 f fd ["thing"] (spChk CM marksD) := by
  have T := p.fr
  obtain ⟨aM, dM, FM, gM⟩ := p.chm
  have GM : FnOk P w K mg base (L2.CX P w) 4 aM dM ["thing"] (spChk CM markD) := ok_chkm FM p en
  have bM : Binds K dM ["thing"] [] := FM.bindsN fun _ _ _ _ _ _ us hl => match us, hl with | [_], _ => rfl
  refine F.ok (CX := L2.CX P w) scChkMs (fun vs H Q E h => ?_) (fun cdv A outer s H vs Q E hr hh => ?_)
  · obtain ⟨Z, x, d, rfl, _⟩ := h
    rfl
  · obtain ⟨Z, x, d, rfl, hx, sh, yes, no⟩ := hh
    have ts : 2 ≤ sizeLine := by decide
    by_cases tp : dTup d = true
    · cases d with
      | tuple ds =>
        refine ⟨_, pss_cons (ps_if (pt_not (pt_val (pe_callB call_isiT rfl T.isi boot_isinstance (pa_cons (pv 0) (pa_cons (pe_tup (pa_cons (pe_bltn rfl T.list_ (by decide +kernel) (v := .ty "list") rfl) (pa_cons (pe_bltn rfl T.tup_ (by decide +kernel) (v := .ty "tuple") rfl) pa_nil))) pa_nil))))) (pss_one (ps_raise rfl (takes_of rfl rfl rfl rfl) (pmk_own PySem.F.excBase_ValueError en.ex en.g en.kp (raises_own en.sb en.ty) rfl))) pss_nil)
          (pss_one (ps_for (passes_of rfl) rfl (pi_tup (pv 0)) (pg_name (i := 1) scChkMs.nd rfl (Or.inl rfl)) (pss_one (ps_expr (pe_call GM hr rfl gM FM.kp bM .nil (passes_call (takes_of rfl rfl rfl rfl) (fun _ _ _ _ h => h)) (pa_cons (pv 1) pa_nil)))))), ?_⟩
        cases hx with
        | @tup a xs _ e nz al =>
          refine ⟨_, rfl, ts, fun t ht => ?_⟩
          obtain ⟨n, ty⟩ := (Da.keep (Keeps.of (up2 (o := .tup [.ty "list", .ty "tuple"]) ht)) (.tuple ds) _ (.tup e nz al)).ty (K := K)
          refine ⟨_, t, _, _, _, _, rfl, upd_same, .cons (.ty "list") (.cons (.ty "tuple") .nil), ty.ty, kit2 ty, _, rfl, iteF ?_⟩
          have e1 := up2 (o := .tup [.ty "list", .ty "tuple"]) ht _ _ e
          have al1 := DaAll.keep (Keeps.of (up2 (o := .tup [.ty "list", .ty "tuple"]) ht)) _ _ al
          have hs : shortAll ds = true := by
            have z : (decide (ds.length ≤ 1000) && shortAll ds) = true := sh
            rw [Bool.and_eq_true] at z
            exact z.2
          refine ⟨_, rfl, a, rfl, ⟨_, SqT.of e1⟩, for_tup (K := K) (a := a) (xs := xs) (fun i σ H' => ∃ v1, σ = [some (.ref a), v1] ∧ Same (upd H t (.tup [.ty "list", .ty "tuple"])) H' ∧ (ds.take i).all markD = true)
            ⟨none, rfl, Same.refl _, rfl⟩ (fun i σ H' _ ⟨_, _, sm, _⟩ => SqT.of (sm _ _ e1)) ?_ ?_⟩
          · rintro i y σ H' hy ⟨v1, rfl, sm, ok⟩
            obtain ⟨dy, ey, ay⟩ := (DaAll.keep (Keeps.of sm) _ _ al1).get hy
            refine ⟨_, rfl, Z, y, dy, rfl, ay, short_at hs ey, fun m H2 s2 => ?_, fun m H2 s2 => ?_⟩
            · exact ⟨_, rfl, sm.trans s2, all_take_succ ok ey m⟩
            · exact no (all_no ey m) H2 (((up2 ht).trans sm).trans s2)
          · rintro σ H' ⟨v1, rfl, sm, ok⟩
            rw [al.len, List.take_length] at ok
            exact yes ok H' ((up2 ht).trans sm)
      | _ => cases tp
    · refine ⟨_, pss_cons (ps_if (pt_not (pt_val (pe_callB call_isiT rfl T.isi boot_isinstance (pa_cons (pv 0) (pa_cons (pe_tup (pa_cons (pe_bltn rfl T.list_ (by decide +kernel) (v := .ty "list") rfl) (pa_cons (pe_bltn rfl T.tup_ (by decide +kernel) (v := .ty "tuple") rfl) pa_nil))) pa_nil))))) (pss_one (ps_raise rfl (takes_of rfl rfl rfl rfl) (pmk_own PySem.F.excBase_ValueError en.ex en.g en.kp (raises_own en.sb en.ty) rfl))) pss_nil)
          (pss_one (ps_for (passes_of rfl) rfl (pi_list (pv 0)) (pg_name (i := 1) scChkMs.nd rfl (Or.inl rfl)) (pss_one (ps_expr (pe_call GM hr rfl gM FM.kp bM .nil (passes_call (takes_of rfl rfl rfl rfl) (fun _ _ _ _ h => h)) (pa_cons (pv 1) pa_nil)))))), ?_⟩
      refine ⟨_, rfl, ts, fun t ht => ?_⟩
      obtain ⟨n, ty⟩ := (Da.keep (Keeps.of (up2 (o := .tup [.ty "list", .ty "tuple"]) ht)) _ _ hx).ty (K := K)
      refine ⟨_, t, _, _, _, _, rfl, upd_same, .cons (.ty "list") (.cons (.ty "tuple") .nil), ty.ty, kit2 ty, _, rfl, ?_⟩
      have s1 := up2 (o := .tup [.ty "list", .ty "tuple"]) ht
      cases d with
      | tuple ds => exact absurd rfl tp
      | list ds =>
        cases hx with
        | @lst a xs _ e nz al =>
          refine iteF ?_
          have e1 := s1 _ _ e
          have al1 := DaAll.keep (Keeps.of s1) _ _ al
          have hs : shortAll ds = true := by
            have z : (decide (ds.length ≤ 1000) && shortAll ds) = true := sh
            rw [Bool.and_eq_true] at z
            exact z.2
          refine ⟨_, rfl, a, rfl, ⟨_, SqL.of e1⟩, for_list (K := K) (a := a) (xs := xs) (fun i σ H' => ∃ v1, σ = [some (.ref a), v1] ∧ Same (upd H t (.tup [.ty "list", .ty "tuple"])) H' ∧ (ds.take i).all markD = true)
            ⟨none, rfl, Same.refl _, rfl⟩ (fun i σ H' _ ⟨_, _, sm, _⟩ => SqL.of (sm _ _ e1)) ?_ ?_⟩
          · rintro i y σ H' hy ⟨v1, rfl, sm, ok⟩
            obtain ⟨dy, ey, ay⟩ := (DaAll.keep (Keeps.of sm) _ _ al1).get hy
            refine ⟨_, rfl, Z, y, dy, rfl, ay, short_at hs ey, fun m H2 s2 => ?_, fun m H2 s2 => ?_⟩
            · exact ⟨_, rfl, sm.trans s2, all_take_succ ok ey m⟩
            · exact no (all_no ey m) H2 (((up2 ht).trans sm).trans s2)
          · rintro σ H' ⟨v1, rfl, sm, ok⟩
            rw [al.len, List.take_length] at ok
            exact yes ok H' ((up2 ht).trans sm)
      | _ => exact iteT (no rfl _ s1)
end
end K1
set_option Elab.async false
set_option linter.all false
set_option maxRecDepth 100000
set_option maxHeartbeats 4000000
namespace K1
open PySem PySem.Spec PyProof.Rows L2 Bb
def cmpZ (z : Str) (i j : Int) : Bool := if z = "less" then decide (i < j) else decide (i > j)
def bestZ (z : Str) (ns : List Int) (m : Int) : Prop := m ∈ ns ∧ if z = "less" then ∀ y ∈ ns, m ≤ y else ∀ y ∈ ns, y ≤ m
def spBetter (CM CW : Addr) : Sp := fun vs H Q E => ∃ (Z : Addr → Prop) (x y v : V) (d e g : PyData), vs = [x, y, v] ∧ Da Z H x d ∧ Da Z H y e ∧ Da Z H v g ∧ (shortD d = true ∧ shortD e = true ∧ shortD g = true) ∧
  (markD d = true → markD e = true → wayD g = true → ∀ i j z, d = .int i → e = .int j → g = .str z → ∀ H', Same H H' → Q (.bl (cmpZ z i j)) H') ∧
  ((markD d && markD e) = false → ∀ H', Same H H' → E (.ref CM) none H') ∧ (markD d = true → markD e = true → wayD g = false → ∀ H', Same H H' → E (.ref CW) none H')
def spBest (CM CW : Addr) : Sp := fun vs H Q E => ∃ (Z : Addr → Prop) (x v def_ : V) (d g : PyData), vs = [x, v, def_] ∧ Da Z H x d ∧ Da Z H v g ∧ (shortD d = true ∧ shortD g = true) ∧
  (marksD d = true → wayD g = true → ∀ ns z, itemsD d = ns.map PyData.int → g = .str z → ∀ H', Same H H' → (ns = [] → Q def_ H') ∧ (∀ m, bestZ z ns m → Q (.int m) H')) ∧
  (marksD d = false → ∀ H', Same H H' → E (.ref CM) none H') ∧ (marksD d = true → wayD g = false → ∀ H', Same H H' → E (.ref CW) none H')
theorem way_str {g : PyData} (h : wayD g = true) : ∃ z, g = .str z ∧ (z = "less" ∨ z = "more") := by
  cases g with
  | str z =>
    have e : (decide (z = "less") || decide (z = "more")) = true := h
    rw [Bool.or_eq_true] at e
    exact ⟨z, rfl, e.imp of_decide_eq_true of_decide_eq_true⟩
  | _ => cases h
section
variable {P : Program} {w : World} {K : PySem.W.Frag} {mg : Str → Option Value} {base : Heap} {f : Addr} {fd : FuncData}
abbrev nBetter : List Str := ["one", "other", "way"]
theorem scBetter : FnScope nBetter nBetter (defScope sBetter) := ⟨rfl, rfl, rfl, by decide +kernel, rfl, by decide +kernel, by decide +kernel⟩
theorem ok_better {CM CW : Addr} {dvs : List V} (F : FunD K "better" "better" (defArgs sBetter) (defBody sBetter) (defScope sBetter) dvs [] f fd) (p : Pr K mg) (em : ErrT K mg "NoMark" CM) (ew : ErrT K mg "NoWay" CW) : FnOk P w K mg base (L2.CX P w) 5 f fd nBetter (spBetter CM CW) := by
  obtain ⟨aM, dM, FM, gM⟩ := p.chm
  obtain ⟨aW, dW, FW, gW⟩ := p.chw
  have GM : FnOk P w K mg base (L2.CX P w) 4 aM dM ["thing"] (spChk CM markD) := ok_chkm FM p em
  have GW : FnOk P w K mg base (L2.CX P w) 2 aW dW ["thing"] (spChk CW wayD) := ok_chkw FW p ew
  have bM : Binds K dM ["thing"] [] := FM.bindsN fun _ _ _ _ _ _ us hl => match us, hl with | [_], _ => rfl
  have bW : Binds K dW ["thing"] [] := FW.bindsN fun _ _ _ _ _ _ us hl => match us, hl with | [_], _ => rfl
  refine F.ok (CX := L2.CX P w) scBetter (fun vs H Q E h => ?_) (fun cdv A outer s H vs Q E hr hh => ?_)
  · obtain ⟨Z, x, y, v, d, e, g, rfl, _⟩ := h
    rfl
  · obtain ⟨Z, x, y, v, d, e, g, rfl, hx, hy, hv, ⟨s1, s2, s3⟩, yes, nom, now⟩ := hh
    refine ⟨_, pss_cons (ps_expr (pe_call GM hr rfl gM FM.kp bM .nil (passes_call (takes_of rfl rfl rfl rfl) (fun _ _ _ _ h => h)) (pa_cons (pv 0) pa_nil)))
      (pss_cons (ps_expr (pe_call GM hr rfl gM FM.kp bM .nil (passes_call (takes_of rfl rfl rfl rfl) (fun _ _ _ _ h => h)) (pa_cons (pv 1) pa_nil)))
      (pss_cons (ps_expr (pe_call GW (hr.mono (by decide)) rfl gW FW.kp bW .nil (passes_call (takes_of rfl rfl rfl rfl) (fun _ _ _ _ h => h)) (pa_cons (pv 2) pa_nil)))
      (pss_cons (ps_if (pt_cmpR op_eq (pv 2) pe_str (nomark _)) (pss_one (ps_ret (pe_cmpR op_lt (pv 0) (pv 1) (nomark _)))) pss_nil)
      (pss_one (ps_ret (pe_cmpR op_gt (pv 0) (pv 1) (nomark _))))))), ?_⟩
    refine ⟨_, rfl, Z, x, d, rfl, hx, s1, fun m1 H1 k1 => ?_, fun m1 H1 k1 => nom (by rw [m1]; rfl) H1 k1⟩
    refine ⟨_, rfl, Z, y, e, rfl, Da.keep (Keeps.of k1) _ _ hy, s2, fun m2 H2 k2 => ?_, fun m2 H2 k2 => nom (by rw [m1, m2]; rfl) H2 (k1.trans k2)⟩
    refine ⟨_, rfl, Z, v, g, rfl, Da.keep (Keeps.of (k1.trans k2)) _ _ hv, s3, fun m3 H3 k3 => ?_, fun m3 H3 k3 => now m1 m2 m3 H3 ((k1.trans k2).trans k3)⟩
    have kk := (k1.trans k2).trans k3
    obtain ⟨i, rfl, _⟩ := mark_int m1
    obtain ⟨j, rfl, _⟩ := mark_int m2
    obtain ⟨z, rfl, hz⟩ := way_str m3
    cases hx
    cases hy
    cases hv
    have q := yes m1 m2 m3 i j z rfl rfl rfl H3 kk
    refine ⟨_, rfl, rfl, _, rfl, ?_⟩
    refine ite2 (fun c => ?_) (fun c => ?_)
    · have ez : z = "less" := V.str.inj (of_decide_eq_true c)
      have ec : cmpZ z i j = decide (i < j) := if_pos ez
      rw [ec] at q
      exact ⟨_, rfl, _, rfl, _, _, rfl, rfl, q⟩
    · have ez : z ≠ "less" := fun ez => c (decide_eq_true (congrArg V.str ez))
      have ec : cmpZ z i j = decide (i > j) := if_neg ez
      rw [ec] at q
      exact ⟨_, rfl, _, rfl, _, _, rfl, rfl, q⟩
abbrev nBest : List Str := ["marks", "way", "default"]
theorem scBest : FnScope nBest nBest (defScope sBest) := ⟨rfl, rfl, rfl, by decide +kernel, rfl, by decide +kernel, by decide +kernel⟩
/-- marks are a list or a tuple of ints -/
theorem marks_at {Z : Addr → Prop} {H : Hp} {x : V} {d : PyData} (h : Da Z H x d) (m : marksD d = true) : ∃ (a : Addr) (ns : List Int), x = .ref a ∧ itemsD d = ns.map PyData.int ∧ (∀ n ∈ ns, 1 ≤ n ∧ n ≤ 1000000) ∧ (H a = some (.lst (ns.map V.int)) ∨ H a = some (.tup (ns.map V.int))) := by
  cases h with
  | @lst a xs ds e nz al =>
    obtain ⟨ns, rfl, hn⟩ := marks_ints m
    have ex := da_ints al
    rw [ex] at e
    exact ⟨a, ns, rfl, rfl, hn, .inl e⟩
  | @tup a xs ds e nz al =>
    obtain ⟨ns, rfl, hn⟩ := marks_ints m
    have ex := da_ints al
    rw [ex] at e
    exact ⟨a, ns, rfl, rfl, hn, .inr e⟩
  | _ => cases m
theorem ok_best {CM CW : Addr} {dvs : List V} (F : FunD K "best_of" "best_of" (defArgs sBest) (defBody sBest) (defScope sBest) dvs [] f fd) (p : Pr K mg) (em : ErrT K mg "NoMark" CM) (ew : ErrT K mg "NoWay" CW) : FnOk P w K mg base (L2.CX P w) 6 f fd nBest (spBest CM CW) := by
  have T := p.fr
  obtain ⟨aM, dM, FM, gM⟩ := p.chs
  obtain ⟨aW, dW, FW, gW⟩ := p.chw
  have GM : FnOk P w K mg base (L2.CX P w) 5 aM dM ["thing"] (spChk CM marksD) := ok_chkms FM p em
  have GW : FnOk P w K mg base (L2.CX P w) 2 aW dW ["thing"] (spChk CW wayD) := ok_chkw FW p ew
  have bM : Binds K dM ["thing"] [] := FM.bindsN fun _ _ _ _ _ _ us hl => match us, hl with | [_], _ => rfl
  have bW : Binds K dW ["thing"] [] := FW.bindsN fun _ _ _ _ _ _ us hl => match us, hl with | [_], _ => rfl
  refine F.ok (CX := L2.CX P w) scBest (fun vs H Q E h => ?_) (fun cdv A outer s H vs Q E hr hh => ?_)
  · obtain ⟨Z, x, v, df, d, g, rfl, _⟩ := h
    rfl
  · obtain ⟨Z, x, v, df, d, g, rfl, hx, hv, ⟨s1, s3⟩, yes, nom, now⟩ := hh
    refine ⟨_, pss_cons (ps_expr (pe_call GM hr rfl gM FM.kp bM .nil (passes_call (takes_of rfl rfl rfl rfl) (fun _ _ _ _ h => h)) (pa_cons (pv 0) pa_nil)))
      (pss_cons (ps_expr (pe_call GW (hr.mono (by decide)) rfl gW FW.kp bW .nil (passes_call (takes_of rfl rfl rfl rfl) (fun _ _ _ _ h => h)) (pa_cons (pv 1) pa_nil)))
      (pss_cons (ps_if (pt_cmpR op_eq (pe_callB call_len_seq rfl T.len_ boot_len (pa_cons (pv 0) pa_nil)) pe_int (nomark _)) (pss_one (ps_ret (pv 2))) pss_nil)
      (pss_cons (ps_if (pt_cmpR op_eq (pv 1) pe_str (nomark _)) (pss_one (ps_ret (pe_callB (cr_minS rfl) rfl T.min_ (by decide +kernel) (pa_cons (pv 0) pa_nil)))) pss_nil)
      (pss_one (ps_ret (pe_callB (cr_maxS rfl) rfl T.max_ (by decide +kernel) (pa_cons (pv 0) pa_nil))))))), ?_⟩
    refine ⟨_, rfl, Z, x, d, rfl, hx, s1, fun m1 H1 k1 => ?_, fun m1 H1 k1 => nom m1 H1 k1⟩
    refine ⟨_, rfl, Z, v, g, rfl, Da.keep (Keeps.of k1) _ _ hv, s3, fun m3 H3 k3 => ?_, fun m3 H3 k3 => now m1 m3 H3 (k1.trans k3)⟩
    have kk := k1.trans k3
    have hx3 := Da.keep (Keeps.of kk) _ _ hx
    obtain ⟨a, ns, rfl, hi, hn, hh⟩ := marks_at hx3 m1
    obtain ⟨z, rfl, hz⟩ := way_str m3
    cases hv
    obtain ⟨q0, q1⟩ := yes m1 m3 ns z hi rfl H3 kk
    have sq : SqL K H3 a (ns.map V.int) ∨ SqT K H3 a (ns.map V.int) := hh.imp (fun e => SqL.of e) (fun e => SqT.of e)
    refine ⟨_, rfl, a, _, rfl, sq, rfl, _, rfl, ?_⟩
    refine ite2 (fun c => ?_) (fun c => ?_)
    · have l0 : ns = [] := by
        have z := V.int.inj (of_decide_eq_true c)
        rw [List.length_map] at z
        exact List.length_eq_zero_iff.mp (by omega)
      exact ⟨_, rfl, q0 l0⟩
    · have l0 : 0 < ns.length := by
        rcases Nat.eq_zero_or_pos ns.length with e | e
        · refine absurd (decide_eq_true ?_) c
          rw [List.length_map, e]
          rfl
        · exact e
      refine ⟨_, rfl, rfl, _, rfl, ?_⟩
      refine ite2 (fun c => ?_) (fun c => ?_)
      · have ez : z = "less" := V.str.inj (of_decide_eq_true c)
        exact ⟨_, rfl, a, ns, rfl, sq, l0, fun m h1 h2 => q1 m ⟨h1, by rw [if_pos ez]; exact h2⟩⟩
      · have ez : z ≠ "less" := fun ez => c (decide_eq_true (congrArg V.str ez))
        exact ⟨_, rfl, a, ns, rfl, sq, l0, fun m h1 h2 => q1 m ⟨h1, by rw [if_neg ez]; exact h2⟩⟩
end
end K1
set_option Elab.async false
set_option linter.all false
set_option maxRecDepth 100000
set_option maxHeartbeats 4000000
namespace K1
open PySem PySem.Spec PyProof.Rows L2 Bb
theorem sign_ok {z : Str} {i : Nat} {c : Nat} (h : PyData.canLay0 (.str z) = true) (e : z.cps[i]? = some c) : PyData.canLay0 (.str ⟨#[c]⟩) = true := by
  have h1 : z.cps.all (· < 0x110000) = true := h
  show (#[c] : Array Nat).all (· < 0x110000) = true
  rw [Array.all_eq_true_iff_forall_mem] at h1 ⊢
  intro x hx
  have ex : x = c := by simpa using hx
  rw [ex]
  exact h1 c (Array.mem_of_getElem? e)
/-- the signs that are no letters, as data -/
def oddSigns (l : List Nat) : List Nat := l.filter fun c => !decide (c ∈ letters.cps.toList)
def sV (l : List Nat) : List V := l.map fun c => V.str ⟨#[c]⟩
def sD (l : List Nat) : List PyData := l.map fun c => PyData.str ⟨#[c]⟩
theorem dp_signs {K : PySem.W.Frag} {H : Hp} : ∀ l : List Nat, DpAll K H (sV l) (sD l)
  | [] => .nil
  | c :: l => .cons (.str _) (dp_signs l)
theorem lay_signs : ∀ {l : List Nat}, (∀ c ∈ l, PyData.canLay0 (.str ⟨#[c]⟩) = true) → PyData.canLayAll0 (sD l) = true
  | [], _ => rfl
  | c :: l, h => by
    show (PyData.canLay0 (.str ⟨#[c]⟩) && PyData.canLayAll0 (sD l)) = true
    rw [h c List.mem_cons_self, lay_signs fun x hx => h x (List.mem_cons_of_mem _ hx)]
    rfl
theorem depth_signs : ∀ l : List Nat, PyData.depthAll (sD l) = 0
  | [] => rfl
  | c :: l => by
    show max (PyData.depth (.str ⟨#[c]⟩)) (PyData.depthAll (sD l)) = 0
    rw [depth_signs l]
    rfl
theorem eqv_nil {es : List PyData} : PyData.eqv (.list es) (.list []) = decide (es = []) := by
  cases es with
  | nil => simp [PyData.eqv, PyData.eqvAll]
  | cons e es => simp [PyData.eqv, PyData.eqvAll]
theorem odd_nil (l : List Nat) : decide (sD (oddSigns l) = []) = l.all (fun c => decide (c ∈ letters.cps.toList)) := by
  rw [Bool.eq_iff_iff, decide_eq_true_iff, List.all_eq_true]
  unfold sD oddSigns
  rw [List.map_eq_nil_iff, List.filter_eq_nil_iff]
  constructor
  · intro h c hc
    have z := h c hc
    cases e : decide (c ∈ letters.cps.toList) with
    | true => rfl
    | false =>
      rw [e] at z
      exact absurd rfl z
  · intro h c hc
    rw [h c hc]
    decide
def rNIn : R2 := fun x y H Q => ∃ (c : Nat) (z : Str), x = .str ⟨#[c]⟩ ∧ y = .str z ∧ Q (.bl (!decide (c ∈ z.cps.toList))) H
theorem op_nin {X : Cx} : OpR X (compareOp .NotIn) rNIn := op_notIn_sign
section
variable {P : Program} {w : World} {K : PySem.W.Frag} {mg : Str → Option Value} {base : Heap} {f : Addr} {fd : FuncData}
theorem scLName : FnScope ["_law_thing", "_law_sign"] ["_law_thing"] (defScope sLName) := ⟨rfl, rfl, rfl, by decide +kernel, rfl, by decide +kernel, by decide +kernel⟩
theorem ok_lname (F : Fn K "_law_is_name" "_law_is_name" sLName f fd) (T : Free mg) : FnOk P w K mg base L2.CX0 1 f fd ["_law_thing"] (spPred nameD) := by
  refine F.ok scLName (fun vs H Q E h => ?_) (fun cdv A outer s H vs Q E hr hh => ?_)
  · obtain ⟨Z, x, d, rfl, _⟩ := h
    rfl
  · obtain ⟨Z, x, d, rfl, hx, sh, q⟩ := hh
    obtain ⟨n, ty⟩ := hx.ty (K := K)
    refine ⟨_, PSs.nox (pss_cons (ps_if (PW.pt (pw_or (pt_not (pt_val (pe_callB call_isi rfl T.isi boot_isinstance (pa_cons (pv 0) (pa_cons (pe_bltn rfl T.str_ (by decide +kernel) (v := .ty "str") rfl) pa_nil)))))
        (pw_or (pt_cmpR op_eq (pv 0) pe_str (nomark _)) (pw_or1 (pt_cmpR op_gt (pe_callB call_len_str rfl T.len_ boot_len (pa_cons (pv 0) pa_nil)) pe_int (nomark _)))))) (pss_one (ps_ret pe_bl)) pss_nil)
      (pss_one (ps_ret (pe_cmpR (op_eqD hr.units) (pe_lc (own := [("_law_sign", 1)]) (g := gName 1) (tt := tTest (tOp rNIn (tVar 1) (tC (.str letters)))) rfl scLName.nd (pi_str (pv 0)) (blkOk_by (N := ["_law_thing", "_law_sign"]) (sc := defScope sLName) (by decide +kernel)) (fun _ _ _ _ _ => pg_name (i := 1) scLName.nd rfl (Or.inl rfl)) (fun _ _ _ _ _ => pts_one (pt_cmpR op_nin (pv 1) pe_str rfl))
        (fun _ _ _ _ _ => pv 1)) (pe_lst pa_nil) (nomark _))))), ?_⟩
    refine ⟨_, rfl, _, _, _, _, _, rfl, .ty "str", ty.ty, kit_ty ty.s, _, rfl, ?_⟩
    cases d with
    | str z =>
      cases hx
      refine iteF ?_
      have hz : z.length ≤ 1000 := of_decide_eq_true (Bool.and_eq_true_iff.mp sh).1
      have lay := (Bool.and_eq_true_iff.mp sh).2
      refine ⟨_, rfl, rfl, _, rfl, ?_⟩
      refine ite2 (fun c => ?_) (fun c => ?_)
      · have ez : z = "" := V.str.inj (of_decide_eq_true c)
        have e : nameD (.str z) = false := nameZ_no (fun y => by rw [ez] at y; exact absurd y.1 (by decide))
        rw [e] at q
        exact iteT (q H (Same.refl H))
      · have ez : z ≠ "" := fun ez => c (decide_eq_true (congrArg V.str ez))
        refine ⟨_, rfl, z, rfl, Nat.le_of_lt (small1000 (by omega)), _, _, rfl, rfl, _, rfl, ?_⟩
        refine ite2 (fun c2 => ?_) (fun c2 => ?_)
        · have h2 : (8 : Int) < (z.length : Int) := of_decide_eq_true c2
          have e : nameD (.str z) = false := nameZ_no (fun y => by omega)
          rw [e] at q
          exact q H (Same.refl H)
        · have h2 : ¬ (8 : Int) < (z.length : Int) := fun y => c2 (decide_eq_true y)
          have h1 : 1 ≤ z.length := by
            rcases Nat.eq_zero_or_pos z.length with e | e
            · refine absurd ?_ ez
              obtain ⟨cs⟩ := z
              have e2 : cs = #[] := Array.size_eq_zero_iff.mp e
              rw [e2]
              decide +kernel
            · exact e
          refine ⟨_, rfl, z, rfl, fun D hD => lc_it walk_str (fun i H' => Same H H' ∧ H' D = some (.lst (sV (oddSigns (z.cps.toList.take i)))))
            ⟨up2 hD, by rw [List.take_zero]; exact upd_same⟩ (fun _ _ _ _ => True.intro) ?_ ?_⟩
          · rintro i v H1 H2 hi ⟨sm, hl⟩ ⟨rfl, c, hc, rfl⟩
            have et := take_sn (sign_at hc)
            refine ⟨rfl, _, rfl, c, _, rfl, rfl, _, rfl, ?_⟩
            have sp : oddSigns (z.cps.toList.take (i + 1)) = oddSigns (z.cps.toList.take i) ++ oddSigns [c] := by
              unfold oddSigns
              rw [et, List.filter_append]
            refine ite2 (fun c3 => ?_) (fun c3 => ?_)
            · have o1 : oddSigns [c] = [c] := by
                unfold oddSigns
                rw [List.filter_cons, if_pos c3, List.filter_nil]
              refine ⟨_, rfl, _, hl, small1000 ?_, same_upd sm hD, ?_⟩
              · have a1 : (sV (oddSigns (z.cps.toList.take i))).length ≤ i := by
                  unfold sV oddSigns
                  rw [List.length_map]
                  exact Nat.le_trans (List.length_filter_le _ _) (by rw [List.length_take]; omega)
                have := strlen z
                have e3 : z.cps.size = z.cps.toList.length := by rw [Array.length_toList]
                omega
              · rw [upd_same, sp, o1]
                unfold sV
                rw [List.map_append]
                rfl
            · have o1 : oddSigns [c] = [] := by
                unfold oddSigns
                rw [List.filter_cons, if_neg c3, List.filter_nil]
              refine ⟨sm, ?_⟩
              rw [sp, o1, List.append_nil]
              exact hl
          · rintro H1 ⟨sm, hl⟩
            rw [show z.cps.size = z.cps.toList.length by rw [Array.length_toList], List.take_length] at hl
            refine ⟨Nat.zero_le _, fun e2 he2 => ?_⟩
            have s2 := up2 (o := .lst []) he2
            have lays : PyData.canLayAll0 (sD (oddSigns z.cps.toList)) = true := lay_signs fun c hc => by
              obtain ⟨j, hj⟩ := List.getElem?_of_mem ((List.mem_filter.mp hc).1)
              rw [Array.getElem?_toList] at hj
              exact sign_ok lay hj
            refine ⟨.list (sD (oddSigns z.cps.toList)), .list [], .lst (SqL.of (s2 _ _ hl)) (dp_signs _), .lst (SqL.of upd_same) .nil, ?_, by decide, ?_⟩
            · unfold SeqAt.shaped
              rw [Bool.and_eq_true]
              refine ⟨lays, decide_eq_true ?_⟩
              show PyData.depthAll (sD (oddSigns z.cps.toList)) + 1 ≤ 64
              rw [depth_signs]
              decide
            · rw [eqv_nil, odd_nil]
              have e : nameD (.str z) = z.cps.toList.all (fun c => decide (c ∈ letters.cps.toList)) := nameZ_of h1 (by omega) rfl
              rw [e] at q
              exact q _ (sm.trans s2)
    | _ => exact q H (Same.refl H)
theorem scIsScore : FnScope ["_law_thing"] ["_law_thing"] (defScope sIsScore) := ⟨rfl, rfl, rfl, by decide +kernel, rfl, by decide +kernel, by decide +kernel⟩
theorem ok_isscore {fN : Addr} {fdN : FuncData} (F : Fn K "_law_is_score" "_law_is_score" sIsScore f fd) (FN : Fn K "_law_number" "_law_number" sNum fN fdN) (gN : mg "_law_number" = some (.ref fN)) (T : Free mg) : FnOk P w K mg base L2.CX0 2 f fd ["_law_thing"] (spPred markD) := by
  have GN : FnOk P w K mg base L2.CX0 1 fN fdN ["_law_thing", "_law_least", "_law_greatest"] spFrom := ok_num FN T
  have bN : Binds K fdN ["_law_thing", "_law_least", "_law_greatest"] [] := FN.bindsN fun _ _ _ _ _ _ us hl => match us, hl with | [_, _, _], _ => rfl
  refine F.ok scIsScore (fun vs H Q E h => ?_) (fun cdv A outer s H vs Q E hr hh => ?_)
  · obtain ⟨Z, x, d, rfl, _⟩ := h
    rfl
  · obtain ⟨Z, x, d, rfl, hx, sh, q⟩ := hh
    refine ⟨_, PSs.nox (pss_one (ps_ret (pe_call GN hr rfl gN FN.kp bN .nil pass0 (pa_cons (pv 0) (pa_cons pe_int (pa_cons (pe_op op_pow pe_int pe_int) pa_nil)))))), ?_⟩
    refine ⟨_, rfl, 10, 6, rfl, rfl, ⟨by decide, by decide, by decide⟩, x, 1, 1000000, rfl, da_th hx, ?_⟩
    rw [num_mark hx]
    exact q H (Same.refl H)
end
end K1
set_option Elab.async false
set_option linter.all false
set_option maxRecDepth 100000
set_option maxHeartbeats 4000000
namespace K1
open PySem PySem.Spec PyProof.Rows L2 Bb
/-- the law's own looks as they stand -/
structure Lk (K : PySem.W.Frag) (mg : Str → Option Value) : Prop where
  num : ∃ a d, Fn K "_law_number" "_law_number" sNum a d ∧ mg "_law_number" = some (.ref a)
  nam : ∃ a d, Fn K "_law_is_name" "_law_is_name" sLName a d ∧ mg "_law_is_name" = some (.ref a)
  sco : ∃ a d, Fn K "_law_is_score" "_law_is_score" sIsScore a d ∧ mg "_law_is_score" = some (.ref a)
  due : ∃ a d, Fn K "_law_due_better" "_law_due_better" sDueBetter a d ∧ mg "_law_due_better" = some (.ref a)
  fr : Free mg
theorem short3 {d1 d2 d3 : PyData} (sh : shortD (.tuple [d1, d2, d3]) = true) : shortD d1 = true ∧ shortD d2 = true ∧ shortD d3 = true := by
  have z : (decide ([d1, d2, d3].length ≤ 1000) && (shortD d1 && (shortD d2 && (shortD d3 && true)))) = true := sh
  simp only [Bool.and_eq_true] at z
  exact ⟨z.2.1, z.2.2.1, z.2.2.2.1⟩
section
variable {P : Program} {w : World} {K : PySem.W.Frag} {mg : Str → Option Value} {base : Heap} {f : Addr} {fd : FuncData}
theorem scLEvent : FnScope ["_law_thing"] ["_law_thing"] (defScope sLEvent) := ⟨rfl, rfl, rfl, by decide +kernel, rfl, by decide +kernel, by decide +kernel⟩
theorem ok_levent (F : Fn K "_law_is_event" "_law_is_event" sLEvent f fd) (p : Lk K mg) : FnOk P w K mg base L2.CX0 2 f fd ["_law_thing"] (spPred evD) := by
  have T := p.fr
  obtain ⟨aN, dN, FN, gN⟩ := p.nam
  have GN : FnOk P w K mg base L2.CX0 1 aN dN ["_law_thing"] (spPred nameD) := ok_lname FN T
  have bN : Binds K dN ["_law_thing"] [] := FN.bindsN fun _ _ _ _ _ _ us hl => match us, hl with | [_], _ => rfl
  refine F.ok scLEvent (fun vs H Q E h => ?_) (fun cdv A outer s H vs Q E hr hh => ?_)
  · obtain ⟨Z, x, d, rfl, _⟩ := h
    rfl
  · obtain ⟨Z, x, d, rfl, hx, sh, q⟩ := hh
    obtain ⟨n, ty⟩ := hx.ty (K := K)
    refine ⟨_, PSs.nox (pss_cons (ps_if (PW.pt (pw_or (pt_not (pt_val (pe_callB call_isi rfl T.isi boot_isinstance (pa_cons (pv 0) (pa_cons (pe_bltn rfl T.tup_ (by decide +kernel) (v := .ty "tuple") rfl) pa_nil)))))
        (pw_or (pt_cmpR op_ne (pe_callB call_len_seq rfl T.len_ boot_len (pa_cons (pv 0) pa_nil)) pe_int (nomark _))
        (pw_or1 (pt_not (pt_val (pe_call GN hr rfl gN FN.kp bN .nil pass0 (pa_cons (pe_ix ix_tup (pv 0) pe_int (fun _ _ => rfl)) pa_nil)))))))) (pss_one (ps_ret pe_bl)) pss_nil)
      (pss_one (ps_ret (pe_and (pe_callB call_isi rfl T.isi boot_isinstance (pa_cons (pe_ix ix_tup (pv 0) pe_int (fun _ _ => rfl)) (pa_cons (pe_bltn rfl T.str_ (by decide +kernel) (v := .ty "str") rfl) pa_nil)))
        (pe_and (pe_cmpR op_in_seq (pe_ix ix_tup (pv 0) pe_int (fun _ _ => rfl)) (pe_tup (pa_cons pe_str (pa_cons pe_str pa_nil))) rfl)
        (pe_one (pe_callB call_isi rfl T.isi boot_isinstance (pa_cons (pe_ix ix_tup (pv 0) pe_int (fun _ _ => rfl)) (pa_cons (pe_bltn rfl T.bool_ (by decide +kernel) (v := .ty "bool") rfl) pa_nil))))))))), ?_⟩
    have i0 : ∀ {a b c : V}, atI [a, b, c] (0 : Int) = some a := fun {a b c} => at_of (j := 0) rfl rfl
    have i1 : ∀ {a b c : V}, atI [a, b, c] (1 : Int) = some b := fun {a b c} => at_of (j := 1) rfl rfl
    have i2 : ∀ {a b c : V}, atI [a, b, c] (2 : Int) = some c := fun {a b c} => at_of (j := 2) rfl rfl
    refine ⟨_, rfl, _, _, _, _, _, rfl, .ty "tuple", ty.ty, kit_ty ty.t, _, rfl, ?_⟩
    cases d with
    | tuple ds =>
      cases hx with
      | @tup a xs _ e nz al =>
        refine iteF ?_
        refine ⟨_, rfl, a, _, rfl, .inr (SqT.of e), rfl, _, rfl, ?_⟩
        have hlen := al.len
        refine ite2 (fun c => ?_) (fun c => ?_)
        · have n3 : ds.length ≠ 3 := fun z => by
            rw [← hlen] at z
            rw [z] at c
            exact absurd c (by decide)
          have z := q H (Same.refl H)
          rw [evD_no n3] at z
          exact z
        · have l3 : xs.length = 3 := by
            have z : decide (V.int (xs.length : Nat) = V.int 3) = true := by simpa using c
            have z2 := V.int.inj (of_decide_eq_true z)
            omega
          obtain ⟨x1, x2, x3, d1, d2, d3, rfl, rfl, h1, h2, h3⟩ := daall3 al l3
          obtain ⟨sh1, sh2, sh3⟩ := short3 sh
          refine ⟨_, rfl, a, _, 0, _, rfl, rfl, SqT.of e, i0, Z, x1, d1, rfl, h1, sh1, fun H1 s1 => ⟨_, rfl, ?_⟩⟩
          have e1 := s1 _ _ e
          refine ite2 (fun c1 => ?_) (fun c1 => ?_)
          · have c3 : nameD d1 = false := by simpa using c1
            have z := q H1 s1
            have ev : evD (.tuple [d1, d2, d3]) = false := by
              show (nameD d1 && (wayD d2 && dBool d3)) = _
              rw [c3, Bool.false_and]
            rw [ev] at z
            exact z
          · have c3 : nameD d1 = true := by simpa using c1
            have ev : evD (.tuple [d1, d2, d3]) = (wayD d2 && dBool d3) := by
              show (nameD d1 && (wayD d2 && dBool d3)) = _
              rw [c3, Bool.true_and]
            obtain ⟨n2, ty2⟩ := (Da.keep (Keeps.of s1) _ _ h2).ty (K := K)
            refine ⟨_, rfl, a, _, 1, _, rfl, rfl, SqT.of e1, i1, _, _, _, _, _, rfl, .ty "str", ty2.ty, kit_ty ty2.s, _, rfl, ?_⟩
            cases d2 with
            | str z =>
              cases h2
              refine iteT ?_
              refine ⟨_, rfl, a, _, 1, _, rfl, rfl, SqT.of e1, i1, (by show 2 ≤ sizeLine; decide), fun t ht => ?_⟩
              have s2 := up2 (o := .tup [.str "less", .str "more"]) ht
              refine ⟨t, _, rfl, .inr (SqT.of upd_same), rfl, rfl, _, rfl, ?_⟩
              have eb : inV (.str z) [.str "less", .str "more"] = wayZ z := way_in z
              have ev2 : evD (.tuple [d1, .str z, d3]) = (inV (.str z) [.str "less", .str "more"] && dBool d3) := by
                rw [ev, eb]
                rfl
              have qz := q _ (s1.trans s2)
              rw [ev2] at qz
              obtain ⟨n3, ty3⟩ := (Da.keep (Keeps.of (s1.trans s2)) _ _ h3).ty (K := K)
              refine ite2 (fun c2 => ?_) (fun c2 => ?_)
              · have c4 : inV (.str z) [.str "less", .str "more"] = true := c2
                rw [c4, Bool.true_and] at qz
                exact ⟨_, rfl, a, _, 2, _, rfl, rfl, SqT.of (s2 _ _ e1), i2, _, _, _, _, _, rfl, .ty "bool", ty3.ty, kit_ty ty3.b, qz⟩
              · have c4 : inV (.str z) [.str "less", .str "more"] = false := by
                  cases e : inV (.str z) [.str "less", .str "more"] with
                  | false => rfl
                  | true => exact absurd e c2
                rw [c4, Bool.false_and] at qz
                exact qz
            | _ =>
              have qz := q H1 s1
              rw [ev] at qz
              exact qz
    | _ => exact q H (Same.refl H)
end
end K1
set_option Elab.async false
set_option linter.all false
set_option maxRecDepth 100000
set_option maxHeartbeats 4000000
namespace K1
open PySem PySem.Spec PyProof.Rows L2 Bb
def notM (x : V) : Bool := !numIn 1 1000000 x
def noM (d : PyData) : Bool := !markD d
theorem da_filter {Z : Addr → Prop} {H : Hp} : ∀ {xs : List V} {ds : List PyData}, DaAll Z H xs ds → PyData.canLayAll0 ds = true → DaAll Z H (xs.filter notM) (ds.filter noM) ∧ PyData.canLayAll0 (ds.filter noM) = true ∧ PyData.depthAll (ds.filter noM) ≤ PyData.depthAll ds ∧ PyData.hasDictAll (ds.filter noM) = false
  | [], _, h, _ => by
    cases h
    exact ⟨.nil, rfl, Nat.le_refl _, rfl⟩
  | x :: xs, _, h, c => by
    cases h with
    | @cons _ _ d ds a b =>
      have c2 : (PyData.canLay0 d && PyData.canLayAll0 ds) = true := c
      rw [Bool.and_eq_true] at c2
      obtain ⟨h1, h2, h3, h4⟩ := da_filter b c2.2
      have mx : PyData.depthAll (d :: ds) = max d.depth (PyData.depthAll ds) := rfl
      have same : notM x = noM d := by
        unfold notM noM
        rw [num_mark a]
      by_cases p : notM x = true
      · have p2 : noM d = true := by rw [← same]; exact p
        rw [List.filter_cons, if_pos p, List.filter_cons, if_pos p2]
        refine ⟨.cons a h1, ?_, ?_, ?_⟩
        · show (PyData.canLay0 d && PyData.canLayAll0 (ds.filter noM)) = true
          rw [c2.1, h2]
          rfl
        · have : PyData.depthAll (d :: ds.filter noM) = max d.depth (PyData.depthAll (ds.filter noM)) := rfl
          omega
        · show (PyData.hasDict d || PyData.hasDictAll (ds.filter noM)) = false
          rw [PyData.hasDict_of_canLay d c2.1, h4]
          rfl
      · have p2 : ¬ noM d = true := by rw [← same]; exact p
        rw [List.filter_cons, if_neg p, List.filter_cons, if_neg p2]
        exact ⟨h1, h2, by omega, h4⟩
theorem noM_nil (ds : List PyData) : decide (ds.filter noM = []) = ds.all markD := by
  rw [Bool.eq_iff_iff, decide_eq_true_iff, List.all_eq_true, List.filter_eq_nil_iff]
  unfold noM
  constructor
  · intro h d hd
    have z := h d hd
    cases e : markD d with
    | true => rfl
    | false =>
      rw [e] at z
      exact absurd rfl z
  · intro h d hd
    rw [h d hd]
    decide
/-- the best of the first i -/
def BestOf (z : Str) (ns : List Int) (i : Nat) (df v : V) : Prop := (i = 0 ∧ v = df) ∨ (0 < i ∧ ∃ m, v = .int m ∧ bestZ z (ns.take i) m)
theorem bestZ_one (z : Str) (n : Int) : bestZ z [n] n := by
  refine ⟨List.mem_cons_self, ?_⟩
  by_cases e : z = "less"
  · rw [if_pos e]
    intro y hy
    rw [List.mem_singleton.mp hy]
    exact Int.le_refl _
  · rw [if_neg e]
    intro y hy
    rw [List.mem_singleton.mp hy]
    exact Int.le_refl _
theorem bestZ_yes {z : Str} {l : List Int} {m n : Int} (h : bestZ z l m) (c : cmpZ z n m = true) : bestZ z (l ++ [n]) n := by
  obtain ⟨h1, h2⟩ := h
  refine ⟨by simp, ?_⟩
  unfold cmpZ at c
  by_cases e : z = "less"
  · rw [if_pos e] at c h2 ⊢
    have c' := of_decide_eq_true c
    intro y hy
    rcases List.mem_append.mp hy with q | q
    · have := h2 y q
      omega
    · rw [List.mem_singleton.mp q]
      exact Int.le_refl _
  · rw [if_neg e] at c h2 ⊢
    have c' := of_decide_eq_true c
    intro y hy
    rcases List.mem_append.mp hy with q | q
    · have := h2 y q
      omega
    · rw [List.mem_singleton.mp q]
      exact Int.le_refl _
theorem bestZ_no {z : Str} {l : List Int} {m n : Int} (h : bestZ z l m) (c : cmpZ z n m = false) : bestZ z (l ++ [n]) m := by
  obtain ⟨h1, h2⟩ := h
  refine ⟨List.mem_append.mpr (.inl h1), ?_⟩
  unfold cmpZ at c
  by_cases e : z = "less"
  · rw [if_pos e] at c h2 ⊢
    have c' := of_decide_eq_false c
    intro y hy
    rcases List.mem_append.mp hy with q | q
    · exact h2 y q
    · rw [List.mem_singleton.mp q]
      omega
  · rw [if_neg e] at c h2 ⊢
    have c' := of_decide_eq_false c
    intro y hy
    rcases List.mem_append.mp hy with q | q
    · exact h2 y q
    · rw [List.mem_singleton.mp q]
      omega
theorem bestZ_uniq {z : Str} {l : List Int} {m n : Int} (h : bestZ z l m) (g : bestZ z l n) : m = n := by
  obtain ⟨h1, h2⟩ := h
  obtain ⟨g1, g2⟩ := g
  by_cases e : z = "less"
  · rw [if_pos e] at h2 g2
    have := h2 n g1
    have := g2 m h1
    omega
  · rw [if_neg e] at h2 g2
    have := h2 n g1
    have := g2 m h1
    omega
/-- what is due: a new tuple of two -/
def NewT (H : Hp) (x y : V) (Q : VK) : Prop := ∀ p H', Same H H' → H p = none → H' p = some (.tup [x, y]) → Q (.ref p) H'
def spDueB : Sp := fun vs H Q _ => ∃ (Z : Addr → Prop) (x y v : V) (d e g : PyData), vs = [x, y, v] ∧ Da Z H x d ∧ Da Z H y e ∧ Da Z H v g ∧ (shortD d = true ∧ shortD e = true ∧ shortD g = true) ∧
  (markD d = true → markD e = true → wayD g = true → ∀ i j z, d = .int i → e = .int j → g = .str z → NewT H (.str "told") (.bl (cmpZ z i j)) Q) ∧
  ((markD d && markD e) = false → NewT H (.str "no") (.str "nomark") Q) ∧ (markD d = true → markD e = true → wayD g = false → NewT H (.str "no") (.str "noway") Q)
def spDueS : Sp := fun vs H Q _ => ∃ (Z : Addr → Prop) (x v df : V) (d g : PyData), vs = [x, v, df] ∧ Da Z H x d ∧ Da Z H v g ∧ (shortD d = true ∧ shortD g = true) ∧ layD d = true ∧
  (marksD d = true → wayD g = true → ∀ ns z, itemsD d = ns.map PyData.int → g = .str z → (ns = [] → NewT H (.str "told") df Q) ∧ (∀ m, bestZ z ns m → NewT H (.str "told") (.int m) Q)) ∧
  (marksD d = false → NewT H (.str "no") (.str "nomark") Q) ∧ (marksD d = true → wayD g = false → NewT H (.str "no") (.str "noway") Q)
theorem NewT.fin {H H' : Hp} {x y : V} {Q : VK} (h : NewT H x y Q) (s : Same H H') : ∀ p, H' p = none → Q (.ref p) (upd H' p (.tup [x, y])) := fun p hp => h p _ (s.trans (up2 hp)) (Same.free s hp) upd_same
section
variable {P : Program} {w : World} {K : PySem.W.Frag} {mg : Str → Option Value} {base : Heap} {f : Addr} {fd : FuncData}
abbrev nDueB : List Str := ["_law_one", "_law_other", "_law_rule"]
theorem scDueB : FnScope nDueB nDueB (defScope sDueBetter) := ⟨rfl, rfl, rfl, by decide +kernel, rfl, by decide +kernel, by decide +kernel⟩
theorem ok_dueb (F : Fn K "_law_due_better" "_law_due_better" sDueBetter f fd) (p : Lk K mg) : FnOk P w K mg base L2.CX0 3 f fd nDueB spDueB := by
  have T := p.fr
  obtain ⟨aN, dN, FN, gN⟩ := p.num
  obtain ⟨aS, dS, FS, gS⟩ := p.sco
  have GS : FnOk P w K mg base L2.CX0 2 aS dS ["_law_thing"] (spPred markD) := ok_isscore FS FN gN T
  have bS : Binds K dS ["_law_thing"] [] := FS.bindsN fun _ _ _ _ _ _ us hl => match us, hl with | [_], _ => rfl
  have ts : 2 ≤ sizeLine := by decide
  refine F.ok scDueB (fun vs H Q E h => ?_) (fun cdv A outer s H vs Q E hr hh => ?_)
  · obtain ⟨Z, x, y, v, d, e, g, rfl, _⟩ := h
    rfl
  · obtain ⟨Z, x, y, v, d, e, g, rfl, hx, hy, hv, ⟨s1, s2, s3⟩, yes, nom, now⟩ := hh
    refine ⟨_, PSs.nox (pss_cons (ps_if (PW.pt (pw_or (pt_not (pt_val (pe_call GS hr rfl gS FS.kp bS .nil pass0 (pa_cons (pv 0) pa_nil)))) (pw_or1 (pt_not (pt_val (pe_call GS hr rfl gS FS.kp bS .nil pass0 (pa_cons (pv 1) pa_nil))))))) (pss_one (ps_ret (pe_tup (pa_cons pe_str (pa_cons pe_str pa_nil))))) pss_nil)
      (pss_cons (ps_if (PW.pt (pw_or (pt_not (pt_val (pe_callB call_isi rfl T.isi boot_isinstance (pa_cons (pv 2) (pa_cons (pe_bltn rfl T.str_ (by decide +kernel) (v := .ty "str") rfl) pa_nil))))) (pw_or1 (pt_cmpR op_notIn_seq (pv 2) (pe_tup (pa_cons pe_str (pa_cons pe_str pa_nil))) rfl)))) (pss_one (ps_ret (pe_tup (pa_cons pe_str (pa_cons pe_str pa_nil))))) pss_nil)
      (pss_one (ps_ret (pe_tup (pa_cons pe_str (pa_cons (pe_ifExp (pt_cmpR op_eq (pv 2) pe_str (nomark _)) (pe_cmpR op_lt (pv 0) (pv 1) (nomark _)) (pe_cmpR op_gt (pv 0) (pv 1) (nomark _))) pa_nil))))))), ?_⟩
    refine ⟨_, rfl, Z, x, d, rfl, hx, s1, fun H1 k1 => ⟨_, rfl, ?_⟩⟩
    refine ite2 (fun c1 => ?_) (fun c1 => ?_)
    · have m1 : markD d = false := by simpa using c1
      exact ⟨ts, (nom (by rw [m1]; rfl)).fin k1⟩
    · have m1 : markD d = true := by simpa using c1
      refine ⟨_, rfl, Z, y, e, rfl, Da.keep (Keeps.of k1) _ _ hy, s2, fun H2 k2 => ⟨_, rfl, ?_⟩⟩
      refine ite2 (fun c2 => ?_) (fun c2 => ?_)
      · have m2 : markD e = false := by simpa using c2
        exact ⟨ts, (nom (by rw [m1, m2]; rfl)).fin (k1.trans k2)⟩
      · have m2 : markD e = true := by simpa using c2
        have kk := k1.trans k2
        have hv2 := Da.keep (Keeps.of kk) _ _ hv
        obtain ⟨n, ty⟩ := hv2.ty (K := K)
        refine ⟨_, rfl, _, _, _, _, _, rfl, .ty "str", ty.ty, kit_ty ty.s, _, rfl, ?_⟩
        cases g with
        | str z =>
          cases hv
          refine iteF ?_
          refine ⟨_, rfl, ts, fun t ht => ?_⟩
          have k3 := up2 (o := .tup [.str "less", .str "more"]) ht
          refine ⟨t, _, rfl, .inr (SqT.of upd_same), rfl, rfl, _, rfl, ?_⟩
          have eb : inV (.str z) [.str "less", .str "more"] = wayZ z := way_in z
          refine ite2 (fun c3 => ?_) (fun c3 => ?_)
          · have c4 : (!inV (.str z) [.str "less", .str "more"]) = true := c3
            rw [eb] at c4
            have m3 : wayD (.str z) = false := by
              show wayZ z = false
              simpa using c4
            exact ⟨ts, (now m1 m2 m3).fin (kk.trans k3)⟩
          · have c4 : ¬ (!inV (.str z) [.str "less", .str "more"]) = true := c3
            rw [eb] at c4
            have m3 : wayD (.str z) = true := by
              show wayZ z = true
              simpa using c4
            obtain ⟨i, rfl, _⟩ := mark_int m1
            obtain ⟨j, rfl, _⟩ := mark_int m2
            cases hx
            cases hy
            have q := yes m1 m2 m3 i j z rfl rfl rfl
            refine ⟨_, rfl, rfl, _, rfl, ?_⟩
            refine ite2 (fun c => ?_) (fun c => ?_)
            · have ez : z = "less" := V.str.inj (of_decide_eq_true c)
              have ec : cmpZ z i j = decide (i < j) := if_pos ez
              rw [ec] at q
              exact ⟨_, rfl, _, rfl, _, _, rfl, rfl, ts, q.fin (kk.trans k3)⟩
            · have ez : z ≠ "less" := fun ez => c (decide_eq_true (congrArg V.str ez))
              have ec : cmpZ z i j = decide (i > j) := if_neg ez
              rw [ec] at q
              exact ⟨_, rfl, _, rfl, _, _, rfl, rfl, ts, q.fin (kk.trans k3)⟩
        | _ => exact iteT ⟨ts, (now m1 m2 rfl).fin kk⟩
abbrev nDueS : List Str := ["_law_row", "_law_rule", "_law_none", "_law_one", "_law_best", "_law_at"]
theorem scDueS : FnScope nDueS ["_law_row", "_law_rule", "_law_none"] (defScope sDueBest) := ⟨rfl, rfl, rfl, by decide +kernel, rfl, by decide +kernel, by decide +kernel⟩
theorem ok_dues (F : Fn K "_law_due_best" "_law_due_best" sDueBest f fd) (p : Lk K mg) : FnOk P w K mg base L2.CX0 4 f fd ["_law_row", "_law_rule", "_law_none"] spDueS := by
  have T := p.fr
  obtain ⟨aN, dN, FN, gN⟩ := p.num
  obtain ⟨aS, dS, FS, gS⟩ := p.sco
  obtain ⟨aD, dD, FD, gD⟩ := p.due
  have GS : FnOk P w K mg base L2.CX0 2 aS dS ["_law_thing"] (spPred markD) := ok_isscore FS FN gN T
  have bS : Binds K dS ["_law_thing"] [] := FS.bindsN fun _ _ _ _ _ _ us hl => match us, hl with | [_], _ => rfl
  have GD : FnOk P w K mg base L2.CX0 3 aD dD nDueB spDueB := ok_dueb FD p
  have bD : Binds K dD nDueB [] := FD.bindsN fun _ _ _ _ _ _ us hl => match us, hl with | [_, _, _], _ => rfl
  have ts : 2 ≤ sizeLine := by decide
  have i1 : ∀ {a b : V}, atI [a, b] (1 : Int) = some b := fun {a b} => at_of (j := 1) rfl rfl
  refine F.ok scDueS (fun vs H Q E h => ?_) (fun cdv A outer s H vs Q E hr hh => ?_)
  · obtain ⟨Z, x, v, df, d, g, rfl, _⟩ := h
    rfl
  · obtain ⟨Z, x, v, df, d, g, rfl, hx, hv, ⟨s1, s3⟩, lay, yes, nom, now⟩ := hh
    have hu := hr.units
    by_cases tp : dTup d = true
    · cases d with
      | tuple ds =>
        cases hx with
        | @tup a xs _ e nz al =>
          refine ⟨_, PSs.nox (pss_cons (ps_if (PW.pt (pw_or (pt_not (pt_val (pe_callB call_isiT rfl T.isi boot_isinstance (pa_cons (pv 0) (pa_cons (pe_tup (pa_cons (pe_bltn rfl T.list_ (by decide +kernel) (v := .ty "list") rfl) (pa_cons (pe_bltn rfl T.tup_ (by decide +kernel) (v := .ty "tuple") rfl) pa_nil))) pa_nil)))))
              (pw_or1 (pt_cmpR (op_neD hu) (pe_lc (own := [("_law_one", 3)]) (g := gName 3) (tt := tNot (tB (tCall (spPred markD) [] E0 (tCons (tVar 3) tNil)))) rfl scDueS.nd (pi_tup (pv 0)) (blkOk_by (N := nDueS) (sc := defScope sDueBest) (by decide +kernel)) (fun _ _ _ _ _ => pg_name (i := 3) scDueS.nd rfl (Or.inl rfl))
                (fun _ _ _ _ _ => pts_one (pt_not (pt_val (pe_call GS (hr.mono (by decide)) rfl gS FS.kp bS .nil pass0 (pa_cons (pv 3) pa_nil))))) (fun _ _ _ _ _ => pv 3)) (pe_lst pa_nil) (nomark _))))) (pss_one (ps_ret (pe_tup (pa_cons pe_str (pa_cons pe_str pa_nil))))) pss_nil)
            (pss_cons (ps_if (PW.pt (pw_or (pt_not (pt_val (pe_callB call_isi rfl T.isi boot_isinstance (pa_cons (pv 1) (pa_cons (pe_bltn rfl T.str_ (by decide +kernel) (v := .ty "str") rfl) pa_nil))))) (pw_or1 (pt_cmpR op_notIn_seq (pv 1) (pe_tup (pa_cons pe_str (pa_cons pe_str pa_nil))) rfl)))) (pss_one (ps_ret (pe_tup (pa_cons pe_str (pa_cons pe_str pa_nil))))) pss_nil)
            (pss_cons (ps_set (i := 4) scDueS.nd rfl (.inl rfl) (pv 2))
            (pss_cons (ps_for PassesOwn.never rfl (pi_enumT rfl T.enu_ (pa_cons (pv 0) pa_nil)) (pg_tup rfl (pgs_cons (pg_name (i := 5) scDueS.nd rfl (Or.inl rfl)) (pgs_cons (pg_name (i := 3) scDueS.nd rfl (Or.inl rfl)) pgs_nil)))
              (pss_one (ps_if (PW.pt (pw_or (pt_cmpR op_eq (pv 5) pe_int (nomark _)) (pw_or1 (pt_val (pe_ix ix_tup (pe_call GD hr rfl gD FD.kp bD .nil pass0 (pa_cons (pv 3) (pa_cons (pv 4) (pa_cons (pv 1) pa_nil)))) pe_int (fun _ _ => rfl)))))) (pss_one (ps_set (i := 4) scDueS.nd rfl (.inl rfl) (pv 3))) pss_nil)))
            (pss_one (ps_ret (pe_tup (pa_cons pe_str (pa_cons (pv 4) pa_nil))))))))), ?_⟩
          refine ⟨_, rfl, ts, fun t ht => ?_⟩
          have k1 := up2 (o := .tup [.ty "list", .ty "tuple"]) ht
          obtain ⟨n, ty⟩ := (Da.keep (Keeps.of k1) (.tuple ds) _ (.tup e nz al)).ty (K := K)
          refine ⟨_, t, _, _, _, _, rfl, upd_same, .cons (.ty "list") (.cons (.ty "tuple") .nil), ty.ty, kit2 ty, _, rfl, iteF ?_⟩
          obtain ⟨Ha, eHa⟩ : ∃ G, G = upd H t (.tup [.ty "list", .ty "tuple"]) := ⟨_, rfl⟩
          rw [← eHa] at k1 ⊢
          have e1 := k1 _ _ e
          have al1 := DaAll.keep (Keeps.of k1) _ _ al
          have hs : shortAll ds = true ∧ ds.length ≤ 1000 := by
            have z : (decide (ds.length ≤ 1000) && shortAll ds) = true := s1
            rw [Bool.and_eq_true] at z
            exact ⟨z.2, of_decide_eq_true z.1⟩
          have lay2 : PyData.canLayAll0 ds = true ∧ PyData.depthAll ds ≤ 8 := by
            have z : (PyData.canLayAll0 ds && decide (PyData.depthAll ds ≤ 8)) = true := lay
            rw [Bool.and_eq_true] at z
            exact ⟨z.1, of_decide_eq_true z.2⟩
          have hlen := al.len
          refine ⟨_, rfl, a, rfl, ⟨_, SqT.of e1⟩, fun D hD => lc_tup (K := K) (a := a) (xs := xs) (fun i H' => Same Ha H' ∧ H' D = some (.lst ((xs.take i).filter notM)))
            ⟨up2 hD, by rw [List.take_zero]; exact upd_same⟩ (fun i H' _ ⟨sm, _⟩ => SqT.of (sm _ _ e1)) ?_ ?_⟩
          · rintro i y H' hy ⟨sm, hl⟩
            obtain ⟨dy, ey, ay⟩ := (DaAll.keep (Keeps.of sm) _ _ al1).get hy
            have li := (List.getElem?_eq_some_iff.mp hy).1
            have fl := List.length_filter_le notM (xs.take i)
            rw [List.length_take] at fl
            refine ⟨rfl, _, rfl, Z, y, dy, rfl, ay, short_at hs.1 ey, fun H2 s2 => ⟨_, rfl, ?_⟩⟩
            have e0 := take_sn hy
            have nm : notM y = !markD dy := by
              unfold notM
              rw [num_mark ay]
            refine ite2 (fun c => ?_) (fun c => ?_)
            · have c4 : notM y = true := by rw [nm]; exact c
              refine ⟨_, rfl, _, s2 _ _ hl, small1000 (by omega), same_upd (sm.trans s2) hD, ?_⟩
              rw [upd_same, e0, List.filter_append, List.filter_cons, if_pos c4, List.filter_nil]
            · have c4 : ¬ notM y = true := by rw [nm]; exact c
              refine ⟨sm.trans s2, ?_⟩
              rw [e0, List.filter_append, List.filter_cons, if_neg c4, List.filter_nil, List.append_nil]
              exact s2 _ _ hl
          rintro H1 ⟨sm, hl⟩
          rw [List.take_length] at hl
          refine ⟨Nat.zero_le _, fun e2 he2 => ?_⟩
          have k2 := sm.trans (up2 (o := .lst []) he2)
          obtain ⟨f1, f2, f3, f4⟩ := da_filter (DaAll.keep (Keeps.of k2) _ _ al1) lay2.1
          refine ⟨.list (ds.filter noM), .list [], .lst (SqL.of (up2 (o := .lst []) he2 _ _ hl)) (DaAll.dp _ _ f1 f4), .lst (SqL.of upd_same) .nil, ?_, by decide, _, rfl, ?_⟩
          · unfold SeqAt.shaped
            rw [Bool.and_eq_true]
            refine ⟨f2, decide_eq_true ?_⟩
            show PyData.depthAll (ds.filter noM) + 1 ≤ 64
            omega
          rw [eqv_nil, noM_nil]
          obtain ⟨Hb, eHb⟩ : ∃ G, G = upd H1 e2 (.lst []) := ⟨_, rfl⟩
          rw [← eHb] at k2 ⊢
          have kb := k1.trans k2
          refine ite2 (fun c => ?_) (fun c => ?_)
          · have m1 : ds.all markD = false := by simpa using c
            exact ⟨ts, (nom m1).fin kb⟩
          have m1 : ds.all markD = true := by simpa using c
          obtain ⟨ns, rfl, hn⟩ := marks_ints m1
          have ex := da_ints al
          rw [ex] at e
          have eb := kb _ _ e
          have hvb := Da.keep (Keeps.of kb) _ _ hv
          obtain ⟨nv, tv⟩ := hvb.ty (K := K)
          refine ⟨_, rfl, _, _, _, _, _, rfl, .ty "str", tv.ty, kit_ty tv.s, _, rfl, ?_⟩
          cases g with
          | str z =>
            cases hv
            refine iteF ?_
            refine ⟨_, rfl, ts, fun t2 ht2 => ?_⟩
            have k3 := up2 (o := .tup [.str "less", .str "more"]) ht2
            refine ⟨t2, _, rfl, .inr (SqT.of upd_same), rfl, rfl, _, rfl, ?_⟩
            have ew : inV (.str z) [.str "less", .str "more"] = wayZ z := way_in z
            obtain ⟨Hc, eHc⟩ : ∃ G, G = upd Hb t2 (.tup [.str "less", .str "more"]) := ⟨_, rfl⟩
            rw [← eHc] at k3 ⊢
            have kc := kb.trans k3
            refine ite2 (fun c3 => ?_) (fun c3 => ?_)
            · have c4 : (!inV (.str z) [.str "less", .str "more"]) = true := c3
              rw [ew] at c4
              have m3 : wayD (.str z) = false := by
                show wayZ z = false
                simpa using c4
              exact ⟨ts, (now m1 m3).fin kc⟩
            have c4 : ¬ (!inV (.str z) [.str "less", .str "more"]) = true := c3
            rw [ew] at c4
            have m3 : wayD (.str z) = true := by
              show wayZ z = true
              simpa using c4
            have ec := k3 _ _ eb
            obtain ⟨q0, q1⟩ := yes m1 m3 ns z rfl rfl
            refine ⟨_, rfl, _, rfl, a, ns.map V.int, rfl, SqT.of ec, for_it walk_enumT (fun i σ H' => ∃ (b : V) (v3 v5 : Option V), σ = [some (.ref a), some (.str z), some df, v3, some b, v5] ∧ Same Hc H' ∧ BestOf z ns i df b)
              ⟨df, none, none, rfl, Same.refl _, .inl ⟨rfl, rfl⟩⟩ (fun i σ H' _ ⟨_, _, _, _, sm, _⟩ => SqT.of (sm _ _ ec)) ?_ ?_⟩
            · rintro i y σ H2 H3 hi ⟨b, v3, v5, rfl, sm, bb⟩ ⟨T0, y1, y2, rfl, hT, rfl, ey1, ey2⟩
              have e1 : y1 = .int (i : Nat) := (Option.some.inj ey1).symm
              subst e1
              have ey2 : (ns.map V.int)[i]? = some y2 := ey2
              rw [List.getElem?_map] at ey2
              obtain ⟨m, hm, e2⟩ : ∃ m, ns[i]? = some m ∧ y2 = .int m := by
                cases q : ns[i]? with
                | none => rw [q] at ey2; cases ey2
                | some m => rw [q] at ey2; exact ⟨m, rfl, (Option.some.inj ey2).symm⟩
              subst e2
              have sT := sm.trans (up2 (o := .tup [.int (i : Nat), .int m]) hT)
              refine ⟨T0, _, rfl, SqT.of upd_same, rfl, _, _, rfl, _, _, rfl, rfl, ?_⟩
              refine ⟨_, rfl, rfl, _, rfl, ?_⟩
              have et := take_sn hm
              refine ite2 (fun c5 => ?_) (fun c5 => ?_)
              · have i0 : i = 0 := by
                  have z := V.int.inj (of_decide_eq_true c5)
                  omega
                refine ⟨_, rfl, _, _, _, rfl, sT, .inr ⟨Nat.succ_pos _, m, rfl, ?_⟩⟩
                rw [et, i0, List.take_zero]
                exact bestZ_one z m
              · have i0 : i ≠ 0 := fun e => c5 (by rw [e]; rfl)
                rcases bb with ⟨e, _⟩ | ⟨_, m0, rfl, bz⟩
                · exact absurd e i0
                have hm0 : markD (.int m0) = true := by
                  have := hn m0 (List.mem_of_mem_take bz.1)
                  show (decide (1 ≤ m0) && decide (m0 ≤ 1000000)) = true
                  rw [decide_eq_true this.1, decide_eq_true this.2]
                  rfl
                have hmm : markD (.int m) = true := by
                  have := hn m (List.mem_of_getElem? hm)
                  show (decide (1 ≤ m) && decide (m ≤ 1000000)) = true
                  rw [decide_eq_true this.1, decide_eq_true this.2]
                  rfl
                refine ⟨_, rfl, _, rfl, _, rfl, Z, _, _, _, .int m, .int m0, .str z, rfl, .int m, .int m0, .str z, ⟨rfl, rfl, s3⟩, fun _ _ _ i' j' z' e1 e2 e3 => ?_, fun n => ?_, fun _ _ n => ?_⟩
                · cases e1
                  cases e2
                  cases e3
                  intro p4 H4 s4 hp4 he4
                  refine ⟨p4, _, 1, _, rfl, rfl, SqT.of he4, i1, _, rfl, ?_⟩
                  refine ite2 (fun c6 => ?_) (fun c6 => ?_)
                  · refine ⟨_, rfl, _, _, _, rfl, sT.trans s4, .inr ⟨Nat.succ_pos _, m, rfl, ?_⟩⟩
                    rw [et]
                    exact bestZ_yes bz c6
                  · refine ⟨_, _, _, rfl, sT.trans s4, .inr ⟨Nat.succ_pos _, m0, rfl, ?_⟩⟩
                    rw [et]
                    exact bestZ_no bz (by simpa using c6)
                · rw [hmm, hm0] at n
                  cases n
                · rw [m3] at n
                  cases n
            · rintro σ H2 ⟨b, v3, v5, rfl, sm, bb⟩
              refine ⟨_, rfl, ts, ?_⟩
              rw [List.length_map] at bb
              rcases bb with ⟨e, rfl⟩ | ⟨_, m0, rfl, bz⟩
              · exact (q0 (List.length_eq_zero_iff.mp e)).fin (kc.trans sm)
              · rw [List.take_length] at bz
                exact (q1 m0 bz).fin (kc.trans sm)
          | _ => exact iteT ⟨ts, (now m1 rfl).fin kb⟩
      | _ => cases tp
    · cases d with
      | tuple ds => exact absurd rfl tp
      | list ds =>
        cases hx with
        | @lst a xs _ e nz al =>
          refine ⟨_, PSs.nox (pss_cons (ps_if (PW.pt (pw_or (pt_not (pt_val (pe_callB call_isiT rfl T.isi boot_isinstance (pa_cons (pv 0) (pa_cons (pe_tup (pa_cons (pe_bltn rfl T.list_ (by decide +kernel) (v := .ty "list") rfl) (pa_cons (pe_bltn rfl T.tup_ (by decide +kernel) (v := .ty "tuple") rfl) pa_nil))) pa_nil)))))
              (pw_or1 (pt_cmpR (op_neD hu) (pe_lc (own := [("_law_one", 3)]) (g := gName 3) (tt := tNot (tB (tCall (spPred markD) [] E0 (tCons (tVar 3) tNil)))) rfl scDueS.nd (pi_list (pv 0)) (blkOk_by (N := nDueS) (sc := defScope sDueBest) (by decide +kernel)) (fun _ _ _ _ _ => pg_name (i := 3) scDueS.nd rfl (Or.inl rfl))
                (fun _ _ _ _ _ => pts_one (pt_not (pt_val (pe_call GS (hr.mono (by decide)) rfl gS FS.kp bS .nil pass0 (pa_cons (pv 3) pa_nil))))) (fun _ _ _ _ _ => pv 3)) (pe_lst pa_nil) (nomark _))))) (pss_one (ps_ret (pe_tup (pa_cons pe_str (pa_cons pe_str pa_nil))))) pss_nil)
            (pss_cons (ps_if (PW.pt (pw_or (pt_not (pt_val (pe_callB call_isi rfl T.isi boot_isinstance (pa_cons (pv 1) (pa_cons (pe_bltn rfl T.str_ (by decide +kernel) (v := .ty "str") rfl) pa_nil))))) (pw_or1 (pt_cmpR op_notIn_seq (pv 1) (pe_tup (pa_cons pe_str (pa_cons pe_str pa_nil))) rfl)))) (pss_one (ps_ret (pe_tup (pa_cons pe_str (pa_cons pe_str pa_nil))))) pss_nil)
            (pss_cons (ps_set (i := 4) scDueS.nd rfl (.inl rfl) (pv 2))
            (pss_cons (ps_for PassesOwn.never rfl (pi_enum rfl T.enu_ (pa_cons (pv 0) pa_nil)) (pg_tup rfl (pgs_cons (pg_name (i := 5) scDueS.nd rfl (Or.inl rfl)) (pgs_cons (pg_name (i := 3) scDueS.nd rfl (Or.inl rfl)) pgs_nil)))
              (pss_one (ps_if (PW.pt (pw_or (pt_cmpR op_eq (pv 5) pe_int (nomark _)) (pw_or1 (pt_val (pe_ix ix_tup (pe_call GD hr rfl gD FD.kp bD .nil pass0 (pa_cons (pv 3) (pa_cons (pv 4) (pa_cons (pv 1) pa_nil)))) pe_int (fun _ _ => rfl)))))) (pss_one (ps_set (i := 4) scDueS.nd rfl (.inl rfl) (pv 3))) pss_nil)))
            (pss_one (ps_ret (pe_tup (pa_cons pe_str (pa_cons (pv 4) pa_nil))))))))), ?_⟩
          refine ⟨_, rfl, ts, fun t ht => ?_⟩
          have k1 := up2 (o := .tup [.ty "list", .ty "tuple"]) ht
          obtain ⟨n, ty⟩ := (Da.keep (Keeps.of k1) (.list ds) _ (.lst e nz al)).ty (K := K)
          refine ⟨_, t, _, _, _, _, rfl, upd_same, .cons (.ty "list") (.cons (.ty "tuple") .nil), ty.ty, kit2 ty, _, rfl, iteF ?_⟩
          obtain ⟨Ha, eHa⟩ : ∃ G, G = upd H t (.tup [.ty "list", .ty "tuple"]) := ⟨_, rfl⟩
          rw [← eHa] at k1 ⊢
          have e1 := k1 _ _ e
          have al1 := DaAll.keep (Keeps.of k1) _ _ al
          have hs : shortAll ds = true ∧ ds.length ≤ 1000 := by
            have z : (decide (ds.length ≤ 1000) && shortAll ds) = true := s1
            rw [Bool.and_eq_true] at z
            exact ⟨z.2, of_decide_eq_true z.1⟩
          have lay2 : PyData.canLayAll0 ds = true ∧ PyData.depthAll ds ≤ 8 := by
            have z : (PyData.canLayAll0 ds && decide (PyData.depthAll ds ≤ 8)) = true := lay
            rw [Bool.and_eq_true] at z
            exact ⟨z.1, of_decide_eq_true z.2⟩
          have hlen := al.len
          refine ⟨_, rfl, a, rfl, ⟨_, SqL.of e1⟩, fun D hD => lc_list (K := K) (a := a) (xs := xs) (fun i H' => Same Ha H' ∧ H' D = some (.lst ((xs.take i).filter notM)))
            ⟨up2 hD, by rw [List.take_zero]; exact upd_same⟩ (fun i H' _ ⟨sm, _⟩ => SqL.of (sm _ _ e1)) ?_ ?_⟩
          · rintro i y H' hy ⟨sm, hl⟩
            obtain ⟨dy, ey, ay⟩ := (DaAll.keep (Keeps.of sm) _ _ al1).get hy
            have li := (List.getElem?_eq_some_iff.mp hy).1
            have fl := List.length_filter_le notM (xs.take i)
            rw [List.length_take] at fl
            refine ⟨rfl, _, rfl, Z, y, dy, rfl, ay, short_at hs.1 ey, fun H2 s2 => ⟨_, rfl, ?_⟩⟩
            have e0 := take_sn hy
            have nm : notM y = !markD dy := by
              unfold notM
              rw [num_mark ay]
            refine ite2 (fun c => ?_) (fun c => ?_)
            · have c4 : notM y = true := by rw [nm]; exact c
              refine ⟨_, rfl, _, s2 _ _ hl, small1000 (by omega), same_upd (sm.trans s2) hD, ?_⟩
              rw [upd_same, e0, List.filter_append, List.filter_cons, if_pos c4, List.filter_nil]
            · have c4 : ¬ notM y = true := by rw [nm]; exact c
              refine ⟨sm.trans s2, ?_⟩
              rw [e0, List.filter_append, List.filter_cons, if_neg c4, List.filter_nil, List.append_nil]
              exact s2 _ _ hl
          rintro H1 ⟨sm, hl⟩
          rw [List.take_length] at hl
          refine ⟨Nat.zero_le _, fun e2 he2 => ?_⟩
          have k2 := sm.trans (up2 (o := .lst []) he2)
          obtain ⟨f1, f2, f3, f4⟩ := da_filter (DaAll.keep (Keeps.of k2) _ _ al1) lay2.1
          refine ⟨.list (ds.filter noM), .list [], .lst (SqL.of (up2 (o := .lst []) he2 _ _ hl)) (DaAll.dp _ _ f1 f4), .lst (SqL.of upd_same) .nil, ?_, by decide, _, rfl, ?_⟩
          · unfold SeqAt.shaped
            rw [Bool.and_eq_true]
            refine ⟨f2, decide_eq_true ?_⟩
            show PyData.depthAll (ds.filter noM) + 1 ≤ 64
            omega
          rw [eqv_nil, noM_nil]
          obtain ⟨Hb, eHb⟩ : ∃ G, G = upd H1 e2 (.lst []) := ⟨_, rfl⟩
          rw [← eHb] at k2 ⊢
          have kb := k1.trans k2
          refine ite2 (fun c => ?_) (fun c => ?_)
          · have m1 : ds.all markD = false := by simpa using c
            exact ⟨ts, (nom m1).fin kb⟩
          have m1 : ds.all markD = true := by simpa using c
          obtain ⟨ns, rfl, hn⟩ := marks_ints m1
          have ex := da_ints al
          rw [ex] at e
          have eb := kb _ _ e
          have hvb := Da.keep (Keeps.of kb) _ _ hv
          obtain ⟨nv, tv⟩ := hvb.ty (K := K)
          refine ⟨_, rfl, _, _, _, _, _, rfl, .ty "str", tv.ty, kit_ty tv.s, _, rfl, ?_⟩
          cases g with
          | str z =>
            cases hv
            refine iteF ?_
            refine ⟨_, rfl, ts, fun t2 ht2 => ?_⟩
            have k3 := up2 (o := .tup [.str "less", .str "more"]) ht2
            refine ⟨t2, _, rfl, .inr (SqT.of upd_same), rfl, rfl, _, rfl, ?_⟩
            have ew : inV (.str z) [.str "less", .str "more"] = wayZ z := way_in z
            obtain ⟨Hc, eHc⟩ : ∃ G, G = upd Hb t2 (.tup [.str "less", .str "more"]) := ⟨_, rfl⟩
            rw [← eHc] at k3 ⊢
            have kc := kb.trans k3
            refine ite2 (fun c3 => ?_) (fun c3 => ?_)
            · have c4 : (!inV (.str z) [.str "less", .str "more"]) = true := c3
              rw [ew] at c4
              have m3 : wayD (.str z) = false := by
                show wayZ z = false
                simpa using c4
              exact ⟨ts, (now m1 m3).fin kc⟩
            have c4 : ¬ (!inV (.str z) [.str "less", .str "more"]) = true := c3
            rw [ew] at c4
            have m3 : wayD (.str z) = true := by
              show wayZ z = true
              simpa using c4
            have ec := k3 _ _ eb
            obtain ⟨q0, q1⟩ := yes m1 m3 ns z rfl rfl
            refine ⟨_, rfl, _, rfl, a, ns.map V.int, rfl, SqL.of ec, for_it walk_enum (fun i σ H' => ∃ (b : V) (v3 v5 : Option V), σ = [some (.ref a), some (.str z), some df, v3, some b, v5] ∧ Same Hc H' ∧ BestOf z ns i df b)
              ⟨df, none, none, rfl, Same.refl _, .inl ⟨rfl, rfl⟩⟩ (fun i σ H' _ ⟨_, _, _, _, sm, _⟩ => SqL.of (sm _ _ ec)) ?_ ?_⟩
            · rintro i y σ H2 H3 hi ⟨b, v3, v5, rfl, sm, bb⟩ ⟨T0, y1, y2, rfl, hT, rfl, ey1, ey2⟩
              have e1 : y1 = .int (i : Nat) := (Option.some.inj ey1).symm
              subst e1
              have ey2 : (ns.map V.int)[i]? = some y2 := ey2
              rw [List.getElem?_map] at ey2
              obtain ⟨m, hm, e2⟩ : ∃ m, ns[i]? = some m ∧ y2 = .int m := by
                cases q : ns[i]? with
                | none => rw [q] at ey2; cases ey2
                | some m => rw [q] at ey2; exact ⟨m, rfl, (Option.some.inj ey2).symm⟩
              subst e2
              have sT := sm.trans (up2 (o := .tup [.int (i : Nat), .int m]) hT)
              refine ⟨T0, _, rfl, SqT.of upd_same, rfl, _, _, rfl, _, _, rfl, rfl, ?_⟩
              refine ⟨_, rfl, rfl, _, rfl, ?_⟩
              have et := take_sn hm
              refine ite2 (fun c5 => ?_) (fun c5 => ?_)
              · have i0 : i = 0 := by
                  have z := V.int.inj (of_decide_eq_true c5)
                  omega
                refine ⟨_, rfl, _, _, _, rfl, sT, .inr ⟨Nat.succ_pos _, m, rfl, ?_⟩⟩
                rw [et, i0, List.take_zero]
                exact bestZ_one z m
              · have i0 : i ≠ 0 := fun e => c5 (by rw [e]; rfl)
                rcases bb with ⟨e, _⟩ | ⟨_, m0, rfl, bz⟩
                · exact absurd e i0
                have hm0 : markD (.int m0) = true := by
                  have := hn m0 (List.mem_of_mem_take bz.1)
                  show (decide (1 ≤ m0) && decide (m0 ≤ 1000000)) = true
                  rw [decide_eq_true this.1, decide_eq_true this.2]
                  rfl
                have hmm : markD (.int m) = true := by
                  have := hn m (List.mem_of_getElem? hm)
                  show (decide (1 ≤ m) && decide (m ≤ 1000000)) = true
                  rw [decide_eq_true this.1, decide_eq_true this.2]
                  rfl
                refine ⟨_, rfl, _, rfl, _, rfl, Z, _, _, _, .int m, .int m0, .str z, rfl, .int m, .int m0, .str z, ⟨rfl, rfl, s3⟩, fun _ _ _ i' j' z' e1 e2 e3 => ?_, fun n => ?_, fun _ _ n => ?_⟩
                · cases e1
                  cases e2
                  cases e3
                  intro p4 H4 s4 hp4 he4
                  refine ⟨p4, _, 1, _, rfl, rfl, SqT.of he4, i1, _, rfl, ?_⟩
                  refine ite2 (fun c6 => ?_) (fun c6 => ?_)
                  · refine ⟨_, rfl, _, _, _, rfl, sT.trans s4, .inr ⟨Nat.succ_pos _, m, rfl, ?_⟩⟩
                    rw [et]
                    exact bestZ_yes bz c6
                  · refine ⟨_, _, _, rfl, sT.trans s4, .inr ⟨Nat.succ_pos _, m0, rfl, ?_⟩⟩
                    rw [et]
                    exact bestZ_no bz (by simpa using c6)
                · rw [hmm, hm0] at n
                  cases n
                · rw [m3] at n
                  cases n
            · rintro σ H2 ⟨b, v3, v5, rfl, sm, bb⟩
              refine ⟨_, rfl, ts, ?_⟩
              rw [List.length_map] at bb
              rcases bb with ⟨e, rfl⟩ | ⟨_, m0, rfl, bz⟩
              · exact (q0 (List.length_eq_zero_iff.mp e)).fin (kc.trans sm)
              · rw [List.take_length] at bz
                exact (q1 m0 bz).fin (kc.trans sm)
          | _ => exact iteT ⟨ts, (now m1 rfl).fin kb⟩
      | _ =>
        refine ⟨_, PSs.nox (pss_cons (ps_if (PW.pt (pw_or (pt_not (pt_val (pe_callB call_isiT rfl T.isi boot_isinstance (pa_cons (pv 0) (pa_cons (pe_tup (pa_cons (pe_bltn rfl T.list_ (by decide +kernel) (v := .ty "list") rfl) (pa_cons (pe_bltn rfl T.tup_ (by decide +kernel) (v := .ty "tuple") rfl) pa_nil))) pa_nil)))))
            (pw_or1 (pt_cmpR (op_neD hu) (pe_lc (own := [("_law_one", 3)]) (g := gName 3) (tt := tNot (tB (tCall (spPred markD) [] E0 (tCons (tVar 3) tNil)))) rfl scDueS.nd (pi_list (pv 0)) (blkOk_by (N := nDueS) (sc := defScope sDueBest) (by decide +kernel)) (fun _ _ _ _ _ => pg_name (i := 3) scDueS.nd rfl (Or.inl rfl))
              (fun _ _ _ _ _ => pts_one (pt_not (pt_val (pe_call GS (hr.mono (by decide)) rfl gS FS.kp bS .nil pass0 (pa_cons (pv 3) pa_nil))))) (fun _ _ _ _ _ => pv 3)) (pe_lst pa_nil) (nomark _))))) (pss_one (ps_ret (pe_tup (pa_cons pe_str (pa_cons pe_str pa_nil))))) pss_nil)
          (pss_cons (ps_if (PW.pt (pw_or (pt_not (pt_val (pe_callB call_isi rfl T.isi boot_isinstance (pa_cons (pv 1) (pa_cons (pe_bltn rfl T.str_ (by decide +kernel) (v := .ty "str") rfl) pa_nil))))) (pw_or1 (pt_cmpR op_notIn_seq (pv 1) (pe_tup (pa_cons pe_str (pa_cons pe_str pa_nil))) rfl)))) (pss_one (ps_ret (pe_tup (pa_cons pe_str (pa_cons pe_str pa_nil))))) pss_nil)
          (pss_cons (ps_set (i := 4) scDueS.nd rfl (.inl rfl) (pv 2))
          (pss_cons (ps_for PassesOwn.never rfl (pi_enum rfl T.enu_ (pa_cons (pv 0) pa_nil)) (pg_tup rfl (pgs_cons (pg_name (i := 5) scDueS.nd rfl (Or.inl rfl)) (pgs_cons (pg_name (i := 3) scDueS.nd rfl (Or.inl rfl)) pgs_nil)))
            (pss_one (ps_if (PW.pt (pw_or (pt_cmpR op_eq (pv 5) pe_int (nomark _)) (pw_or1 (pt_val (pe_ix ix_tup (pe_call GD hr rfl gD FD.kp bD .nil pass0 (pa_cons (pv 3) (pa_cons (pv 4) (pa_cons (pv 1) pa_nil)))) pe_int (fun _ _ => rfl)))))) (pss_one (ps_set (i := 4) scDueS.nd rfl (.inl rfl) (pv 3))) pss_nil)))
          (pss_one (ps_ret (pe_tup (pa_cons pe_str (pa_cons (pv 4) pa_nil))))))))), ?_⟩
        refine ⟨_, rfl, ts, fun t ht => ?_⟩
        have k1 := up2 (o := .tup [.ty "list", .ty "tuple"]) ht
        obtain ⟨n, ty⟩ := (Da.keep (Keeps.of k1) _ _ hx).ty (K := K)
        refine ⟨_, t, _, _, _, _, rfl, upd_same, .cons (.ty "list") (.cons (.ty "tuple") .nil), ty.ty, kit2 ty, _, rfl, ?_⟩
        exact iteT ⟨ts, (nom rfl).fin k1⟩
end
end K1
set_option Elab.async false
set_option linter.all false
set_option maxRecDepth 100000
set_option maxHeartbeats 4000000
namespace K1
open PySem PySem.Spec PyProof.Rows L2 Bb
/-! texts that are short; things that can be shown -/
def okS (z : Str) : Prop := z.length ≤ 10 ∧ PyData.canLay0 (.str z) = true
theorem okS.sm {z : Str} (h : okS z) : Sm (.str z) := by
  refine Sm.str ?_
  have h2 : z.cps.all (· < 0x110000) = true := h.2
  have := PySem.StrLaws.reprText_len z fun c hc => by
    rw [Array.all_eq_true_iff_forall_mem] at h2
    have z2 := h2 c (by simpa using hc)
    have z3 := of_decide_eq_true z2
    exact Nat.lt_of_lt_of_le z3 (by decide)
  have := h.1
  omega
theorem okS.sh {z : Str} (h : okS z) : shortD (.str z) = true := by
  show (decide (z.length ≤ 1000) && PyData.canLay0 (.str z)) = true
  rw [h.2, decide_eq_true (show z.length ≤ 1000 from Nat.le_trans h.1 (by decide))]
  rfl
theorem okS_name {z : Str} (h : nameZ z = true) : okS z := by
  unfold nameZ at h
  rw [Bool.and_eq_true] at h
  have h1 := of_decide_eq_true h.1
  refine ⟨by omega, ?_⟩
  show z.cps.all (· < 0x110000) = true
  rw [Array.all_eq_true_iff_forall_mem]
  intro c hc
  have h2 := List.all_eq_true.mp h.2 c (by simpa using hc)
  have h3 : c ∈ letters.cps.toList := of_decide_eq_true h2
  have h4 : (letters.cps.toList.all fun c => decide (c < 0x110000)) = true := by decide +kernel
  exact List.all_eq_true.mp h4 c h3
theorem okS_sign {c : Nat} (h : c < 0x110000) : okS ⟨#[c]⟩ := by
  refine ⟨?_, ?_⟩
  · show (1 : Nat) ≤ 10
    decide
  · show (#[c] : Array Nat).all (· < 0x110000) = true
    simp [h]
theorem okS_app {a b : Str} (h : okS a) (g : okS b) (l : a.length + b.length ≤ 10) : okS (a ++ b) := by
  refine ⟨by rw [strLen_append]; exact l, ?_⟩
  have h2 : a.cps.all (· < 0x110000) = true := h.2
  have g2 : b.cps.all (· < 0x110000) = true := g.2
  show (a.cps ++ b.cps).all (· < 0x110000) = true
  rw [Array.all_append, h2, g2]
  rfl
structure Shw (d : PyData) : Prop where
  nl : d.hasDict = true → noList d = true
  sh : d.showable = true
  dp : d.depth ≤ 60
  ln : d.shown.length ≤ sizeLine
theorem sm_shw {d : PyData} (s : Sm d) : Shw d := ⟨s.nl, s.sh, by have := s.dp; omega, by have := s.ln; have := sizeLine_eq; omega⟩
theorem all_shw : ∀ {ds : List PyData}, (∀ d ∈ ds, Sm d) → PyData.showableAll ds = true ∧ PyData.depthAll ds ≤ 4 ∧ piled (PyData.shownAll ds) ≤ 202 * ds.length
  | [], _ => ⟨rfl, Nat.zero_le _, Nat.le_refl _⟩
  | d :: ds, h => by
    obtain ⟨h1, h2, h3⟩ := all_shw (ds := ds) fun x hx => h x (List.mem_cons_of_mem _ hx)
    have s := h d List.mem_cons_self
    refine ⟨?_, ?_, ?_⟩
    · show (d.showable && PyData.showableAll ds) = true
      rw [s.sh, h1]
      rfl
    · show max d.depth (PyData.depthAll ds) ≤ 4
      have := s.dp
      omega
    · show piled (d.shown :: PyData.shownAll ds) ≤ 202 * (d :: ds).length
      rw [piled_cons, List.length_cons]
      have := s.ln
      omega
theorem shw_tup {ds : List PyData} (h : ∀ d ∈ ds, Sm d) (l : ds.length ≤ 8) (one : PyData.hasDictAll ds = true → noLists ds = true) : Shw (.tuple ds) := by
  obtain ⟨h1, h2, h3⟩ := all_shw h
  refine ⟨one, h1, ?_, ?_⟩
  · show PyData.depthAll ds + 1 ≤ 60
    omega
  · have t := tupleText_le (PyData.shownAll ds)
    have sz := sizeLine_eq
    show (tupleText (PyData.shownAll ds)).length ≤ sizeLine
    omega
theorem shw_lst {ds : List PyData} (h : ∀ d ∈ ds, Sm d) (l : ds.length ≤ 8) (no : PyData.hasDictAll ds = false) : Shw (.list ds) := by
  obtain ⟨h1, h2, h3⟩ := all_shw h
  refine ⟨fun z => ?_, h1, ?_, ?_⟩
  · have z2 : PyData.hasDictAll ds = true := z
    rw [no] at z2
    cases z2
  · show PyData.depthAll ds + 1 ≤ 60
    omega
  · have t := listText_le (PyData.shownAll ds)
    have sz := sizeLine_eq
    show (listText (PyData.shownAll ds)).length ≤ sizeLine
    omega
def Odd (Z : Addr → Prop) (H : Hp) (v : V) : Prop := ∃ d, Da Z H v d ∧ Sm d ∧ shortD d = true
def Big (Z : Addr → Prop) (H : Hp) (v : V) : Prop := ∃ d, Da Z H v d ∧ Shw d ∧ shortD d = true
theorem Odd.big {Z : Addr → Prop} {H : Hp} {v : V} (o : Odd Z H v) : Big Z H v := by
  obtain ⟨d, a, s, t⟩ := o
  exact ⟨d, a, sm_shw s, t⟩
theorem Odd.keep {Z : Addr → Prop} {H H' : Hp} {v : V} (o : Odd Z H v) (k : Keeps Z H H') : Odd Z H' v := by
  obtain ⟨d, a, s, t⟩ := o
  exact ⟨d, Da.keep k _ _ a, s, t⟩
theorem Big.keep {Z : Addr → Prop} {H H' : Hp} {v : V} (o : Big Z H v) (k : Keeps Z H H') : Big Z H' v := by
  obtain ⟨d, a, s, t⟩ := o
  exact ⟨d, Da.keep k _ _ a, s, t⟩
theorem Odd.str {Z : Addr → Prop} {H : Hp} {z : Str} (h : okS z) : Odd Z H (.str z) := ⟨_, .str z, h.sm, h.sh⟩
theorem Odd.non {Z : Addr → Prop} {H : Hp} : Odd Z H .non := ⟨_, .non, Sm.non, rfl⟩
theorem Odd.bl {Z : Addr → Prop} {H : Hp} (b : Bool) : Odd Z H (.bl b) := ⟨_, .bl b, Sm.bl b, rfl⟩
theorem Odd.int {Z : Addr → Prop} {H : Hp} {i : Int} (h : i.natAbs < 10 ^ 40) : Odd Z H (.int i) := ⟨_, .int i, Sm.int h, rfl⟩
/-- at most one of the parts is odd -/
def Cl (d : PyData) : Prop := d.hasDict = false ∧ noList d = true
theorem cl_str (z : Str) : Cl (.str z) := ⟨rfl, rfl⟩
theorem cl_bl (b : Bool) : Cl (.bool b) := ⟨rfl, rfl⟩
theorem cl_int (i : Int) : Cl (.int i) := ⟨rfl, rfl⟩
theorem cls_all : ∀ {ds : List PyData}, (∀ d ∈ ds, Cl d) → PyData.hasDictAll ds = false ∧ noLists ds = true
  | [], _ => ⟨rfl, rfl⟩
  | d :: ds, h => by
    obtain ⟨h1, h2⟩ := cls_all (ds := ds) fun x hx => h x (List.mem_cons_of_mem _ hx)
    obtain ⟨c1, c2⟩ := h d List.mem_cons_self
    refine ⟨?_, ?_⟩
    · show (d.hasDict || PyData.hasDictAll ds) = false
      rw [c1, h1]
      rfl
    · show (noList d && noLists ds) = true
      rw [c2, h2]
      rfl
theorem hd_app : ∀ (a b : List PyData), PyData.hasDictAll (a ++ b) = (PyData.hasDictAll a || PyData.hasDictAll b) ∧ noLists (a ++ b) = (noLists a && noLists b)
  | [], b => ⟨rfl, rfl⟩
  | d :: a, b => by
    obtain ⟨h1, h2⟩ := hd_app a b
    refine ⟨?_, ?_⟩
    · show (d.hasDict || PyData.hasDictAll (a ++ b)) = ((d.hasDict || PyData.hasDictAll a) || PyData.hasDictAll b)
      rw [h1, Bool.or_assoc]
    · show (noList d && noLists (a ++ b)) = ((noList d && noLists a) && noLists b)
      rw [h2, Bool.and_assoc]
theorem one_odd {a b : List PyData} {d : PyData} (ha : ∀ x ∈ a, Cl x) (hb : ∀ x ∈ b, Cl x) (s : Sm d) : PyData.hasDictAll (a ++ d :: b) = true → noLists (a ++ d :: b) = true := by
  obtain ⟨a1, a2⟩ := cls_all ha
  obtain ⟨b1, b2⟩ := cls_all hb
  rw [(hd_app a (d :: b)).1, (hd_app a (d :: b)).2, a1, a2, Bool.false_or, Bool.true_and]
  show (d.hasDict || PyData.hasDictAll b) = true → (noList d && noLists b) = true
  rw [b1, b2, Bool.or_false, Bool.and_true]
  exact s.nl
theorem short_all : ∀ {ds : List PyData}, (∀ d ∈ ds, shortD d = true) → shortAll ds = true
  | [], _ => rfl
  | d :: ds, h => by
    show (shortD d && shortAll ds) = true
    rw [h d List.mem_cons_self, short_all fun x hx => h x (List.mem_cons_of_mem _ hx)]
    rfl
theorem short_tup {ds : List PyData} (h : ∀ d ∈ ds, shortD d = true) (l : ds.length ≤ 8) : shortD (.tuple ds) = true := by
  show (decide (ds.length ≤ 1000) && shortAll ds) = true
  rw [short_all h, decide_eq_true (show ds.length ≤ 1000 by omega)]
  rfl
theorem short_lst {ds : List PyData} (h : ∀ d ∈ ds, shortD d = true) (l : ds.length ≤ 8) : shortD (.list ds) = true := by
  show (decide (ds.length ≤ 1000) && shortAll ds) = true
  rw [short_all h, decide_eq_true (show ds.length ≤ 1000 by omega)]
  rfl
/-- a part that is no list, holds none and no dict -/
structure Part (Z : Addr → Prop) (H : Hp) (v : V) (d : PyData) : Prop where
  da : Da Z H v d
  sm : Sm d
  sh : shortD d = true
  cl : Cl d
theorem Part.str {Z : Addr → Prop} {H : Hp} {z : Str} (h : okS z) : Part Z H (.str z) (.str z) := ⟨.str z, h.sm, h.sh, cl_str z⟩
theorem Part.bl {Z : Addr → Prop} {H : Hp} (b : Bool) : Part Z H (.bl b) (.bool b) := ⟨.bl b, Sm.bl b, rfl, cl_bl b⟩
theorem Part.int {Z : Addr → Prop} {H : Hp} {i : Int} (h : i.natAbs < 10 ^ 40) : Part Z H (.int i) (.int i) := ⟨.int i, Sm.int h, rfl, cl_int i⟩
inductive Parts (Z : Addr → Prop) (H : Hp) : List V → List PyData → Prop
  | nil : Parts Z H [] []
  | cons {v : V} {d : PyData} {vs : List V} {ds : List PyData} : Part Z H v d → Parts Z H vs ds → Parts Z H (v :: vs) (d :: ds)
theorem Parts.all {Z : Addr → Prop} {H : Hp} {vs : List V} {ds : List PyData} (p : Parts Z H vs ds) : DaAll Z H vs ds ∧ (∀ d ∈ ds, Sm d) ∧ (∀ d ∈ ds, shortD d = true) ∧ (∀ d ∈ ds, Cl d) := by
  induction p with
  | nil => exact ⟨.nil, fun d h => (by cases h), fun d h => (by cases h), fun d h => (by cases h)⟩
  | cons a _ ih =>
    obtain ⟨h1, h2, h3, h4⟩ := ih
    refine ⟨.cons a.da h1, fun d h => ?_, fun d h => ?_, fun d h => ?_⟩
    · rcases List.mem_cons.mp h with rfl | h
      · exact a.sm
      · exact h2 d h
    · rcases List.mem_cons.mp h with rfl | h
      · exact a.sh
      · exact h3 d h
    · rcases List.mem_cons.mp h with rfl | h
      · exact a.cl
      · exact h4 d h
theorem DaAll.app2 {Z : Addr → Prop} {H : Hp} {vs us : List V} {ds es : List PyData} (h : DaAll Z H vs ds) (g : DaAll Z H us es) : DaAll Z H (vs ++ us) (ds ++ es) := h.app g
theorem big_tup {Z : Addr → Prop} {H : Hp} {t : Addr} {vs : List V} {ds : List PyData} (e : H t = some (.tup vs)) (nz : ¬ Z t) (p : Parts Z H vs ds) (l : ds.length ≤ 8) : Big Z H (.ref t) := by
  obtain ⟨h1, h2, h3, h4⟩ := p.all
  exact ⟨_, .tup e nz h1, shw_tup h2 l (fun _ => (cls_all h4).2), short_tup h3 l⟩
theorem big_lst {Z : Addr → Prop} {H : Hp} {t : Addr} {vs : List V} {ds : List PyData} (e : H t = some (.lst vs)) (nz : ¬ Z t) (p : Parts Z H vs ds) (l : ds.length ≤ 8) : Big Z H (.ref t) := by
  obtain ⟨h1, h2, h3, h4⟩ := p.all
  exact ⟨_, .lst e nz h1, shw_lst h2 l (cls_all h4).1, short_lst h3 l⟩
/-- one odd thing among the parts -/
theorem big_odd {Z : Addr → Prop} {H : Hp} {t : Addr} {v : V} {vs us : List V} {ds es : List PyData} (e : H t = some (.tup (vs ++ v :: us))) (nz : ¬ Z t) (p : Parts Z H vs ds) (o : Odd Z H v) (q : Parts Z H us es) (l : ds.length + es.length ≤ 7) : Big Z H (.ref t) := by
  obtain ⟨h1, h2, h3, h4⟩ := p.all
  obtain ⟨g1, g2, g3, g4⟩ := q.all
  obtain ⟨d, a, s, sh⟩ := o
  have ll : (ds ++ d :: es).length ≤ 8 := by
    rw [List.length_append, List.length_cons]
    omega
  refine ⟨.tuple (ds ++ d :: es), .tup e nz (h1.app (.cons a g1)), shw_tup (fun x hx => ?_) ll (one_odd h4 g4 s), short_tup (fun x hx => ?_) ll⟩
  · rcases List.mem_append.mp hx with z | z
    · exact h2 x z
    · rcases List.mem_cons.mp z with rfl | z
      · exact s
      · exact g2 x z
  · rcases List.mem_append.mp hx with z | z
    · exact h3 x z
    · rcases List.mem_cons.mp z with rfl | z
      · exact sh
      · exact g3 x z
end K1
set_option Elab.async false
set_option linter.all false
set_option maxRecDepth 100000
set_option maxHeartbeats 4000000
namespace K1
open PySem PySem.Spec PyProof.Rows L2 Bb
def spPickS : Sp := fun vs H Q _ => ∃ (p : Addr) (z : Str), vs = [.ref p, .str z] ∧ Pen H p ∧ (0 < z.length ∧ z.length ≤ 1000) ∧ ∀ c H', c ∈ z.cps.toList → Kp p H H' → Q (.str ⟨#[c]⟩) H'
def spName : Sp := fun vs H Q _ => ∃ p, vs = [.ref p] ∧ Pen H p ∧ ∀ z H', Kp p H H' → nameZ z = true → Q (.str z) H'
def spOddN : Sp := fun vs H Q _ => ∃ p, vs = [.ref p] ∧ Pen H p ∧ ∀ v H', Kp p H H' → Odd (Zp p) H' v → Q v H'
def spScore : Sp := fun vs H Q _ => ∃ p, vs = [.ref p] ∧ Pen H p ∧ ∀ i H', Kp p H H' → (1 ≤ i ∧ i ≤ 1000000) → Q (.int i) H'
theorem joinL_nil : ∀ l : List (List Nat), TL.joinL [] l = l.flatten
  | [] => rfl
  | [p] => by simp [TL.joinL]
  | p :: q :: r => by
    show p ++ ([] ++ TL.joinL [] (q :: r)) = _
    rw [joinL_nil (q :: r)]
    rfl
theorem Kp.of {p : Addr} {H H' : Hp} (h : Pen H p) (s : Same H H') : Kp p H H' := (Kp.refl h).same s
/-- what the law's makers want of the head -/
structure Mk1 (K : PySem.W.Frag) (mg : Str → Option Value) : Prop where
  hl : Hl K mg
  any : ∃ a d, Fn K "_law_anything" "_law_anything" sAny a d ∧ mg "_law_anything" = some (.ref a)
  odd : ∃ a d, Fn K "_law_odd" "_law_odd" sOdd a d ∧ mg "_law_odd" = some (.ref a)
  nam : ∃ a d, Fn K "_law_name" "_law_name" sName a d ∧ mg "_law_name" = some (.ref a)
  odn : ∃ a d, Fn K "_law_odd_name" "_law_odd_name" sOddName a d ∧ mg "_law_odd_name" = some (.ref a)
  sco : ∃ a d, Fn K "_law_score" "_law_score" sScore a d ∧ mg "_law_score" = some (.ref a)
section
variable {P : Program} {w : World} {K : PySem.W.Frag} {mg : Str → Option Value} {base : Heap} {f : Addr} {fd : FuncData}
theorem ok_pickS {fD : Addr} {fdD : FuncData} (F : Fn K "_law_pick" "_law_pick" sPick f fd) (FD : Fn K "_law_draw" "_law_draw" sDraw fD fdD) (gD : mg "_law_draw" = some (.ref fD)) (T : Free mg) : FnOk P w K mg base L2.CX0 2 f fd ["_law_pen_here", "_law_things"] spPickS := by
  have GD : FnOk P w K mg base L2.CX0 1 fD fdD ["_law_pen_here", "_law_many"] spDraw := ok_draw FD
  have bD : Binds K fdD ["_law_pen_here", "_law_many"] [] := FD.bindsN fun _ _ _ _ _ _ us hl => match us, hl with | [_, _], _ => rfl
  refine F.ok scPick (fun vs H Q E h => ?_) (fun cdv A outer s H vs Q E hr hh => ?_)
  · obtain ⟨p, z, rfl, _⟩ := h
    rfl
  · obtain ⟨p, z, rfl, hp, hl, q⟩ := hh
    refine ⟨_, PSs.nox (pss_one (ps_ret (pe_item_str (pv 1) (pe_call GD hr rfl gD FD.kp bD .nil pass0 (pa_cons (pv 0) (pa_cons (pe_callB call_len_str rfl T.len_ boot_len (pa_cons (pv 1) pa_nil)) pa_nil))) (fun _ _ => rfl)))), ?_⟩
    refine ⟨_, rfl, _, rfl, _, rfl, z, rfl, Nat.le_of_lt (small1000 (by omega)), p, _, rfl, hp, ⟨by omega, by omega⟩, fun r H' r0 r1 kp => ?_⟩
    have e := strlen z
    have hlt : r.toNat < z.cps.toList.length := by omega
    have hc : z.cps[r.toNat]? = some (z.cps.toList[r.toNat]) := by
      rw [← Array.getElem?_toList]
      exact List.getElem?_eq_getElem hlt
    exact ⟨z, r, _, rfl, rfl, r0, by omega, by omega, hc, q _ _ (List.getElem_mem _) kp⟩
theorem Hl.pkS (h : Hl K mg) : ∃ a d, FnOk P w K mg base L2.CX0 2 a d ["_law_pen_here", "_law_things"] spPickS ∧ mg "_law_pick" = some (.ref a) ∧ PySem.W.keepIn K (.ref a) = true ∧ Binds K d ["_law_pen_here", "_law_things"] [] := by
  obtain ⟨a1, d1, F1, g1⟩ := h.draw
  obtain ⟨a, d, F, g⟩ := h.pick
  exact ⟨a, d, ok_pickS F F1 g1 h.fr, g, F.kp, F.bindsN fun _ _ _ _ _ _ us hl => match us, hl with | [_, _], _ => rfl⟩
abbrev nName : List Str := ["_law_pen_here", "_law_letters", "_law_drawn", "_law_turn"]
theorem scName : FnScope nName ["_law_pen_here"] (defScope sName) := ⟨rfl, rfl, rfl, by decide +kernel, rfl, by decide +kernel, by decide +kernel⟩
theorem ok_name (F : Fn K "_law_name" "_law_name" sName f fd) (h : Hl K mg) : FnOk P w K mg base L2.CX0 3 f fd ["_law_pen_here"] spName := by
  obtain ⟨aP, dP, GP, gP, kP, bP⟩ := h.pk (P := P) (w := w) (base := base)
  obtain ⟨aS, dS, GS, gS, kS, bS⟩ := h.pkS (P := P) (w := w) (base := base)
  obtain ⟨aD, dD, GD, gD, kD, bD⟩ := h.dr (P := P) (w := w) (base := base)
  refine F.ok scName (fun vs H Q E h => ?_) (fun cdv A outer s H vs Q E hr hh => ?_)
  · obtain ⟨p, rfl, _⟩ := h
    rfl
  · obtain ⟨p, rfl, hp, q⟩ := hh
    have hr1 : Room 1 _ := hr.mono (by decide)
    refine ⟨_, PSs.nox (pss_cons (ps_set (i := 1) scName.nd rfl (.inr rfl) pe_str)
      (pss_cons (ps_set (i := 2) scName.nd rfl (.inl rfl) (pe_join pe_str (pe_lc (own := [("_law_turn", 3)]) (g := gName 3) (tt := tYes) rfl scName.nd (pi_range1 rfl h.fr.rng_ (pa_cons (pe_op op_add pe_int (pe_call GD hr1 rfl gD kD bD .nil pass0 (pa_cons (pv 0) (pa_cons pe_int pa_nil)))) pa_nil)) (blkOk_by (N := nName) (sc := defScope sName) (by decide +kernel)) (fun _ _ _ _ _ => pg_name (i := 3) scName.nd rfl (Or.inl rfl)) (fun _ _ _ _ _ => pts_nil)
        (fun _ _ _ _ _ => pe_call GS hr rfl gS kS bS .nil pass0 (pa_cons (pv 0) (pa_cons (pv 1) pa_nil))))))
      (pss_one (ps_ret (pe_call GP hr rfl gP kP bP .nil pass0 (pa_cons (pv 0) (pa_cons (pe_lst (pa_cons pe_str (pa_cons pe_str (pa_cons pe_str (pa_cons pe_str (pa_cons pe_str (pa_cons pe_str (pa_cons (pv 2) pa_nil)))))))) pa_nil))))))), ?_⟩
    refine ⟨⟨_, rfl⟩, _, rfl, p, 8, rfl, hp, ⟨by decide, by decide⟩, fun r H1 r0 r1 kp1 => ?_⟩
    refine ⟨_, _, rfl, rfl, 1 + r, rfl, by omega, by omega, fun D hD => ?_⟩
    have hn : ((1 + r) - 0).toNat = (1 + r).toNat := by rw [Int.sub_zero]
    refine lc_range (lo := 0) (n := (1 + r).toNat) (fun i H' => Kp p H1 H' ∧ ∃ cs : List Nat, H' D = some (.lst (sV cs)) ∧ cs.length = i ∧ ∀ c ∈ cs, c ∈ letters.cps.toList)
      ⟨Kp.of kp1.pen (up2 hD), [], upd_same, rfl, fun c hc => by cases hc⟩ ?_ ?_
    · rintro i H' hi ⟨kp, cs, hl, hlen, hin⟩
      refine ⟨rfl, ?_⟩
      unfold tYes
      dsimp only
      rw [if_pos rfl]
      refine ⟨_, rfl, _, rfl, p, letters, rfl, kp.pen, ⟨by decide +kernel, by decide +kernel⟩, fun c H2 hc kp2 => ?_⟩
      have nD : D ≠ p := by
        rintro rfl
        exact pen_old kp1.pen hD
      refine ⟨_, kp2.keep _ _ hl nD, small1000 ?_, ?_, cs ++ [c], ?_, by simp [hlen], fun x hx => ?_⟩
      · unfold sV
        rw [List.length_map]
        omega
      · refine ⟨fun b o e n => ?_, ?_⟩
        · rw [upd_ne (ne_of_none e hD)]
          exact (kp.trans kp2).keep b o e n
        · obtain ⟨x, y, e⟩ := kp2.pen
          exact ⟨x, y, by rw [upd_ne (Ne.symm nD)]; exact e⟩
      · rw [upd_same]
        unfold sV
        rw [List.map_append]
        rfl
      · rcases List.mem_append.mp hx with z | z
        · exact hin x z
        · rw [List.mem_singleton.mp z]
          exact hc
    · rintro H2 ⟨kp2, cs, hl, hlen, hin⟩
      have es : sV cs = (cs.map fun c => (⟨#[c]⟩ : Str)).map V.str := by
        unfold sV
        rw [List.map_map]
        rfl
      have lens : ((cs.map fun c => (⟨#[c]⟩ : Str)).map (·.length)).sum = cs.length := by
        have gen : ∀ l : List Nat, ((l.map fun c => (⟨#[c]⟩ : Str)).map (·.length)).sum = l.length := by
          intro l
          induction l with
          | nil => rfl
          | cons a l ih =>
            rw [List.map_cons, List.map_cons, List.sum_cons, ih, List.length_cons]
            show 1 + l.length = l.length + 1
            omega
        exact gen cs
      refine ⟨_, D, cs.map fun c => (⟨#[c]⟩ : Str), rfl, rfl, .inl (SqL.of (by rw [← es]; exact hl)), ?_, ?_⟩
      · rw [lens, List.length_map, hlen]
        have e0 : (("" : String) : Str).length = 0 := by decide +kernel
        rw [e0]
        omega
      · obtain ⟨z, ez⟩ : ∃ z, z = Txt.join (Str.ofString "") (cs.map fun c => (⟨#[c]⟩ : Str)) := ⟨_, rfl⟩
        have ezl : z.cps.toList = cs := by
          rw [ez, TL.join_eq]
          have t := TL.tl_join (Str.ofString "") (cs.map fun c => (⟨#[c]⟩ : Str))
          have t2 : (Str.join (Str.ofString "") (cs.map fun c => (⟨#[c]⟩ : Str))).cps.toList = TL.joinL [] ((cs.map fun c => (⟨#[c]⟩ : Str)).map TL.tl) := t
          rw [t2, joinL_nil, List.map_map]
          have gen : ∀ l : List Nat, (l.map (TL.tl ∘ fun c => (⟨#[c]⟩ : Str))).flatten = l := by
            intro l
            induction l with
            | nil => rfl
            | cons a l ih =>
              rw [List.map_cons, List.flatten_cons, ih]
              rfl
          exact gen cs
        have nz : nameZ z = true := by
          unfold nameZ
          rw [strlen z, ezl, hlen, Bool.and_eq_true]
          refine ⟨decide_eq_true (by omega), ?_⟩
          rw [List.all_eq_true]
          exact fun c hc => decide_eq_true (hin c hc)
        rw [← ez]
        refine ⟨_, rfl, _, rfl, (by show 7 ≤ sizeLine; decide), fun L hL => ?_⟩
        have s3 := up2 (o := .lst [.str "ann", .str "bo", .str "ann", .str "cy", .str "zzzzzzzz", .str "a", .str z]) hL
        have k3 : Kp p H _ := (kp1.trans kp2).same s3
        refine ⟨p, L, _, rfl, pen_same kp2.pen s3, upd_same, pen_ne (pen_same kp2.pen s3) upd_same (fun x f z => by injection z with z; injection z with z _; cases z), ⟨(by show 0 < 7; decide), (by show 7 ≤ 1000; decide)⟩, fun v H4 hv kp4 => ?_⟩
        have k4 := k3.trans kp4
        simp only [List.mem_cons, List.not_mem_nil, or_false] at hv
        rcases hv with rfl | rfl | rfl | rfl | rfl | rfl | rfl
        · exact q _ _ k4 (by decide +kernel)
        · exact q _ _ k4 (by decide +kernel)
        · exact q _ _ k4 (by decide +kernel)
        · exact q _ _ k4 (by decide +kernel)
        · exact q _ _ k4 (by decide +kernel)
        · exact q _ _ k4 (by decide +kernel)
        · exact q _ _ k4 nz
theorem scScore : FnScope ["_law_pen_here"] ["_law_pen_here"] (defScope sScore) := ⟨rfl, rfl, rfl, by decide +kernel, rfl, by decide +kernel, by decide +kernel⟩
theorem ok_score (F : Fn K "_law_score" "_law_score" sScore f fd) (h : Hl K mg) : FnOk P w K mg base L2.CX0 3 f fd ["_law_pen_here"] spScore := by
  obtain ⟨aP, dP, GP, gP, kP, bP⟩ := h.pk (P := P) (w := w) (base := base)
  obtain ⟨aD, dD, GD, gD, kD, bD⟩ := h.dr (P := P) (w := w) (base := base)
  refine F.ok scScore (fun vs H Q E h => ?_) (fun cdv A outer s H vs Q E hr hh => ?_)
  · obtain ⟨p, rfl, _⟩ := h
    rfl
  · obtain ⟨p, rfl, hp, q⟩ := hh
    have hr1 : Room 1 _ := hr.mono (by decide)
    refine ⟨_, PSs.nox (pss_one (ps_ret (pe_call GP hr rfl gP kP bP .nil pass0 (pa_cons (pv 0) (pa_cons (pe_lst (pa_cons pe_int (pa_cons (pe_op op_pow pe_int pe_int) (pa_cons pe_int (pa_cons (pe_op op_add pe_int (pe_call GD hr1 rfl gD kD bD .nil pass0 (pa_cons (pv 0) (pa_cons pe_int pa_nil)))) (pa_cons (pe_op op_add pe_int (pe_call GD hr1 rfl gD kD bD .nil pass0 (pa_cons (pv 0) (pa_cons (pe_op op_pow pe_int pe_int) pa_nil)))) pa_nil)))))) pa_nil))))), ?_⟩
    refine ⟨_, rfl, 10, 6, rfl, rfl, ⟨by decide, by decide, by decide⟩, _, rfl, p, 9, rfl, hp, ⟨by decide, by decide⟩, fun a H1 a0 a1 kp1 => ?_⟩
    refine ⟨_, _, rfl, rfl, _, rfl, 10, 6, rfl, rfl, ⟨by decide, by decide, by decide⟩, p, _, rfl, kp1.pen, ⟨by decide, by decide⟩, fun b H2 b0 b1 kp2 => ?_⟩
    refine ⟨_, _, rfl, rfl, (by show 5 ≤ sizeLine; decide), fun L hL => ?_⟩
    have s3 := up2 (o := .lst [.int 1, .int (10 ^ (6 : Int).toNat), .int 5, .int (1 + a), .int (1 + b)]) hL
    refine ⟨p, L, _, rfl, pen_same kp2.pen s3, upd_same, pen_ne (pen_same kp2.pen s3) upd_same (fun x f z => by injection z with z; injection z with _ z; injection z with _ z; cases z), ⟨(by show 0 < 5; decide), (by show 5 ≤ 1000; decide)⟩, fun v H4 hv kp4 => ?_⟩
    have k4 := ((kp1.trans kp2).same s3).trans kp4
    have b2 : b < 1000000 := b1
    simp only [List.mem_cons, List.not_mem_nil, or_false] at hv
    rcases hv with rfl | rfl | rfl | rfl | rfl
    · exact q _ _ k4 (by decide)
    · exact q _ _ k4 (by decide)
    · exact q _ _ k4 (by decide)
    · exact q _ _ k4 (by omega)
    · exact q _ _ k4 (by omega)
end
end K1
set_option Elab.async false
set_option linter.all false
set_option maxRecDepth 100000
set_option maxHeartbeats 4000000
namespace K1
open PySem PySem.Spec PyProof.Rows L2 Bb
abbrev signs : Str := " !\"#$&'()*+,-./0123456789:;<=>?@ABCDEFGHIJKLMNOPQRSTUVWXYZ[\\]^_`{|}~\t\n"
theorem signs_ok {c : Nat} (h : c ∈ signs.cps.toList) : c < 0x110000 := by
  have h4 : (signs.cps.toList.all fun c => decide (c < 0x110000)) = true := by decide +kernel
  exact of_decide_eq_true (List.all_eq_true.mp h4 c h)
theorem da_zp {p : Addr} {H H' : Hp} {v : V} {d : PyData} (hp : Pen H p) (h : Da (Old H) H' v d) : Da (Zp p) H' v d := Da.zed (fun b o _ n e => n (by rw [e]; exact pen_old hp)) _ _ h
def spOddZ : Sp := fun vs H Q _ => ∃ p, vs = [.ref p] ∧ Pen H p ∧ ∀ v d H', Kp p H H' → Da (Zp p) H' v d → Sm d → shortD d = true → layD d = true → Q v H'
section
variable {P : Program} {w : World} {K : PySem.W.Frag} {mg : Str → Option Value} {base : Heap} {f : Addr} {fd : FuncData}
theorem scOddName : FnScope ["_law_pen_here", "_law_sign", "_law_some"] ["_law_pen_here"] (defScope sOddName) := ⟨rfl, rfl, rfl, by decide +kernel, rfl, by decide +kernel, by decide +kernel⟩
theorem ok_oddname (F : Fn K "_law_odd_name" "_law_odd_name" sOddName f fd) (m : Mk1 K mg) : FnOk P w K mg base L2.CX0 4 f fd ["_law_pen_here"] spOddN := by
  have h := m.hl
  obtain ⟨aP, dP, GP, gP, kP, bP⟩ := h.pk (P := P) (w := w) (base := base)
  obtain ⟨aS, dS, GS, gS, kS, bS⟩ := h.pkS (P := P) (w := w) (base := base)
  obtain ⟨aA, dA, FA, gA⟩ := m.any
  have GA : FnOk P w K mg base L2.CX0 3 aA dA ["_law_pen_here"] spThingD := ok_any FA h
  have bA : Binds K dA ["_law_pen_here"] [] := FA.bindsN fun _ _ _ _ _ _ us hl => match us, hl with | [_], _ => rfl
  have os : 1 ≤ sizeLine := by decide
  refine F.ok scOddName (fun vs H Q E h => ?_) (fun cdv A outer s H vs Q E hr hh => ?_)
  · obtain ⟨p, rfl, _⟩ := h
    rfl
  · obtain ⟨p, rfl, hp, q⟩ := hh
    have hr2 : Room 2 _ := hr.mono (by decide)
    refine ⟨_, PSs.nox (pss_cons (ps_set (i := 1) scOddName.nd rfl (.inl rfl) (pe_call GS hr2 rfl gS kS bS .nil pass0 (pa_cons (pv 0) (pa_cons pe_str pa_nil))))
      (pss_cons (ps_set (i := 2) scOddName.nd rfl (.inl rfl) (pe_lst (pa_cons pe_str (pa_cons pe_str (pa_cons pe_str (pa_cons pe_str (pa_cons pe_str (pa_cons pe_str (pa_cons (pv 1) (pa_cons (pe_op op_add_str pe_str (pv 1)) (pa_cons (pe_op op_add_str (pv 1) pe_str) (pa_cons pe_int (pa_cons pe_non (pa_cons pe_bl (pa_cons (pe_tup (pa_cons pe_str pa_nil)) pa_nil)))))))))))))))
      (pss_one (ps_ret (pe_call GP hr2 rfl gP kP bP .nil pass0 (pa_cons (pv 0) (pa_cons (pe_op op_cat (pv 2) (pe_lst (pa_cons (pe_lst (pa_cons pe_str pa_nil)) (pa_cons (pe_call GA hr rfl gA FA.kp bA .nil pass0 (pa_cons (pv 0) pa_nil)) pa_nil)))) pa_nil))))))), ?_⟩
    refine ⟨_, rfl, p, signs, rfl, hp, ⟨by decide +kernel, by decide +kernel⟩, fun c H1 hc kp1 => ?_⟩
    have cl := signs_ok hc
    have hp1 := kp1.pen
    have m1 : (⟨#[c]⟩ : Str).length = 1 := rfl
    have m2 : (Str.ofString "an").length = 2 := by decide +kernel
    have m3 : (Str.ofString "n").length = 1 := by decide +kernel
    refine ⟨_, rfl, _, rfl, _, _, rfl, rfl, (by rw [m1, m2]; decide), _, rfl, _, _, rfl, rfl, (by rw [m1, m3]; decide), os, fun t1 h1 => ⟨(by show 13 ≤ sizeLine; decide), fun L1 hL1 => ?_⟩⟩
    have c1 := up2 (o := .tup [.str "ann"]) h1
    obtain ⟨xs, exs⟩ : ∃ xs : List V, xs = [.str "", .str "zzzzzzzzz", .str "zzzzzzzz", .str "a", .str "Ann", .str "ann ", .str ⟨#[c]⟩, .str (Str.ofString "an" ++ ⟨#[c]⟩), .str (⟨#[c]⟩ ++ Str.ofString "n"), .int 7, .non, .bl true, .ref t1] := ⟨_, rfl⟩
    have lx : xs.length = 13 := by rw [exs]; rfl
    have c2 := up2 (o := .lst [.str "", .str "zzzzzzzzz", .str "zzzzzzzz", .str "a", .str "Ann", .str "ann ", .str ⟨#[c]⟩, .str (Str.ofString "an" ++ ⟨#[c]⟩), .str (⟨#[c]⟩ ++ Str.ofString "n"), .int 7, .non, .bl true, .ref t1]) hL1
    rw [← exs] at c2 ⊢
    refine ⟨_, rfl, _, rfl, os, fun l2 hl2 => ?_⟩
    have c3 := up2 (o := .lst [.str "ann"]) hl2
    have c123 := (c1.trans c2).trans c3
    have hp3 := pen_same hp1 c123
    refine ⟨_, rfl, p, rfl, hp3, fun v d H5 kp5 hv sm sh ly => ?_⟩
    have hv5 := da_zp hp3 hv
    have nt1 : t1 ≠ p := fun z => by rw [z] at h1; exact pen_old hp1 h1
    have nL1 : L1 ≠ p := fun z => by rw [z] at hL1; exact pen_old (pen_same hp1 c1) hL1
    have nl2 : l2 ≠ p := fun z => by rw [z] at hl2; exact pen_old (pen_same hp1 (c1.trans c2)) hl2
    have et1 := kp5.keep _ _ ((c2.trans c3) _ _ (upd_same (H := H1) (a := t1) (o := .tup [.str "ann"]))) nt1
    have eL1 := kp5.keep _ _ (c3 _ _ upd_same) nL1
    have el2 := kp5.keep _ _ upd_same nl2
    refine ⟨(by show 2 ≤ sizeLine; decide), fun L3 hL3 => ?_⟩
    have c6 := up2 (o := .lst [.ref l2, v]) hL3
    refine ⟨L1, L3, _, _, rfl, rfl, c6 _ _ eL1, upd_same, (by rw [lx]; show 13 + 2 ≤ sizeLine; decide), fun L4 hL4 => ?_⟩
    have c7 := up2 (o := .lst (xs ++ [.ref l2, v])) hL4
    have c67 := c6.trans c7
    have hp7 := pen_same kp5.pen c67
    have nL4 : L4 ≠ p := fun z => by rw [z] at hL4; exact pen_old (pen_same kp5.pen c6) hL4
    refine ⟨p, L4, _, rfl, hp7, upd_same, nL4, ⟨by rw [List.length_append, lx]; show 0 < 13 + 2; decide, by rw [List.length_append, lx]; show 13 + 2 ≤ 1000; decide⟩, fun u H8 hu kp8 => ?_⟩
    have kk : Kp p H H8 := (((kp1.same c123).trans kp5).same c67).trans kp8
    have ke : Keeps (Zp p) H5 H8 := ((Kp.of kp5.pen c67).trans kp8).keeps
    have fin : Odd (Zp p) H5 u → Q u H8 := fun o => q u H8 kk (o.keep ke)
    rcases List.mem_append.mp hu with z | z
    · rw [exs] at z
      simp only [List.mem_cons, List.not_mem_nil, or_false] at z
      rcases z with rfl | rfl | rfl | rfl | rfl | rfl | rfl | rfl | rfl | rfl | rfl | rfl | rfl
      · exact fin (Odd.str (by constructor <;> decide +kernel))
      · exact fin (Odd.str (by constructor <;> decide +kernel))
      · exact fin (Odd.str (by constructor <;> decide +kernel))
      · exact fin (Odd.str (by constructor <;> decide +kernel))
      · exact fin (Odd.str (by constructor <;> decide +kernel))
      · exact fin (Odd.str (by constructor <;> decide +kernel))
      · exact fin (Odd.str (okS_sign cl))
      · exact fin (Odd.str (okS_app (by constructor <;> decide +kernel) (okS_sign cl) (by rw [m1, m2]; decide)))
      · exact fin (Odd.str (okS_app (okS_sign cl) (by constructor <;> decide +kernel) (by rw [m1, m3]; decide)))
      · exact fin (Odd.int (by decide +kernel))
      · exact fin Odd.non
      · exact fin (Odd.bl _)
      · exact fin ⟨_, .tup et1 nt1 (.cons (.str _) .nil), by exact ⟨by decide +kernel, by decide +kernel, by decide +kernel, by decide +kernel, fun ds e => by first | (cases e; done) | (cases e; decide +kernel)⟩, by decide +kernel⟩
    · simp only [List.mem_cons, List.not_mem_nil, or_false] at z
      rcases z with rfl | rfl
      · exact fin ⟨_, .lst el2 nl2 (.cons (.str _) .nil), by exact ⟨by decide +kernel, by decide +kernel, by decide +kernel, by decide +kernel, fun ds e => by first | (cases e; done) | (cases e; decide +kernel)⟩, by decide +kernel⟩
      · exact fin ⟨d, hv5, sm, sh⟩
end
end K1
set_option Elab.async false
set_option linter.all false
set_option maxRecDepth 100000
set_option maxHeartbeats 4000000
namespace K1
open PySem PySem.Spec PyProof.Rows L2 Bb
def spEvents : Sp := fun vs H Q _ => ∃ p, vs = [.ref p] ∧ Pen H p ∧ ∀ L xs H', Kp p H H' → H' L = some (.lst xs) → L ≠ p → xs.length ≤ 20 → (∀ v ∈ xs, Big (Zp p) H' v) → Q (.ref L) H'
theorem ne_pen {H : Hp} {p t : Addr} (hp : Pen H p) (h : H t = none) : t ≠ p := fun z => by
  rw [z] at h
  exact pen_old hp h
section
variable {P : Program} {w : World} {K : PySem.W.Frag} {mg : Str → Option Value} {base : Heap} {f : Addr} {fd : FuncData}
abbrev nEvents : List Str := ["_law_pen_here", "_law_name_here", "_law_first", "_law_windy", "_law_some", "_law_odd_here"]
theorem scEvents : FnScope nEvents ["_law_pen_here"] (defScope sEvents) := ⟨rfl, rfl, rfl, by decide +kernel, rfl, by decide +kernel, by decide +kernel⟩
theorem ok_events (F : Fn K "_law_events" "_law_events" sEvents f fd) (m : Mk1 K mg) : FnOk P w K mg base L2.CX0 5 f fd ["_law_pen_here"] spEvents := by
  have h := m.hl
  obtain ⟨aP, dP, GP, gP, kP, bP⟩ := h.pk (P := P) (w := w) (base := base)
  obtain ⟨aD, dD, GD, gD, kD, bD⟩ := h.dr (P := P) (w := w) (base := base)
  obtain ⟨aA, dA, FA, gA⟩ := m.any
  obtain ⟨aN, dN, FN, gN⟩ := m.nam
  obtain ⟨aO, dO, FO, gO⟩ := m.odn
  have GA : FnOk P w K mg base L2.CX0 3 aA dA ["_law_pen_here"] spThingD := ok_any FA h
  have bA : Binds K dA ["_law_pen_here"] [] := FA.bindsN fun _ _ _ _ _ _ us hl => match us, hl with | [_], _ => rfl
  have GN : FnOk P w K mg base L2.CX0 3 aN dN ["_law_pen_here"] spName := ok_name FN h
  have bN : Binds K dN ["_law_pen_here"] [] := FN.bindsN fun _ _ _ _ _ _ us hl => match us, hl with | [_], _ => rfl
  have GO : FnOk P w K mg base L2.CX0 4 aO dO ["_law_pen_here"] spOddN := ok_oddname FO m
  have bO : Binds K dO ["_law_pen_here"] [] := FO.bindsN fun _ _ _ _ _ _ us hl => match us, hl with | [_], _ => rfl
  have T := h.fr
  have zs : 0 ≤ sizeLine := Nat.zero_le _
  have s1 : 1 ≤ sizeLine := by decide
  have s2 : 2 ≤ sizeLine := by decide
  have s3 : 3 ≤ sizeLine := by decide
  have s4 : 4 ≤ sizeLine := by decide
  have s7 : 7 ≤ sizeLine := by decide
  refine F.ok scEvents (fun vs H Q E h => ?_) (fun cdv A outer s H vs Q E hr hh => ?_)
  · obtain ⟨p, rfl, _⟩ := h
    rfl
  · obtain ⟨p, rfl, hp, q⟩ := hh
    have hr1 : Room 1 _ := hr.mono (by decide)
    have hr2 : Room 2 _ := hr.mono (by decide)
    have hr3 : Room 3 _ := hr.mono (by decide)
    refine ⟨_, PSs.nox (pss_cons (ps_par3 (i := 1) (j := 2) (l := 3) rfl scEvents.nd rfl rfl rfl (by decide) (by decide) (by decide) rfl rfl rfl (pa_cons (pe_call GN hr3 rfl gN FN.kp bN .nil pass0 (pa_cons (pv 0) pa_nil)) (pa_cons (pe_call GP hr2 rfl gP kP bP .nil pass0 (pa_cons (pv 0) (pa_cons (pe_lst (pa_cons pe_str (pa_cons pe_str pa_nil))) pa_nil)))
        (pa_cons (pe_cmpR op_eq (pe_call GD hr1 rfl gD kD bD .nil pass0 (pa_cons (pv 0) (pa_cons pe_int pa_nil))) pe_int (nomark _)) pa_nil))) rfl)
      (pss_cons (ps_set (i := 4) scEvents.nd rfl (.inl rfl) (pe_lst (pa_cons (pe_tup (pa_cons (pv 1) (pa_cons (pv 2) (pa_cons (pv 3) pa_nil)))) (pa_cons (pe_tup (pa_cons (pv 1) (pa_cons (pv 2) (pa_cons (pe_op op_sub pe_int (pe_callTy call_int1 rfl T.int_ (by decide +kernel) (pa_cons (pv 3) pa_nil))) pa_nil))))
        (pa_cons (pe_tup (pa_cons (pe_call GO hr rfl gO FO.kp bO .nil pass0 (pa_cons (pv 0) pa_nil)) (pa_cons (pv 2) (pa_cons (pv 3) pa_nil)))) (pa_cons (pe_tup (pa_cons (pv 1) (pa_cons (pv 2) pa_nil))) pa_nil))))))
      (pss_cons (ps_set (i := 5) scEvents.nd rfl (.inl rfl) (pe_call GP hr2 rfl gP kP bP .nil pass0 (pa_cons (pv 0) (pa_cons (pe_lst (pa_cons pe_str (pa_cons pe_str (pa_cons pe_str (pa_cons pe_str (pa_cons pe_non (pa_cons pe_int (pa_cons (pe_tup (pa_cons pe_str pa_nil)) pa_nil)))))))) pa_nil))))
      (pss_cons (ps_set (i := 4) scEvents.nd rfl (.inl rfl) (pe_op op_cat (pv 4) (pe_lst (pa_cons (pe_tup (pa_cons (pv 1) (pa_cons (pv 5) (pa_cons (pv 3) pa_nil)))) (pa_cons (pe_lst (pa_cons (pv 1) (pa_cons (pv 2) (pa_cons (pv 3) pa_nil)))) pa_nil)))))
      (pss_cons (ps_set (i := 4) scEvents.nd rfl (.inl rfl) (pe_op op_cat (pv 4) (pe_lst (pa_cons (pe_tup (pa_cons (pv 1) (pa_cons (pv 2) (pa_cons (pv 3) (pa_cons (pv 3) pa_nil))))) (pa_cons (pe_tup (pa_cons (pv 2) (pa_cons (pv 1) (pa_cons (pv 3) pa_nil))))
        (pa_cons (pe_tup (pa_cons (pv 1) (pa_cons (pv 2) (pa_cons (pe_call GA hr3 rfl gA FA.kp bA .nil pass0 (pa_cons (pv 0) pa_nil)) pa_nil)))) (pa_cons (pe_tup pa_nil) pa_nil)))))))
      (pss_one (ps_ret (pe_op op_cat (pv 4) (pe_lst (pa_cons (pe_tup (pa_cons (pe_call GA hr3 rfl gA FA.kp bA .nil pass0 (pa_cons (pv 0) pa_nil)) (pa_cons (pv 2) (pa_cons (pv 3) pa_nil)))) (pa_cons (pe_tup (pa_cons (pv 1) (pa_cons (pe_call GA hr3 rfl gA FA.kp bA .nil pass0 (pa_cons (pv 0) pa_nil)) (pa_cons (pv 3) pa_nil))))
        (pa_cons (pe_call GA hr3 rfl gA FA.kp bA .nil pass0 (pa_cons (pv 0) pa_nil)) pa_nil)))))))))))), ?_⟩
    refine ⟨_, rfl, p, rfl, hp, fun z H1 k1 nz => ⟨_, rfl, s2, fun La hLa => ?_⟩⟩
    have ua := up2 (o := .lst [.str "less", .str "more"]) hLa
    refine ⟨p, La, _, rfl, pen_same k1.pen ua, upd_same, ne_pen k1.pen hLa, ⟨(by show 0 < 2; decide), (by show 2 ≤ 1000; decide)⟩, fun v H2 hv k2 => ?_⟩
    obtain ⟨fz, rfl, ofz⟩ : ∃ fz, v = .str fz ∧ okS fz := by
      simp only [List.mem_cons, List.not_mem_nil, or_false] at hv
      rcases hv with rfl | rfl
      · exact ⟨_, rfl, by constructor <;> decide +kernel⟩
      · exact ⟨_, rfl, by constructor <;> decide +kernel⟩
    refine ⟨_, rfl, p, 2, rfl, k2.pen, ⟨by decide, by decide⟩, fun r H3 _ _ k3 => ⟨rfl, ?_⟩⟩
    obtain ⟨wb, ewb⟩ : ∃ wb, wb = decide (V.int r = V.int 0) := ⟨_, rfl⟩
    rw [← ewb]
    have kA : Kp p H H3 := (((k1.same ua).trans k2).trans k3)
    have p3 := k3.pen
    have oz := okS_name nz
    refine ⟨_, _, _, rfl, ?_⟩
    -- the first four
    refine ⟨_, rfl, _, rfl, _, rfl, s3, fun t1 h1 => ?_⟩
    have u1 := up2 (o := .tup [.str z, .str fz, .bl wb]) h1
    refine ⟨_, rfl, _, rfl, _, rfl, .inr ⟨_, rfl, _, _, rfl, rfl, s3, fun t2 h2 => ?_⟩⟩
    have u2 := up2 (o := .tup [.str z, .str fz, .int (1 - (if wb = true then 1 else 0))]) h2
    have sA := u1.trans u2
    have pA := pen_same p3 sA
    refine ⟨_, rfl, p, rfl, pA, fun v3 H5 k5 o3 => ?_⟩
    have p5 := k5.pen
    refine ⟨_, rfl, _, rfl, s3, fun t3 h3 => ?_⟩
    have u3 := up2 (o := .tup [v3, .str fz, .bl wb]) h3
    refine ⟨_, rfl, _, rfl, s2, fun t4 h4 => ⟨s4, fun S1 hS1 => ?_⟩⟩
    have u4 := up2 (o := .tup [.str z, .str fz]) h4
    have u5 := up2 (o := .lst [.ref t1, .ref t2, .ref t3, .ref t4]) hS1
    -- an odd way
    refine ⟨_, rfl, s1, fun t5 h5 => ⟨s7, fun L2 hL2 => ?_⟩⟩
    have u6 := up2 (o := .tup [.str "less"]) h5
    have u7 := up2 (o := .lst [.str "", .str "les", .str "less ", .str "More", .non, .int 1, .ref t5]) hL2
    have r5 := u6.trans u7
    have r4 := u5.trans r5
    have r3 := u4.trans r4
    have sB := u3.trans r3
    have pB := pen_same p5 sB
    have nt5 := ne_pen (pen_same p5 (u3.trans (u4.trans u5))) h5
    refine ⟨p, L2, _, rfl, pB, upd_same, ne_pen (pen_same p5 (u3.trans (u4.trans (u5.trans u6)))) hL2, ⟨(by show 0 < 7; decide), (by show 7 ≤ 1000; decide)⟩, fun v4 H7 hv4 k7 => ?_⟩
    have p7 := k7.pen
    have et5 := k7.keep _ _ (u7 _ _ upd_same) nt5
    have o4 : Odd (Zp p) H7 v4 := by
      simp only [List.mem_cons, List.not_mem_nil, or_false] at hv4
      rcases hv4 with rfl | rfl | rfl | rfl | rfl | rfl | rfl
      · exact Odd.str (by constructor <;> decide +kernel)
      · exact Odd.str (by constructor <;> decide +kernel)
      · exact Odd.str (by constructor <;> decide +kernel)
      · exact Odd.str (by constructor <;> decide +kernel)
      · exact Odd.non
      · exact Odd.int (by decide +kernel)
      · exact ⟨_, .tup et5 nt5 (.cons (.str _) .nil), by exact ⟨by decide +kernel, by decide +kernel, by decide +kernel, by decide +kernel, fun ds e => by first | (cases e; done) | (cases e; decide +kernel)⟩, by decide +kernel⟩
    have nS1 := ne_pen (pen_same p5 (u3.trans u4)) hS1
    have eS1 := k7.keep _ _ (r5 _ _ (upd_same (a := S1) (o := .lst [.ref t1, .ref t2, .ref t3, .ref t4]))) nS1
    -- two more
    refine ⟨_, rfl, _, rfl, _, rfl, _, rfl, s3, fun t6 h6 => ?_⟩
    have w1 := up2 (o := .tup [.str z, v4, .bl wb]) h6
    refine ⟨_, rfl, _, rfl, _, rfl, s3, fun l7 hl7 => ⟨s2, fun L3 hL3 => ?_⟩⟩
    have w2 := up2 (o := .lst [.str z, .str fz, .bl wb]) hl7
    have w3 := up2 (o := .lst [.ref t6, .ref l7]) hL3
    refine ⟨S1, L3, _, _, rfl, rfl, (w1.trans (w2.trans w3)) _ _ eS1, upd_same, (by show 4 + 2 ≤ sizeLine; decide), fun S2 hS2 => ?_⟩
    have w4 := up2 (o := .lst [.ref t1, .ref t2, .ref t3, .ref t4, .ref t6, .ref l7]) hS2
    -- four more
    refine ⟨_, rfl, _, rfl, _, rfl, _, rfl, _, rfl, s4, fun t8 h8 => ?_⟩
    have w5 := up2 (o := .tup [.str z, .str fz, .bl wb, .bl wb]) h8
    refine ⟨_, rfl, _, rfl, _, rfl, s3, fun t9 h9 => ?_⟩
    have w6 := up2 (o := .tup [.str fz, .str z, .bl wb]) h9
    have x5 := w5.trans w6
    have x4 := w4.trans x5
    have x3 := w3.trans x4
    have x2 := w2.trans x3
    have sC := w1.trans x2
    have pC := pen_same p7 sC
    refine ⟨_, rfl, _, rfl, _, rfl, p, rfl, pC, fun v10 d10 H10 k10 a10 m10 f10 _ => ?_⟩
    have p10 := k10.pen
    have o10 : Odd (Zp p) H10 v10 := ⟨d10, da_zp pC a10, m10, f10⟩
    have nS2 := ne_pen (pen_same p7 (w1.trans (w2.trans w3))) hS2
    have eS2 := k10.keep _ _ (x5 _ _ (upd_same (a := S2) (o := .lst [.ref t1, .ref t2, .ref t3, .ref t4, .ref t6, .ref l7]))) nS2
    refine ⟨s3, fun t10 h10 => ⟨zs, fun t11 h11 => ⟨s4, fun L4 hL4 => ?_⟩⟩⟩
    have y1 := up2 (o := .tup [.str z, .str fz, v10]) h10
    have y2 := up2 (o := .tup []) h11
    have y3 := up2 (o := .lst [.ref t8, .ref t9, .ref t10, .ref t11]) hL4
    refine ⟨S2, L4, _, _, rfl, rfl, (y1.trans (y2.trans y3)) _ _ eS2, upd_same, (by show 6 + 4 ≤ sizeLine; decide), fun S3 hS3 => ?_⟩
    have y4 := up2 (o := .lst [.ref t1, .ref t2, .ref t3, .ref t4, .ref t6, .ref l7, .ref t8, .ref t9, .ref t10, .ref t11]) hS3
    have z3 := y3.trans y4
    have z2 := y2.trans z3
    have sD := y1.trans z2
    have pD := pen_same p10 sD
    -- three more
    refine ⟨_, rfl, _, rfl, p, rfl, pD, fun v12 d12 H12 k12 a12 m12 f12 _ => ?_⟩
    have p12 := k12.pen
    have o12 : Odd (Zp p) H12 v12 := ⟨d12, da_zp pD a12, m12, f12⟩
    have nS3 := ne_pen (pen_same p10 (y1.trans (y2.trans y3))) hS3
    have eS3 := k12.keep _ _ (upd_same (a := S3) (o := .lst [.ref t1, .ref t2, .ref t3, .ref t4, .ref t6, .ref l7, .ref t8, .ref t9, .ref t10, .ref t11])) nS3
    refine ⟨_, rfl, _, rfl, s3, fun t12 h12 => ?_⟩
    have sE := up2 (o := .tup [v12, .str fz, .bl wb]) h12
    have pE := pen_same p12 sE
    refine ⟨_, rfl, _, rfl, p, rfl, pE, fun v13 d13 H13 k13 a13 m13 f13 _ => ?_⟩
    have p13 := k13.pen
    have o13 : Odd (Zp p) H13 v13 := ⟨d13, da_zp pE a13, m13, f13⟩
    refine ⟨_, rfl, s3, fun t13 h13 => ?_⟩
    have sF := up2 (o := .tup [.str z, v13, .bl wb]) h13
    have pF := pen_same p13 sF
    refine ⟨_, rfl, p, rfl, pF, fun v14 d14 H14 k14 a14 m14 f14 _ => ?_⟩
    have p14 := k14.pen
    have o14 : Odd (Zp p) H14 v14 := ⟨d14, da_zp pF a14, m14, f14⟩
    refine ⟨s3, fun L5 hL5 => ?_⟩
    have g1 := up2 (o := .lst [.ref t12, .ref t13, v14]) hL5
    have eS3' := g1 _ _ (k14.keep _ _ (sF _ _ (k13.keep _ _ (sE _ _ eS3) nS3)) nS3)
    refine ⟨S3, L5, _, _, rfl, rfl, eS3', upd_same, (by show 10 + 3 ≤ sizeLine; decide), fun S4 hS4 => ?_⟩
    have g2 := up2 (o := .lst [.ref t1, .ref t2, .ref t3, .ref t4, .ref t6, .ref l7, .ref t8, .ref t9, .ref t10, .ref t11, .ref t12, .ref t13, v14]) hS4
    have sG := g1.trans g2
    have R14 : Kp p H14 _ := Kp.of p14 sG
    have R13 : Kp p H13 _ := ((Kp.of p13 sF).trans k14).trans R14
    have R12 : Kp p H12 _ := ((Kp.of p12 sE).trans k13).trans R13
    have R10 : Kp p H10 _ := ((Kp.of p10 sD).trans k12).trans R12
    have R7 : Kp p H7 _ := ((Kp.of p7 sC).trans k10).trans R10
    have R5 : Kp p H5 _ := ((Kp.of p5 sB).trans k7).trans R7
    have R3 : Kp p H3 _ := ((Kp.of p3 sA).trans k5).trans R5
    refine q S4 [.ref t1, .ref t2, .ref t3, .ref t4, .ref t6, .ref l7, .ref t8, .ref t9, .ref t10, .ref t11, .ref t12, .ref t13, v14] _ (kA.trans R3) upd_same (ne_pen (pen_same p14 g1) hS4) (by show 13 ≤ 20; decide) (fun u hu => ?_)
    have n1 := ne_pen p3 h1
    have n2 := ne_pen (pen_same p3 u1) h2
    have n3 := ne_pen p5 h3
    have n4 := ne_pen (pen_same p5 u3) h4
    have n6 := ne_pen p7 h6
    have n7 := ne_pen (pen_same p7 w1) hl7
    have n8 := ne_pen (pen_same p7 (w1.trans (w2.trans (w3.trans w4)))) h8
    have n9 := ne_pen (pen_same p7 (w1.trans (w2.trans (w3.trans (w4.trans w5))))) h9
    have n10 := ne_pen p10 h10
    have n11 := ne_pen (pen_same p10 y1) h11
    have n12 := ne_pen p12 h12
    have n13 := ne_pen p13 h13
    have Q5 := k5.trans R5
    have Q7 := k7.trans R7
    have Q10 := k10.trans R10
    have Q12 := k12.trans R12
    have Q13 := k13.trans R13
    have Q14 := k14.trans R14
    have e1 := Q5.keep _ _ (u2 _ _ (upd_same (a := t1) (o := .tup [.str z, .str fz, .bl wb]))) n1
    have e2 := Q5.keep _ _ (upd_same (a := t2) (o := .tup [.str z, .str fz, .int (1 - (if wb = true then 1 else 0))])) n2
    have e3 := Q7.keep _ _ (r3 _ _ (upd_same (a := t3) (o := .tup [v3, .str fz, .bl wb]))) n3
    have e4 := Q7.keep _ _ (r4 _ _ (upd_same (a := t4) (o := .tup [.str z, .str fz]))) n4
    have e6 := Q10.keep _ _ (x2 _ _ (upd_same (a := t6) (o := .tup [.str z, v4, .bl wb]))) n6
    have e7 := Q10.keep _ _ (x3 _ _ (upd_same (a := l7) (o := .lst [.str z, .str fz, .bl wb]))) n7
    have e8 := Q10.keep _ _ (w6 _ _ (upd_same (a := t8) (o := .tup [.str z, .str fz, .bl wb, .bl wb]))) n8
    have e9 := Q10.keep _ _ (upd_same (a := t9) (o := .tup [.str fz, .str z, .bl wb])) n9
    have e10 := Q12.keep _ _ (z2 _ _ (upd_same (a := t10) (o := .tup [.str z, .str fz, v10]))) n10
    have e11 := Q12.keep _ _ (z3 _ _ (upd_same (a := t11) (o := .tup []))) n11
    have e12 := Q13.keep _ _ (upd_same (a := t12) (o := .tup [v12, .str fz, .bl wb])) n12
    have e13 := Q14.keep _ _ (upd_same (a := t13) (o := .tup [.str z, v13, .bl wb])) n13
    have qz : ∀ {Z : Addr → Prop} {H : Hp}, Part Z H (.str z) (.str z) := fun {_ _} => .str oz
    have qf : ∀ {Z : Addr → Prop} {H : Hp}, Part Z H (.str fz) (.str fz) := fun {_ _} => .str ofz
    have qw : ∀ {Z : Addr → Prop} {H : Hp}, Part Z H (.bl wb) (.bool wb) := fun {_ _} => .bl wb
    simp only [List.mem_cons, List.not_mem_nil, or_false] at hu
    rcases hu with rfl | rfl | rfl | rfl | rfl | rfl | rfl | rfl | rfl | rfl | rfl | rfl | rfl
    · exact big_tup e1 n1 (.cons qz (.cons qf (.cons qw .nil))) (by simp)
    · exact big_tup e2 n2 (.cons qz (.cons qf (.cons (.int (by cases wb <;> decide)) .nil))) (by simp)
    · exact big_odd (vs := []) e3 n3 .nil (o3.keep R5.keeps) (.cons qf (.cons qw .nil)) (by simp)
    · exact big_tup e4 n4 (.cons qz (.cons qf .nil)) (by simp)
    · exact big_odd (vs := [.str z]) e6 n6 (.cons qz .nil) (o4.keep R7.keeps) (.cons qw .nil) (by simp)
    · exact big_lst e7 n7 (.cons qz (.cons qf (.cons qw .nil))) (by simp)
    · exact big_tup e8 n8 (.cons qz (.cons qf (.cons qw (.cons qw .nil)))) (by simp)
    · exact big_tup e9 n9 (.cons qf (.cons qz (.cons qw .nil))) (by simp)
    · exact big_odd (vs := [.str z, .str fz]) e10 n10 (.cons qz (.cons qf .nil)) (o10.keep R10.keeps) .nil (by simp)
    · exact big_tup e11 n11 .nil (by simp)
    · exact big_odd (vs := []) e12 n12 .nil (o12.keep R12.keeps) (.cons qf (.cons qw .nil)) (by simp)
    · exact big_odd (vs := [.str z]) e13 n13 (.cons qz .nil) (o13.keep R13.keeps) (.cons qw .nil) (by simp)
    · exact (o14.keep R14.keeps).big
end
end K1
set_option Elab.async false
set_option linter.all false
set_option maxRecDepth 100000
set_option maxHeartbeats 4000000
namespace K1
open PySem PySem.Spec PyProof.Rows L2 Bb
/-! the marks and the rows are right -/
theorem ps_by {X : Cx} {st : Stmt} {t t' : TS} (h : PS X st t) (w : ∀ D σ H, t' D σ H → t D σ H) : PS X st t' := ⟨fun pins s σ H D I q => h.run pins s σ H D I (w D σ H q)⟩
structure KN (p : Addr) (H H' : Hp) : Prop where
  keep : ∀ b o, H b = some o → b ≠ p → (∀ ps, o ≠ .tbl ps) → H' b = some o
  pen : Pen H' p
theorem KN.of {p : Addr} {H H' : Hp} (k : Kp p H H') : KN p H H' := ⟨fun b o e n _ => k.keep b o e n, k.pen⟩
theorem KN.trans {p : Addr} {H H1 H2 : Hp} (a : KN p H H1) (b : KN p H1 H2) : KN p H H2 := ⟨fun c o e n t => b.keep c o (a.keep c o e n t) n t, b.pen⟩
theorem KN.ext {p : Addr} {H H1 H2 : Hp} (a : KN p H H1) (e : LamX.ExtN H1 H2) : KN p H H2 := ⟨fun c o z n t => e c o (a.keep c o z n t) t, by
  obtain ⟨x, f, h⟩ := a.pen
  exact ⟨x, f, e _ _ h (fun _ z => by cases z)⟩⟩
theorem KN.same {p : Addr} {H H1 H2 : Hp} (a : KN p H H1) (s : Same H1 H2) : KN p H H2 := a.ext fun b o e _ => s b o e
theorem tabs_at {Ts : List (Addr × Str)} {H H' : Hp} (t : LamX.Tabs Ts H) (k : ∀ b o, H b = some o → (∀ xs, o ≠ .lst xs) → H' b = some o) : LamX.Tabs Ts H' := by
  intro q hq
  obtain ⟨ps, h1, h2, h3⟩ := t q hq
  refine ⟨ps, k _ _ h1 (fun xs z => by cases z), h2, fun pos cv hc => ?_⟩
  obtain ⟨c, e1, e2⟩ := h3 pos cv hc
  refine ⟨c, e1, k _ _ e2 (fun xs z => ?_)⟩
  unfold LamX.CodeO at z
  cases z
theorem tabs_kp {Ts : List (Addr × Str)} {H H' : Hp} {p : Addr} (t : LamX.Tabs Ts H) (hp : Pen H p) (k : Kp p H H') : LamX.Tabs Ts H' :=
  tabs_at t fun b o e n => k.keep b o e fun z => by
    obtain ⟨x, f, e2⟩ := hp
    rw [z, e2] at e
    exact n _ (Option.some.inj e).symm
theorem Da.ext {Z : Addr → Prop} {H H' : Hp} {v : V} {d : PyData} (h : Da Z H v d) (e : LamX.ExtN H H') : Da Z H' v d := Da.keep (Keeps.ext e) _ _ h
/-- the tables of both defs that hold a lambda -/
abbrev Ts (P1 P2 : Addr) (q1 q2 : Str) : List (Addr × Str) := [(P1, q1), (P2, q2)]
def qOf (x : Str) (st : Stmt) : Str := (envOfC x (defScope st) 0 0 .none).qual ++ "<lambda>"
abbrev qM : Str := qOf (Str.ofString "_law_marks_right") sMR
abbrev qR : Str := qOf (Str.ofString "_law_rows_right") sRR
/-- a tuple of two that can be shown -/
theorem two_shown {d e : PyData} (hd : Sm d) (he : Sm e) (cl : Cl d) : Shw (.tuple [d, e]) := shw_tup (fun x hx => by
  simp only [List.mem_cons, List.not_mem_nil, or_false] at hx
  rcases hx with rfl | rfl
  · exact hd
  · exact he) (by simp) (one_odd (a := [d]) (b := []) (fun x hx => by rw [List.mem_singleton.mp hx]; exact cl) (fun x hx => by cases hx) he)
theorem ok_lit {z : Str} (h : (decide (z.length ≤ 10) && PyData.canLay0 (.str z)) = true) : okS z := by
  rw [Bool.and_eq_true] at h
  exact ⟨of_decide_eq_true h.1, h.2⟩
theorem sm_lit {z : Str} (h : (decide (z.length ≤ 10) && PyData.canLay0 (.str z)) = true) : Sm (.str z) := (ok_lit h).sm
/-- all that the law's last defs want of the head -/
structure Rt (K : PySem.W.Frag) (mg : Str → Option Value) (CM CW CC : Addr) : Prop where
  mk1 : Mk1 K mg
  lk : Lk K mg
  pr : Pr K mg
  bet : ∃ a d dvs, FunD K "better" "better" (defArgs sBetter) (defBody sBetter) (defScope sBetter) dvs [] a d ∧ dvs.length = 1 ∧ mg "better" = some (.ref a)
  bst : ∃ a d, FunD K "best_of" "best_of" (defArgs sBest) (defBody sBest) (defScope sBest) [.str "less", .non] [] a d ∧ mg "best_of" = some (.ref a)
  dub : ∃ a d, Fn K "_law_due_better" "_law_due_better" sDueBetter a d ∧ mg "_law_due_better" = some (.ref a)
  dus : ∃ a d, Fn K "_law_due_best" "_law_due_best" sDueBest a d ∧ mg "_law_due_best" = some (.ref a)
  kind : ∃ a d, Fn K "_law_kind" "_law_kind" sKind a d ∧ mg "_law_kind" = some (.ref a)
  came : ∃ a d, Fn K "_law_came" "_law_came" sCame a d ∧ mg "_law_came" = some (.ref a)
  em : ErrT K mg "NoMark" CM
  ew : ErrT K mg "NoWay" CW
  rm : Er K mg CC CM "nomark"
  rw_ : Er K mg CC CW "noway"
  cc : mg "ClubError" = some (.ref CC)
  np : ∃ CP, mg "NoPlace" = some (.ref CP)
abbrev Kt (CM CW : Addr) : List (Addr × Str) := [(CM, "nomark"), (CW, "noway")]
theorem kt_er {K : PySem.W.Frag} {mg : Str → Option Value} {CM CW CC : Addr} (r : Rt K mg CM CW CC) : ∀ D z, (D, z) ∈ Kt CM CW → Er K mg CC D z := by
  intro D z hm
  simp only [List.mem_cons, List.not_mem_nil, or_false, Prod.mk.injEq] at hm
  rcases hm with ⟨rfl, rfl⟩ | ⟨rfl, rfl⟩
  · exact r.rm
  · exact r.rw_
theorem better_binds {K : PySem.W.Frag} {f : Addr} {fd : FuncData} {dvs : List V} (F : FunD K "better" "better" (defArgs sBetter) (defBody sBetter) (defScope sBetter) dvs [] f fd) (h : dvs.length = 1) : Binds K fd nBetter [] := by
  obtain ⟨ds, rd, b⟩ := F.binds1 (ps := nBetter) 3 1 (by intro e; rw [e] at h; cases h) (by rw [h]; rfl) (fun T kV doc pm an cdv ct us its h1 h2 => by
    rw [h] at h2
    match us, its, h1, h2 with
    | [_, _, _], [_], _, _ => exact ⟨_, rfl, rfl⟩)
  have e : dvs.drop 1 = [] := List.drop_of_length_le (by omega)
  rw [e] at rd
  cases rd
  exact b
abbrev oLst : Int → Int → List V → List V := fun _ _ xs => xs
/-- one of them is odd now and then -/
def tOdd1 : TS := fun D σ H => ∃ p v1 v2, σ = [some (.ref p), some v1, some v2, none] ∧ Pen H p ∧ Odd (Zp p) H v1 ∧ Odd (Zp p) H v2 ∧ ∀ v1' H', Kp p H H' → Odd (Zp p) H' v1' → Odd (Zp p) H' v2 → D.nx [some (.ref p), some v1', some v2, none] H'
def tOdd2 : TS := fun D σ H => ∃ p v1 v2, σ = [some (.ref p), some v1, some v2, none] ∧ Pen H p ∧ Odd (Zp p) H v1 ∧ Odd (Zp p) H v2 ∧ ∀ v2' H', Kp p H H' → Odd (Zp p) H' v1 → Odd (Zp p) H' v2' → D.nx [some (.ref p), some v1, some v2', none] H'
def spMR (P1 P2 : Addr) : Sp := fun vs H Q _ => ∃ p, vs = [.ref p] ∧ Pen H p ∧ LamX.Tabs (Ts P1 P2 qM qR) H ∧ ∀ H', KN p H H' → LamX.Tabs (Ts P1 P2 qM qR) H' → Q (.bl true) H'
section
variable {P : Program} {w : World} {K : PySem.W.Frag} {mg : Str → Option Value} {base : Heap} {f : Addr} {fd : FuncData}
abbrev nMR : List Str := ["_law_pen_here", "_law_one", "_law_other", "_law_rule"]
theorem scMR : FnScope nMR ["_law_pen_here"] (defScope sMR) := ⟨rfl, rfl, rfl, by decide +kernel, rfl, by decide +kernel, by decide +kernel⟩
theorem ok_mr {CM CW CC c P1 P2 : Addr} (F : Fn K "_law_marks_right" "_law_marks_right" sMR f fd) (hcode : fd.code = .ref c) (TB : LamX.TabB base mg c P1) (ne : P1 ≠ P2) (r : Rt K mg CM CW CC) : FnG P w K mg base L2.CX0 8 f fd ["_law_pen_here"] (spMR P1 P2) := by
  have h := r.mk1.hl
  have T := h.fr
  obtain ⟨aP, dP, GP, gP, kP, bP⟩ := h.pk (P := P) (w := w) (base := base)
  obtain ⟨aD, dD, GD, gD, kD, bD⟩ := h.dr (P := P) (w := w) (base := base)
  obtain ⟨aA, dA, FA, gA⟩ := r.mk1.any
  obtain ⟨aO, dO, FO, gO⟩ := r.mk1.odd
  obtain ⟨aS, dS, FS, gS⟩ := r.mk1.sco
  obtain ⟨aB, dB, dvs, FB, hdv, gB⟩ := r.bet
  obtain ⟨aU, dU, FU, gU⟩ := r.dub
  obtain ⟨aKi, dKi, FKi, gKi⟩ := r.kind
  obtain ⟨aCa, dCa, FCa, gCa⟩ := r.came
  obtain ⟨CP, gNP⟩ := r.np
  have GA : FnOk P w K mg base L2.CX0 3 aA dA ["_law_pen_here"] spThingD := ok_any FA h
  have bA : Binds K dA ["_law_pen_here"] [] := FA.bindsN fun _ _ _ _ _ _ us hl => match us, hl with | [_], _ => rfl
  have GO : FnOk P w K mg base L2.CX0 3 aO dO ["_law_pen_here", "_law_least", "_law_greatest"] spOddD := ok_odd FO h
  have bO : Binds K dO ["_law_pen_here", "_law_least", "_law_greatest"] [] := FO.bindsN fun _ _ _ _ _ _ us hl => match us, hl with | [_, _, _], _ => rfl
  have GS : FnOk P w K mg base L2.CX0 3 aS dS ["_law_pen_here"] spScore := ok_score FS h
  have bS : Binds K dS ["_law_pen_here"] [] := FS.bindsN fun _ _ _ _ _ _ us hl => match us, hl with | [_], _ => rfl
  have GB : FnOk P w K mg base (L2.CX P w) 5 aB dB nBetter (spBetter CM CW) := ok_better FB r.pr r.em r.ew
  have bB : Binds K dB nBetter [] := better_binds FB hdv
  have GU : FnOk P w K mg base L2.CX0 3 aU dU nDueB spDueB := ok_dueb FU r.lk
  have bU : Binds K dU nDueB [] := FU.bindsN fun _ _ _ _ _ _ us hl => match us, hl with | [_, _, _], _ => rfl
  have bCa : Binds K dCa ["_law_call"] [] := FCa.bindsN fun _ _ _ _ _ _ us hl => match us, hl with | [_], _ => rfl
  obtain ⟨oc, od, dV, kV, doc, pm, an, cdC, ct, osl, rfl, lkC, hcC, _, _⟩ := FCa.ex
  have ts : 2 ≤ sizeLine := by decide
  refine fnG F scMR (fun vs H Q E h => ?_) (fun cdv A outer s H vs Q E gd hr hcd hh => ?_)
  · obtain ⟨p, rfl, _⟩ := h
    rfl
  · obtain ⟨p, rfl, hp, tb, q⟩ := hh
    have ecd := hcd c hcode
    let X := (cxOf L2.CX0 P w K mg base nMR "_law_marks_right" (defScope sMR) f cdv A outer s H E).nox
    have gdX : X.A.guards = some [] := gd
    have rep := call_reprA (X := X) gdX hr.units
    have hr1 : Room 1 X.A := hr.mono (by decide)
    have hr2 : Room 2 X.A := hr.mono (by decide)
    have hr3 : Room 3 X.A := hr.mono (by decide)
    refine' ⟨_, PSs.nox ?d, ?r⟩
    case d =>
      refine' pss_cons (ps_asg (pe_tup (pa_cons (pe_call GS hr3 rfl gS FS.kp bS .nil pass0 (pa_cons (pv 0) pa_nil)) (pa_cons (pe_call GS hr3 rfl gS FS.kp bS .nil pass0 (pa_cons (pv 0) pa_nil)) pa_nil))) (pg_tup rfl (pgs_cons (pg_name (i := 1) scMR.nd rfl (Or.inr rfl)) (pgs_cons (pg_name (i := 2) scMR.nd rfl (Or.inr rfl)) pgs_nil)))) ?a1
      case a1 =>
        refine' pss_cons (ps_by (t' := tOdd1) (ps_if (pt_cmpR op_eq (pe_call GD hr1 rfl gD kD bD .nil pass0 (pa_cons (pv 0) (pa_cons pe_int pa_nil))) pe_int (nomark _)) (pss_one (ps_set (i := 1) scMR.nd rfl (.inr rfl) (pe_call GP hr2 rfl gP kP bP .nil pass0 (pa_cons (pv 0) (pa_cons (pe_lst (pa_cons (pe_call GO hr3 rfl gO FO.kp bO .nil pass0 (pa_cons (pv 0) (pa_cons pe_int (pa_cons (pe_op op_pow pe_int pe_int) pa_nil)))) (pa_cons (pv 2) pa_nil))) pa_nil))))) pss_nil) ?w1) ?a2
        case w1 =>
          rintro D σ H0 ⟨p, v1, v2, rfl, hp, o1, o2, nx⟩
          refine ⟨_, rfl, p, 3, rfl, hp, ⟨by decide, by decide⟩, fun m H1 _ _ k1 => ⟨rfl, _, rfl, ?_⟩⟩
          refine ite2 (fun _ => ?_) (fun _ => ?_)
          · refine ⟨_, rfl, _, rfl, 10, 6, rfl, rfl, ⟨by decide, by decide, by decide⟩, p, 1, _, rfl, k1.pen, ⟨by decide, by decide +kernel⟩, fun v d H2 k2 a m t _ _ => ?_⟩
            have o3 : Odd (Zp p) H2 v := ⟨d, da_zp k1.pen a, m, t⟩
            refine ⟨_, rfl, ts, fun L hL => ?_⟩
            have u3 := up2 (o := .lst [v, v2]) hL
            refine ⟨p, L, _, rfl, pen_same k2.pen u3, upd_same, ne_pen k2.pen hL, ⟨(by show 0 < 2; decide), (by show 2 ≤ 1000; decide)⟩, fun x H3 hx k3 => ?_⟩
            have k13 : Kp p H0 H3 := ((k1.trans k2).same u3).trans k3
            have k23 : Kp p H2 H3 := (Kp.of k2.pen u3).trans k3
            refine nx x H3 k13 ?_ (o2.keep k13.keeps)
            simp only [List.mem_cons, List.not_mem_nil, or_false] at hx
            rcases hx with rfl | rfl
            · exact o3.keep k23.keeps
            · exact o2.keep k13.keeps
          · exact nx v1 H1 k1 (o1.keep k1.keeps) (o2.keep k1.keeps)
        case a2 =>
          refine' pss_cons (ps_by (t' := tOdd2) (ps_if (pt_cmpR op_eq (pe_call GD hr1 rfl gD kD bD .nil pass0 (pa_cons (pv 0) (pa_cons pe_int pa_nil))) pe_int (nomark _)) (pss_one (ps_set (i := 2) scMR.nd rfl (.inr rfl) (pe_call GO hr3 rfl gO FO.kp bO .nil pass0 (pa_cons (pv 0) (pa_cons pe_int (pa_cons (pe_op op_pow pe_int pe_int) pa_nil)))))) pss_nil) ?w2) ?a3
          case w2 =>
            rintro D σ H0 ⟨p, v1, v2, rfl, hp, o1, o2, nx⟩
            refine ⟨_, rfl, p, 4, rfl, hp, ⟨by decide, by decide⟩, fun m H1 _ _ k1 => ⟨rfl, _, rfl, ?_⟩⟩
            refine ite2 (fun _ => ?_) (fun _ => ?_)
            · refine ⟨_, rfl, 10, 6, rfl, rfl, ⟨by decide, by decide, by decide⟩, p, 1, _, rfl, k1.pen, ⟨by decide, by decide +kernel⟩, fun v d H2 k2 a m t _ _ => ?_⟩
              have k12 := k1.trans k2
              exact nx v H2 k12 (o1.keep k12.keeps) ⟨d, da_zp k1.pen a, m, t⟩
            · exact nx v2 H1 k1 (o1.keep k1.keeps) (o2.keep k1.keeps)
          case a3 =>
            refine' pss_cons (ps_set (i := 3) scMR.nd rfl (.inr rfl) (pe_call GP hr2 rfl gP kP bP .nil pass0 (pa_cons (pv 0) (pa_cons (pe_lst (pa_cons pe_str (pa_cons pe_str (pa_cons pe_str (pa_cons pe_str (pa_cons (pe_call GA hr3 rfl gA FA.kp bA .nil pass0 (pa_cons (pv 0) pa_nil)) (pa_cons pe_str pa_nil))))))) pa_nil)))) ?a4
            case a4 =>
              refine' pss_one (ps_ret (pe_cmpR op_eq (pe_callB rep rfl T.rep_ boot_repr (pa_cons ?lam pa_nil)) (pe_callB rep rfl T.rep_ boot_repr (pa_cons (pe_call GU hr3 rfl gU FU.kp bU .nil pass0 (pa_cons (pv 1) (pa_cons (pv 2) (pa_cons (pv 3) pa_nil)))) pa_nil)) (nomark _)))
              case lam =>
                refine LamX.pe_lamcall (TT := TCame (Kt CM CW)) (x := "_law_came") (a := "_law_call") (T := Ts P1 P2 qM qR) (c := c) (P := P1) (k := 5) (t := fun E' => tCall (spBetter CM CW) [] E' (tCons (tVar 1) (tCons (tVar 2) (tCons (tVar 3) tNil)))) rfl gCa FCa.kp lkC hcC bCa scCame rfl (.inl rfl) ?lg TB ecd (List.mem_cons_self) ?lu (hr.mono (by decide)) (LamX.lamS_by (sc := defScope sMR) (by decide +kernel)) rfl (fun _ _ _ _ _ => rfl) ?lb
                case lg => exact came_gives (kt := Kt CM CW) (m := 5) (hr.mono (by decide)) FKi gKi T r.cc gNP (kt_er r)
                case lu =>
                  intro x hx e
                  simp only [List.mem_cons, List.not_mem_nil, or_false] at hx
                  rcases hx with rfl | rfl
                  · rfl
                  · exact absurd e.symm ne
                case lb =>
                  intro A' outer' s' H' E' f' c' hr'
                  exact pe_call GB hr' rfl gB FB.kp bB .nil (passes_call (takes_of rfl rfl rfl rfl) (fun _ _ _ _ h => h)) (pa_cons (pv 1) (pa_cons (pv 2) (pa_cons (pv 3) pa_nil)))
    case r =>
      refine ⟨_, rfl, p, rfl, hp, fun i1 H1 k1 b1 => ⟨_, rfl, p, rfl, k1.pen, fun i2 H2 k2 b2 => ⟨ts, fun t0 ht0 => ?_⟩⟩⟩
      have u0 := up2 (o := .tup [.int i1, .int i2]) ht0
      have k02 := (k1.trans k2).same u0
      refine ⟨t0, _, rfl, SqT.of upd_same, rfl, _, _, rfl, _, _, rfl, rfl, ?_⟩
      have big : ∀ {i : Int}, 1 ≤ i ∧ i ≤ 1000000 → i.natAbs < 10 ^ 40 := fun {i} b => Nat.lt_of_lt_of_le (show i.natAbs < 10000000 by omega) (by decide +kernel)
      refine ⟨p, .int i1, .int i2, rfl, k02.pen, Odd.int (big b1), Odd.int (big b2), fun v1 H3 k3 o1 o2 => ?_⟩
      refine ⟨p, v1, _, rfl, k3.pen, o1, o2, fun v2 H4 k4 o1 o2 => ?_⟩
      refine ⟨_, rfl, _, rfl, p, rfl, k4.pen, fun va da H5 k5 a5 m5 f5 _ => ?_⟩
      have o5 : Odd (Zp p) H5 va := ⟨da, da_zp k4.pen a5, m5, f5⟩
      refine ⟨(by show 6 ≤ sizeLine; decide), fun L hL => ?_⟩
      have u6 := up2 (o := .lst [.str "less", .str "more", .str "less", .str "more", va, .str "les"]) hL
      refine ⟨p, L, _, rfl, pen_same k5.pen u6, upd_same, ne_pen k5.pen hL, ⟨(by show 0 < 6; decide), (by show 6 ≤ 1000; decide)⟩, fun v3 H7 hv3 k7 => ?_⟩
      have k57 := (Kp.of k5.pen u6).trans k7
      have k47 := k5.trans k57
      have o3 : Odd (Zp p) H7 v3 := by
        simp only [List.mem_cons, List.not_mem_nil, or_false] at hv3
        rcases hv3 with rfl | rfl | rfl | rfl | rfl | rfl
        · exact Odd.str (ok_lit (by decide +kernel))
        · exact Odd.str (ok_lit (by decide +kernel))
        · exact Odd.str (ok_lit (by decide +kernel))
        · exact Odd.str (ok_lit (by decide +kernel))
        · exact o5.keep k57.keeps
        · exact Odd.str (ok_lit (by decide +kernel))
      obtain ⟨d1, a1, m1, f1⟩ := o1.keep k47.keeps
      obtain ⟨d2, a2, m2, f2⟩ := o2.keep k47.keeps
      obtain ⟨d3, a3, m3, f3⟩ := o3
      have kA : Kp p H H7 := ((k02.trans k3).trans k4).trans k47
      have tbA := tabs_kp tb hp kA
      refine ⟨tbA, fun H8 en tb8 => ?_⟩
      have b1 := Da.ext a1 en
      have b2 := Da.ext a2 en
      have b3 := Da.ext a3 en
      refine ⟨_, rfl, _, rfl, _, rfl, Zp p, v1, v2, v3, d1, d2, d3, rfl, b1, b2, b3, ⟨f1, f2, f3⟩, fun y1 y2 y3 i j z e1 e2 e3 H9 s9 => ?_, fun n H9 s9 => ?_, fun y1 y2 y3 H9 s9 => ?_⟩
      · -- told
        refine ⟨ts, fun t ht => ?_⟩
        have s10 := s9.trans (up2 (o := .tup [.str "told", .bl (cmpZ z i j)]) ht)
        have sh := two_shown (d := .str "told") (sm_lit (by decide +kernel)) (Sm.bl (cmpZ z i j)) (cl_str _)
        refine ⟨fun _ => False, _, _, rfl, .tup upd_same (fun z => z) (.cons (.str _) (.cons (.bl _) .nil)), sh.nl, sh.sh, sh.dp, sh.ln, ?_⟩
        refine ⟨_, rfl, _, rfl, _, rfl, Zp p, v1, v2, v3, d1, d2, d3, rfl, Da.keep (Keeps.of s10) _ _ b1, Da.keep (Keeps.of s10) _ _ b2, Da.keep (Keeps.of s10) _ _ b3, ⟨f1, f2, f3⟩, fun _ _ _ i' j' z' g1 g2 g3 t2 H11 s11 _ ht2 => ?_, fun n => ?_, fun _ _ n => ?_⟩
        · rw [e1] at g1
          rw [e2] at g2
          rw [e3] at g3
          cases g1
          cases g2
          cases g3
          refine ⟨fun _ => False, _, _, rfl, .tup ht2 (fun z => z) (.cons (.str _) (.cons (.bl _) .nil)), sh.nl, sh.sh, sh.dp, sh.ln, rfl, ?_⟩
          have e : ∀ z : Str, decide (V.str z = V.str z) = true := fun z => decide_eq_true rfl
          rw [e]
          have sA := s10.trans s11
          exact q H11 (((KN.of kA).ext en).same sA) (tb8.ext sA)
        · rw [y1, y2] at n
          cases n
        · rw [y3] at n
          cases n
      · -- no marks
        refine ⟨rfl, CM, "nomark", List.mem_cons_self, rfl, fun H10 s10 t ht => ?_⟩
        have s11 := (s9.trans s10).trans (up2 (o := .tup [.str "no", .str "nomark"]) ht)
        have sh := two_shown (d := .str "no") (e := .str "nomark") (sm_lit (by decide +kernel)) (sm_lit (by decide +kernel)) (cl_str _)
        refine ⟨fun _ => False, _, _, rfl, .tup upd_same (fun z => z) (.cons (.str _) (.cons (.str _) .nil)), sh.nl, sh.sh, sh.dp, sh.ln, ?_⟩
        refine ⟨_, rfl, _, rfl, _, rfl, Zp p, v1, v2, v3, d1, d2, d3, rfl, Da.keep (Keeps.of s11) _ _ b1, Da.keep (Keeps.of s11) _ _ b2, Da.keep (Keeps.of s11) _ _ b3, ⟨f1, f2, f3⟩, fun g1 g2 _ => ?_, fun _ t2 H12 s12 _ ht2 => ?_, fun g1 g2 _ => ?_⟩
        · rw [g1, g2] at n
          cases n
        · refine ⟨fun _ => False, _, _, rfl, .tup ht2 (fun z => z) (.cons (.str _) (.cons (.str _) .nil)), sh.nl, sh.sh, sh.dp, sh.ln, rfl, ?_⟩
          have e : ∀ z : Str, decide (V.str z = V.str z) = true := fun z => decide_eq_true rfl
          rw [e]
          have sA := s11.trans s12
          exact q H12 (((KN.of kA).ext en).same sA) (tb8.ext sA)
        · rw [g1, g2] at n
          cases n
      · -- no way
        refine ⟨rfl, CW, "noway", List.mem_cons_of_mem _ List.mem_cons_self, rfl, fun H10 s10 t ht => ?_⟩
        have s11 := (s9.trans s10).trans (up2 (o := .tup [.str "no", .str "noway"]) ht)
        have sh := two_shown (d := .str "no") (e := .str "noway") (sm_lit (by decide +kernel)) (sm_lit (by decide +kernel)) (cl_str _)
        refine ⟨fun _ => False, _, _, rfl, .tup upd_same (fun z => z) (.cons (.str _) (.cons (.str _) .nil)), sh.nl, sh.sh, sh.dp, sh.ln, ?_⟩
        refine ⟨_, rfl, _, rfl, _, rfl, Zp p, v1, v2, v3, d1, d2, d3, rfl, Da.keep (Keeps.of s11) _ _ b1, Da.keep (Keeps.of s11) _ _ b2, Da.keep (Keeps.of s11) _ _ b3, ⟨f1, f2, f3⟩, fun _ _ g3 => ?_, fun n => ?_, fun _ _ _ t2 H12 s12 _ ht2 => ?_⟩
        · rw [y3] at g3
          cases g3
        · rw [y1, y2] at n
          cases n
        · refine ⟨fun _ => False, _, _, rfl, .tup ht2 (fun z => z) (.cons (.str _) (.cons (.str _) .nil)), sh.nl, sh.sh, sh.dp, sh.ln, rfl, ?_⟩
          have e : ∀ z : Str, decide (V.str z = V.str z) = true := fun z => decide_eq_true rfl
          rw [e]
          have sA := s11.trans s12
          exact q H12 (((KN.of kA).ext en).same sA) (tb8.ext sA)
end
end K1
set_option Elab.async false
set_option linter.all false
set_option maxRecDepth 100000
set_option maxHeartbeats 4000000
namespace K1
open PySem PySem.Spec PyProof.Rows L2 Bb
theorem pe_by {X : Cx} {e : Expr} {t t' : TE} (h : PE X e t) (w : ∀ σ H Q, t' σ H Q → t σ H Q) : PE X e t' := ⟨fun pins s σ H Q I q => h.run pins s σ H Q I (w σ H Q q)⟩
abbrev rNo (z : Str) : PyData := .tuple [.str "no", .str z]
abbrev rTold (d : PyData) : PyData := .tuple [.str "told", d]
/-- what is due of marks d by g, with dd where there is none -/
inductive Res (d g dd : PyData) : PyData → Prop
  | mark : marksD d = false → Res d g dd (rNo "nomark")
  | way : marksD d = true → wayD g = false → Res d g dd (rNo "noway")
  | none {ns : List Int} {z : Str} : marksD d = true → wayD g = true → itemsD d = ns.map PyData.int → g = .str z → ns = [] → Res d g dd (rTold dd)
  | best {ns : List Int} {z : Str} {m : Int} : marksD d = true → wayD g = true → itemsD d = ns.map PyData.int → g = .str z → bestZ z ns m → Res d g dd (rTold (.int m))
theorem map_int_inj {a b : List Int} (h : a.map PyData.int = b.map PyData.int) : a = b := (List.map_inj_right (fun x y h => by injection h)).mp h
theorem Res.uniq {d g dd r r' : PyData} (a : Res d g dd r) (b : Res d g dd r') : r = r' := by
  cases a with
  | mark h =>
    cases b with
    | mark => rfl
    | way h2 => rw [h] at h2; cases h2
    | none h2 => rw [h] at h2; cases h2
    | best h2 => rw [h] at h2; cases h2
  | way h w =>
    cases b with
    | mark h2 => rw [h] at h2; cases h2
    | way => rfl
    | none _ w2 => rw [w] at w2; cases w2
    | best _ w2 => rw [w] at w2; cases w2
  | none h w i e n =>
    cases b with
    | mark h2 => rw [h] at h2; cases h2
    | way _ w2 => rw [w] at w2; cases w2
    | none => rfl
    | best _ _ i2 _ bz =>
      have en := map_int_inj (i.symm.trans i2)
      rw [← en, n] at bz
      cases bz.1
  | best h w i e bz =>
    cases b with
    | mark h2 => rw [h] at h2; cases h2
    | way _ w2 => rw [w] at w2; cases w2
    | none _ _ i2 _ n =>
      have en := map_int_inj (i.symm.trans i2)
      rw [en, n] at bz
      cases bz.1
    | best _ _ i2 e2 bz2 =>
      have en := map_int_inj (i.symm.trans i2)
      have ez := PyData.str.inj (e.symm.trans e2)
      subst en
      subst ez
      rw [bestZ_uniq bz bz2]
theorem no_shw {z : Str} (h : (decide (z.length ≤ 10) && PyData.canLay0 (.str z)) = true) : Shw (rNo z) := two_shown (d := .str "no") (e := .str z) (sm_lit (by decide +kernel)) (sm_lit h) (cl_str _)
theorem told_shw {d : PyData} (h : Sm d) : Shw (rTold d) := two_shown (d := .str "told") (sm_lit (by decide +kernel)) h (cl_str _)
theorem marks_rng {d : PyData} {ns : List Int} {b : Int} (m : marksD d = true) (e : itemsD d = ns.map PyData.int) (hb : b ∈ ns) : Sm (.int b) := by
  have a : ∀ {ds : List PyData}, ds.all markD = true → ds = ns.map PyData.int → Sm (.int b) := fun {ds} h e => by
    have z := List.all_eq_true.mp h (.int b) (by rw [e]; exact List.mem_map.mpr ⟨b, hb, rfl⟩)
    obtain ⟨i, ei, lo, hi⟩ := mark_int z
    cases ei
    exact Sm.int (Nat.lt_of_lt_of_le (show b.natAbs < 10000000 by omega) (by decide +kernel))
  cases d with
  | list ds => exact a m e
  | tuple ds => exact a m e
  | _ => cases m
/-- an answer stands at a new address -/
def Ans (Z : Addr → Prop) (d g dd : PyData) (H : Hp) (Q : VK) : Prop := ∀ t H' r, Same H H' → Res d g dd r → Da Z H' (.ref t) r → Shw r → Q (.ref t) H'
section
variable {Z : Addr → Prop} {H : Hp} {x v df : V} {d g dd : PyData} {Q : VK} {E : XK}
theorem dues_goes (hz : ∀ b, Z b → H b ≠ none) (hx : Da Z H x d) (hv : Da Z H v g) (hd : Da Z H df dd) (sd : Sm dd) (sh : shortD d = true ∧ shortD g = true) (ly : layD d = true) (k : Ans Z d g dd H Q) : spDueS [x, v, df] H Q E := by
  have nz : ∀ {t}, H t = none → ¬ Z t := fun e z => hz _ z e
  refine ⟨Z, x, v, df, d, g, rfl, hx, hv, sh, ly, fun m w ns z e1 e2 => ⟨fun n t H' s ht e => ?_, fun b bz t H' s ht e => ?_⟩, fun m t H' s ht e => ?_, fun m w t H' s ht e => ?_⟩
  · exact k t H' _ s (.none m w e1 e2 n) (.tup e (nz ht) (.cons (.str _) (.cons (Da.keep (Keeps.of s) _ _ hd) .nil))) (told_shw sd)
  · refine k t H' _ s (.best m w e1 e2 bz) (.tup e (nz ht) (.cons (.str _) (.cons (.int _) .nil))) (told_shw (marks_rng m e1 bz.1))
  · exact k t H' _ s (.mark m) (.tup e (nz ht) (.cons (.str _) (.cons (.str _) .nil))) (no_shw (by decide +kernel))
  · exact k t H' _ s (.way m w) (.tup e (nz ht) (.cons (.str _) (.cons (.str _) .nil))) (no_shw (by decide +kernel))
theorem best_goes {CM CW : Addr} (hz : ∀ b, Z b → H b ≠ none) (hx : Da Z H x d) (hv : Da Z H v g) (hd : Da Z H df dd) (sd : Sm dd) (sh : shortD d = true ∧ shortD g = true) (k : Ans Z d g dd H Q) :
    spBest CM CW [x, v, df] H (fun v' H' => [V.str "told", v'].length ≤ sizeLine ∧ ∀ p, H' p = none → Q (.ref p) (upd H' p (.tup [.str "told", v']))) (wish (Kt CM CW) Q) := by
  have ts : 2 ≤ sizeLine := by decide
  have nz : ∀ {t H'}, Same H H' → H' t = none → ¬ Z t := fun s e z => hz _ z (Same.free s e)
  refine ⟨Z, x, v, df, d, g, rfl, hx, hv, sh, fun m w ns z e1 e2 H' s => ⟨fun n => ⟨ts, fun t ht => ?_⟩, fun b bz => ⟨ts, fun t ht => ?_⟩⟩, fun m H' s => ?_, fun m w H' s => ?_⟩
  · have u := up2 (o := .tup [.str "told", df]) ht
    exact k t _ _ (s.trans u) (.none m w e1 e2 n) (.tup upd_same (nz s ht) (.cons (.str _) (.cons (Da.keep (Keeps.of (s.trans u)) _ _ hd) .nil))) (told_shw sd)
  · have u := up2 (o := .tup [.str "told", .int b]) ht
    refine k t _ _ (s.trans u) (.best m w e1 e2 bz) (.tup upd_same (nz s ht) (.cons (.str _) (.cons (.int _) .nil))) (told_shw (marks_rng m e1 bz.1))
  · refine ⟨rfl, CM, "nomark", List.mem_cons_self, rfl, fun H'' s2 t ht => ?_⟩
    have u := up2 (o := .tup [.str "no", .str "nomark"]) ht
    exact k t _ _ ((s.trans s2).trans u) (.mark m) (.tup upd_same (nz (s.trans s2) ht) (.cons (.str _) (.cons (.str _) .nil))) (no_shw (by decide +kernel))
  · refine ⟨rfl, CW, "noway", List.mem_cons_of_mem _ List.mem_cons_self, rfl, fun H'' s2 t ht => ?_⟩
    have u := up2 (o := .tup [.str "no", .str "noway"]) ht
    exact k t _ _ ((s.trans s2).trans u) (.way m w) (.tup upd_same (nz (s.trans s2) ht) (.cons (.str _) (.cons (.str _) .nil))) (no_shw (by decide +kernel))
end
/-- what is handed in, as it stands -/
structure Got (Z : Addr → Prop) (H : Hp) (x v df : V) (d g dd : PyData) : Prop where
  hz : ∀ b, Z b → H b ≠ none
  hx : Da Z H x d
  hv : Da Z H v g
  hd : Da Z H df dd
  sd : Sm dd
  sh : shortD d = true ∧ shortD g = true
  ly : layD d = true
theorem Got.ext {Z : Addr → Prop} {H H' : Hp} {x v df : V} {d g dd : PyData} (a : Got Z H x v df d g dd) (e : LamX.ExtN H H') (hz : ∀ b, Z b → H' b ≠ none) : Got Z H' x v df d g dd :=
  ⟨hz, Da.ext a.hx e, Da.ext a.hv e, Da.ext a.hd e, a.sd, a.sh, a.ly⟩
/-- the calls of the due best and of the best, by slots -/
def tDue (i j l : Nat) : TE := fun σ H Q => ∃ (Z : Addr → Prop) (x v df : V) (d g dd : PyData), σ[i]? = some (some x) ∧ σ[j]? = some (some v) ∧ σ[l]? = some (some df) ∧ Got Z H x v df d g dd ∧ Ans Z d g dd H Q
def tDueD (i : Nat) (v df : V) : TE := fun σ H Q => ∃ (Z : Addr → Prop) (x : V) (d g dd : PyData), σ[i]? = some (some x) ∧ Got Z H x v df d g dd ∧ Ans Z d g dd H Q
def tBst (T : List (Addr × Str)) (i j l : Nat) : TE := fun σ H Q => ∃ (Z : Addr → Prop) (x v df : V) (d g dd : PyData), σ[i]? = some (some x) ∧ σ[j]? = some (some v) ∧ σ[l]? = some (some df) ∧ Got Z H x v df d g dd ∧ (∀ H', LamX.ExtN H H' → ∀ b, Z b → H' b ≠ none) ∧ LamX.Tabs T H ∧ ∀ H', LamX.ExtN H H' → LamX.Tabs T H' → Ans Z d g dd H' Q
def tBstD (T : List (Addr × Str)) (i : Nat) (v df : V) : TE := fun σ H Q => ∃ (Z : Addr → Prop) (x : V) (d g dd : PyData), σ[i]? = some (some x) ∧ Got Z H x v df d g dd ∧ (∀ H', LamX.ExtN H H' → ∀ b, Z b → H' b ≠ none) ∧ LamX.Tabs T H ∧ ∀ H', LamX.ExtN H H' → LamX.Tabs T H' → Ans Z d g dd H' Q
/-- a row of marks, one of them odd now and then -/
structure RowD (p : Addr) (H : Hp) (xs : List V) (ds : List PyData) : Prop where
  al : DaAll (Zp p) H xs ds
  sm : ∀ d ∈ ds, Sm d
  sh : ∀ d ∈ ds, shortD d = true
  ly : ∀ d ∈ ds, PyData.canLay0 d = true
  ln : ds.length ≤ 6
def IntsOk (ns : List Int) : Prop := ns.length ≤ 5 ∧ ∀ n ∈ ns, 1 ≤ n ∧ n ≤ 1000000
theorem big40 {i : Int} (b : 1 ≤ i ∧ i ≤ 1000000) : i.natAbs < 10 ^ 40 := Nat.lt_of_lt_of_le (show i.natAbs < 10000000 by omega) (by decide +kernel)
theorem row_ints {p : Addr} {H : Hp} {ns : List Int} (h : IntsOk ns) : RowD p H (ns.map V.int) (ns.map PyData.int) := by
  refine ⟨DaAll.ints ns, fun d hd => ?_, fun d hd => ?_, fun d hd => ?_, by rw [List.length_map]; have := h.1; omega⟩
  · obtain ⟨n, hn, rfl⟩ := List.mem_map.mp hd
    exact Sm.int (big40 (h.2 n hn))
  · obtain ⟨n, hn, rfl⟩ := List.mem_map.mp hd
    rfl
  · obtain ⟨n, hn, rfl⟩ := List.mem_map.mp hd
    rfl
theorem lay_all : ∀ {ds : List PyData}, (∀ d ∈ ds, PyData.canLay0 d = true) → PyData.canLayAll0 ds = true ∧ PyData.hasDictAll ds = false
  | [], _ => ⟨rfl, rfl⟩
  | d :: ds, h => by
    obtain ⟨h1, h2⟩ := lay_all (ds := ds) fun x hx => h x (List.mem_cons_of_mem _ hx)
    have c := h d List.mem_cons_self
    refine ⟨?_, ?_⟩
    · show (PyData.canLay0 d && PyData.canLayAll0 ds) = true
      rw [c, h1]
      rfl
    · show (d.hasDict || PyData.hasDictAll ds) = false
      rw [PyData.hasDict_of_canLay d c, h2]
      rfl
/-- what best_of is asked of -/
structure Som (p : Addr) (H : Hp) (v : V) (d : PyData) : Prop where
  da : Da (Zp p) H v d
  sw : Shw d
  sh : shortD d = true
  ly : layD d = true
theorem RowD.som {p : Addr} {H : Hp} {xs : List V} {ds : List PyData} (r : RowD p H xs ds) {a : Addr} (na : a ≠ p) : (H a = some (.lst xs) → Som p H (.ref a) (.list ds)) ∧ (H a = some (.tup xs) → Som p H (.ref a) (.tuple ds)) := by
  obtain ⟨l1, l2⟩ := lay_all r.ly
  obtain ⟨_, l4, _⟩ := all_shw r.sm
  have ly : (PyData.canLayAll0 ds && decide (PyData.depthAll ds ≤ 8)) = true := by
    rw [l1, decide_eq_true (show PyData.depthAll ds ≤ 8 by omega)]
    rfl
  have l6 := r.ln
  exact ⟨fun e => ⟨.lst e na r.al, shw_lst r.sm (by omega) l2, short_lst r.sh (by omega), ly⟩, fun e => ⟨.tup e na r.al, shw_tup r.sm (by omega) (fun z => by rw [l2] at z; cases z), short_tup r.sh (by omega), ly⟩⟩
theorem RowD.keep {p : Addr} {H H' : Hp} {xs : List V} {ds : List PyData} (r : RowD p H xs ds) (k : Keeps (Zp p) H H') : RowD p H' xs ds := ⟨DaAll.keep k _ _ r.al, r.sm, r.sh, r.ly, r.ln⟩
/-- the row with an odd one put in -/
theorem RowD.ins {p : Addr} {H : Hp} {ns : List Int} {v : V} {d : PyData} (h : IntsOk ns) (a : Da (Zp p) H v d) (s : Sm d) (t : shortD d = true) (c : PyData.canLay0 d = true) (k : Nat) : RowD p H ((ns.map V.int).take k ++ [v] ++ (ns.map V.int).drop k) ((ns.map PyData.int).take k ++ [d] ++ (ns.map PyData.int).drop k) := by
  have r := row_ints (p := p) (H := H) h
  have mem : ∀ {P : PyData → Prop}, (∀ x ∈ ns.map PyData.int, P x) → P d → ∀ x ∈ (ns.map PyData.int).take k ++ [d] ++ (ns.map PyData.int).drop k, P x := fun {P} h1 h2 x hx => by
    rcases List.mem_append.mp hx with z | z
    · rcases List.mem_append.mp z with z | z
      · exact h1 x (List.mem_of_mem_take z)
      · rw [List.mem_singleton.mp z]
        exact h2
    · exact h1 x (List.mem_of_mem_drop z)
  refine ⟨((r.al.take k).app (.cons a .nil)).app (r.al.drop k), mem r.sm s, mem r.sh t, mem r.ly c, ?_⟩
  have l5 := h.1
  simp only [List.length_append, List.length_take, List.length_drop, List.length_map, List.length_singleton]
  omega
abbrev nRR : List Str := ["_law_pen_here", "_law_row", "_law_kept", "_law_due", "_law_none", "_law_rule", "_law_some", "_law_turn"]
abbrev st1 (p R : Addr) : L2.St := [some (.ref p), some (.ref R), none, none, none, none, none, none]
def tIns : TS := fun D σ H => ∃ p R ns, σ = st1 p R ∧ Pen H p ∧ R ≠ p ∧ H R = some (.lst (ns.map V.int)) ∧ IntsOk ns ∧
  ∀ xs ds H', (∀ b o, H b = some o → b ≠ p → b ≠ R → H' b = some o) → Pen H' p → H' R = some (.lst xs) → RowD p H' xs ds → D.nx (st1 p R) H'
def spRR (P1 P2 : Addr) : Sp := fun vs H Q _ => ∃ p, vs = [.ref p] ∧ Pen H p ∧ LamX.Tabs (Ts P1 P2 qM qR) H ∧ ∀ H', KN p H H' → LamX.Tabs (Ts P1 P2 qM qR) H' → Q (.bl true) H'
theorem best_binds {K : PySem.W.Frag} {f : Addr} {fd : FuncData} (F : FunD K "best_of" "best_of" (defArgs sBest) (defBody sBest) (defScope sBest) [.str "less", .non] [] f fd) : Binds K fd nBest [] ∧ ∃ ds, Vals [.str "less", .non] ds ∧ Binds K fd nBest ds := by
  constructor
  · obtain ⟨ds, rd, b⟩ := F.binds1 (ps := nBest) 3 2 (by intro e; cases e) rfl (fun T kV doc pm an cdv ct us its h1 h2 =>
      match us, its, h1, h2 with
      | [_, _, _], [_, _], _, _ => ⟨_, rfl, rfl⟩)
    cases rd
    exact b
  · obtain ⟨ds, rd, b⟩ := F.binds1 (ps := nBest) 1 0 (by intro e; cases e) rfl (fun T kV doc pm an cdv ct us its h1 h2 =>
      match us, its, h1, h2 with
      | [_], [_, _], _, _ => ⟨_, rfl, rfl⟩)
    exact ⟨ds, rd, b⟩
end K1
set_option Elab.async false
set_option linter.all false
set_option maxRecDepth 100000
set_option maxHeartbeats 4000000
namespace K1
open PySem PySem.Spec PyProof.Rows L2 Bb
theorem zp_old {p : Addr} {H : Hp} (hp : Pen H p) : ∀ b, Zp p b → H b ≠ none := fun b e => by
  have e2 : b = p := e
  rw [e2]
  exact pen_old hp
theorem pen_ext {p : Addr} {H H' : Hp} (hp : Pen H p) (e : LamX.ExtN H H') : Pen H' p := by
  obtain ⟨x, f, h⟩ := hp
  exact ⟨x, f, e _ _ h (fun _ z => by cases z)⟩
section
variable {P : Program} {w : World} {K : PySem.W.Frag} {mg : Str → Option Value} {base : Heap} {f : Addr} {fd : FuncData}
theorem scRR : FnScope nRR ["_law_pen_here"] (defScope sRR) := ⟨rfl, rfl, rfl, by decide +kernel, rfl, by decide +kernel, by decide +kernel⟩
theorem ok_rr {CM CW CC c P1 P2 : Addr} (F : Fn K "_law_rows_right" "_law_rows_right" sRR f fd) (hcode : fd.code = .ref c) (TB : LamX.TabB base mg c P2) (ne : P1 ≠ P2) (r : Rt K mg CM CW CC) : FnG P w K mg base L2.CX0 9 f fd ["_law_pen_here"] (spRR P1 P2) := by
  have h := r.mk1.hl
  have T := h.fr
  obtain ⟨aP, dP, GP, gP, kP, bP⟩ := h.pk (P := P) (w := w) (base := base)
  obtain ⟨aD, dD, GD, gD, kD, bD⟩ := h.dr (P := P) (w := w) (base := base)
  obtain ⟨aA, dA, FA, gA⟩ := r.mk1.any
  obtain ⟨aO, dO, FO, gO⟩ := r.mk1.odd
  obtain ⟨aS, dS, FS, gS⟩ := r.mk1.sco
  obtain ⟨aB, dB, FB, gB⟩ := r.bst
  obtain ⟨aU, dU, FU, gU⟩ := r.dus
  obtain ⟨aKi, dKi, FKi, gKi⟩ := r.kind
  obtain ⟨aCa, dCa, FCa, gCa⟩ := r.came
  obtain ⟨CP, gNP⟩ := r.np
  have GA : FnOk P w K mg base L2.CX0 3 aA dA ["_law_pen_here"] spThingD := ok_any FA h
  have bA : Binds K dA ["_law_pen_here"] [] := FA.bindsN fun _ _ _ _ _ _ us hl => match us, hl with | [_], _ => rfl
  have GO : FnOk P w K mg base L2.CX0 3 aO dO ["_law_pen_here", "_law_least", "_law_greatest"] spOddD := ok_odd FO h
  have bO : Binds K dO ["_law_pen_here", "_law_least", "_law_greatest"] [] := FO.bindsN fun _ _ _ _ _ _ us hl => match us, hl with | [_, _, _], _ => rfl
  have GS : FnOk P w K mg base L2.CX0 3 aS dS ["_law_pen_here"] spScore := ok_score FS h
  have bS : Binds K dS ["_law_pen_here"] [] := FS.bindsN fun _ _ _ _ _ _ us hl => match us, hl with | [_], _ => rfl
  have GB : FnOk P w K mg base (L2.CX P w) 6 aB dB nBest (spBest CM CW) := ok_best FB r.pr r.em r.ew
  obtain ⟨bB, dsB, rB, bB1⟩ := best_binds FB
  have GU : FnOk P w K mg base L2.CX0 4 aU dU ["_law_row", "_law_rule", "_law_none"] spDueS := ok_dues FU r.lk
  have bU : Binds K dU ["_law_row", "_law_rule", "_law_none"] [] := FU.bindsN fun _ _ _ _ _ _ us hl => match us, hl with | [_, _, _], _ => rfl
  have bCa : Binds K dCa ["_law_call"] [] := FCa.bindsN fun _ _ _ _ _ _ us hl => match us, hl with | [_], _ => rfl
  obtain ⟨oc, od, dV, kV, doc, pm, an, cdC, ct, osl, rfl, lkC, hcC, _, _⟩ := FCa.ex
  have ts : 2 ≤ sizeLine := by decide
  refine fnG F scRR (fun vs H Q E h => ?_) (fun cdv A outer s H vs Q E gd hr hcd hh => ?_)
  · obtain ⟨p, rfl, _⟩ := h
    rfl
  · obtain ⟨p, rfl, hp, tb, q⟩ := hh
    have ecd := hcd c hcode
    let X := (cxOf L2.CX0 P w K mg base nRR "_law_rows_right" (defScope sRR) f cdv A outer s H E).nox
    have gdX : X.A.guards = some [] := gd
    have rep := call_reprA (X := X) gdX hr.units
    have hr1 : Room 1 X.A := hr.mono (by decide)
    have hr2 : Room 2 X.A := hr.mono (by decide)
    have hr3 : Room 3 X.A := hr.mono (by decide)
    have hr4 : Room 4 X.A := hr.mono (by decide)
    refine' ⟨_, PSs.nox ?d, ?r⟩
    case d =>
      refine' pss_cons (ps_setLc (i := 1) (own := [("_law_turn", 7)]) (g := gName 7) (tt := tYes) rfl scRR.nd rfl rfl (sw_true rfl rfl rfl (by decide +kernel)) (pi_range1 rfl T.rng_ (pa_cons (pe_call GD hr1 rfl gD kD bD .nil pass0 (pa_cons (pv 0) (pa_cons pe_int pa_nil))) pa_nil)) (blkOk_by (N := nRR) (sc := defScope sRR) (by decide +kernel)) (fun _ _ _ _ _ => pg_name (i := 7) scRR.nd rfl (Or.inl rfl)) (fun _ _ _ _ _ => pts_nil)
        (fun _ _ _ _ _ => pe_call GS hr3 rfl gS FS.kp bS .nil pass0 (pa_cons (pv 0) pa_nil))) ?a1
      case a1 =>
        refine' pss_cons (ps_by (t' := tIns) (ps_if (pt_cmpR op_eq (pe_call GD hr1 rfl gD kD bD .nil pass0 (pa_cons (pv 0) (pa_cons pe_int pa_nil))) pe_int (nomark _)) (pss_one (ps_expr (pe_bm PySem.F.plainAttrs_list PySem.F.slot_list_insert PySem.F.type_list_insert mt_insert (pv 1)
            (pa_cons (pe_call GD hr1 rfl gD kD bD .nil pass0 (pa_cons (pv 0) (pa_cons (pe_op op_add (pe_callB call_len_seq rfl T.len_ boot_len (pa_cons (pv 1) pa_nil)) pe_int) pa_nil))) (pa_cons (pe_call GO hr3 rfl gO FO.kp bO .nil pass0 (pa_cons (pv 0) (pa_cons pe_int (pa_cons (pe_op op_pow pe_int pe_int) pa_nil)))) pa_nil))))) pss_nil) ?w1) ?a2
        case w1 =>
          rintro D σ H0 ⟨p, R, ns, rfl, hp, nR, eR, ok, nx⟩
          refine ⟨_, rfl, p, 4, rfl, hp, ⟨by decide, by decide⟩, fun m H1 _ _ k1 => ⟨rfl, _, rfl, ?_⟩⟩
          have eR1 := k1.keep _ _ eR nR
          have l5 := ok.1
          refine ite2 (fun _ => ?_) (fun _ => ?_)
          · refine ⟨_, rfl, .inl ⟨rfl, _, SqL.of eR1⟩, _, rfl, _, rfl, R, _, rfl, .inl (SqL.of eR1), _, _, rfl, rfl, p, _, rfl, k1.pen, ?_, fun k H2 g0 g1 k2 => ?_⟩
            · rw [List.length_map]
              constructor <;> omega
            rw [List.length_map] at g1
            refine ⟨_, rfl, 10, 6, rfl, rfl, ⟨by decide, by decide, by decide⟩, p, 1, _, rfl, k2.pen, ⟨by decide, by decide +kernel⟩, fun v d H3 k3 a m3 t _ c3 => ?_⟩
            have eR3 := k3.keep _ _ (k2.keep _ _ eR1 nR) nR
            have k13 := (k1.trans k2).trans k3
            refine ⟨R, _, k, v, rfl, rfl, eR3, small1000 (by rw [List.length_map]; omega), g0, by omega, ?_⟩
            have a2 : Da (fun b => b = p ∨ b = R) H3 v d := Da.zed (fun b o _ n e => n (by
              rcases e with rfl | rfl
              · exact pen_old k2.pen
              · intro z
                rw [k2.keep _ _ eR1 nR] at z
                cases z)) _ _ a
            have kU : Keeps (fun b => b = p ∨ b = R) H3 (upd H3 R (.lst ((ns.map V.int).take k.toNat ++ [v] ++ (ns.map V.int).drop k.toNat))) := fun b o e _ n => by
              rw [upd_ne (fun z => n (.inr z))]
              exact e
            have a3 : Da (Zp p) _ v d := Da.zed (fun b o _ n e => n (.inl e)) _ _ (Da.keep kU _ _ a2)
            refine nx _ _ _ (fun b o e n1 n2 => ?_) ?_ upd_same (RowD.ins ok a3 m3 t c3 k.toNat)
            · rw [upd_ne n2]
              exact k13.keep _ _ e n1
            · obtain ⟨x, y, e⟩ := k3.pen
              exact ⟨x, y, by rw [upd_ne (Ne.symm nR)]; exact e⟩
          · exact nx _ _ H1 (fun b o e n _ => k1.keep b o e n) k1.pen eR1 (row_ints ok)
        case a2 =>
          refine' pss_cons (ps_set (i := 6) scRR.nd rfl (.inr rfl) (pe_call GP hr2 rfl gP kP bP .nil pass0 (pa_cons (pv 0) (pa_cons (pe_lst (pa_cons (pv 1) (pa_cons (pe_callTy call_tuple_of rfl T.tup_ (by decide +kernel) (pa_cons (pv 1) pa_nil)) (pa_cons (pv 1) (pa_cons (pe_callTy call_tuple_of rfl T.tup_ (by decide +kernel) (pa_cons (pv 1) pa_nil))
            (pa_cons (pe_call GA hr3 rfl gA FA.kp bA .nil pass0 (pa_cons (pv 0) pa_nil)) pa_nil)))))) pa_nil)))) ?a3
          case a3 =>
            refine' pss_cons (ps_asg (pe_tup (pa_cons (pe_call GP hr2 rfl gP kP bP .nil pass0 (pa_cons (pv 0) (pa_cons (pe_lst (pa_cons pe_str (pa_cons pe_str (pa_cons pe_str (pa_cons pe_str (pa_cons (pe_call GA hr3 rfl gA FA.kp bA .nil pass0 (pa_cons (pv 0) pa_nil)) pa_nil)))))) pa_nil)))
              (pa_cons (pe_call GA hr3 rfl gA FA.kp bA .nil pass0 (pa_cons (pv 0) pa_nil)) pa_nil))) (pg_tup rfl (pgs_cons (pg_name (i := 5) scRR.nd rfl (Or.inr rfl)) (pgs_cons (pg_name (i := 4) scRR.nd rfl (Or.inr rfl)) pgs_nil)))) ?a4
            case a4 =>
              refine' pss_cons (ps_par (i := 2) (j := 3) rfl scRR.nd rfl rfl (by decide) rfl rfl (pa_cons (pe_callB rep rfl T.rep_ boot_repr (pa_cons (pv 6) pa_nil)) (pa_cons (pe_by (t' := tDue 6 5 4) (pe_call GU hr4 rfl gU FU.kp bU .nil pass0 (pa_cons (pv 6) (pa_cons (pv 5) (pa_cons (pv 4) pa_nil)))) ?w2) pa_nil)) rfl) ?a5
              case w2 =>
                rintro σ H Q ⟨Z, x, v, df, d, g, dd, e1, e2, e3, G, k⟩
                refine ⟨_, e1, _, e2, _, e3, ?_⟩
                exact dues_goes (E := E0) G.hz G.hx G.hv G.hd G.sd G.sh G.ly k
              case a5 =>
                refine' pss_cons (ps_if (PW.pt (pw_or (pt_cmpR op_ne (pe_callB rep rfl T.rep_ boot_repr (pa_cons (pe_by (t' := tBst (Ts P1 P2 qM qR) 6 5 4) ?lam1 ?w3) pa_nil)) (pe_callB rep rfl T.rep_ boot_repr (pa_cons (pv 3) pa_nil)) (nomark _)) (pw_or1 (pt_cmpR op_ne (pe_callB rep rfl T.rep_ boot_repr (pa_cons (pv 6) pa_nil)) (pv 2) (nomark _))))) (pss_one (ps_ret pe_bl)) pss_nil) ?a6
                case lam1 =>
                  refine LamX.pe_lamcall (TT := TCame (Kt CM CW)) (x := "_law_came") (a := "_law_call") (T := Ts P1 P2 qM qR) (c := c) (P := P2) (k := 6) (t := fun E' => tCall (spBest CM CW) [] E' (tCons (tVar 6) (tCons (tVar 5) (tCons (tVar 4) tNil)))) rfl gCa FCa.kp lkC hcC bCa scCame rfl (.inl rfl) ?lg TB ecd (List.mem_cons_of_mem _ List.mem_cons_self) ?lu (hr.mono (by decide)) (LamX.lamS_by (sc := defScope sRR) (by decide +kernel)) rfl (fun _ _ _ _ _ => rfl) ?lb
                  case lg => exact came_gives (kt := Kt CM CW) (m := 6) (hr.mono (by decide)) FKi gKi T r.cc gNP (kt_er r)
                  case lu =>
                    intro x hx e
                    simp only [List.mem_cons, List.not_mem_nil, or_false] at hx
                    rcases hx with rfl | rfl
                    · exact absurd e ne
                    · rfl
                  case lb =>
                    intro A' outer' s' H' E' f' c' hr'
                    exact pe_call GB hr' rfl gB FB.kp bB .nil (passes_call (takes_of rfl rfl rfl rfl) (fun _ _ _ _ h => h)) (pa_cons (pv 6) (pa_cons (pv 5) (pa_cons (pv 4) pa_nil)))
                case w3 =>
                  rintro σ H Q ⟨Z, x, v, df, d, g, dd, e1, e2, e3, G, hz, tb, k⟩
                  refine ⟨tb, fun H1 en tb1 => ?_⟩
                  have G1 := G.ext en (hz H1 en)
                  refine ⟨_, e1, _, e2, _, e3, ?_⟩
                  exact best_goes G1.hz G1.hx G1.hv G1.hd G1.sd G1.sh (k H1 en tb1)
                case a6 =>
                  refine' pss_one (ps_ret (pe_cmpR op_eq (pe_callB rep rfl T.rep_ boot_repr (pa_cons (pe_by (t' := tBstD (Ts P1 P2 qM qR) 6 (.str "less") .non) ?lam2 ?w4) pa_nil)) (pe_callB rep rfl T.rep_ boot_repr (pa_cons (pe_by (t' := tDueD 6 (.str "less") .non) (pe_call GU hr4 rfl gU FU.kp bU .nil pass0 (pa_cons (pv 6) (pa_cons pe_str (pa_cons pe_non pa_nil)))) ?w5) pa_nil)) (nomark _)))
                  case lam2 =>
                    refine LamX.pe_lamcall (TT := TCame (Kt CM CW)) (x := "_law_came") (a := "_law_call") (T := Ts P1 P2 qM qR) (c := c) (P := P2) (k := 6) (t := fun E' => tCall (spBest CM CW) [.str "less", .non] E' (tCons (tVar 6) tNil)) rfl gCa FCa.kp lkC hcC bCa scCame rfl (.inl rfl) ?lg2 TB ecd (List.mem_cons_of_mem _ List.mem_cons_self) ?lu2 (hr.mono (by decide)) (LamX.lamS_by (sc := defScope sRR) (by decide +kernel)) rfl (fun _ _ _ _ _ => rfl) ?lb2
                    case lg2 => exact came_gives (kt := Kt CM CW) (m := 6) (hr.mono (by decide)) FKi gKi T r.cc gNP (kt_er r)
                    case lu2 =>
                      intro x hx e
                      simp only [List.mem_cons, List.not_mem_nil, or_false] at hx
                      rcases hx with rfl | rfl
                      · exact absurd e ne
                      · rfl
                    case lb2 =>
                      intro A' outer' s' H' E' f' c' hr'
                      exact pe_call GB hr' rfl gB FB.kp bB1 rB (passes_call (takes_of rfl rfl rfl rfl) (fun _ _ _ _ h => h)) (pa_cons (pv 6) pa_nil)
                  case w4 =>
                    rintro σ H Q ⟨Z, x, d, g, dd, e1, G, hz, tb, k⟩
                    refine ⟨tb, fun H1 en tb1 => ?_⟩
                    have G1 := G.ext en (hz H1 en)
                    refine ⟨_, e1, ?_⟩
                    exact best_goes G1.hz G1.hx G1.hv G1.hd G1.sd G1.sh (k H1 en tb1)
                  case w5 =>
                    rintro σ H Q ⟨Z, x, d, g, dd, e1, G, k⟩
                    refine ⟨_, e1, ?_⟩
                    exact dues_goes (E := E0) G.hz G.hx G.hv G.hd G.sd G.sh G.ly k
    case r =>
      have eqs : ∀ z : Str, decide (V.str z = V.str z) = true := fun z => decide_eq_true rfl
      refine ⟨_, rfl, p, 6, rfl, hp, ⟨by decide, by decide⟩, fun m H1 m0 m1 k1 => ⟨m, rfl, by omega, by omega, fun D hD => ?_⟩⟩
      have nD : D ≠ p := ne_pen k1.pen hD
      have hn : (m - 0).toNat = m.toNat := by rw [Int.sub_zero]
      refine lc_range (lo := 0) (n := m.toNat) (fun i H' => Kp p H1 H' ∧ ∃ ns : List Int, H' D = some (.lst (ns.map V.int)) ∧ ns.length = i ∧ ∀ n ∈ ns, 1 ≤ n ∧ n ≤ 1000000)
        ⟨Kp.of k1.pen (up2 hD), [], upd_same, rfl, fun n hn => by cases hn⟩ ?_ ?_
      · rintro i H' hi ⟨kp, ns, hl, hlen, hin⟩
        refine ⟨rfl, ?_⟩
        unfold tYes
        dsimp only
        rw [if_pos rfl]
        refine ⟨_, rfl, p, rfl, kp.pen, fun n H2 kp2 hn => ?_⟩
        refine ⟨_, kp2.keep _ _ hl nD, small1000 (by rw [List.length_map]; omega), ?_, ns ++ [n], ?_, by simp [hlen], fun x hx => ?_⟩
        · refine ⟨fun b o e n => ?_, ?_⟩
          · rw [upd_ne (ne_of_none e hD)]
            exact (kp.trans kp2).keep b o e n
          · obtain ⟨x, y, e⟩ := kp2.pen
            exact ⟨x, y, by rw [upd_ne (Ne.symm nD)]; exact e⟩
        · rw [upd_same, List.map_append]
          rfl
        · rcases List.mem_append.mp hx with z | z
          · exact hin x z
          · rw [List.mem_singleton.mp z]
            exact hn
      rintro H2 ⟨kp2, ns, hl, hlen, hin⟩
      have ok : IntsOk ns := ⟨by omega, hin⟩
      have kA := k1.trans kp2
      refine ⟨p, D, ns, rfl, kp2.pen, nD, hl, ok, fun xs ds H3 fr p3 eD rd => ?_⟩
      have DN : H D = none := k1.free hp hD
      have kB : Kp p H H3 := ⟨fun b o e n => fr b o (kA.keep b o e n) n (ne_of_none e DN), p3⟩
      -- the row, a tuple of it, or another thing
      refine ⟨_, rfl, _, rfl, _, rfl, D, _, rfl, .inl ⟨SqL.of eD, fun t1 h1 => ?_⟩⟩
      have u1 := up2 (o := .tup xs) h1
      refine ⟨_, rfl, _, rfl, D, _, rfl, .inl ⟨SqL.of (u1 _ _ eD), fun t2 h2 => ?_⟩⟩
      have u2 := up2 (o := .tup xs) h2
      have u12 := u1.trans u2
      have p12 := pen_same p3 u12
      refine ⟨_, rfl, p, rfl, p12, fun va da H5 k5 a5 m5 f5 y5 => ?_⟩
      refine ⟨(by show 5 ≤ sizeLine; decide), fun L hL => ?_⟩
      have u6 := up2 (o := .lst [.ref D, .ref t1, .ref D, .ref t2, va]) hL
      refine ⟨p, L, _, rfl, pen_same k5.pen u6, upd_same, ne_pen k5.pen hL, ⟨(by show 0 < 5; decide), (by show 5 ≤ 1000; decide)⟩, fun so H7 hso k7 => ?_⟩
      have k57 := (Kp.of k5.pen u6).trans k7
      have k37 : Kp p H3 H7 := ((Kp.of p3 u12).trans k5).trans k57
      have n1 := ne_pen p3 h1
      have n2 := ne_pen (pen_same p3 u1) h2
      have e1 := (k5.trans k57).keep _ _ (u2 _ _ upd_same) n1
      have e2 := (k5.trans k57).keep _ _ upd_same n2
      have eD7 := k37.keep _ _ eD nD
      have rd7 := rd.keep k37.keeps
      obtain ⟨d, S⟩ : ∃ d, Som p H7 so d := by
        simp only [List.mem_cons, List.not_mem_nil, or_false] at hso
        rcases hso with rfl | rfl | rfl | rfl | rfl
        · exact ⟨_, (rd7.som nD).1 eD7⟩
        · exact ⟨_, (rd7.som n1).2 e1⟩
        · exact ⟨_, (rd7.som nD).1 eD7⟩
        · exact ⟨_, (rd7.som n2).2 e2⟩
        · refine ⟨da, Da.keep k57.keeps _ _ (da_zp p12 a5), sm_shw m5, f5, y5⟩
      have kC := kB.trans k37
      -- the rule, and what is told of none
      refine ⟨_, rfl, _, rfl, p, rfl, k7.pen, fun vb db H8 k8 a8 m8 f8 _ => ?_⟩
      have o8 : Odd (Zp p) H8 vb := ⟨db, da_zp k7.pen a8, m8, f8⟩
      refine ⟨(by show 5 ≤ sizeLine; decide), fun L2 hL2 => ?_⟩
      have u9 := up2 (o := .lst [.str "less", .str "more", .str "less", .str "more", vb]) hL2
      refine ⟨p, L2, _, rfl, pen_same k8.pen u9, upd_same, ne_pen k8.pen hL2, ⟨(by show 0 < 5; decide), (by show 5 ≤ 1000; decide)⟩, fun v H10 hv k10 => ?_⟩
      have k810 := (Kp.of k8.pen u9).trans k10
      have ov : Odd (Zp p) H10 v := by
        simp only [List.mem_cons, List.not_mem_nil, or_false] at hv
        rcases hv with rfl | rfl | rfl | rfl | rfl
        · exact Odd.str (ok_lit (by decide +kernel))
        · exact Odd.str (ok_lit (by decide +kernel))
        · exact Odd.str (ok_lit (by decide +kernel))
        · exact Odd.str (ok_lit (by decide +kernel))
        · exact o8.keep k810.keeps
      refine ⟨_, rfl, p, rfl, k10.pen, fun df dd H11 k11 a11 m11 f11 _ => ⟨ts, fun t0 ht0 => ?_⟩⟩
      have u12' := up2 (o := .tup [v, df]) ht0
      refine ⟨t0, _, rfl, SqT.of upd_same, rfl, _, _, rfl, _, _, rfl, rfl, ?_⟩
      obtain ⟨Hx, eHx⟩ : ∃ G, G = upd H11 t0 (.tup [v, df]) := ⟨_, rfl⟩
      rw [← eHx] at u12' ⊢
      have k11x : Kp p H10 Hx := k11.same u12'
      have k7x : Kp p H7 Hx := (k8.trans k810).trans k11x
      have px : Pen Hx p := k11x.pen
      have kX : Kp p H Hx := kC.trans k7x
      have tbx := tabs_kp tb hp kX
      obtain ⟨g, ag, mg_, fg⟩ := ov.keep k11x.keeps
      have ad : Da (Zp p) Hx df dd := Da.keep (Keeps.of u12') _ _ (da_zp k10.pen a11)
      have as : Da (Zp p) Hx so d := Da.keep k7x.keeps _ _ S.da
      have G : Got (Zp p) Hx so v df d g dd := ⟨zp_old px, as, ag, ad, m11, ⟨S.sh, fg⟩, S.ly⟩
      -- what is due
      refine ⟨_, rfl, Zp p, _, d, rfl, as, S.sw.nl, S.sw.sh, S.sw.dp, S.sw.ln, ?_⟩
      refine ⟨Zp p, so, v, df, d, g, dd, rfl, rfl, rfl, G, fun t H12 rr s12 res a12 w12 => ?_⟩
      refine ⟨_, _, rfl, ?_⟩
      have p12' := pen_same px s12
      have exS : ∀ {H1 H2 : Hp}, Same H1 H2 → LamX.ExtN H1 H2 := fun s b o e _ => s b o e
      have G12 := G.ext (exS s12) (zp_old p12')
      have tb12 := tbx.ext s12
      refine ⟨Zp p, so, v, df, d, g, dd, rfl, rfl, rfl, G12, fun H' e => zp_old (pen_ext p12' e), tb12, fun H13 en13 tb13 t2 H14 rr2 s14 res2 a14 w14 => ?_⟩
      have er := Res.uniq res res2
      subst er
      have en14 : LamX.ExtN H12 H14 := en13.trans (exS s14)
      have tb14 := tb13.ext s14
      have p14 := pen_ext p12' en14
      refine ⟨Zp p, _, rr, rfl, a14, w14.nl, w14.sh, w14.dp, w14.ln, ?_⟩
      refine ⟨_, rfl, Zp p, _, rr, rfl, Da.ext a12 en14, w12.nl, w12.sh, w12.dp, w12.ln, rfl, ?_⟩
      rw [eqs]
      refine ⟨_, rfl, iteF ?_⟩
      have G14 := G12.ext en14 (zp_old p14)
      refine ⟨_, rfl, Zp p, _, d, rfl, G14.hx, S.sw.nl, S.sw.sh, S.sw.dp, S.sw.ln, _, rfl, rfl, ?_⟩
      rw [eqs]
      refine ⟨_, rfl, iteF ?_⟩
      -- with what may be left out left out
      have lessD : shortD (.str "less") = true := by decide +kernel
      have G2 : Got (Zp p) H14 so (.str "less") .non d (.str "less") .none := ⟨zp_old p14, G14.hx, .str _, .non, Sm.non, ⟨S.sh, lessD⟩, S.ly⟩
      refine ⟨Zp p, so, d, .str "less", .none, rfl, G2, fun H' e => zp_old (pen_ext p14 e), tb14, fun H15 en15 tb15 t3 H16 r3 s16 res3 a16 w16 => ?_⟩
      have en16 : LamX.ExtN H14 H16 := en15.trans (exS s16)
      have p16 := pen_ext p14 en16
      refine ⟨Zp p, _, r3, rfl, a16, w16.nl, w16.sh, w16.dp, w16.ln, ?_⟩
      have G3 := G2.ext en16 (zp_old p16)
      refine ⟨Zp p, so, d, .str "less", .none, rfl, G3, fun t4 H17 r4 s17 res4 a17 w17 => ?_⟩
      have er := Res.uniq res3 res4
      subst er
      refine ⟨Zp p, _, r3, rfl, a17, w17.nl, w17.sh, w17.dp, w17.ln, rfl, ?_⟩
      rw [eqs]
      exact q H17 (((((KN.of kX).same s12).ext en14).ext en16).same s17) ((tb15.ext s16).ext s17)
end
end K1
set_option Elab.async false
set_option linter.all false
set_option maxRecDepth 100000
set_option maxHeartbeats 4000000
namespace K1
open PySem PySem.Spec PyProof.Rows L2 Bb
structure All (K : PySem.W.Frag) (mg : Str → Option Value) (CM CW CC : Addr) : Prop where
  r : Rt K mg CM CW CC
  cell : ∃ a d, Fn K "_law_cell" "_law_cell" sCell a d ∧ mg "_law_cell" = some (.ref a)
  pen : ∃ a d, Fn K "_law_pen" "_law_pen" sPen a d ∧ mg "_law_pen" = some (.ref a)
  evs : ∃ a d, Fn K "_law_events" "_law_events" sEvents a d ∧ mg "_law_events" = some (.ref a)
  ise : ∃ a d, Fn K "is_event" "is_event" sIsEvent a d ∧ mg "is_event" = some (.ref a)
  lev : ∃ a d, Fn K "_law_is_event" "_law_is_event" sLEvent a d ∧ mg "_law_is_event" = some (.ref a)
  mr : ∃ a d, Fn K "_law_marks_right" "_law_marks_right" sMR a d ∧ mg "_law_marks_right" = some (.ref a)
  rr : ∃ a d, Fn K "_law_rows_right" "_law_rows_right" sRR a d ∧ mg "_law_rows_right" = some (.ref a)
abbrev nLaw : List Str := ["_law_script", "_law_cell_here", "_law_pen_here", "_law_thing", "_law_kept", "_law_told", "_law_turn"]
theorem scLaw : FnScope nLaw ["_law_script"] (defScope sLaw) := ⟨rfl, rfl, rfl, by decide +kernel, rfl, by decide +kernel, by decide +kernel⟩
/-- a def's code object and its table -/
def CodeR (K : PySem.W.Frag) (mg : Str → Option Value) (base : Heap) (x : Str) (st : Stmt) (c Pt : Addr) : Prop := LamX.TabB base mg c Pt ∧ ∀ a d, Fn K x x st a d → mg x = some (.ref a) → d.code = .ref c
theorem int_at {ns : List Int} {z0 : Int} {lo hi : Option Int} {i : Nat} {y : V} (h : ([V.int z0] ++ cutV (ns.map V.int) lo hi)[i]? = some y) : ∃ z, y = .int z := by
  have m := List.mem_of_getElem? h
  rcases List.mem_append.mp m with q | q
  · exact ⟨z0, by simpa using q⟩
  · unfold cutV at q
    have q2 := List.mem_of_mem_drop (List.mem_of_mem_take q)
    obtain ⟨z, _, e⟩ := List.mem_map.mp q2
    exact ⟨z, e.symm⟩
theorem same_text {s : Str} : (!decide (V.str s = V.str s)) = false := by simp
theorem same_bl {b : Bool} : (!decide (V.bl b = V.bl b)) = false := by simp
def spLaw (K : PySem.W.Frag) (P1 P2 : Addr) : Sp := fun vs H Q _ => ∃ (a : Addr) (ns : List Int), vs = [.ref a] ∧ SqL K H a (ns.map V.int) ∧ ns.length ≤ 63 ∧ H P1 = some (.tbl #[]) ∧ H P2 = some (.tbl #[]) ∧ ∀ H', Q (.bl true) H'
section
variable {P : Program} {w : World} {K : PySem.W.Frag} {mg : Str → Option Value} {base : Heap} {f : Addr} {fd : FuncData}
theorem ok_law {CM CW CC c1 c2 P1 P2 : Addr} (F : Fn K "law" "law" sLaw f fd) (R1 : CodeR K mg base "_law_marks_right" sMR c1 P1) (R2 : CodeR K mg base "_law_rows_right" sRR c2 P2) (ne : P1 ≠ P2) (h : All K mg CM CW CC) : FnG P w K mg base L2.CX0 10 f fd ["_law_script"] (spLaw K P1 P2) := by
  have T := h.r.mk1.hl.fr
  obtain ⟨aCe, dCe, FCe, gCe⟩ := h.cell
  obtain ⟨aPe, dPe, FPe, gPe⟩ := h.pen
  obtain ⟨aEv, dEv, FEv, gEv⟩ := h.evs
  obtain ⟨aIs, dIs, FIs, gIs⟩ := h.ise
  obtain ⟨aLe, dLe, FLe, gLe⟩ := h.lev
  obtain ⟨aMR, dMR, FMR, gMR⟩ := h.mr
  obtain ⟨aRR, dRR, FRR, gRR⟩ := h.rr
  have GCe : FnOk P w K mg base L2.CX0 1 aCe dCe ["_law_script", "_law_k"] (spCell K) := ok_cell FCe T
  have GPe : FnOk P w K mg base L2.CX0 1 aPe dPe ["_law_cell_here"] spPen := ok_pen FPe T
  have GEv : FnOk P w K mg base L2.CX0 5 aEv dEv ["_law_pen_here"] spEvents := ok_events FEv h.r.mk1
  have GIs : FnOk P w K mg base L2.CX0 2 aIs dIs ["thing"] (spPred evD) := ok_isevent FIs h.r.pr
  have GLe : FnOk P w K mg base L2.CX0 2 aLe dLe ["_law_thing"] (spPred evD) := ok_levent FLe h.r.lk
  have GMR : FnG P w K mg base L2.CX0 8 aMR dMR ["_law_pen_here"] (spMR P1 P2) := ok_mr FMR (R1.2 _ _ FMR gMR) R1.1 ne h.r
  have GRR : FnG P w K mg base L2.CX0 9 aRR dRR ["_law_pen_here"] (spRR P1 P2) := ok_rr FRR (R2.2 _ _ FRR gRR) R2.1 ne h.r
  have bCe : Binds K dCe ["_law_script", "_law_k"] [] := FCe.bindsN fun _ _ _ _ _ _ us hl => match us, hl with | [_, _], _ => rfl
  have bPe : Binds K dPe ["_law_cell_here"] [] := FPe.bindsN fun _ _ _ _ _ _ us hl => match us, hl with | [_], _ => rfl
  have bEv : Binds K dEv ["_law_pen_here"] [] := FEv.bindsN fun _ _ _ _ _ _ us hl => match us, hl with | [_], _ => rfl
  have bIs : Binds K dIs ["thing"] [] := FIs.bindsN fun _ _ _ _ _ _ us hl => match us, hl with | [_], _ => rfl
  have bLe : Binds K dLe ["_law_thing"] [] := FLe.bindsN fun _ _ _ _ _ _ us hl => match us, hl with | [_], _ => rfl
  have bMR : Binds K dMR ["_law_pen_here"] [] := FMR.bindsN fun _ _ _ _ _ _ us hl => match us, hl with | [_], _ => rfl
  have bRR : Binds K dRR ["_law_pen_here"] [] := FRR.bindsN fun _ _ _ _ _ _ us hl => match us, hl with | [_], _ => rfl
  refine fnG F scLaw (fun vs H Q E h => ?_) (fun cdv A outer s H vs Q E gd hr hcd hh => ?_)
  · obtain ⟨a, ns, rfl, _⟩ := h
    rfl
  · obtain ⟨a, ns, rfl, ha, hn, hP1, hP2, back⟩ := hh
    let X := (cxOf L2.CX0 P w K mg base nLaw "law" (defScope sLaw) f cdv A outer s H E).nox
    have gdX : X.A.guards = some [] := gd
    have rep := call_reprA (X := X) gdX hr.units
    refine' ⟨_, PSs.nox ?d, ?r⟩
    case d =>
      refine' pss_cons (ps_for PassesOwn.never rfl (pi_list (pe_op op_cat (pe_lst (pa_cons (pe_call GCe (hr.mono (by decide)) rfl gCe FCe.kp bCe .nil pass0 (pa_cons (pv 0) (pa_cons pe_int pa_nil))) pa_nil)) (pe_slice sl_list (pv 0) (po_some pe_int) (po_some pe_int)))) (pg_name (i := 1) scLaw.nd rfl (Or.inl rfl)) ?l1) (pss_one (ps_ret pe_bl))
      case l1 =>
        refine' pss_cons (ps_set (i := 2) scLaw.nd rfl (.inl rfl) (pe_call GPe (hr.mono (by decide)) rfl gPe FPe.kp bPe .nil pass0 (pa_cons (pv 1) pa_nil))) ?w0
        case w0 =>
          refine' pss_cons (ps_for PassesOwn.never rfl (pi_list (pe_call GEv (hr.mono (by decide)) rfl gEv FEv.kp bEv .nil pass0 (pa_cons (pv 2) pa_nil))) (pg_name (i := 3) scLaw.nd rfl (Or.inl rfl)) ?l2) ?w1
          case l2 =>
            exact pss_cons (ps_par (i := 4) (j := 5) rfl scLaw.nd rfl rfl (by decide) rfl rfl (pa_cons (pe_callB rep rfl T.rep_ boot_repr (pa_cons (pv 3) pa_nil)) (pa_cons (pe_call GIs (hr.mono (by decide)) rfl gIs FIs.kp bIs .nil pass0 (pa_cons (pv 3) pa_nil)) pa_nil)) rfl)
              (pss_one (ps_if (PW.pt (pw_or (pt_not (pt_val (pe_callB call_isi rfl T.isi boot_isinstance (pa_cons (pv 5) (pa_cons (pe_bltn rfl T.bool_ (by decide +kernel) (v := .ty "bool") rfl) pa_nil))))) (pw_or (pt_cmpR op_ne (pv 5) (pe_call GLe (hr.mono (by decide)) rfl gLe FLe.kp bLe .nil pass0 (pa_cons (pv 3) pa_nil)) (nomark _))
                (pw_or1 (pt_cmpR op_ne (pe_callB rep rfl T.rep_ boot_repr (pa_cons (pv 3) pa_nil)) (pv 4) (nomark _)))))) (pss_one (ps_ret pe_bl)) pss_nil))
          case w1 =>
            exact pss_one (ps_for PassesOwn.never rfl (pi_range1 rfl T.rng_ (pa_cons pe_int pa_nil)) (pg_name (i := 6) scLaw.nd rfl (Or.inl rfl))
              (pss_one (ps_if (PW.pt (pw_or (pt_not (pt_val (pe_callG GMR gdX (hr.mono (by decide)) rfl gMR FMR.kp bMR pass0 (pa_cons (pv 2) pa_nil)))) (pw_or1 (pt_not (pt_val (pe_callG GRR gdX hr rfl gRR FRR.kp bRR pass0 (pa_cons (pv 2) pa_nil)))))))
                (pss_one (ps_ret pe_bl)) pss_nil)))
    case r =>
      have os : 1 ≤ sizeLine := by decide
      have t0 : LamX.Tabs (Ts P1 P2 qM qR) H := by
        intro q hq
        simp only [List.mem_cons, List.not_mem_nil, or_false] at hq
        rcases hq with rfl | rfl
        · exact LamX.TabS.nil hP1
        · exact LamX.TabS.nil hP2
      refine ⟨_, rfl, a, ns, rfl, ha, hn, fun z0 => ⟨os, fun l1 h1 => ?_⟩⟩
      have s1 := up2 (o := .lst [.int z0]) h1
      refine ⟨_, rfl, _, rfl, _, rfl, a, _, rfl, sql_same ha s1, fun l2 h2 => ?_⟩
      have s2 := up2 (o := .lst (cutV (ns.map V.int) (some 1) (some 6))) h2
      refine ⟨l1, l2, _, _, rfl, rfl, s2 _ _ upd_same, upd_same, ?_, fun l3 h3 => ?_⟩
      · have q1 := cutV_length (ns.map V.int) (some 1) (some 6)
        rw [List.length_map] at q1
        have q2 : ([V.int z0].length : Nat) = 1 := rfl
        exact Nat.le_of_lt (small1000 (by omega))
      have s3 := up2 (o := .lst ([.int z0] ++ cutV (ns.map V.int) (some 1) (some 6))) h3
      obtain ⟨H0, eH0⟩ : ∃ G, G = upd (upd (upd H l1 (.lst [.int z0])) l2 (.lst (cutV (ns.map V.int) (some 1) (some 6)))) l3 (.lst ([.int z0] ++ cutV (ns.map V.int) (some 1) (some 6))) := ⟨_, rfl⟩
      have hL0 : H0 l3 = some (.lst ([.int z0] ++ cutV (ns.map V.int) (some 1) (some 6))) := by
        rw [eH0]
        exact upd_same
      have tb0 : LamX.Tabs (Ts P1 P2 qM qR) H0 := by
        rw [eH0]
        exact t0.ext (s1.trans (s2.trans s3))
      rw [← eH0]
      refine ⟨l3, rfl, ⟨_, SqL.of hL0⟩, for_list (K := K) (a := l3) (xs := [.int z0] ++ cutV (ns.map V.int) (some 1) (some 6)) (fun i σ H' => ∃ v1 v2 v3 v4 v5 v6 : Option V, σ = [some (.ref a), v1, v2, v3, v4, v5, v6] ∧ LamX.ExtN H0 H' ∧ LamX.Tabs (Ts P1 P2 qM qR) H')
        ⟨none, none, none, none, none, none, rfl, LamX.ExtN.refl _, tb0⟩ (fun i σ H' _ ⟨_, _, _, _, _, _, _, e, _⟩ => SqL.of (e _ _ hL0 (fun _ z => by cases z))) ?_ ?_⟩
      · rintro i y σ Hi hy ⟨v1, v2, v3, v4, v5, v6, rfl, eN, tb⟩
        obtain ⟨z, rfl⟩ := int_at hy
        refine ⟨_, rfl, z, rfl, fun p H1 hp sm1 pn1 => ?_⟩
        refine ⟨_, rfl, p, rfl, pn1, fun L xs H2 kp2 hL nL len bigs => ?_⟩
        refine ⟨L, rfl, ⟨_, SqL.of hL⟩, for_list (K := K) (a := L) (xs := xs) (fun i σ H' => ∃ v3 v4 v5 : Option V, σ = [some (.ref a), some (.int z), some (.ref p), v3, v4, v5, v6] ∧ Same H2 H')
          ⟨v3, v4, v5, rfl, Same.refl _⟩ (fun i σ H' _ ⟨_, _, _, _, sm⟩ => SqL.of (sm _ _ hL)) ?_ ?_⟩
        · rintro i y σ H3 hy ⟨v3, v4, v5, rfl, sm⟩
          obtain ⟨d, ad, sw, sh⟩ := (bigs y (List.mem_of_getElem? hy)).keep (Keeps.of sm)
          refine ⟨_, rfl, Zp p, _, d, rfl, ad, sw.nl, sw.sh, sw.dp, sw.ln, ?_⟩
          refine ⟨_, rfl, Zp p, _, d, rfl, ad, sh, fun H4 s4 => ⟨_, _, rfl, ?_⟩⟩
          have ad4 := Da.keep (Keeps.of s4) _ _ ad
          refine ⟨_, rfl, _, _, _, _, _, rfl, .ty "bool", .base (.bl _), kit_ty (r := true) (by decide +kernel), _, rfl, iteF ?_⟩
          refine ⟨_, rfl, _, rfl, Zp p, _, d, rfl, ad4, sh, fun H5 s5 => ⟨rfl, ?_⟩⟩
          rw [same_bl]
          refine ⟨_, rfl, iteF ?_⟩
          have ad5 := Da.keep (Keeps.of s5) _ _ ad4
          refine ⟨_, rfl, Zp p, _, d, rfl, ad5, sw.nl, sw.sh, sw.dp, sw.ln, _, rfl, rfl, ?_⟩
          rw [same_text]
          refine ⟨_, rfl, iteF ?_⟩
          exact ⟨_, _, _, rfl, (sm.trans s4).trans s5⟩
        · rintro σ H3 ⟨v3, v4, v5, rfl, sm⟩
          have kp3 := kp2.same sm
          have kI : KN p Hi H3 := ⟨fun b o e n _ => kp3.keep _ _ (sm1 _ _ e) n, kp3.pen⟩
          have tb3 := tabs_kp (tb.ext sm1) pn1 kp3
          refine ⟨6, rfl, by decide, by decide, for_range (lo := 0) (n := 6) (fun i σ H' => ∃ v6 : Option V, σ = [some (.ref a), some (.int z), some (.ref p), v3, v4, v5, v6] ∧ KN p Hi H' ∧ LamX.Tabs (Ts P1 P2 qM qR) H')
            ⟨v6, rfl, kI, tb3⟩ ?_ ?_⟩
          · rintro i σ H4 hi ⟨v6, rfl, kn, tb4⟩
            refine ⟨_, rfl, p, rfl, kn.pen, tb4, fun H5 kn5 tb5 => ⟨_, rfl, iteF ?_⟩⟩
            refine ⟨_, rfl, p, rfl, kn5.pen, tb5, fun H6 kn6 tb6 => ⟨_, rfl, iteF ?_⟩⟩
            exact ⟨_, rfl, (kn.trans kn5).trans kn6, tb6⟩
          · rintro σ H4 ⟨v6, rfl, kn, tb4⟩
            refine ⟨_, _, _, _, _, _, rfl, eN.trans (fun b o e n => kn.keep _ _ e (ne_of_none e hp) n), tb4⟩
      · rintro σ Hi ⟨v1, v2, v3, v4, v5, v6, rfl, eN, tb⟩
        exact back _
end
end K1
set_option Elab.async false
set_option linter.all false
set_option maxRecDepth 100000
set_option maxHeartbeats 0
namespace K1
open PySem PySem.Spec PyProof.Rows L2 Bb
/-! the head: facts by names, the run -/
def d_is_number : He.DefD := ⟨("is_number", none), "is_number", "is_number", defArgs sIsNum, defBody sIsNum, defScope sIsNum, [], []⟩
def d_is_number_from : He.DefD := ⟨("is_number_from", none), "is_number_from", "is_number_from", defArgs sFrom, defBody sFrom, defScope sFrom, [], []⟩
def d_is_name : He.DefD := ⟨("is_name", none), "is_name", "is_name", defArgs sIsName, defBody sIsName, defScope sIsName, [], []⟩
def d_is_mark : He.DefD := ⟨("is_mark", none), "is_mark", "is_mark", defArgs sIsMark, defBody sIsMark, defScope sIsMark, [], []⟩
def d_is_way : He.DefD := ⟨("is_way", none), "is_way", "is_way", defArgs sIsWay, defBody sIsWay, defScope sIsWay, [], []⟩
def d_is_event : He.DefD := ⟨("is_event", none), "is_event", "is_event", defArgs sIsEvent, defBody sIsEvent, defScope sIsEvent, [], []⟩
def d_check_mark : He.DefD := ⟨("check_mark", none), "check_mark", "check_mark", defArgs sChkM, defBody sChkM, defScope sChkM, [], []⟩
def d_check_marks : He.DefD := ⟨("check_marks", none), "check_marks", "check_marks", defArgs sChkMs, defBody sChkMs, defScope sChkMs, [], []⟩
def d_check_way : He.DefD := ⟨("check_way", none), "check_way", "check_way", defArgs sChkW, defBody sChkW, defScope sChkW, [], []⟩
def d_better : He.DefD := ⟨("better", none), "better", "better", defArgs sBetter, defBody sBetter, defScope sBetter, [.str "less"], []⟩
def d_best_of : He.DefD := ⟨("best_of", none), "best_of", "best_of", defArgs sBest, defBody sBest, defScope sBest, [.str "less", .non], []⟩
def d__law_cell : He.DefD := ⟨("_law_cell", none), "_law_cell", "_law_cell", defArgs sCell, defBody sCell, defScope sCell, [], []⟩
def d__law_pen : He.DefD := ⟨("_law_pen", none), "_law_pen", "_law_pen", defArgs sPen, defBody sPen, defScope sPen, [], []⟩
def d__law_draw : He.DefD := ⟨("_law_draw", none), "_law_draw", "_law_draw", defArgs sDraw, defBody sDraw, defScope sDraw, [], []⟩
def d__law_pick : He.DefD := ⟨("_law_pick", none), "_law_pick", "_law_pick", defArgs sPick, defBody sPick, defScope sPick, [], []⟩
def d__law_kind : He.DefD := ⟨("_law_kind", none), "_law_kind", "_law_kind", defArgs sKind, defBody sKind, defScope sKind, [], []⟩
def d__law_came : He.DefD := ⟨("_law_came", none), "_law_came", "_law_came", defArgs sCame, defBody sCame, defScope sCame, [], []⟩
def d__law_anything : He.DefD := ⟨("_law_anything", none), "_law_anything", "_law_anything", defArgs sAny, defBody sAny, defScope sAny, [], []⟩
def d__law_odd : He.DefD := ⟨("_law_odd", none), "_law_odd", "_law_odd", defArgs sOdd, defBody sOdd, defScope sOdd, [], []⟩
def d__law_name : He.DefD := ⟨("_law_name", none), "_law_name", "_law_name", defArgs sName, defBody sName, defScope sName, [], []⟩
def d__law_odd_name : He.DefD := ⟨("_law_odd_name", none), "_law_odd_name", "_law_odd_name", defArgs sOddName, defBody sOddName, defScope sOddName, [], []⟩
def d__law_number : He.DefD := ⟨("_law_number", none), "_law_number", "_law_number", defArgs sNum, defBody sNum, defScope sNum, [], []⟩
def d__law_is_name : He.DefD := ⟨("_law_is_name", none), "_law_is_name", "_law_is_name", defArgs sLName, defBody sLName, defScope sLName, [], []⟩
def d__law_is_event : He.DefD := ⟨("_law_is_event", none), "_law_is_event", "_law_is_event", defArgs sLEvent, defBody sLEvent, defScope sLEvent, [], []⟩
def d__law_events : He.DefD := ⟨("_law_events", none), "_law_events", "_law_events", defArgs sEvents, defBody sEvents, defScope sEvents, [], []⟩
def d__law_score : He.DefD := ⟨("_law_score", none), "_law_score", "_law_score", defArgs sScore, defBody sScore, defScope sScore, [], []⟩
def d__law_is_score : He.DefD := ⟨("_law_is_score", none), "_law_is_score", "_law_is_score", defArgs sIsScore, defBody sIsScore, defScope sIsScore, [], []⟩
def d__law_due_better : He.DefD := ⟨("_law_due_better", none), "_law_due_better", "_law_due_better", defArgs sDueBetter, defBody sDueBetter, defScope sDueBetter, [], []⟩
def d__law_due_best : He.DefD := ⟨("_law_due_best", none), "_law_due_best", "_law_due_best", defArgs sDueBest, defBody sDueBest, defScope sDueBest, [], []⟩
def d__law_marks_right : He.DefD := ⟨("_law_marks_right", none), "_law_marks_right", "_law_marks_right", defArgs sMR, defBody sMR, defScope sMR, [], []⟩
def d__law_rows_right : He.DefD := ⟨("_law_rows_right", none), "_law_rows_right", "_law_rows_right", defArgs sRR, defBody sRR, defScope sRR, [], []⟩
def d_law : He.DefD := ⟨("law", none), "law", "law", defArgs sLaw, defBody sLaw, defScope sLaw, [], []⟩
def hfn : List He.DefD := ([d_is_number, d_is_number_from, d_is_name, d_is_mark, d_is_way, d_is_event, d_check_mark, d_check_marks, d_check_way, d_better, d_best_of, d__law_cell, d__law_pen, d__law_draw, d__law_pick, d__law_kind, d__law_came, d__law_anything, d__law_odd, d__law_name] : List He.DefD) ++ ([d__law_odd_name, d__law_number, d__law_is_name, d__law_is_event, d__law_events, d__law_score, d__law_is_score, d__law_due_better, d__law_due_best, d__law_marks_right, d__law_rows_right, d_law] : List He.DefD)
def hfa : List He.Fa := ([.glo "is_number", .glo "is_number_from", .glo "is_name", .glo "is_mark", .glo "is_way", .glo "is_event", .glo "check_mark", .glo "check_marks", .glo "check_way", .glo "better", .glo "best_of", .glo "_law_cell", .glo "_law_pen", .glo "_law_draw", .glo "_law_pick", .glo "_law_kind", .glo "_law_came", .glo "_law_anything", .glo "_law_odd", .glo "_law_name"] : List He.Fa) ++ ([.glo "_law_odd_name", .glo "_law_number", .glo "_law_is_name", .glo "_law_is_event", .glo "_law_events", .glo "_law_score", .glo "_law_is_score", .glo "_law_due_better", .glo "_law_due_best", .glo "_law_marks_right", .glo "_law_rows_right", .glo "law", .glo "NoMark", .glo "NoWay", .glo "NoRules", .glo "NoAge", .glo "NoPerson", .glo "NoDay", .glo "NoDeed", .glo "NoSheet"] : List He.Fa) ++ ([.glo "NoWord", .glo "NoBook", .glo "NoText", .glo "NoName", .glo "ClubError", .glo "NoPlace", .free "isinstance", .free "int", .free "bool", .free "tuple", .free "list", .free "str", .free "len", .free "all", .free "range", .free "enumerate", .free "repr", .free "min", .free "max", .free "ValueError"] : List He.Fa) ++ ([.free "LookupError", .int "LEAST_MARK" 1, .int "MOST_MARK" 1000000, .int "LONGEST_NAME" 8, .str "LETTERS" "abcdefghijklmnopqrstuvwxyz", .exc "NoMark", .exm "NoMark" "ClubError" true, .exc "NoWay", .exm "NoWay" "ClubError" true] : List He.Fa)
def htf : List He.Defn := [("_law_marks_right", none), ("_law_rows_right", none)]
def excB (K : PySem.W.Frag) (D : Addr) : Bool :=
  He.eqO (PySem.W.findIn K (.ref D) "__getattribute__") (some (some (.builtin "BaseException.__getattribute__"))) && (He.eqO (PySem.W.findIn K (.ref D) "__getattr__") (some none) && (decide (PySem.W.subIn K (.ref D) (.type "BaseException") = some true) && (PySem.W.hasDictIn K D &&
  (He.eqO (PySem.W.findIn K (.ref D) "__class__") (some (some (.builtin "object.__class__"))) && (He.eqO (PySem.W.specialIn K (.builtin "object.__class__") "__get__") (some (some (.builtin "getset_descriptor.__get__"))) && (decide (PySem.W.takesIn K (.builtin "object.__class__") = some true) && decide (PySem.W.mroIn K D (.type "object") = some true)))))))
theorem excB_ok {K : PySem.W.Frag} {D : Addr} (h : excB K D = true) : ExcC K D := by
  obtain ⟨h1, h⟩ := He.ba h
  obtain ⟨h2, h⟩ := He.ba h
  obtain ⟨h3, h⟩ := He.ba h
  obtain ⟨h4, h⟩ := He.ba h
  obtain ⟨h5, h⟩ := He.ba h
  obtain ⟨h6, h⟩ := He.ba h
  obtain ⟨h7, h8⟩ := He.ba h
  exact ⟨He.eqO_ok h1, He.eqO_ok h2, of_decide_eq_true h3, h4, He.eqO_ok h5, He.eqO_ok h6, of_decide_eq_true h7, of_decide_eq_true h8⟩
/-- the class D of errors is the j-th of the law's -/
def kdB (K : PySem.W.Frag) (D : Addr) (j : Nat) : Bool :=
  (List.range 12).all (fun i => decide (PySem.W.kitOne K (.ref D) (.ref (He.ga K (kOrd.getD i ""))) = some (decide (i = j)))) && (decide (PySem.W.kitOne K (.ref D) (.type "ValueError") = some true) && (decide (PySem.W.kitOne K (.ref D) (.type "LookupError") = some false) && excB K D))
def twoT (K : PySem.W.Frag) : Bool := decide ((He.cT K ("_law_marks_right", none)).2 ≠ (He.cT K ("_law_rows_right", none)).2)
def hex (K : PySem.W.Frag) : Bool := kdB K (He.ga K "NoMark") 0 && (kdB K (He.ga K "NoWay") 1 && twoT K)
abbrev R : PySem.W.OpenRow := PySem.W.OpenLaw.row PySem.Challenge.rw_bestsbook_k01_events_and_marks
abbrev hk : PySem.W.Hook := He.hookX 5 hfa hfn [] htf hex
def ob (s : PySem.W.SharedT) : He.AlX := He.obsX 5 hfa hfn [] htf hex (HandSHeadRun.getT s)
theorem ob_eq (s : PySem.W.SharedT) : ob s = hk.obs s.abs := He.obsX_eq (HandSHeadRun.getT_eq s)
def loose : List Str := (["ClubError", "NoPlace", "NoMark", "NoWay", "NoRules", "NoAge", "NoPerson", "NoDay", "NoDeed", "NoSheet", "NoWord", "NoName", "NoBook", "NoText", "LETTERS", "LONGEST_NAME", "is_number", "is_number_from", "is_name", "LEAST_MARK"] : List Str) ++ (["MOST_MARK", "is_mark", "is_way", "is_event", "check_mark", "check_marks", "check_way", "better", "best_of", "_law_cell", "_law_pen", "_law_draw", "_law_pick", "_law_kind", "_law_came", "_law_anything", "_law_odd", "_law_name", "_law_odd_name", "_law_number"] : List Str) ++ (["_law_is_name", "_law_is_event", "_law_events", "_law_score", "_law_is_score", "_law_due_better", "_law_due_best", "_law_marks_right", "_law_rows_right"] : List Str)
theorem run (w : World) : HandSHeadRun.RunEq R (PySem.W.view R.prog [53]) hk ob 6000 loose w := by
  intro os
  kernel_rfl
end K1
set_option Elab.async false
set_option linter.all false
set_option maxRecDepth 100000
set_option maxHeartbeats 0
namespace K1
open PySem PySem.Spec PyProof.Rows L2 Bb
section
variable {K : PySem.W.Frag} {h : Heap} {mg : Str → Option Value}
abbrev SD (K : PySem.W.Frag) : Prop := He.SaysD hfa hfn K
theorem z_free (X : K.In h) (G : h.Ns mainGlobals mg) (c : SD K) : Free mg := ⟨(He.free_ok X G (c.fact 46 (f := .free "isinstance") rfl)), (He.free_ok X G (c.fact 47 (f := .free "int") rfl)), (He.free_ok X G (c.fact 48 (f := .free "bool") rfl)), (He.free_ok X G (c.fact 49 (f := .free "tuple") rfl)), (He.free_ok X G (c.fact 50 (f := .free "list") rfl)), (He.free_ok X G (c.fact 51 (f := .free "str") rfl)), (He.free_ok X G (c.fact 52 (f := .free "len") rfl)), (He.free_ok X G (c.fact 53 (f := .free "all") rfl)), (He.free_ok X G (c.fact 54 (f := .free "range") rfl)), (He.free_ok X G (c.fact 55 (f := .free "enumerate") rfl)), (He.free_ok X G (c.fact 56 (f := .free "repr") rfl)), (He.free_ok X G (c.fact 57 (f := .free "min") rfl)), (He.free_ok X G (c.fact 58 (f := .free "max") rfl)), (He.free_ok X G (c.fact 59 (f := .free "ValueError") rfl)), (He.free_ok X G (c.fact 60 (f := .free "LookupError") rfl))⟩
theorem z_cons (X : K.In h) (G : h.Ns mainGlobals mg) (c : SD K) : Cons mg := ⟨He.int_ok X G (c.fact 61 (f := .int "LEAST_MARK" 1) rfl), He.int_ok X G (c.fact 62 (f := .int "MOST_MARK" 1000000) rfl), He.int_ok X G (c.fact 63 (f := .int "LONGEST_NAME" 8) rfl), He.str_ok X G (c.fact 64 (f := .str "LETTERS" "abcdefghijklmnopqrstuvwxyz") rfl)⟩
theorem z_is_number (X : K.In h) (G : h.Ns mainGlobals mg) (c : SD K) : ∃ a d, Fn K "is_number" "is_number" sIsNum a d ∧ mg "is_number" = some (.ref a) := by
  obtain ⟨fd, F⟩ := c.def_ 0 (d := d_is_number) rfl
  exact ⟨_, fd, F, (He.glo_ok X G (c.fact 0 (f := .glo "is_number") rfl))⟩
theorem z_is_number_from (X : K.In h) (G : h.Ns mainGlobals mg) (c : SD K) : ∃ a d, Fn K "is_number_from" "is_number_from" sFrom a d ∧ mg "is_number_from" = some (.ref a) := by
  obtain ⟨fd, F⟩ := c.def_ 1 (d := d_is_number_from) rfl
  exact ⟨_, fd, F, (He.glo_ok X G (c.fact 1 (f := .glo "is_number_from") rfl))⟩
theorem z_is_name (X : K.In h) (G : h.Ns mainGlobals mg) (c : SD K) : ∃ a d, Fn K "is_name" "is_name" sIsName a d ∧ mg "is_name" = some (.ref a) := by
  obtain ⟨fd, F⟩ := c.def_ 2 (d := d_is_name) rfl
  exact ⟨_, fd, F, (He.glo_ok X G (c.fact 2 (f := .glo "is_name") rfl))⟩
theorem z_is_mark (X : K.In h) (G : h.Ns mainGlobals mg) (c : SD K) : ∃ a d, Fn K "is_mark" "is_mark" sIsMark a d ∧ mg "is_mark" = some (.ref a) := by
  obtain ⟨fd, F⟩ := c.def_ 3 (d := d_is_mark) rfl
  exact ⟨_, fd, F, (He.glo_ok X G (c.fact 3 (f := .glo "is_mark") rfl))⟩
theorem z_is_way (X : K.In h) (G : h.Ns mainGlobals mg) (c : SD K) : ∃ a d, Fn K "is_way" "is_way" sIsWay a d ∧ mg "is_way" = some (.ref a) := by
  obtain ⟨fd, F⟩ := c.def_ 4 (d := d_is_way) rfl
  exact ⟨_, fd, F, (He.glo_ok X G (c.fact 4 (f := .glo "is_way") rfl))⟩
theorem z_is_event (X : K.In h) (G : h.Ns mainGlobals mg) (c : SD K) : ∃ a d, Fn K "is_event" "is_event" sIsEvent a d ∧ mg "is_event" = some (.ref a) := by
  obtain ⟨fd, F⟩ := c.def_ 5 (d := d_is_event) rfl
  exact ⟨_, fd, F, (He.glo_ok X G (c.fact 5 (f := .glo "is_event") rfl))⟩
theorem z_check_mark (X : K.In h) (G : h.Ns mainGlobals mg) (c : SD K) : ∃ a d, Fn K "check_mark" "check_mark" sChkM a d ∧ mg "check_mark" = some (.ref a) := by
  obtain ⟨fd, F⟩ := c.def_ 6 (d := d_check_mark) rfl
  exact ⟨_, fd, F, (He.glo_ok X G (c.fact 6 (f := .glo "check_mark") rfl))⟩
theorem z_check_marks (X : K.In h) (G : h.Ns mainGlobals mg) (c : SD K) : ∃ a d, Fn K "check_marks" "check_marks" sChkMs a d ∧ mg "check_marks" = some (.ref a) := by
  obtain ⟨fd, F⟩ := c.def_ 7 (d := d_check_marks) rfl
  exact ⟨_, fd, F, (He.glo_ok X G (c.fact 7 (f := .glo "check_marks") rfl))⟩
theorem z_check_way (X : K.In h) (G : h.Ns mainGlobals mg) (c : SD K) : ∃ a d, Fn K "check_way" "check_way" sChkW a d ∧ mg "check_way" = some (.ref a) := by
  obtain ⟨fd, F⟩ := c.def_ 8 (d := d_check_way) rfl
  exact ⟨_, fd, F, (He.glo_ok X G (c.fact 8 (f := .glo "check_way") rfl))⟩
theorem z_better (X : K.In h) (G : h.Ns mainGlobals mg) (c : SD K) : ∃ a d, FunD K "better" "better" (defArgs sBetter) (defBody sBetter) (defScope sBetter) [.str "less"] [] a d ∧ mg "better" = some (.ref a) := by
  obtain ⟨fd, F⟩ := c.def_ 9 (d := d_better) rfl
  exact ⟨_, fd, F, (He.glo_ok X G (c.fact 9 (f := .glo "better") rfl))⟩
theorem z_best_of (X : K.In h) (G : h.Ns mainGlobals mg) (c : SD K) : ∃ a d, FunD K "best_of" "best_of" (defArgs sBest) (defBody sBest) (defScope sBest) [.str "less", .non] [] a d ∧ mg "best_of" = some (.ref a) := by
  obtain ⟨fd, F⟩ := c.def_ 10 (d := d_best_of) rfl
  exact ⟨_, fd, F, (He.glo_ok X G (c.fact 10 (f := .glo "best_of") rfl))⟩
theorem z__law_cell (X : K.In h) (G : h.Ns mainGlobals mg) (c : SD K) : ∃ a d, Fn K "_law_cell" "_law_cell" sCell a d ∧ mg "_law_cell" = some (.ref a) := by
  obtain ⟨fd, F⟩ := c.def_ 11 (d := d__law_cell) rfl
  exact ⟨_, fd, F, (He.glo_ok X G (c.fact 11 (f := .glo "_law_cell") rfl))⟩
theorem z__law_pen (X : K.In h) (G : h.Ns mainGlobals mg) (c : SD K) : ∃ a d, Fn K "_law_pen" "_law_pen" sPen a d ∧ mg "_law_pen" = some (.ref a) := by
  obtain ⟨fd, F⟩ := c.def_ 12 (d := d__law_pen) rfl
  exact ⟨_, fd, F, (He.glo_ok X G (c.fact 12 (f := .glo "_law_pen") rfl))⟩
theorem z__law_draw (X : K.In h) (G : h.Ns mainGlobals mg) (c : SD K) : ∃ a d, Fn K "_law_draw" "_law_draw" sDraw a d ∧ mg "_law_draw" = some (.ref a) := by
  obtain ⟨fd, F⟩ := c.def_ 13 (d := d__law_draw) rfl
  exact ⟨_, fd, F, (He.glo_ok X G (c.fact 13 (f := .glo "_law_draw") rfl))⟩
theorem z__law_pick (X : K.In h) (G : h.Ns mainGlobals mg) (c : SD K) : ∃ a d, Fn K "_law_pick" "_law_pick" sPick a d ∧ mg "_law_pick" = some (.ref a) := by
  obtain ⟨fd, F⟩ := c.def_ 14 (d := d__law_pick) rfl
  exact ⟨_, fd, F, (He.glo_ok X G (c.fact 14 (f := .glo "_law_pick") rfl))⟩
theorem z__law_kind (X : K.In h) (G : h.Ns mainGlobals mg) (c : SD K) : ∃ a d, Fn K "_law_kind" "_law_kind" sKind a d ∧ mg "_law_kind" = some (.ref a) := by
  obtain ⟨fd, F⟩ := c.def_ 15 (d := d__law_kind) rfl
  exact ⟨_, fd, F, (He.glo_ok X G (c.fact 15 (f := .glo "_law_kind") rfl))⟩
theorem z__law_came (X : K.In h) (G : h.Ns mainGlobals mg) (c : SD K) : ∃ a d, Fn K "_law_came" "_law_came" sCame a d ∧ mg "_law_came" = some (.ref a) := by
  obtain ⟨fd, F⟩ := c.def_ 16 (d := d__law_came) rfl
  exact ⟨_, fd, F, (He.glo_ok X G (c.fact 16 (f := .glo "_law_came") rfl))⟩
theorem z__law_anything (X : K.In h) (G : h.Ns mainGlobals mg) (c : SD K) : ∃ a d, Fn K "_law_anything" "_law_anything" sAny a d ∧ mg "_law_anything" = some (.ref a) := by
  obtain ⟨fd, F⟩ := c.def_ 17 (d := d__law_anything) rfl
  exact ⟨_, fd, F, (He.glo_ok X G (c.fact 17 (f := .glo "_law_anything") rfl))⟩
theorem z__law_odd (X : K.In h) (G : h.Ns mainGlobals mg) (c : SD K) : ∃ a d, Fn K "_law_odd" "_law_odd" sOdd a d ∧ mg "_law_odd" = some (.ref a) := by
  obtain ⟨fd, F⟩ := c.def_ 18 (d := d__law_odd) rfl
  exact ⟨_, fd, F, (He.glo_ok X G (c.fact 18 (f := .glo "_law_odd") rfl))⟩
theorem z__law_name (X : K.In h) (G : h.Ns mainGlobals mg) (c : SD K) : ∃ a d, Fn K "_law_name" "_law_name" sName a d ∧ mg "_law_name" = some (.ref a) := by
  obtain ⟨fd, F⟩ := c.def_ 19 (d := d__law_name) rfl
  exact ⟨_, fd, F, (He.glo_ok X G (c.fact 19 (f := .glo "_law_name") rfl))⟩
theorem z__law_odd_name (X : K.In h) (G : h.Ns mainGlobals mg) (c : SD K) : ∃ a d, Fn K "_law_odd_name" "_law_odd_name" sOddName a d ∧ mg "_law_odd_name" = some (.ref a) := by
  obtain ⟨fd, F⟩ := c.def_ 20 (d := d__law_odd_name) rfl
  exact ⟨_, fd, F, (He.glo_ok X G (c.fact 20 (f := .glo "_law_odd_name") rfl))⟩
theorem z__law_number (X : K.In h) (G : h.Ns mainGlobals mg) (c : SD K) : ∃ a d, Fn K "_law_number" "_law_number" sNum a d ∧ mg "_law_number" = some (.ref a) := by
  obtain ⟨fd, F⟩ := c.def_ 21 (d := d__law_number) rfl
  exact ⟨_, fd, F, (He.glo_ok X G (c.fact 21 (f := .glo "_law_number") rfl))⟩
theorem z__law_is_name (X : K.In h) (G : h.Ns mainGlobals mg) (c : SD K) : ∃ a d, Fn K "_law_is_name" "_law_is_name" sLName a d ∧ mg "_law_is_name" = some (.ref a) := by
  obtain ⟨fd, F⟩ := c.def_ 22 (d := d__law_is_name) rfl
  exact ⟨_, fd, F, (He.glo_ok X G (c.fact 22 (f := .glo "_law_is_name") rfl))⟩
theorem z__law_is_event (X : K.In h) (G : h.Ns mainGlobals mg) (c : SD K) : ∃ a d, Fn K "_law_is_event" "_law_is_event" sLEvent a d ∧ mg "_law_is_event" = some (.ref a) := by
  obtain ⟨fd, F⟩ := c.def_ 23 (d := d__law_is_event) rfl
  exact ⟨_, fd, F, (He.glo_ok X G (c.fact 23 (f := .glo "_law_is_event") rfl))⟩
theorem z__law_events (X : K.In h) (G : h.Ns mainGlobals mg) (c : SD K) : ∃ a d, Fn K "_law_events" "_law_events" sEvents a d ∧ mg "_law_events" = some (.ref a) := by
  obtain ⟨fd, F⟩ := c.def_ 24 (d := d__law_events) rfl
  exact ⟨_, fd, F, (He.glo_ok X G (c.fact 24 (f := .glo "_law_events") rfl))⟩
theorem z__law_score (X : K.In h) (G : h.Ns mainGlobals mg) (c : SD K) : ∃ a d, Fn K "_law_score" "_law_score" sScore a d ∧ mg "_law_score" = some (.ref a) := by
  obtain ⟨fd, F⟩ := c.def_ 25 (d := d__law_score) rfl
  exact ⟨_, fd, F, (He.glo_ok X G (c.fact 25 (f := .glo "_law_score") rfl))⟩
theorem z__law_is_score (X : K.In h) (G : h.Ns mainGlobals mg) (c : SD K) : ∃ a d, Fn K "_law_is_score" "_law_is_score" sIsScore a d ∧ mg "_law_is_score" = some (.ref a) := by
  obtain ⟨fd, F⟩ := c.def_ 26 (d := d__law_is_score) rfl
  exact ⟨_, fd, F, (He.glo_ok X G (c.fact 26 (f := .glo "_law_is_score") rfl))⟩
theorem z__law_due_better (X : K.In h) (G : h.Ns mainGlobals mg) (c : SD K) : ∃ a d, Fn K "_law_due_better" "_law_due_better" sDueBetter a d ∧ mg "_law_due_better" = some (.ref a) := by
  obtain ⟨fd, F⟩ := c.def_ 27 (d := d__law_due_better) rfl
  exact ⟨_, fd, F, (He.glo_ok X G (c.fact 27 (f := .glo "_law_due_better") rfl))⟩
theorem z__law_due_best (X : K.In h) (G : h.Ns mainGlobals mg) (c : SD K) : ∃ a d, Fn K "_law_due_best" "_law_due_best" sDueBest a d ∧ mg "_law_due_best" = some (.ref a) := by
  obtain ⟨fd, F⟩ := c.def_ 28 (d := d__law_due_best) rfl
  exact ⟨_, fd, F, (He.glo_ok X G (c.fact 28 (f := .glo "_law_due_best") rfl))⟩
theorem z__law_marks_right (X : K.In h) (G : h.Ns mainGlobals mg) (c : SD K) : ∃ a d, Fn K "_law_marks_right" "_law_marks_right" sMR a d ∧ mg "_law_marks_right" = some (.ref a) := by
  obtain ⟨fd, F⟩ := c.def_ 29 (d := d__law_marks_right) rfl
  exact ⟨_, fd, F, (He.glo_ok X G (c.fact 29 (f := .glo "_law_marks_right") rfl))⟩
theorem z__law_rows_right (X : K.In h) (G : h.Ns mainGlobals mg) (c : SD K) : ∃ a d, Fn K "_law_rows_right" "_law_rows_right" sRR a d ∧ mg "_law_rows_right" = some (.ref a) := by
  obtain ⟨fd, F⟩ := c.def_ 30 (d := d__law_rows_right) rfl
  exact ⟨_, fd, F, (He.glo_ok X G (c.fact 30 (f := .glo "_law_rows_right") rfl))⟩
theorem z_law (X : K.In h) (G : h.Ns mainGlobals mg) (c : SD K) : ∃ a d, Fn K "law" "law" sLaw a d ∧ mg "law" = some (.ref a) := by
  obtain ⟨fd, F⟩ := c.def_ 31 (d := d_law) rfl
  exact ⟨_, fd, F, (He.glo_ok X G (c.fact 31 (f := .glo "law") rfl))⟩
theorem z_glo (X : K.In h) (G : h.Ns mainGlobals mg) (c : SD K) : ∀ (i : Nat) (x : Str), kOrd[i]? = some x → i < 12 ∧ kOrd.getD i "" = x ∧ mg x = some (.ref (He.ga K x)) := by
  intro i x e
  match i, e with
  | 0, e => cases e; exact ⟨by decide, rfl, (He.glo_ok X G (c.fact 32 (f := .glo "NoMark") rfl))⟩
  | 1, e => cases e; exact ⟨by decide, rfl, (He.glo_ok X G (c.fact 33 (f := .glo "NoWay") rfl))⟩
  | 2, e => cases e; exact ⟨by decide, rfl, (He.glo_ok X G (c.fact 34 (f := .glo "NoRules") rfl))⟩
  | 3, e => cases e; exact ⟨by decide, rfl, (He.glo_ok X G (c.fact 35 (f := .glo "NoAge") rfl))⟩
  | 4, e => cases e; exact ⟨by decide, rfl, (He.glo_ok X G (c.fact 36 (f := .glo "NoPerson") rfl))⟩
  | 5, e => cases e; exact ⟨by decide, rfl, (He.glo_ok X G (c.fact 37 (f := .glo "NoDay") rfl))⟩
  | 6, e => cases e; exact ⟨by decide, rfl, (He.glo_ok X G (c.fact 38 (f := .glo "NoDeed") rfl))⟩
  | 7, e => cases e; exact ⟨by decide, rfl, (He.glo_ok X G (c.fact 39 (f := .glo "NoSheet") rfl))⟩
  | 8, e => cases e; exact ⟨by decide, rfl, (He.glo_ok X G (c.fact 40 (f := .glo "NoWord") rfl))⟩
  | 9, e => cases e; exact ⟨by decide, rfl, (He.glo_ok X G (c.fact 41 (f := .glo "NoBook") rfl))⟩
  | 10, e => cases e; exact ⟨by decide, rfl, (He.glo_ok X G (c.fact 42 (f := .glo "NoText") rfl))⟩
  | 11, e => cases e; exact ⟨by decide, rfl, (He.glo_ok X G (c.fact 43 (f := .glo "NoName") rfl))⟩
theorem z_kd (X : K.In h) (G : h.Ns mainGlobals mg) (c : SD K) {D : Addr} {j : Fin 12} (e : kdB K D (j : Nat) = true) : Kd K mg D j := by
  obtain ⟨h1, h⟩ := He.ba e
  obtain ⟨h2, h⟩ := He.ba h
  obtain ⟨h3, h4⟩ := He.ba h
  refine ⟨fun i x hx => ?_, of_decide_eq_true h2, of_decide_eq_true h3, excB_ok h4⟩
  obtain ⟨lt, e1, e2⟩ := z_glo X G c i x hx
  have z := of_decide_eq_true (List.all_eq_true.mp h1 i (List.mem_range.mpr lt))
  rw [e1] at z
  exact ⟨_, e2, z⟩
theorem z_pr (X : K.In h) (G : h.Ns mainGlobals mg) (c : SD K) : Pr K mg := ⟨z_is_number X G c, z_is_number_from X G c, z_is_name X G c, z_is_mark X G c, z_is_way X G c, z_check_mark X G c, z_check_marks X G c, z_check_way X G c, z_free X G c, z_cons X G c⟩
theorem z_lk (X : K.In h) (G : h.Ns mainGlobals mg) (c : SD K) : Lk K mg := ⟨z__law_number X G c, z__law_is_name X G c, z__law_is_score X G c, z__law_due_better X G c, z_free X G c⟩
theorem z_hl (X : K.In h) (G : h.Ns mainGlobals mg) (c : SD K) : Hl K mg := ⟨z__law_draw X G c, z__law_pick X G c, z_free X G c⟩
theorem z_mk1 (X : K.In h) (G : h.Ns mainGlobals mg) (c : SD K) : Mk1 K mg := ⟨z_hl X G c, z__law_anything X G c, z__law_odd X G c, z__law_name X G c, z__law_odd_name X G c, z__law_score X G c⟩
theorem z_rt (X : K.In h) (G : h.Ns mainGlobals mg) (c : SD K) (e : hex K = true) : Rt K mg (He.ga K "NoMark") (He.ga K "NoWay") (He.ga K "ClubError") := by
  obtain ⟨e1, e⟩ := He.ba e
  obtain ⟨e2, _⟩ := He.ba e
  obtain ⟨x1, x2, x3, x4⟩ := He.exc_ok (c.fact 65 (f := .exc "NoMark") rfl)
  obtain ⟨y1, y2, y3, y4⟩ := He.exc_ok (c.fact 67 (f := .exc "NoWay") rfl)
  obtain ⟨aB, dB, FB, gB⟩ := z_better X G c
  exact ⟨z_mk1 X G c, z_lk X G c, z_pr X G c, ⟨aB, dB, _, FB, rfl, gB⟩, z_best_of X G c, z__law_due_better X G c, z__law_due_best X G c, z__law_kind X G c, z__law_came X G c, ⟨(He.glo_ok X G (c.fact 32 (f := .glo "NoMark") rfl)), x1, x2, x3, x4⟩, ⟨(He.glo_ok X G (c.fact 33 (f := .glo "NoWay") rfl)), y1, y2, y3, y4⟩, ⟨⟨0, z_kd X G c e1, rfl⟩, He.exm_ok (c.fact 66 (f := .exm "NoMark" "ClubError" true) rfl)⟩, ⟨⟨1, z_kd X G c e2, rfl⟩, He.exm_ok (c.fact 68 (f := .exm "NoWay" "ClubError" true) rfl)⟩, (He.glo_ok X G (c.fact 44 (f := .glo "ClubError") rfl)), ⟨_, (He.glo_ok X G (c.fact 45 (f := .glo "NoPlace") rfl))⟩⟩
theorem z_all (X : K.In h) (G : h.Ns mainGlobals mg) (c : SD K) (e : hex K = true) : All K mg (He.ga K "NoMark") (He.ga K "NoWay") (He.ga K "ClubError") := ⟨z_rt X G c e, z__law_cell X G c, z__law_pen X G c, z__law_events X G c, z_is_event X G c, z__law_is_event X G c, z__law_marks_right X G c, z__law_rows_right X G c⟩
theorem z_ne {K : PySem.W.Frag} (e : hex K = true) : (He.cT K ("_law_marks_right", none)).2 ≠ (He.cT K ("_law_rows_right", none)).2 := by
  obtain ⟨_, e⟩ := He.ba e
  obtain ⟨_, e⟩ := He.ba e
  exact of_decide_eq_true e
/-- a def's code object and its table, by its name -/
theorem z_code {w : World} {ts : List He.Tab} {base : Heap} {x : Str} {st : Stmt} (hx : ∃ a d, Fn K x x st a d ∧ mg x = some (.ref a)) (gx : mg x = some (.ref (He.ga K x))) (tb : LamX.TabB base mg (He.cT K (x, none)).1 (He.cT K (x, none)).2) :
    CodeR K mg base x st (He.cT K (x, none)).1 (He.cT K (x, none)).2 := by
  obtain ⟨aR, dR, FR, gR⟩ := hx
  have eg : aR = He.ga K x := by
    have := gR.symm.trans gx
    injection this with this
    injection this
  obtain ⟨oc, od, dV, kV, doc, pm, an, cdv, ct, osl, efd, lk, hcd, _, _⟩ := FR.ex
  obtain ⟨cc, ec0⟩ := He.codeIn_ref hcd
  have ec : dR.code = .ref cc := by
    rw [efd]
    exact ec0
  have eo : He.codeOf K (x, none) = cc := He.codeOf_eq (K := K) (p := (x, none)) (by rw [show He.fAd K (x, none) = He.ga K x from rfl, ← eg]; exact lk) ec
  have e1 : (He.cT K (x, none)).1 = cc := eo
  refine ⟨tb, fun a2 d2 F2 g2 => ?_⟩
  have ea : a2 = aR := by
    have := g2.symm.trans gR
    injection this with this
    injection this
  subst ea
  obtain ⟨_, _, _, _, _, _, _, _, _, _, _, lk2, _, _, _⟩ := F2.ex
  have := lk2.symm.trans lk
  injection this with this
  injection this with _ _ this
  injection this with this
  rw [this, e1]
  exact ec
theorem z_end {w : World} {fa : Addr} (X : K.In h) (G : h.Ns mainGlobals mg) (hmg : mg ("law" : Str) = some (.ref fa)) (c : He.SaysX hfa hfn [] htf hex w h K) : LawG PySem.Challenge.rw_bestsbook_k01_events_and_marks w K L2.CX0 10 63 "_law_script" mg fa h := by
  have d := c.t.d
  obtain ⟨a, fd, F, g⟩ := z_law X G d
  have e0 : a = fa := by
    have := g.symm.trans hmg
    injection this with this
    injection this
  subst e0
  have b := FunD.bindsA (ps := ["_law_script"]) F fun _ _ _ _ _ _ us hl => match us, hl with | [_], _ => rfl
  have m1 : (("_law_marks_right", none) : He.Defn) ∈ htf := List.mem_cons_self
  have m2 : (("_law_rows_right", none) : He.Defn) ∈ htf := List.mem_cons_of_mem _ List.mem_cons_self
  have two : ∀ {p : Addr × Addr}, p ∈ [He.cT K ("_law_marks_right", none), He.cT K ("_law_rows_right", none)] → p = He.cT K ("_law_marks_right", none) ∨ p = He.cT K ("_law_rows_right", none) := fun {p} hp => by
    simpa using hp
  refine ⟨_, [He.cT K ("_law_marks_right", none), He.cT K ("_law_rows_right", none)], spLaw K (He.cT K ("_law_marks_right", none)).2 (He.cT K ("_law_rows_right", none)).2, ?_, ?_, ?_, fun s u => b s [u] rfl, ?_, ?_⟩
  · intro p hp
    rcases two hp with rfl | rfl
    · exact c.empty _ m1
    · exact c.empty _ m2
  · intro p hp
    rcases two hp with rfl | rfl
    · exact c.out _ m1
    · exact c.out _ m2
  · intro p hp
    rcases two hp with rfl | rfl
    · exact PySem.W.codeHd_of_K X (c.hd _ m1)
    · exact PySem.W.codeHd_of_K X (c.hd _ m2)
  · intro H a' ns hl _ ht hS
    exact ⟨a', ns, rfl, hS, hl, ht _ List.mem_cons_self, ht _ (List.mem_cons_of_mem _ List.mem_cons_self), fun _ => rfl⟩
  · intro base KB NB tb
    have t1 := tb _ List.mem_cons_self
    have t2 := tb _ (List.mem_cons_of_mem _ List.mem_cons_self)
    exact ok_law F (z_code (w := w) (ts := []) (z__law_marks_right X G d) (He.glo_ok X G (d.fact 29 (f := .glo "_law_marks_right") rfl)) t1) (z_code (w := w) (ts := []) (z__law_rows_right X G d) (He.glo_ok X G (d.fact 30 (f := .glo "_law_rows_right") rfl)) t2) (z_ne c.more) (z_all X G d c.more)

end
end K1
open PySem PySem.W PySem.Calls PyProof.Rows
theorem PySem.Challenge.cw_bestsbook_k01_events_and_marks_holds : PySem.Challenge.rw_bestsbook_k01_events_and_marks.Holds := by
  w_on; o_law
  refine HandSHeadRun.head_any (r := OpenLaw.row PySem.Challenge.rw_bestsbook_k01_events_and_marks) (q := view (OpenLaw.row PySem.Challenge.rw_bestsbook_k01_events_and_marks).prog [53]) (H := K1.hk) (ob := K1.ob) (M := 6000) (loose := K1.loose) (d := HandSHeadRun.topDef (OpenLaw.row PySem.Challenge.rw_bestsbook_k01_events_and_marks).prog 53) (kwd := []) K1.ob_eq
    (by kernel_rfl) (fun s => by kernel_rfl) K1.run (by kernel_rfl) (by kernel_rfl) (by kernel_rfl) (by rfl) (by first | assumption | decide +kernel) (by decide +kernel) ⟨rfl, rfl, rfl, rfl, rfl, by decide +kernel⟩ ?hw ?hc
  case hw => w_witness2
  case hc =>
    refine Bb.walkG (l := PySem.Challenge.rw_bestsbook_k01_events_and_marks) (n := 63) (k := 10) (x := "_law_script") (CX := fun _ => L2.CX0) rfl (by decide) (by kernel_rfl) ⟨rfl, by decide, by decide⟩ ?F (fun _ _ _ _ _ z => z)
    intro w mg fa h Y G hmg0
    obtain ⟨K, KX, c⟩ := Y
    have hmg : mg ("law" : PySem.Str) = some (.ref fa) := by
      have e : (HandSHeadRun.topDef (OpenLaw.row PySem.Challenge.rw_bestsbook_k01_events_and_marks).prog 53).name = ("law" : PySem.Str) := by kernel_rfl
      rw [← e]
      exact hmg0
    exact ⟨K, KX, K1.z_end KX G hmg c⟩
