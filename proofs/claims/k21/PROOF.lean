import PyProof.Rows.All
import Wide.All
import OpenK.AllK
import Wide.FinOn
import PyProof.EqAt
import PyProof.EqKinds
import PyProof.TupleCall
import PySem.Challenge.RW_batchnumbers_k21_whole_forcing_counts
import HandS.ForMost
import HandS.ForExc
import HandS.Wide
import HandS.WideMore
import HandS.WideBits
import HandS.Gcd
import HandS.IsInst
import HandS.SortInts
import HandS.Flow
import HandS.Style
import HandS.RaiseMore
import HandS.TupAny
import KE.GoesMore
import HandS.More
import HandS.Conv
import HandS.ExcOwn
import HandS.HeadEnd
import HandS.HeadHook1
import HandS.HeadHook2
import HandS.Head0
import HandS.Head1
import HandS.Head2
import HandS.Head3
set_option Elab.async false
set_option linter.all false
set_option maxRecDepth 100000
set_option maxHeartbeats 4000000
/-! rules of our own over the hand layer -/
namespace KV
open PySem PySem.Spec PyProof.Rows L2
/-- a def of the module, by its name: it stands there and keeps a promise -/
def Cal (P : Program) (w : World) (K : PySem.W.Frag) (mg : Str → Option Value) (base : Heap) (Z : CXT) (k : Nat) (x : Str) (ps : List Str) (sp : Sp) : Prop :=
  ∃ (f : Addr) (fd : FuncData), FnOk P w K mg base Z k f fd ps sp ∧ mg x = some (.ref f) ∧ PySem.W.keepIn K (.ref f) = true ∧ Binds K fd ps []
section
variable {X : Cx} {k j : Nat} {x : Str} {ps : List Str} {sp : Sp} {p pos : Pos} {e : Expr} {es : List Expr} {t : TA}
theorem pe_cal (C : Cal X.prog X.w X.K X.mg X.base CX0 k x ps sp) (hr : Room j X.A) (hj : k ≤ j) (ha : PA X (e :: es) t)
    (hg : Gl X x := by rfl) (hdb : (x == ("__debug__" : Str)) = false := by decide)
    (he : starEach (e :: es) X.env = (false, eval e X.env) :: starEach es X.env := by rfl)
    (hpl : (backTo pos (starEach es X.env)).any (·.1) = false := by rfl) :
    PE X (.Call (.Name x p) (e :: es) [] pos) (tCall sp [] E0 t) := by
  obtain ⟨f, fd, F, h1, h2, h3⟩ := C
  exact pe_call F (hr.mono hj) hg h1 h2 h3 .nil pass0 ha hdb he hpl
end

/-- repr of a truth value, of an int, of a tuple of ints -/
def rRepr (K : PySem.W.Frag) : List V → Hp → VK → Prop := fun xs H Q =>
  (∃ b : Bool, xs = [.bl b] ∧ Q (.str (if b then "True" else "False")) H) ∨ (∃ i : Int, xs = [.int i] ∧ i.natAbs.log2 < 1920 ∧ Q (.str (toString i)) H) ∨
  ∃ (a : Addr) (ns : List Int), xs = [.ref a] ∧ SqT K H a (ns.map V.int) ∧ (∀ n ∈ ns, n.natAbs.log2 < 1920) ∧ (PyData.tuple (ns.map PyData.int)).shown.length ≤ sizeLine ∧ Q (.str (PyData.tuple (ns.map PyData.int)).shown) H
theorem dp_ints {K : PySem.W.Frag} {H : Hp} : ∀ ns : List Int, DpAll K H (ns.map V.int) (ns.map PyData.int)
  | [] => .nil
  | n :: r => .cons (.int n) (dp_ints r)
theorem showAll_ints : ∀ ns : List Int, (∀ n ∈ ns, n.natAbs.log2 < 1920) → PyData.showableAll (ns.map PyData.int) = true
  | [], _ => rfl
  | n :: r, h => by
    have h1 := h n (by simp)
    have h2 := showAll_ints r fun m hm => h m (by simp [hm])
    simp only [List.map_cons, PyData.showableAll, PyData.showable, h2, h1, decide_true, Bool.and_self]
theorem noDict_ints : ∀ ns : List Int, PyData.hasDictAll (ns.map PyData.int) = false
  | [] => rfl
  | n :: r => by simp only [List.map_cons, PyData.hasDictAll, PyData.hasDict, noDict_ints r, Bool.or_self]
theorem depth_ints : ∀ ns : List Int, PyData.depthAll (ns.map PyData.int) = 0
  | [] => rfl
  | n :: r => by simp only [List.map_cons, PyData.depthAll, PyData.depth, depth_ints r, Nat.max_self]
theorem call_repr {X : Cx} (hg : X.A.guards = some []) (hu : X.A.units + 64 < cLine) : CallR X (.builtin "repr") (rRepr X.K) := by
  intro pins s σ H xs us Q I r h
  rcases h with ⟨b, rfl, q⟩ | ⟨i, rfl, hz, q⟩ | ⟨a, ns, rfl, hs, hb, hz, q⟩
  · obtain ⟨u, rfl, r1⟩ := vals1 r
    cases r1
    exact PySem.P.repr_of_bool ⟨.str _, H, I.tok _, ⟨_, rfl⟩, q⟩
  · obtain ⟨u, rfl, t, rfl⟩ := vals1 r
    exact PySem.P.repr_of_int hz ⟨.str _, H, I.tok _, ⟨_, rfl⟩, q⟩
  · obtain ⟨u, rfl, r1⟩ := vals1 r
    have r2 : RelV (.ref a) u := r1
    obtain ⟨as, rd⟩ := Dp.reads I (.tuple (ns.map PyData.int)) (.ref a) u (.tup hs (dp_ints ns)) r2
    cases r1
    refine repr_of_reads' rd (by simp only [PyData.showable]; exact showAll_ints ns hb) (fun z => ?_) hg (by simp only [PyData.depth, depth_ints]; omega) (fun _ _ z => z) (fun h' u tk kk => ?_) hz
    · simp only [PyData.hasDict, noDict_ints] at z
      exact absurd z Bool.false_ne_true
    · exact ⟨.str _, H, I.kept kk, ⟨_, rfl⟩, q⟩
end KV

/-! a def that is called where no repr is under way (the law's own def): the rule for its body, and the end -/
namespace KV
open PySem PySem.Spec PyProof.Rows L2
structure FnOkG (P : Program) (w : World) (K : PySem.W.Frag) (mg : Str → Option Value) (base : Heap) (k : Nat) (f : Addr) (fd : FuncData) (ps : List Str) (sp : Sp) : Prop where
  size : ∀ xs G R Z, sp xs G R Z → xs.length = ps.length
  go : ∀ (B : Around) (out : List Env) (st : Shared) (G : Hp) (ar : Args) (ws : List Value) (xs : List V) (R : VK) (Z : XK), Room k B → B.guards = some [] → Env0 P w K mg base B out st G →
    BindsTo st fd ar (ps.zip ws) → Vals xs ws → sp xs G R Z → codeAny (model P w) B (.call (.ref f) ar) (CR CX0 out P w G st R Z) st
theorem fn_ofG {P : Program} {w : World} {K : PySem.W.Frag} {mg : Str → Option Value} {base : Heap} {k : Nat} {f : Addr} {nm ql : Str} {pa : Arguments} {bo : List Stmt} {sc : Scope} {dv kv dc pm cd ct oc : Value} {an od : Option Addr}
    {sl : Array (Option Value)} {N ps : List Str} {sp : Sp} (there : K.lookup f = some ⟨oc, od, .func (PySem.W.fnOf nm ql pa bo sc dv kv dc pm an cd ct), sl⟩) (code : PySem.W.codeIn K cd ql = true) (S : FnScope N ps sc)
    (size : ∀ xs G R Z, sp xs G R Z → xs.length = ps.length)
    (bodyOk : ∀ (B : Around) (out : List Env) (st : Shared) (G : Hp) (xs : List V) (R : VK) (Z : XK), Room k (B.deeper (envOfC ql sc st.heap.objs.size f cd)) → B.guards = some [] → sp xs G R Z →
      ∃ t, PSs (cxOf CX0 P w K mg base N ql sc f cd B out st G Z) bo t ∧ t { nx := fun _ G' => R .non G', rt := R } (start N xs) G) :
    FnOkG P w K mg base (k + 1) f (PySem.W.fnOf nm ql pa bo sc dv kv dc pm an cd ct) ps sp := by
  constructor
  · exact size
  intro B out st G ar ws xs R Z room gd e0 bnd rel want
  have len := size _ _ _ _ want
  have inK : K.In st.heap := e0.mod.kin.keeps fun b o q => (e0.bs b o q).1
  have noLim : st.heap.NoLimit := e0.mod.nolimit.keeps fun b o q => (e0.bs b o q).1
  have kinds : ∀ y ∈ ps.zip ws, sc.names.lookup y.1 = some .local ∨ (sc.names.lookup y.1 = some .cell ∧ ((cellsFrom (st.heap.objs.size + 1) sc.names []).lookup y.1).isSome = true) := by
    rintro ⟨n, v⟩ hy
    rcases S.par n (List.of_mem_zip hy).1 with q | q
    · exact .inl q
    · exact .inr ⟨q, PySem.W.cellsFrom_some _ _ _ (.inl q)⟩
  refine codeAny_call_function room.depth (inK _ _ there) rfl S.co S.gen rfl (PySem.W.codeRec_of inK code) (bnd _ _ _ _ ?_)
  refine wpAny_newFunctionEnv_cells S.kind kinds fun env henv s2 x => ?_
  subst henv
  refine ⟨noLim.keeps x.toInCall.keep, codeAny_func ?_⟩
  obtain ⟨t, ht, hq⟩ := bodyOk B out st G xs R Z (room.deeper _) gd want
  have J := inv_start (CX := CX0) (E := Z) S room.hd e0 len rel x
  refine wpAny_mono (ht.run [] s2 (start N xs) G _ J hq) (fun fl s3 hs => ?_) (fun _ _ z => z)
  cases fl with
  | brk => exact hs.elim fun _ ⟨_, _, z⟩ => z.elim
  | cont => exact hs.elim fun _ ⟨_, _, z⟩ => z.elim
  | ret u =>
    obtain ⟨v, σ3, G3, J3, rv, q⟩ := hs
    exact ⟨v, G3, J3.os, J3.bare, J3.base, J3.hok, rv, q⟩
  | next =>
    obtain ⟨σ3, G3, J3, q⟩ := hs
    exact ⟨V.non, G3, J3.os, J3.bare, J3.base, J3.hok, rfl, q⟩

/-- the law's call, behind the top -/
theorem law_callG {P : Program} {w : World} {K : PySem.W.Frag} {mg mb : Str → Option Value} {k : Nat} {fa a : Addr} {fd : FuncData} {x : Str} {sp : Sp} {st : Shared} {vs : List Value} {ns : List Int}
    (inK : K.In st.heap) (gl : st.heap.Ns mainGlobals mg) (bl : st.heap.Ns builtinsNs mb) (blb : ∀ y : Str, y ≠ "__name__" → mb y = bootBuiltins y) (noLim : st.heap.NoLimit) (gens : st.gens = #[])
    (scr : st.heap.get? a = some { cls := .type "list", data := .seq vs.toArray }) (isI : IntsAre vs ns) (few : ns.length ≤ sizeLine) (room : Room k callerA)
    (F : ∀ base : Heap, K.In base → base.Ns mainGlobals mg → FnOkG P w K mg base k fa fd [x] sp) (bnd : ∀ (s : Shared) (u : Value), BindsTo s fd ⟨[u], []⟩ [(x, u)])
    (want : ∀ G : Hp, SqL K G a (ns.map V.int) → sp [.ref a] G (fun v _ => v = .bl true) fun _ _ _ => False) :
    codeAny (model P w) callerA (.call (.ref fa) ⟨[.ref a], []⟩) (fun r s' => r = .ok (.ret (.bool true)) ∧ OldK st.heap s'.heap ∧ s'.os = st.os ∧ AllBare s'.gens) st := by
  have rel := vals_ints isI
  have lens := isI.length
  have core : ∀ G : Hp, Only G → SqL K G a (ns.map V.int) → HOk P w G st.heap → (∀ b, G b ≠ none → b = a) → (G a ≠ none → K.lookup a = none) →
      codeAny (model P w) callerA (.call (.ref fa) ⟨[.ref a], []⟩) (fun r s' => r = .ok (.ret (.bool true)) ∧ OldK st.heap s'.heap ∧ s'.os = st.os ∧ AllBare s'.gens) st := by
    intro G only sq ok one out
    have free : ∀ {b : Addr} {o : Obj} {es : Array DictEntry} {ep : Nat}, st.heap.get? b = some o → o.data = .dict es ep → G b = none := by
      intro b o es ep q d
      cases z : G b with
      | none => rfl
      | some u =>
        have : b = a := one b (by simp [z])
        subst this
        rw [scr] at q
        cases q
        cases (show Data.seq vs.toArray _ = Data.dict es ep from d)
    have ns2 : ∀ {b : Addr} {m : Str → Option Value}, st.heap.Ns b m → (hidT st.heap G).Ns b m := fun ⟨o, es, ep, q, d, r⟩ => ⟨o, es, ep, hidT_get q (free q d), d, r⟩
    have inB : K.In (hidT st.heap G) := by
      intro b o q
      refine hidT_get (inK b o q) ?_
      cases z : G b with
      | none => rfl
      | some u =>
        have : b = a := one b (by simp [z])
        subst this
        rw [out (by simp [z])] at q
        cases q
    have hm : Mod K mg (hidT st.heap G) := ⟨inB, ns2 gl, ⟨mb, ns2 bl, blb⟩, let ⟨mc, h1, h2⟩ := noLim; ⟨mc, ns2 h1, h2⟩⟩
    have e0 : Env0 P w K mg (hidT st.heap G) callerA [] st G :=
      ⟨rfl, hm, fun b o q => of_hidT q, Nat.le_of_eq (hidT_size _ _), trivial, fun b hb => absurd (show b ∈ ([] : List Addr) from hb) (by simp), ok, .of_eq gens⟩
    refine codeAny_mono ((F _ inB (ns2 gl)).go callerA [] st G ⟨[.ref a], []⟩ [.ref a] [.ref a] _ _ room rfl e0 (bnd st (.ref a)) (.cons rfl .nil) (want G sq)) fun r s' h => ?_
    cases r with
    | error e => exact False.elim h
    | ok fl =>
      cases fl with
      | next => exact False.elim h
      | brk => exact False.elim h
      | cont => exact False.elim h
      | ret u =>
        obtain ⟨v, G', os, bare, un, ok', r', q⟩ := h
        have q2 : v = .bl true := q
        subst q2
        have u2 : u = Value.bool true := r'
        subst u2
        refine ⟨rfl, OldK.of_keep fun b o e => ?_, os, bare⟩
        cases z : G b with
        | none => exact un.keep b o e z (by intro y; exact absurd (show b ∈ ([] : List Addr) from y) (by simp)) (by simp)
        | some u =>
          rcases only b with y | ⟨ob, xs, y⟩
          · rw [z] at y
            cases y
          · have y2 := un.frzs b ob _ y
            have f1 := (ok b _ y).1
            have f2 := (ok' b _ y2).1
            rw [e] at f1
            cases f1
            exact f2
  cases hk : K.lookup a with
  | none =>
    refine core (fun b => if b = a then some (.frz { cls := .type "list", data := .seq vs.toArray } (.lst (ns.map V.int))) else none) (fun b => ?_)
      (.inl (.inr ⟨{ cls := .type "list", data := .seq vs.toArray }, if_pos rfl⟩)) (fun b u z => ?_) (fun b z => ?_) (fun _ => hk)
    · by_cases hb : b = a
      · exact .inr ⟨_, _, if_pos hb⟩
      · exact .inl (if_neg hb)
    · by_cases hb : b = a
      · have z2 := (if_pos hb).symm.trans z
        cases z2
        subst hb
        exact ⟨scr, by rw [List.length_map]; exact few, vs, _, rel, scr⟩
      · have z2 := (if_neg hb).symm.trans z
        cases z2
    · by_cases hb : b = a
      · exact hb
      · exact absurd (if_neg hb) z
  | some o =>
    have e := inK a o hk
    rw [scr] at e
    cases e
    refine core (fun _ => none) (fun _ => .inl rfl) (.inr ⟨_, vs.toArray, _, hk, rfl, rfl, rfl, ?_, by simpa using rel⟩) (fun b u z => ?_) (fun b z => absurd rfl z) (fun z => absurd rfl z)
    · rw [List.size_toArray, lens]
      exact few
    · cases (show (none : Option HO) = some u from z)
/-- what k_head leaves, from the law's promise -/
theorem walk_ofG {l : PySem.W.OpenLaw} {n k : Nat} {q : Program} {loose : List Str} {XP : (Str → Option Value) → Heap → Prop} {YP : World → Heap → Prop} {d : DefRec} {K : Params → PySem.W.Frag} {sp : World → Sp} {x : Str}
    (most : l.most = some n) (fits : n ≤ sizeLine) (plain : d.params.defaults = []) (room : Room k callerA) (hY : ∀ (w : World) (h : Heap), YP w h → (K w.params).In h)
    (F : ∀ (w : World) (mg : Str → Option Value) (fa : Addr) (h : Heap), (K w.params).In h → h.Ns mainGlobals mg → mg d.name = some (.ref fa) →
      ∃ fd : FuncData, (∀ (s : Shared) (u : Value), BindsTo s fd ⟨[u], []⟩ [(x, u)]) ∧ ∀ base : Heap, (K w.params).In base → base.Ns mainGlobals mg → FnOkG l.prog w (K w.params) mg base k fa fd [x] (sp w))
    (want : ∀ (w : World) (G : Hp) (a : Addr) (ns : List Int), ns.length ≤ n → SqL (K w.params) G a (ns.map V.int) → sp w [.ref a] G (fun v _ => v = .bl true) fun _ _ _ => False) :
    PySem.W.WalkO q loose XP YP l.row.toRowW d [] (fun f vs => PySem.call f vs) := by
  refine Att.attach_call most plain fun w s0 s1 mg mb fa o pm cd doc a vs ns G Y ho hd hcd hmg hobj hints hlen hg => ?_
  obtain ⟨fd, hb, hF⟩ := F w mg fa _ (hY w _ Y) G.T.g hmg
  exact law_callG (hY w _ Y) G.T.g G.T.b G.T.builtins G.T.nolimit hg hobj hints (Nat.le_trans hlen fits) room hF hb fun H hS => want w H a ns hlen hS
end KV

namespace PySem
namespace LowX
open PySem.W PySem.Calls PyProof.Rows PySem.HandSPX
/-! ### the text of __init__ -/
def iA (p1 p2 : Pos) : Arguments := { posonlyargs := [], args := [{ arg := "self", annotation := none, pos := p1 }, { arg := "at", annotation := none, pos := p2 }], vararg := none, kwonlyargs := [], kw_defaults := [], kwarg := none, defaults := [] }
def iB (q1 q2 q3 q4 : Pos) : List Stmt := [.Assign [.Attribute (.Name "self" q1) "at" q2] (.Name "at" q3) q4]
def iS : Scope := { kind := .function, names := [(PySem.Str.ofString "self", .local), (PySem.Str.ofString "at", .local)], isGenerator := false, isCoroutine := false, more := [] }
/-- what the written part says of Low, at C, and of its __init__, at fI -/
structure LowTxt (K : Frag) (mg : Str → Option Value) (nm ql : Str) (C fI : Addr) : Prop where
  gC : mg nm = some (.ref C)
  nd : (nm == ("__debug__" : Str)) = false
  cls : ∃ nm q N bs bm sn sub ab col dd k0 k1 k2 k3 k5, K.lookup C = some (excClassObj nm q C N bs bm true sn sub ab col dd k0 k1 k2 k3 k5 "ValueError.__new__") ∧ refsVE bm = true
  sa : findIn K (.ref C) "__setattr__" = some (some (.builtin "object.__setattr__"))
  ga : findIn K (.ref C) "__getattribute__" = some (some (.builtin "BaseException.__getattribute__"))
  gg : findIn K (.ref C) "__getattr__" = some none
  noN : findIn K (.ref C) "at" = some none
  iC : findIn K (.ref C) "__init__" = some (some (.ref fI))
  tC : typeIn K (.ref fI) = some (.type "function")
  kC : keepIn K (.ref C) = true
  exC : subIn K (.ref C) (.type "BaseException") = some true
  tyC : typeIn K (.ref C) = some (.type "type")
  hdC : hasDictIn K C = true
  te : exmOne K (.ref C) (.ref C) = some true
  fn : ∃ (oc : Value) (od : Option Addr) (doc pm : Value) (an : Option Addr) (cdv ct : Value) (osl : Array (Option Value)) (p1 p2 q1 q2 q3 q4 : Pos),
    K.lookup fI = some ⟨oc, od, .func (fnOf "__init__" ql (iA p1 p2) (iB q1 q2 q3 q4) iS .none .none doc pm an cdv ct), osl⟩ ∧ codeIn K cdv ql = true
theorem one_size (v : Value) : [v].length ≤ sizeLine := by
  rw [sizeLine_eq]
  exact (by decide : 1 ≤ 16777216)
theorem kept_but {K : Frag} {h h' : Heap} {x : Addr} (X : K.In h) (hx : K.lookup x = none) (k : ∀ b o, b ≠ x → h.get? b = some o → h'.get? b = some o) : K.In h' := fun a o e =>
  k a o (fun z => by rw [z, hx] at e; cases e) (X a o e)
theorem ldC {M : Model} {s : Shared} {name : Str} {scope : Scope} {L a : Addr} {cd : Value} {m : Str → Option Value} {x : Str} {pos : Pos} {v : Value} {Q : Value → Shared → Prop} {A : Around} {E : Value → Shared → Prop} (hn : s.heap.Ns L m) (hv : m x = some v) (h : Q v s)
    (hk : scope.kind = .function := by rfl) (hl : (envOfC name scope L a cd).kindOf x = some .local := by rfl) (hd : (x == ("__debug__" : Str)) = false := by decide) :
    wpAny M A (eval (.Name x pos) (envOfC name scope L a cd)) Q E s := wpAny_Name (wpAny_loadName_local hk hl hn hv h) hd
/-- what __init__ leaves of a fresh exception at x -/
structure InitEnd (h h' : Heap) (x C dx t1 : Addr) (v : Value) : Prop where
  keep : ∀ b o, b ≠ x → h.get? b = some o → h'.get? b = some o
  obj : h'.get? x = some { cls := .ref C, dict := some dx, data := .fields #[.ref t1, .none, .none, .none, .bool false, .none] }
  dbig : h.objs.size ≤ dx
  dne : dx ≠ x
  ns : h'.Ns1 dx (fun y => if y = "at" then some v else none)
/-- a made Low -/
structure OwnMade (h h' : Heap) (e C d : Addr) (v : Value) : Prop where
  keep : ∀ b o, h.get? b = some o → h'.get? b = some o
  new : h.objs.size ≤ e
  obj : ∃ oe vs, h'.get? e = some oe ∧ oe.cls = .ref C ∧ oe.dict = some d ∧ oe.data = .fields vs ∧ vs[1]? = some .none
  dbig : h.objs.size ≤ d
  dne : d ≠ e
  ns : h'.Ns1 d (fun y => if y = "at" then some v else none)
section
variable {prog : Program} {w : World} {A : Around} {E : Value → Shared → Prop} {R : Result → Shared → Prop} {s : Shared} {K : Frag} {mg : Str → Option Value} {nm ql : Str} {C fI : Addr}
theorem low_init (T : LowTxt K mg nm ql C fI) {x t0 : Addr} {v : Value} (X : K.In s.heap) (hlim : s.heap.NoLimit) (hx : s.heap.get? x = some (excO C t0)) (hnx : K.lookup x = none) (hroom : A.depth < recursionLimit)
    (hq : ∀ h' tk dx, InitEnd s.heap h' x C dx t0 v → R (.ok (.ret .none)) { s with heap := h', toks := tk }) :
    codeAny (model prog w) A (.call (.ref fI) ⟨[.ref x, v], []⟩) R s := by
  obtain ⟨oc, od, doc, pm, an, cdv, ct, osl, p1, p2, q1, q2, q3, q4, ho, hcd⟩ := T.fn
  obtain ⟨nm, q, N, bs, bm, sn, sub, ab, col, dd, k0, k1, k2, k3, k5, hC, hbm⟩ := T.cls
  have hcl : clsIn K C = some { name := nm, bases := bs, mro := .ref C :: bm, ns := N, qualname := q, hasDict := true, slotNames := sn, subclasses := sub, abstract := ab, collection := col, hasDel := false } := by unfold clsIn; rw [hC] <;> rfl
  refine Att.call_fn (binds := [("self", .ref x), ("at", v)]) X hlim ho hcd hroom (BindsTo.of_eq (by first | rfl | with_unfolding_all rfl)) (by first | rfl | decide | with_unfolding_all rfl) (fun s₁ IC => ?_) rfl rfl rfl
  obtain ⟨h₁, tk₁, rfl⟩ := IC.toInCall.same
  have k : ∀ b o, s.heap.get? b = some o → h₁.get? b = some o := IC.toInCall.keep
  have hn := IC.toInCall.ns
  have hxL : s.heap.objs.size ≠ x := Nat.ne_of_gt (Heap.lt_size hx)
  have X₁ : K.In h₁ := X.keeps k
  have hx₁ := k _ _ hx
  -- self.by = by
  show wpAny _ _ (execs _ _) _ _ _
  refine wpAny_execs_cons (plainObj_wpAny_Assign_Attribute ?_)
  refine ldC (v := v) hn (by first | rfl | with_unfolding_all rfl | kernel_rfl) (ldC (v := .ref x) hn (by first | rfl | with_unfolding_all rfl | kernel_rfl) ?_)
  refine set_plain X₁ (ox := excO C t0) (od := none) ⟨hx₁, rfl, rfl, trivial⟩ T.sa ?_
  refine exc_osa X₁ hx₁ hcl (show refsVE (.ref C :: bm) = true from hbm) rfl T.noN (fun h₃ tk₃ dx k₃ dn dne hx₃ hn₃ => ?_)
  show wpAny _ _ (execs _ _) _ _ _
  have z : s.heap.objs.size < h₁.objs.size := hn.lt
  exact wpAny_execs_nil (hq h₃ tk₃ dx ⟨fun b o hb e => k₃ b o hb (k b o e), hx₃, Nat.le_of_lt (Nat.lt_of_lt_of_le z dn), dne, hn₃⟩)
theorem low_made (T : LowTxt K mg nm ql C fI) {v : Value} (X : K.In s.heap) (hlim : s.heap.NoLimit) (hroom : A.depth + 1 < recursionLimit)
    (hq : ∀ h' tk e d, OwnMade s.heap h' e C d v → R (.ok (.ret (.ref e))) { s with heap := h', toks := tk }) :
    codeAny (model prog w) A (.call (.ref C) ⟨[v], []⟩) R s := by
  obtain ⟨nm, q, N, bs, bm, sn, sub, ab, col, dd, k0, k1, k2, k3, k5, hC, hbm⟩ := T.cls
  obtain ⟨hp, g, dr, tk, os⟩ := s
  have k : ∀ b o, hp.get? b = some o → ((hp.push (kdv_tup [v])).push (excO C hp.objs.size)).get? b = some o := fun b o e => Heap.get?_push_of_some _ (Heap.get?_push_of_some _ e)
  have hget : ((hp.push (kdv_tup [v])).push (excO C hp.objs.size)).get? (hp.objs.size + 1) = some (excO C hp.objs.size) := by heap_get
  have hnx : K.lookup (hp.objs.size + 1) = none := by
    cases e : K.lookup (hp.objs.size + 1) with
    | none => rfl
    | some o =>
      have z : hp.get? (hp.objs.size + 1) = some o := X _ _ e
      exact absurd (Nat.lt_of_succ_lt (Heap.lt_size z)) (Nat.lt_irrefl _)
  refine call_own F.excBase_ValueError (fun X => refsVE_contains X bm hbm) (X _ _ hC) (looks_findIn X T.iC) (fun self => bind_fn X self T.tC) (one_size v) ?_
  refine low_init (s := ⟨(hp.push (kdv_tup [v])).push (excO C hp.objs.size), g, dr, tk, os⟩) T (X.keeps k) (hlim.keeps k) hget hnx ?_ fun h' tk' dx ⟨k', hx, dn, dne, hns⟩ => ?_
  · show A.depth + 1 < recursionLimit
    exact hroom
  · have old : ∀ b o, hp.get? b = some o → h'.get? b = some o := fun b o e => k' b o (Nat.ne_of_lt (Nat.lt_succ_of_lt (Heap.lt_size e))) (k b o e)
    have z : hp.objs.size + 1 + 1 ≤ dx := by
      first
        | (simpa only [Heap.size_push] using dn)
        | exact dn
        | (have q := dn; rw [Heap.size_push, Heap.size_push] at q; exact q)
    exact ⟨rfl, hq h' tk' (hp.objs.size + 1) dx ⟨old, Nat.le_succ _, ⟨_, _, hx, rfl, rfl, rfl, rfl⟩, Nat.le_trans (Nat.le_trans (Nat.le_succ _) (Nat.le_succ _)) z, dne, hns⟩⟩
end
end LowX
end PySem
namespace L2
open PySem PySem.Spec PyProof.Rows
theorem relO_low {v : V} {v' : Value} (r : RelV v v') (f : Str) : RelO (List.lookup f [(("at" : Str), v)]) (if f = "at" then some v' else none) := by
  by_cases hw : f = "at"
  · subst hw
    rw [if_pos rfl]
    have q : List.lookup ("at" : Str) [(("at" : Str), v)] = some v := by simp [List.lookup]
    rw [q]
    exact r
  · rw [if_neg hw]
    have qw : (f == ("at" : Str)) = false := by simpa using hw
    have q2 : List.lookup f [(("at" : Str), v)] = none := by simp [List.lookup, qw]
    rw [q2]
    trivial
section
variable {X : Cx} {nm ql : Str} {C fI : Addr}
/-- Low(e) -/
def tMkLow (C : Addr) (ta : TA) : St → Hp → XK → Prop := fun σ H Q => ta σ H fun vs H1 => ∃ v, vs = [v] ∧ ∀ d, H1 d = none → Q (.ref C) (some d) (upd H1 d (.xd [(("at" : Str), v)]))
theorem pmk_low {a : Expr} {ta : TA} {p pos : Pos} {k : Nat} (T : PySem.LowX.LowTxt X.K X.mg nm ql C fI) (hr : Room k X.A) (ha : PA X [a] ta) (hg : Gl X nm := by rfl)
    (he : starEach (a :: []) X.env = (false, eval a X.env) :: starEach [] X.env := by rfl) (hpl : (backTo pos (starEach [] X.env)).any (·.1) = false := by rfl) :
    PMk X (.Call (.Name nm p) [a] [] pos) (tMkLow C ta) := by
  intro pins s σ H Q I h
  refine wpAny_Call_Name_kw (ld_glob I hg T.gC ?_ T.nd)
  refine PySem.W.callWith_K (h₀ := X.base) I.ok.mod.kin T.kC (thn (ha.run pos pins s σ H _ I h) fun us s1 hh => ?_) he hpl
  obtain ⟨vs, H1, I1, r1, v, ev, q1⟩ := hh
  subst ev
  refine ⟨I1.kIn, ?_⟩
  cases r1 with
  | cons rv rn =>
    rename_i v' us'
    cases rn
    show wpAny _ _ (call (.ref C) [v']) _ _ _
    have hlim := I1.nolimit
    obtain ⟨hp, g, dr, tk, os⟩ := s1
    refine wpAny_call (PySem.LowX.low_made T I1.kIn hlim (by have := hr.dp; omega) fun h' tk' e d M => ?_)
    show MkP X pins σ Q (.ref e) ⟨h', g, dr, tk', os⟩
    obtain ⟨oe, fv, hoe, hc, hd, hdat, h1⟩ := M.obj
    have hns := M.ns
    obtain ⟨G', g1, g2⟩ := restrict h' fun b => decide (b ≠ e)
    have gk : ∀ b, b ≠ e → G'.get? b = h'.get? b := fun b hb => g1 b (decide_eq_true hb)
    have ge : G'.get? e = none := g2 e (by simp)
    have old : ∀ b o, hp.get? b = some o → G'.get? b = some o := fun b o q => (gk b (Nat.ne_of_lt (Nat.lt_of_lt_of_le (Heap.lt_size q) M.new))).trans (M.keep b o q)
    have ob : ObjOk X.prog X.w (upd H1 d (.xd [(("at" : Str), v)])) G' d (.xd [(("at" : Str), v)]) :=
      ⟨_, hns.at (fun o q => (gk d M.dne).trans q), fun f => relO_low rv f⟩
    have J : Inv X pins σ (upd H1 d (.xd [(("at" : Str), v)])) ⟨G', g, dr, tk', os⟩ := I1.laid (t' := tk') old M.dbig ob
    refine ⟨e, oe, fv, ⟨G', g, dr, tk', os⟩, _, .ref C, some d, rfl, J, fun b o q => ?_, ge, hoe, ⟨hc, hd⟩, hdat, h1, ?_, rfl, I1.bare, raises_own T.exC T.tyC, q1 d (I1.hok.fresh M.dbig)⟩
    · by_cases hb : b = e
      · have q' : G'.get? b = some o := q
        rw [hb, ge] at q'; cases q'
      · exact (gk b hb).symm.trans q
    · rw [upd_ne (Ne.symm M.dne)]
      exact I1.hok.fresh M.new
/-- raise Low(e) -/
def tRaiseLow (C : Addr) (W : WX) (ta : TA) : TS := fun _ σ H => tMkLow C ta σ H fun cls d H' => W cls d σ H'
theorem ps_raiseLow {a : Expr} {ta : TA} {W : WX} {p pos pos2 : Pos} {k : Nat} (hc : X.calm = true) (T : PySem.LowX.LowTxt X.K X.mg nm ql C fI) (hr : Room k X.A) (tk : Takes X W) (ha : PA X [a] ta) (hg : Gl X nm := by rfl)
    (he : starEach (a :: []) X.env = (false, eval a X.env) :: starEach [] X.env := by rfl) (hpl : (backTo pos (starEach [] X.env)).any (·.1) = false := by rfl) :
    PS X (.Raise (some (.Call (.Name nm p) [a] [] pos)) none pos2) (tRaiseLow C W ta) := ps_raise hc tk (pmk_low T hr ha hg he hpl)
/-- low.by, low the exception that the suite holds (at a; its class cls, its dict d) -/
def tByLow (C : Addr) (a : Addr) (cls : Value) (d : Option Addr) (te : TE) : TE := fun σ H Q => te σ H fun x H1 => x = .ref a ∧ cls = .ref C ∧ ∃ (dd : Addr) (v : V), d = some dd ∧ H1 dd = some (.xd [(("at" : Str), v)]) ∧ Q v H1
theorem pe_byLow {a : Addr} {oe : Obj} {cls : Value} {d : Option Addr} {pn : List (Addr × Obj)} {e : Expr} {te : TE} {pos : Pos} (T : PySem.LowX.LowTxt X.K X.mg nm ql C fI) (hz : Zc cls d oe) (hf : ∃ vs, oe.data = .fields vs) (he : PE (X.suite a ((a, oe) :: pn)) e te)
    (hb : attributeBase e "at" X.env (eval e X.env) = eval e X.env := by rfl) :
    PE (X.suite a ((a, oe) :: pn)) (.Attribute e "at" pos) (tByLow C a cls d te) := by
  refine ⟨fun pins s σ H Q I h => ?_⟩
  refine attr_of hb (thn (he.run pins s σ H _ I h) fun u s1 hh => ?_)
  obtain ⟨x, H1, I1, rx, ex, ec, dd, v, ed, ea, q⟩ := hh
  subst ex
  obtain rfl : u = Value.ref a := rx
  subst ec
  subst ed
  obtain ⟨ha, _⟩ := I1.pin (a, oe) (List.mem_append_left _ List.mem_cons_self)
  obtain ⟨vs, hd⟩ := hf
  have hx : ObjOk X.prog X.w H1 s1.heap dd (.xd [(("at" : Str), v)]) := I1.hok dd _ ea
  obtain ⟨mA, hns, hr⟩ := hx
  obtain ⟨od, ho, hl⟩ := lookIn_ns hns
  have l : List.lookup ("at" : Str) [(("at" : Str), v)] = some v := by simp [List.lookup]
  obtain ⟨u, hu, ru⟩ := RelO.some_of (v := v) (o := mA "at") (by rw [← l]; exact hr "at")
  have J : PySem.W.InstAt s1.heap a oe C (some od) := ⟨ha, hz.1, by unfold PySem.W.notCls; rw [hd] <;> rfl, by rw [hz.2]; exact ho⟩
  exact HandSPX.exc_get I1.kIn J T.ga T.gg T.exC (PySem.W.findObj_own T.hdC T.noN rfl (by rw [hl, hu])) (handed_of ru) ⟨v, H1, I1.tok _, ru, q⟩
end
end L2

/-! the head: what the top leaves, looked at once -/
namespace KV
open PySem PySem.Spec PyProof.Rows L2 He
/-- a global that is a built-in -/
def bltB (K : PySem.W.Frag) (x : Str) (id : String) : Bool := match PySem.W.nsIn K mainGlobals x with
  | some (some (.builtin i)) => decide (i = id)
  | _ => false
theorem bltB_ok {K : PySem.W.Frag} {h : Heap} {mg : Str → Option Value} (X : K.In h) (G : h.Ns mainGlobals mg) {x : Str} {id : String} (c : bltB K x id = true) : mg x = some (.builtin id) := by
  unfold bltB at c
  split at c
  · rename_i i e
    rw [← of_decide_eq_true c]
    exact PySem.W.mg_of X G e
  · cases c
/-- an error's class over ValueError -/
def errB (K : PySem.W.Frag) (C : Addr) : Bool := match K.lookup C with
  | some ⟨.type "type", _, .cls cd, sl⟩ => (match cd.mro, sl.toList with
    | .ref C' :: bm, [_, _, _, _, some (.builtin n), _] => C' == C && n == "ValueError.__new__" && !cd.hasDel && cd.hasDict && PySem.HandSPX.refsVE bm
    | _, _ => false)
  | _ => false
theorem errB_ok {K : PySem.W.Frag} {C : Addr} (c : errB K C = true) :
    ∃ nm q N bs bm sn sub ab col dd k0 k1 k2 k3 k5, K.lookup C = some (excClassObj nm q C N bs bm true sn sub ab col dd k0 k1 k2 k3 k5 "ValueError.__new__") ∧ PySem.HandSPX.refsVE bm = true := by
  unfold errB at c
  split at c
  · rename_i dd cd sl ho
    split at c
    · rename_i C' bm k0 k1 k2 k3 n k5 hm hs
      simp only [Bool.and_eq_true, beq_iff_eq, Bool.not_eq_true'] at c
      obtain ⟨⟨⟨⟨rfl, rfl⟩, hdel⟩, hdi⟩, hok⟩ := c
      obtain ⟨nm, bs, mro, ns, qn, hd, sn, sub, ab, col, del⟩ := cd
      dsimp only at hm hdel hdi
      subst hm hdel hdi
      have hsl : sl = #[k0, k1, k2, k3, some (.builtin "ValueError.__new__"), k5] := by
        obtain ⟨l⟩ := sl
        simp only at hs
        rw [hs]
      subst hsl
      exact ⟨nm, qn, ns, bs, bm, sn, sub, ab, col, dd, k0, k1, k2, k3, k5, ho, hok⟩
    · cases c
  · cases c
def kwNo (K : PySem.W.Frag) (f : Addr) : Bool := match K.lookup f with
  | some ⟨_, _, .func fd, _⟩ => (match fd.kwdefaults with
    | .none => true
    | _ => false)
  | _ => false
/-- all that is asked of an error's class x with the field at -/
def lowB (K : PySem.W.Frag) (x : Str) : Bool :=
  errB K (ga K x) && (eqO (PySem.W.findIn K (.ref (ga K x)) "__setattr__") (some (some (.builtin "object.__setattr__"))) && (eqO (PySem.W.findIn K (.ref (ga K x)) "__getattribute__") (some (some (.builtin "BaseException.__getattribute__"))) &&
  (eqO (PySem.W.findIn K (.ref (ga K x)) "__getattr__") (some none) && (eqO (PySem.W.findIn K (.ref (ga K x)) "at") (some none) && (eqO (PySem.W.findIn K (.ref (ga K x)) "__init__") (some (some (.ref (ma K (ga K x) "__init__")))) &&
  (decide (PySem.W.typeIn K (.ref (ma K (ga K x) "__init__")) = some (.type "function")) && (PySem.W.keepIn K (.ref (ga K x)) && (decide (PySem.W.subIn K (.ref (ga K x)) (.type "BaseException") = some true) && (decide (PySem.W.typeIn K (.ref (ga K x)) = some (.type "type")) &&
  (PySem.W.hasDictIn K (ga K x) && (decide (PySem.W.exmOne K (.ref (ga K x)) (.ref (ga K x)) = some true) && kwNo K (ma K (ga K x) "__init__"))))))))))))
theorem low_of {K : PySem.W.Frag} {h : Heap} {mg : Str → Option Value} (X : K.In h) (G : h.Ns mainGlobals mg) {x ql : Str} {p1 p2 q1 q2 q3 q4 : Pos} {d : FnD} (hd : d = ⟨(x, some "__init__"), "__init__", ql, PySem.LowX.iA p1 p2, PySem.LowX.iB q1 q2 q3 q4, PySem.LowX.iS⟩)
    (e : fnObs K d.at_ = d.val) (c : (Fa.code d.at_ d.qual).ok K = true) (g : (Fa.glo x).ok K = true) (b : lowB K x = true) (nd : (x == ("__debug__" : Str)) = false := by decide) : PySem.LowX.LowTxt K mg x ql (ga K x) (ma K (ga K x) "__init__") := by
  subst hd
  obtain ⟨b1, b⟩ := ba b
  obtain ⟨b2, b⟩ := ba b
  obtain ⟨b3, b⟩ := ba b
  obtain ⟨b4, b⟩ := ba b
  obtain ⟨b5, b⟩ := ba b
  obtain ⟨b6, b⟩ := ba b
  obtain ⟨b7, b⟩ := ba b
  obtain ⟨b8, b⟩ := ba b
  obtain ⟨b9, b⟩ := ba b
  obtain ⟨b10, b⟩ := ba b
  obtain ⟨b11, b⟩ := ba b
  obtain ⟨b12, b13⟩ := ba b
  obtain ⟨oc, od, osl, kV, doc, pm, an, cdv, ct, lk, hc⟩ := fn_ok e c
  have lk' : K.lookup (ma K (ga K x) "__init__") = some ⟨oc, od, .func (PySem.W.fnOf "__init__" ql (PySem.LowX.iA p1 p2) (PySem.LowX.iB q1 q2 q3 q4) PySem.LowX.iS .none kV doc pm an cdv ct), osl⟩ := lk
  have kn : kV = .none := by
    unfold kwNo at b13
    rw [lk'] at b13
    cases kV <;> first | rfl | exact Bool.noConfusion (show (false : Bool) = true from b13)
  subst kn
  exact { gC := glo_ok X G g, nd := nd, cls := errB_ok b1, sa := eqO_ok b2, ga := eqO_ok b3, gg := eqO_ok b4, noN := eqO_ok b5, iC := eqO_ok b6, tC := of_decide_eq_true b7, kC := b8, exC := of_decide_eq_true b9, tyC := of_decide_eq_true b10, hdC := b11, te := of_decide_eq_true b12,
          fn := ⟨_, _, _, _, _, _, _, _, _, _, _, _, _, _, lk', hc⟩ }
/-! the Hook: the facts fa, the defs fn, and one more look ex -/
def obsZ (n : Nat) (fa : List Fa) (fn : List FnD) (ex : PySem.W.Frag → Bool) (g : Addr → Option Obj) : Al × Bool := (obsE fa fn (frG g (asG g n)), ex (frG g (asG g n)))
def hookZ (n : Nat) (fa : List Fa) (fn : List FnD) (ex : PySem.W.Frag → Bool) : PySem.W.Hook where
  α := Al × Bool
  obs := fun s => obsZ n fa fn ex s.heap.get?
  val := fun _ => (valE fn, true)
  says := fun _ h => ∃ K : PySem.W.Frag, K.In h ∧ SaysE fa fn K ∧ ex K = true
  of := fun _ _ e => ⟨_, frG_in, congrArg (fun z : Al × Bool => z.1) e, congrArg (fun z : Al × Bool => z.2) e⟩
  keeps := fun _ _ _ ⟨K, hK, c, d⟩ k => ⟨K, PySem.W.Frag.In.keeps hK k, c, d⟩
theorem obsZ_eq {n : Nat} {fa : List Fa} {fn : List FnD} {ex : PySem.W.Frag → Bool} {g : Addr → Option Obj} {s : Shared} (h : ∀ a, g a = s.heap.get? a) : obsZ n fa fn ex g = (hookZ n fa fn ex).obs s := by
  have e : g = s.heap.get? := funext h
  rw [e] <;> rfl
/-- a def of the text, by a path -/
theorem saysFn {fa : List Fa} {fn : List FnD} {K : PySem.W.Frag} (c : SaysE fa fn K) (i : Nat) {d : FnD} (h : fn[i]? = some d := by rfl) : fnObs K d.at_ = d.val ∧ (Fa.code d.at_ d.qual).ok K = true := by
  have c2 := (ba (show ((fa.all fun f => f.ok K) && fn.all fun d => (Fa.code d.at_ d.qual).ok K) = true from congrArg (fun z : Al => z.1) c)).2
  have e : fn.map (fun d => fnObs K d.at_) = fn.map FnD.val := congrArg (fun z : Al => z.2) c
  have e2 : (fn.map fun d => fnObs K d.at_)[i]? = (fn.map FnD.val)[i]? := by rw [e]
  rw [List.getElem?_map, List.getElem?_map, h] at e2
  exact ⟨Option.some.inj e2, List.all_eq_true.mp c2 d (List.mem_of_getElem? h)⟩
/-- a def of the top: its name, its statement -/
def dTop (x : Str) (st : Stmt) : FnD := ⟨(x, none), x, x, defArgs st, defBody st, defScope st⟩
theorem keep_fn {K : PySem.W.Frag} {f : Addr} {oc : Value} {od : Option Addr} {fd : FuncData} {osl : Array (Option Value)} (h : K.lookup f = some ⟨oc, od, .func fd, osl⟩) : PySem.W.keepIn K (.ref f) = true := by
  simp only [PySem.W.keepIn, h]
theorem saysFun {fa : List Fa} {fn : List FnD} {K : PySem.W.Frag} (c : SaysE fa fn K) (i : Nat) {x : Str} {st : Stmt} (h : fn[i]? = some (dTop x st) := by rfl) : ∃ fd, Fun K x x st (ga K x) fd := by
  obtain ⟨e, k⟩ := saysFn c i h
  obtain ⟨oc, od, osl, kV, doc, pm, an, cdv, ct, lk, hc⟩ := fn_ok e k
  exact ⟨_, fun_mk lk hc (keep_fn lk)⟩
/-- a law's end, over a head by facts -/
theorem walk_ofGE {l : PySem.W.OpenLaw} {n k : Nat} {q : Program} {loose : List Str} {XP : (Str → Option Value) → Heap → Prop} {YP : World → Heap → Prop} {d : DefRec} {x : Str}
    (most : l.most = some n) (fits : n ≤ sizeLine) (plain : d.params.defaults = []) (room : Room k callerA)
    (F : ∀ (w : World) (mg : Str → Option Value) (fa : Addr) (h : Heap), YP w h → h.Ns mainGlobals mg → mg d.name = some (.ref fa) →
      ∃ (K : PySem.W.Frag) (fd : FuncData) (sp : Sp), K.In h ∧ (∀ (s : Shared) (u : Value), BindsTo s fd ⟨[u], []⟩ [(x, u)]) ∧
        (∀ (G : Hp) (a : Addr) (ns : List Int), ns.length ≤ n → SqL K G a (ns.map V.int) → sp [.ref a] G (fun v _ => v = .bl true) fun _ _ _ => False) ∧
        ∀ base : Heap, K.In base → base.Ns mainGlobals mg → FnOkG l.prog w K mg base k fa fd [x] sp) :
    PySem.W.WalkO q loose XP YP l.row.toRowW d [] (fun f vs => PySem.call f vs) := by
  refine Att.attach_call most plain fun w s0 s1 mg mb fa o pm cd doc a vs ns G Y ho hd hcd hmg hobj hints hlen hg => ?_
  obtain ⟨K, fd, sp, KX, hb, hsp, hF⟩ := F w mg fa _ Y G.T.g hmg
  exact law_callG KX G.T.g G.T.b G.T.builtins G.T.nolimit hg hobj hints (Nat.le_trans hlen fits) room hF hb fun H hS => hsp H a ns hlen hS
end KV

/-! the text -/
namespace KV
open PySem PySem.Spec PyProof.Rows L2
def top (i : Nat) : Stmt := PySem.Challenge.pw_batchnumbers_k21_whole_forcing_counts.main.body.getD i (.Pass ⟨0, 0, 0, 0⟩)
/-- the built-in names that no global hides -/
structure Bl (mg : Str → Option Value) : Prop where
  isi : mg "isinstance" = none
  int : mg "int" = none
  bool : mg "bool" = none
  tuple : mg "tuple" = none
  list : mg "list" = none
  len : mg "len" = none
  range : mg "range" = none
  sorted : mg "sorted" = none
  all : mg "all" = none
  abs : mg "abs" = none
  divmod : mg "divmod" = none
  repr : mg "repr" = none
  min : mg "min" = none
  max : mg "max" = none
  enumerate : mg "enumerate" = none
  any : mg "any" = none
  gcd : mg "gcd" = some (.builtin "math.gcd")
end KV

/-! the mathematics of fitting integers -/
namespace KM
/-- the product -/
def prd : List Int → Int
  | [] => 1
  | n :: r => n * prd r
theorem prd_app : ∀ a b : List Int, prd (a ++ b) = prd a * prd b
  | [], b => by show prd b = 1 * prd b; rw [Int.one_mul]
  | n :: r, b => by
    show n * prd (r ++ b) = n * prd r * prd b
    rw [prd_app r b, Int.mul_assoc]
theorem take_at {α : Type} : ∀ {l : List α} {i : Nat} {x : α}, l[i]? = some x → l.take (i + 1) = l.take i ++ [x]
  | [], i, x, h => by simp at h
  | a :: l, 0, x, h => by
    have e : a = x := Option.some.inj h
    subst e
    rfl
  | a :: l, i + 1, x, h => by
    have ih := take_at (l := l) (i := i) (x := x) h
    show a :: l.take (i + 1) = a :: l.take i ++ [x]
    rw [ih]
    rfl
theorem drop_at {α : Type} : ∀ {l : List α} {i : Nat} {x : α}, l[i]? = some x → l.drop i = x :: l.drop (i + 1)
  | [], i, x, h => by simp at h
  | a :: l, 0, x, h => by
    have e : a = x := Option.some.inj h
    subst e
    rfl
  | a :: l, i + 1, x, h => drop_at (l := l) (i := i) (x := x) h
theorem prd_one (n : Int) : prd [n] = n := Int.mul_one n
theorem prd_at {l : List Int} {i : Nat} {x : Int} (h : l[i]? = some x) : prd (l.take (i + 1)) = prd (l.take i) * x := by
  rw [take_at h, prd_app, prd_one]
/-- moduli -/
structure Lot (ns : List Int) : Prop where
  ge : ∀ n ∈ ns, 3 ≤ n
  lt : ns.Pairwise (fun a b => a < b)
  co : ns.Pairwise (fun a b => Int.gcd a b = 1)
theorem Lot.nil : Lot [] := ⟨fun _ h => by simp at h, .nil, .nil⟩
theorem Lot.take {ns : List Int} (h : Lot ns) (i : Nat) : Lot (ns.take i) :=
  ⟨fun n m => h.ge n (List.mem_of_mem_take m), h.lt.sublist (List.take_sublist i ns), h.co.sublist (List.take_sublist i ns)⟩
theorem prd_pos : ∀ {ns : List Int}, (∀ n ∈ ns, 3 ≤ n) → 0 < prd ns
  | [], _ => by decide
  | n :: r, h => Int.mul_pos (by have := h n (by simp); omega) (prd_pos fun m hm => h m (by simp [hm]))
theorem dvd_prd : ∀ {ns : List Int} {n : Int}, n ∈ ns → n ∣ prd ns
  | m :: r, n, h => by
    rcases List.mem_cons.mp h with e | e
    · subst e
      exact ⟨prd r, rfl⟩
    · obtain ⟨c, hc⟩ := dvd_prd e
      exact ⟨m * c, by show m * prd r = _; rw [hc, ← Int.mul_assoc, ← Int.mul_assoc, Int.mul_comm m n]⟩
theorem gcd_mul_one {q a b : Int} (h1 : Int.gcd q a = 1) (h2 : Int.gcd q b = 1) : Int.gcd q (a * b) = 1 := by
  unfold Int.gcd at *
  rw [Int.natAbs_mul]
  exact Nat.Coprime.mul_right h1 h2
theorem gcd_of_mul {q a b : Int} (h : Int.gcd q (a * b) = 1) : Int.gcd q a = 1 ∧ Int.gcd q b = 1 := by
  unfold Int.gcd at *
  rw [Int.natAbs_mul] at h
  exact Nat.coprime_mul_iff_right.mp h
theorem gcd_prd {q : Int} : ∀ {ns : List Int}, (∀ n ∈ ns, Int.gcd q n = 1) → Int.gcd q (prd ns) = 1
  | [], _ => by show Int.gcd q 1 = 1; simp
  | n :: r, h => gcd_mul_one (h n (by simp)) (gcd_prd fun m hm => h m (by simp [hm]))
theorem gcd_prd_inv {q : Int} : ∀ {ns : List Int}, Int.gcd q (prd ns) = 1 → ∀ n ∈ ns, Int.gcd q n = 1
  | m :: r, h, n, hn => by
    obtain ⟨h1, h2⟩ := gcd_of_mul (show Int.gcd q (m * prd r) = 1 from h)
    rcases List.mem_cons.mp hn with e | e
    · rw [e]
      exact h1
    · exact gcd_prd_inv h2 n e
theorem dvd_mul_co {a b c : Int} (g : Int.gcd a b = 1) (h1 : a ∣ c) (h2 : b ∣ c) : a * b ∣ c := by
  have e1 := Int.natAbs_dvd_natAbs.mpr h1
  have e2 := Int.natAbs_dvd_natAbs.mpr h2
  have e := Nat.Coprime.mul_dvd_of_dvd_of_dvd (show Nat.Coprime a.natAbs b.natAbs from g) e1 e2
  rw [← Int.natAbs_mul] at e
  exact Int.natAbs_dvd_natAbs.mp e
theorem prd_dvd : ∀ {ns : List Int} {c : Int}, ns.Pairwise (fun a b => Int.gcd a b = 1) → (∀ n ∈ ns, n ∣ c) → prd ns ∣ c
  | [], c, _, _ => ⟨c, by show c = 1 * c; rw [Int.one_mul]⟩
  | n :: r, c, h, hd => by
    obtain ⟨h1, h2⟩ := List.pairwise_cons.mp h
    exact dvd_mul_co (gcd_prd h1) (hd n (by simp)) (prd_dvd h2 fun m hm => hd m (by simp [hm]))
/-- an integer fits -/
def fit (ns : List Int) (n : Int) : Bool := ns.all fun q => decide (n % q < 2)
theorem fit_iff {ns : List Int} {n : Int} : fit ns n = true ↔ ∀ q ∈ ns, n % q < 2 := by
  unfold fit
  simp only [List.all_eq_true, decide_eq_true_eq]
/-- all numbers below the product that fit, ascending -/
def canon (ns : List Int) : List Int := ((List.range (prd ns).toNat).map Int.ofNat).filter (fit ns)
theorem canon_lt (ns : List Int) : (canon ns).Pairwise (fun a b => a < b) := by
  unfold canon
  refine List.Pairwise.filter _ (List.pairwise_map.mpr ?_)
  exact List.pairwise_lt_range.imp fun h => Int.ofNat_lt.mpr h
theorem canon_nodup (ns : List Int) : (canon ns).Nodup := (canon_lt ns).imp fun h e => by subst e; exact absurd h (Int.lt_irrefl _)
theorem mem_canon {ns : List Int} {n : Int} (hp : 0 < prd ns) : n ∈ canon ns ↔ 0 ≤ n ∧ n < prd ns ∧ ∀ q ∈ ns, n % q < 2 := by
  unfold canon
  rw [List.mem_filter, fit_iff, List.mem_map]
  constructor
  · rintro ⟨⟨a, ha, rfl⟩, h⟩
    have := List.mem_range.mp ha
    refine ⟨Int.natCast_nonneg a, ?_, h⟩
    show (a : Int) < prd ns
    omega
  · rintro ⟨h0, h1, h⟩
    exact ⟨⟨n.toNat, List.mem_range.mpr (by omega), by show (n.toNat : Int) = n; omega⟩, h⟩
/-- a sorted list with the same members is it -/
theorem is_canon {ns l s : List Int} (hp : 0 < prd ns) (nd : l.Nodup) (mem : ∀ n, n ∈ l ↔ 0 ≤ n ∧ n < prd ns ∧ ∀ q ∈ ns, n % q < 2) (pe : s.Perm l) (so : s.Pairwise (fun a b => a ≤ b)) : s = canon ns := by
  have p2 : s.Perm (canon ns) := pe.trans ((List.perm_ext_iff_of_nodup nd (canon_nodup ns)).mpr fun a => (mem a).trans (mem_canon hp).symm)
  refine List.Perm.eq_of_pairwise (le := fun a b => a ≤ b) (fun a b _ _ h1 h2 => Int.le_antisymm h1 h2) so ((canon_lt ns).imp fun h => Int.le_of_lt h) p2
/-! the program's way -/
def Rs (ns : List Int) (i : Nat) (l : List Int) : Prop := l.Nodup ∧ ∀ n, n ∈ l ↔ 0 ≤ n ∧ n < prd ns ∧ (∀ q ∈ ns.take i, n % q < 2) ∧ ∀ q ∈ ns.drop i, n % q = 0
theorem Rs.start {ns : List Int} (h : Lot ns) : Rs ns 0 [0] := by
  refine ⟨by simp, fun n => ?_⟩
  rw [List.mem_singleton]
  constructor
  · rintro rfl
    refine ⟨Int.le_refl _, prd_pos h.ge, fun q hq => ?_, fun q _ => Int.zero_emod q⟩
    simp at hq
  · rintro ⟨h0, h1, _, h3⟩
    have d : prd ns ∣ n := prd_dvd h.co fun q hq => Int.dvd_of_emod_eq_zero (h3 q (by simpa using hq))
    obtain ⟨c, rfl⟩ := d
    have pp := prd_pos h.ge
    have c0 : c = 0 := by
      rcases Int.lt_trichotomy c 0 with z | z | z
      · have := Int.mul_neg_of_pos_of_neg pp z
        omega
      · exact z
      · have : prd ns * 1 ≤ prd ns * c := Int.mul_le_mul_of_nonneg_left (by omega) (by omega)
        omega
    rw [c0, Int.mul_zero]
theorem mod_mod {n Q q : Int} (h : q ∣ Q) : n % Q % q = n % q := Int.emod_emod_of_dvd n h
theorem add_mod0 {r s q : Int} (h : s % q = 0) : (r + s) % q = r % q := by
  rw [Int.add_emod, h, Int.add_zero, Int.emod_emod]
theorem sub_mod0 {r s q : Int} (h : s % q = 0) : (r - s) % q = r % q := by
  rw [Int.sub_emod, h, Int.sub_zero, Int.emod_emod]
theorem Rs.next {ns l : List Int} {i : Nat} {q s : Int} (h : Lot ns) (R : Rs ns i l) (hq : ns[i]? = some q) (hs : s % q = 1) (ho : ∀ p ∈ ns, p ≠ q → s % p = 0) :
    Rs ns (i + 1) (l ++ l.map fun r => (r + s) % prd ns) := by
  obtain ⟨nd, mem⟩ := R
  have pp := prd_pos h.ge
  have hqm : q ∈ ns := List.mem_of_getElem? hq
  have q3 := h.ge q hqm
  have dropE := drop_at hq
  have takeE := take_at hq
  have apart : ∀ p, p ∈ ns.take i ∨ p ∈ ns.drop (i + 1) → p ∈ ns ∧ p ≠ q := by
    intro p hp
    have e : ns = ns.take i ++ (q :: ns.drop (i + 1)) := by rw [← dropE, List.take_append_drop]
    have lt := h.lt
    rw [e] at lt
    obtain ⟨_, l2, l3⟩ := List.pairwise_append.mp lt
    obtain ⟨l4, _⟩ := List.pairwise_cons.mp l2
    rcases hp with hp | hp
    · have := l3 p hp q (by simp)
      exact ⟨List.mem_of_mem_take hp, by omega⟩
    · have := l4 p hp
      exact ⟨List.mem_of_mem_drop hp, by omega⟩
  have rest0 : ∀ n, n ∈ l → n % q = 0 := fun n hn => ((mem n).mp hn).2.2.2 q (by rw [dropE]; simp)
  have qQ : q ∣ prd ns := dvd_prd hqm
  have shiftq : ∀ r, r ∈ l → ((r + s) % prd ns) % q = 1 := fun r hr => by
    rw [mod_mod qQ, Int.add_emod, rest0 r hr, hs]
    exact Int.emod_eq_of_lt (by omega) (by omega)
  refine ⟨List.nodup_append.mpr ⟨nd, ?_, ?_⟩, fun n => ?_⟩
  · refine List.pairwise_map.mpr ((List.Pairwise.and_mem.mp nd).imp ?_)
    rintro a b ⟨ha, hb, hab⟩ e
    obtain ⟨a0, a1, _⟩ := (mem a).mp ha
    obtain ⟨b0, b1, _⟩ := (mem b).mp hb
    have z := Int.emod_eq_emod_iff_emod_sub_eq_zero.mp e
    have e2 : a + s - (b + s) = a - b := by omega
    rw [e2] at z
    have z2 := Int.emod_eq_emod_iff_emod_sub_eq_zero.mpr z
    rw [Int.emod_eq_of_lt a0 a1, Int.emod_eq_of_lt b0 b1] at z2
    exact hab z2
  · intro a ha b hb e
    subst e
    obtain ⟨r, hr, e⟩ := List.mem_map.mp hb
    have h1 := shiftq r hr
    rw [e, rest0 a ha] at h1
    omega
  · rw [List.mem_append, List.mem_map, mem]
    constructor
    · rintro (⟨h0, h1, h2, h3⟩ | ⟨r, hr, rfl⟩)
      · refine ⟨h0, h1, fun p hp => ?_, fun p hp => h3 p (by rw [dropE]; exact List.mem_cons_of_mem _ hp)⟩
        rw [takeE] at hp
        rcases List.mem_append.mp hp with hp | hp
        · exact h2 p hp
        · have : p = q := by simpa using hp
          subst this
          have := h3 p (by rw [dropE]; simp)
          omega
      · obtain ⟨r0, r1, r2, r3⟩ := (mem r).mp hr
        have same : ∀ p, p ∈ ns.take i ∨ p ∈ ns.drop (i + 1) → ((r + s) % prd ns) % p = r % p := fun p hp => by
          obtain ⟨pm, pq⟩ := apart p hp
          rw [mod_mod (dvd_prd pm), add_mod0 (ho p pm pq)]
        refine ⟨Int.emod_nonneg _ (by omega), Int.emod_lt_of_pos _ pp, fun p hp => ?_, fun p hp => ?_⟩
        · rw [takeE] at hp
          rcases List.mem_append.mp hp with hp | hp
          · rw [same p (.inl hp)]
            exact r2 p hp
          · have : p = q := by simpa using hp
            subst this
            rw [shiftq r hr]
            omega
        · rw [same p (.inr hp)]
          exact r3 p (by rw [dropE]; exact List.mem_cons_of_mem _ hp)
    · rintro ⟨h0, h1, h2, h3⟩
      have nq := h2 q (by rw [takeE]; simp)
      have nq0 := Int.emod_nonneg n (show q ≠ 0 by omega)
      by_cases z : n % q = 0
      · refine .inl ⟨h0, h1, fun p hp => h2 p (by rw [takeE]; exact List.mem_append_left _ hp), fun p hp => ?_⟩
        rw [dropE] at hp
        rcases List.mem_cons.mp hp with e | e
        · rw [e]
          exact z
        · exact h3 p e
      · have z1 : n % q = 1 := by omega
        have same : ∀ p, p ∈ ns.take i ∨ p ∈ ns.drop (i + 1) → ((n - s) % prd ns) % p = n % p := fun p hp => by
          obtain ⟨pm, pq⟩ := apart p hp
          rw [mod_mod (dvd_prd pm), sub_mod0 (ho p pm pq)]
        refine .inr ⟨(n - s) % prd ns, (mem _).mpr ⟨Int.emod_nonneg _ (by omega), Int.emod_lt_of_pos _ pp, fun p hp => ?_, fun p hp => ?_⟩, ?_⟩
        · rw [same p (.inl hp)]
          exact h2 p (by rw [takeE]; exact List.mem_append_left _ hp)
        · rw [dropE] at hp
          rcases List.mem_cons.mp hp with e | e
          · subst e
            rw [mod_mod qQ, Int.sub_emod, z1, hs]
            rfl
          · rw [same p (.inr e)]
            exact h3 p e
        · rw [Int.emod_add_emod]
          have e : n - s + s = n := by omega
          rw [e]
          exact Int.emod_eq_of_lt h0 h1
theorem Rs.done {ns l s : List Int} (h : Lot ns) (R : Rs ns ns.length l) (pe : s.Perm l) (so : s.Pairwise (fun a b => a ≤ b)) : s = canon ns :=
  is_canon (prd_pos h.ge) R.1 (fun n => by rw [R.2, List.take_length, List.drop_length]; simp) pe so
theorem Rs.bd {ns l : List Int} {i : Nat} (R : Rs ns i l) {n : Int} (hn : n ∈ l) : 0 ≤ n ∧ n < prd ns := ⟨((R.2 n).mp hn).1, ((R.2 n).mp hn).2.1⟩
/-! the law's way -/
def Ls (ns : List Int) (i : Nat) (l : List Int) : Prop := l.Nodup ∧ ∀ n, n ∈ l ↔ 0 ≤ n ∧ n < prd (ns.take i) ∧ ∀ q ∈ ns.take i, n % q < 2
theorem Ls.start {ns : List Int} : Ls ns 0 [0] := by
  refine ⟨by simp, fun n => ?_⟩
  rw [List.mem_singleton]
  constructor
  · rintro rfl
    exact ⟨Int.le_refl _, by show (0 : Int) < 1; decide, fun q hq => by simp at hq⟩
  · rintro ⟨h0, h1, _⟩
    have e : prd (ns.take 0) = 1 := rfl
    omega
/-- one more modulus: what leaves e by q, and the same by the others -/
def lift (W q o n e : Int) : Int := n + W * ((e - n) * o % q)
def longer (W q o : Int) (l : List Int) : List Int := l.flatMap fun n => [lift W q o n 0, lift W q o n 1]
theorem lift_mod {W q o n e : Int} (ho : (o * W) % q = 1) (h0 : 0 ≤ e) (h1 : e < q) : lift W q o n e % q = e := by
  unfold lift
  have e1 : W * ((e - n) * o % q) % q = (e - n) % q := by
    rw [Int.mul_emod, Int.emod_emod, ← Int.mul_emod]
    have e2 : W * ((e - n) * o) = (e - n) * (o * W) := by rw [Int.mul_comm W, Int.mul_assoc]
    rw [e2, Int.mul_emod, ho, Int.mul_one, Int.emod_emod]
  rw [Int.add_emod, e1, ← Int.add_emod]
  have e3 : n + (e - n) = e := by omega
  rw [e3]
  exact Int.emod_eq_of_lt h0 h1
theorem lift_low {W q o n e : Int} (hn : 0 ≤ n) (hW : n < W) : lift W q o n e % W = n := by
  unfold lift
  rw [Int.add_mul_emod_self_left]
  exact Int.emod_eq_of_lt hn hW
theorem lift_bd {W q o n e : Int} (hn : 0 ≤ n) (hW : n < W) (hq : 0 < q) : 0 ≤ lift W q o n e ∧ lift W q o n e < W * q := by
  unfold lift
  have k0 := Int.emod_nonneg ((e - n) * o) (show q ≠ 0 by omega)
  have k1 := Int.emod_lt_of_pos ((e - n) * o) hq
  have h1 : 0 ≤ W * ((e - n) * o % q) := Int.mul_nonneg (by omega) k0
  have h2 : W * ((e - n) * o % q) ≤ W * (q - 1) := Int.mul_le_mul_of_nonneg_left (by omega) (by omega)
  have h3 : W * (q - 1) = W * q - W := by rw [Int.mul_sub, Int.mul_one]
  omega
theorem lift_only {W q o n : Int} (hW : 0 < W) (hq : 0 < q) (g : Int.gcd W q = 1) (ho : (o * W) % q = 1) (h0 : 0 ≤ n) (h1 : n < W * q) (he : n % q < q) : n = lift W q o (n % W) (n % q) := by
  have a0 := Int.emod_nonneg n (show W ≠ 0 by omega)
  have a1 := Int.emod_lt_of_pos n hW
  have b0 := Int.emod_nonneg n (show q ≠ 0 by omega)
  obtain ⟨c0, c1⟩ := lift_bd (W := W) (q := q) (o := o) (n := n % W) (e := n % q) a0 a1 hq
  have d1 : (n - lift W q o (n % W) (n % q)) % W = 0 := by
    rw [Int.sub_emod, lift_low a0 a1, Int.sub_self]
    exact Int.zero_emod W
  have d2 : (n - lift W q o (n % W) (n % q)) % q = 0 := by
    rw [Int.sub_emod, lift_mod ho b0 he, Int.sub_self]
    exact Int.zero_emod q
  obtain ⟨c, hc⟩ := dvd_mul_co g (Int.dvd_of_emod_eq_zero d1) (Int.dvd_of_emod_eq_zero d2)
  have pp : 0 < W * q := Int.mul_pos hW hq
  have cz : c = 0 := by
    rcases Int.lt_trichotomy c 0 with z | z | z
    · have : W * q * c ≤ W * q * (-1) := Int.mul_le_mul_of_nonneg_left (by omega) (by omega)
      omega
    · exact z
    · have : W * q * 1 ≤ W * q * c := Int.mul_le_mul_of_nonneg_left (by omega) (by omega)
      omega
  rw [cz, Int.mul_zero] at hc
  omega
theorem Ls.next {ns l : List Int} {i : Nat} {q o : Int} (h : Lot ns) (R : Ls ns i l) (hq : ns[i]? = some q) (ho : (o * prd (ns.take i)) % q = 1) : Ls ns (i + 1) (longer (prd (ns.take i)) q o l) := by
  obtain ⟨nd, mem⟩ := R
  have hqm : q ∈ ns := List.mem_of_getElem? hq
  have q3 := h.ge q hqm
  have Wp : 0 < prd (ns.take i) := prd_pos (h.take i).ge
  have takeE := take_at hq
  have prdE := prd_at hq
  have g : Int.gcd (prd (ns.take i)) q = 1 := by
    rw [Int.gcd_comm]
    refine gcd_prd fun n hn => ?_
    have co := (h.take (i + 1)).co
    rw [takeE] at co
    rw [Int.gcd_comm]
    exact (List.pairwise_append.mp co).2.2 n hn q (by simp)
  refine ⟨?_, fun n => ?_⟩
  · refine List.pairwise_flatMap.mpr ⟨fun a ha => ?_, (List.Pairwise.and_mem.mp nd).imp ?_⟩
    · refine List.pairwise_cons.mpr ⟨fun b hb e => ?_, List.pairwise_singleton ..⟩
      have hb' : b = lift (prd (ns.take i)) q o a 1 := by simpa using hb
      have e1 := congrArg (· % q) (e.trans hb')
      simp only [lift_mod ho (Int.le_refl 0) (by omega : (0 : Int) < q), lift_mod ho (by decide : (0 : Int) ≤ 1) (by omega : (1 : Int) < q)] at e1
      omega
    · rintro a b ⟨ha, hb, hab⟩ x hx y hy e
      obtain ⟨a0, a1, _⟩ := (mem a).mp ha
      obtain ⟨b0, b1, _⟩ := (mem b).mp hb
      have ex : x % prd (ns.take i) = a := by
        simp only [List.mem_cons, List.not_mem_nil, or_false] at hx
        rcases hx with e | e <;> (rw [e]; exact lift_low a0 a1)
      have ey : y % prd (ns.take i) = b := by
        simp only [List.mem_cons, List.not_mem_nil, or_false] at hy
        rcases hy with e | e <;> (rw [e]; exact lift_low b0 b1)
      rw [e, ey] at ex
      exact hab ex.symm
  · unfold longer
    rw [List.mem_flatMap, prdE, takeE]
    have dW : ∀ p ∈ ns.take i, p ∣ prd (ns.take i) := fun p hp => dvd_prd hp
    constructor
    · rintro ⟨a, ha, hn⟩
      obtain ⟨a0, a1, a2⟩ := (mem a).mp ha
      have go : ∀ e : Int, 0 ≤ e → e < 2 → n = lift (prd (ns.take i)) q o a e → 0 ≤ n ∧ n < prd (ns.take i) * q ∧ ∀ p ∈ ns.take i ++ [q], n % p < 2 := by
        rintro e e0 e1 rfl
        obtain ⟨c0, c1⟩ := lift_bd (o := o) (e := e) a0 a1 (show 0 < q by omega)
        refine ⟨c0, c1, fun p hp => ?_⟩
        rcases List.mem_append.mp hp with hp | hp
        · rw [← mod_mod (dW p hp), lift_low a0 a1]
          exact a2 p hp
        · have : p = q := by simpa using hp
          subst this
          rw [lift_mod ho e0 (by omega)]
          exact e1
      simp only [List.mem_cons, List.not_mem_nil, or_false] at hn
      rcases hn with e | e
      · exact go 0 (by omega) (by omega) e
      · exact go 1 (by omega) (by omega) e
    · rintro ⟨h0, h1, h2⟩
      have nq := h2 q (by simp)
      have nq0 := Int.emod_nonneg n (show q ≠ 0 by omega)
      refine ⟨n % prd (ns.take i), (mem _).mpr ⟨Int.emod_nonneg _ (by omega), Int.emod_lt_of_pos _ Wp, fun p hp => ?_⟩, ?_⟩
      · rw [mod_mod (dW p hp)]
        exact h2 p (List.mem_append_left _ hp)
      · have e := lift_only Wp (show 0 < q by omega) g ho h0 h1 (by omega)
        simp only [List.mem_cons, List.not_mem_nil, or_false]
        rcases (show n % q = 0 ∨ n % q = 1 by omega) with z | z
        · left
          rw [z] at e
          exact e
        · right
          rw [z] at e
          exact e
theorem Ls.done {ns l s : List Int} (h : Lot ns) (R : Ls ns ns.length l) (pe : s.Perm l) (so : s.Pairwise (fun a b => a ≤ b)) : s = canon ns :=
  is_canon (prd_pos h.ge) R.1 (fun n => by rw [R.2, List.take_length]) pe so
/-! Euclid's way -/
structure Eu (m x r o t u : Int) : Prop where
  r0 : 0 ≤ r
  o0 : 0 < o
  dr : m ∣ r - t * x
  dO : m ∣ o - u * x
  g : Int.gcd r o = Int.gcd x m
  bd : o * (t.natAbs : Int) + r * (u.natAbs : Int) = m
  sg : (0 ≤ t ∧ u ≤ 0) ∨ (t ≤ 0 ∧ 0 ≤ u)
  ro : r < o
  om : o ≤ m
  ub : (u.natAbs : Int) ≤ m
theorem Eu.tb {m x r o t u : Int} (h : Eu m x r o t u) : (t.natAbs : Int) ≤ m := by
  have bd := h.bd
  have o1 := h.o0
  have r0 := h.r0
  have p1 : (t.natAbs : Int) ≤ o * (t.natAbs : Int) := by
    have := Int.mul_le_mul_of_nonneg_right (show (1 : Int) ≤ o by omega) (Int.natCast_nonneg t.natAbs)
    rw [Int.one_mul] at this
    exact this
  have p2 : 0 ≤ r * (u.natAbs : Int) := Int.mul_nonneg r0 (Int.natCast_nonneg _)
  omega
theorem Eu.start {m x : Int} (hm : 0 < m) : Eu m x (x % m) m 1 0 :=
  ⟨Int.emod_nonneg _ (by omega), hm, by
    refine Int.dvd_of_emod_eq_zero ?_
    rw [Int.one_mul, Int.sub_emod, Int.emod_emod, Int.sub_self]
    exact Int.zero_emod m, by rw [Int.zero_mul, Int.sub_zero]; exact Int.dvd_refl m, by
    unfold Int.gcd
    have e : (x % m).natAbs.gcd m.natAbs = x.natAbs.gcd m.natAbs := by
      have e1 : x % m = x - m * (x / m) := Int.emod_def x m
      have e2 := Int.gcd_sub_mul_right_left m x (x / m)
      rw [e1]
      rw [Int.mul_comm]
      exact e2
    exact e, by simp, .inl ⟨by decide, Int.le_refl 0⟩, Int.emod_lt_of_pos _ hm, Int.le_refl _, by simp; omega⟩
theorem Eu.step {m x r o t u : Int} (h : Eu m x r o t u) (hr : r ≠ 0) : Eu m x (o - o / r * r) r (u - o / r * t) t ∧ (o - o / r * r).toNat < r.toNat := by
  have r1 : 0 < r := by have := h.r0; omega
  have o1 := h.o0
  have em : o - o / r * r = o % r := by
    have := Int.emod_def o r
    rw [this, Int.mul_comm r]
  have s0 : 0 ≤ o / r := Int.ediv_nonneg (by omega) (by omega)
  have m0 := Int.emod_nonneg o hr
  have m1 := Int.emod_lt_of_pos o r1
  have ro := h.ro
  have om := h.om
  refine ⟨⟨by omega, r1, ?_, h.dr, ?_, ?_, ?_, by omega, by omega, h.tb⟩, by omega⟩
  · have e : o - o / r * r - (u - o / r * t) * x = (o - u * x) - o / r * (r - t * x) := by
      rw [Int.sub_mul, Int.mul_sub, Int.mul_assoc]
      omega
    rw [e]
    exact Int.dvd_sub h.dO (Int.dvd_trans h.dr (Int.dvd_mul_left _ _))
  · rw [← h.g, Int.gcd_comm r o]
    exact Int.gcd_sub_mul_right_left r o (o / r)
  · have ab : ((u - o / r * t).natAbs : Int) = (u.natAbs : Int) + o / r * (t.natAbs : Int) := by
      rcases h.sg with ⟨a, b⟩ | ⟨a, b⟩
      · have p := Int.mul_nonneg s0 a
        rw [Int.ofNat_natAbs_of_nonpos (by omega), Int.ofNat_natAbs_of_nonpos b, Int.natAbs_of_nonneg a]
        omega
      · have p : 0 ≤ o / r * (-t) := Int.mul_nonneg s0 (by omega)
        have p2 : o / r * (-t) = -(o / r * t) := Int.mul_neg _ _
        rw [Int.natAbs_of_nonneg (by omega), Int.natAbs_of_nonneg b, Int.ofNat_natAbs_of_nonpos a, p2]
        omega
    rw [ab]
    have bd := h.bd
    have e1 : r * ((u.natAbs : Int) + o / r * (t.natAbs : Int)) = r * (u.natAbs : Int) + o / r * r * (t.natAbs : Int) := by
      rw [Int.mul_add]
      congr 1
      rw [← Int.mul_assoc, Int.mul_comm r]
    have e2 : (o - o / r * r) * (t.natAbs : Int) = o * (t.natAbs : Int) - o / r * r * (t.natAbs : Int) := Int.sub_mul _ _ _
    rw [e1, e2]
    omega
  · rcases h.sg with ⟨a, b⟩ | ⟨a, b⟩
    · have p := Int.mul_nonneg s0 a
      exact .inr ⟨by omega, a⟩
    · have p : 0 ≤ o / r * (-t) := Int.mul_nonneg s0 (by omega)
      have p2 : o / r * (-t) = -(o / r * t) := Int.mul_neg _ _
      exact .inl ⟨by omega, a⟩
theorem Eu.end_ {m x o t u : Int} (h : Eu m x 0 o t u) (g : Int.gcd x m = 1) : o = 1 ∧ m ∣ 1 - u * x := by
  have e := h.g
  rw [g] at e
  have e2 : Int.gcd 0 o = o.natAbs := Int.gcd_zero_left o
  have o1 := h.o0
  have e3 : o = 1 := by omega
  refine ⟨e3, ?_⟩
  have d := h.dO
  rw [e3] at d
  exact d
end KM

/-! sizes, small words -/
namespace KV
open PySem PySem.Spec PyProof.Rows L2 KM
abbrev sm (k : Nat) (n : Int) : Prop := n.natAbs < 2 ^ k
theorem sm_mono {j k : Nat} {n : Int} (h : sm j n) (hk : j ≤ k) : sm k n := Nat.lt_of_lt_of_le h (Nat.pow_le_pow_right (by decide) hk)
theorem sm_of {k : Nat} {n : Int} (h0 : 0 ≤ n) (h1 : n < 2 ^ k) : sm k n := by
  have e : ((2 ^ k : Nat) : Int) = (2 : Int) ^ k := by simp
  show n.natAbs < 2 ^ k
  omega
theorem sm_le {k : Nat} {n m : Int} (h0 : 0 ≤ n) (h1 : n ≤ m) (h : sm k m) : sm k n := Nat.lt_of_le_of_lt (by omega) h
theorem sm_abs {k : Nat} {n m : Int} (h1 : (n.natAbs : Int) ≤ m) (h : sm k m) : sm k n := Nat.lt_of_le_of_lt (by omega) h
theorem sm_add {k : Nat} {n m : Int} (h1 : sm k n) (h2 : sm k m) : sm (k + 1) (n + m) := by
  have a := Int.natAbs_add_le n m
  have e : 2 ^ (k + 1) = 2 ^ k * 2 := Nat.pow_succ ..
  have h1' : n.natAbs < 2 ^ k := h1
  have h2' : m.natAbs < 2 ^ k := h2
  show (n + m).natAbs < 2 ^ (k + 1)
  omega
theorem sm_neg {k : Nat} {n : Int} (h : sm k n) : sm k (-n) := by
  show (-n).natAbs < 2 ^ k
  rw [Int.natAbs_neg]
  exact h
theorem sm_sub {k : Nat} {n m : Int} (h1 : sm k n) (h2 : sm k m) : sm (k + 1) (n - m) := by
  rw [Int.sub_eq_add_neg]
  exact sm_add h1 (sm_neg h2)
theorem sm_mul {j k : Nat} {n m : Int} (h1 : sm j n) (h2 : sm k m) : sm (j + k) (n * m) := wide_lt h1 h2
theorem mulW {j k : Nat} {n m : Int} (h1 : sm j n) (h2 : sm k m) (hj : 0 < j) (hk : 0 < k) (h : j + k ≤ 1000000) : CMulW n m := wide_mul h1 h2 hj hk h
theorem divW {k : Nat} {n m : Int} (h0 : 0 < m) (h : sm k m) (hk : 0 < k) (h9 : k ≤ 9000) : CDivW n m := wide_div h0 h hk h9
theorem iop_mulW {X : Cx} : OpR X (inplaceOp .Mult) (rI CMulW fun i j => .int (i * j)) := opI fun _ _ _ _ _ _ _ hc q => imul_int q hc.ok
/-- a lot with few, small moduli -/
structure LotS (ns : List Int) : Prop extends Lot ns where
  few : ns.length ≤ 4
  sml : ∀ n ∈ ns, n < 2 ^ 100
theorem LotS.m {ns : List Int} (h : LotS ns) {n : Int} (hn : n ∈ ns) : sm 100 n := sm_of (by have := h.ge n hn; omega) (h.sml n hn)
theorem prd_le : ∀ {ns : List Int}, (∀ n ∈ ns, 3 ≤ n) → (∀ n ∈ ns, n < 2 ^ 100) → prd ns ≤ 2 ^ (100 * ns.length)
  | [], _, _ => by show (1 : Int) ≤ 1; decide
  | n :: r, h, g => by
    have ih := prd_le (ns := r) (fun m hm => h m (by simp [hm])) fun m hm => g m (by simp [hm])
    have h1 := h n (by simp)
    have g1 := g n (by simp)
    have pp := prd_pos (ns := r) fun m hm => h m (by simp [hm])
    have e : (2 : Int) ^ (100 * (n :: r).length) = 2 ^ 100 * 2 ^ (100 * r.length) := by
      rw [List.length_cons, Nat.mul_succ, Nat.add_comm, Int.pow_add]
    show n * prd r ≤ _
    rw [e]
    exact Int.mul_le_mul (by omega) ih (by omega) (by omega)
theorem LotS.prdT {ns : List Int} (h : LotS ns) (i : Nat) : sm 401 (prd (ns.take i)) := by
  have ht := h.toLot.take i
  have h1 := prd_le (ns := ns.take i) ht.ge fun n hn => h.sml n (List.mem_of_mem_take hn)
  have pp := prd_pos ht.ge
  have l : (ns.take i).length ≤ 4 := Nat.le_trans (by rw [List.length_take]; omega) h.few
  have e : (2 : Int) ^ (100 * (ns.take i).length) ≤ 2 ^ 400 := by
    have := Nat.pow_le_pow_right (show 0 < 2 by decide) (show 100 * (ns.take i).length ≤ 400 by omega)
    exact_mod_cast this
  refine sm_of (by omega) ?_
  have e2 : (2 : Int) ^ 400 < 2 ^ 401 := by decide
  omega
theorem LotS.prd {ns : List Int} (h : LotS ns) : sm 401 (prd ns) := by
  have := h.prdT ns.length
  rw [List.take_length] at this
  exact this
theorem map_at {f : Int → V} {ns : List Int} {i : Nat} {x : V} (h : (ns.map f)[i]? = some x) : ∃ n, ns[i]? = some n ∧ x = f n := by
  rw [List.getElem?_map] at h
  cases e : ns[i]? with
  | none => rw [e] at h; cases h
  | some n => rw [e] at h; exact ⟨n, rfl, (Option.some.inj h).symm⟩
theorem Same.seqT {K : PySem.W.Frag} {H H' : Hp} {a : Addr} {xs : List V} (e : Same H H') (h : SqT K H a xs) : SqT K H' a xs := by
  rcases h with (h | ⟨o, h⟩) | h
  · exact .inl (.inl (e _ _ h))
  · exact .inl (.inr ⟨o, e _ _ h⟩)
  · exact .inr h
theorem Same.upd {H H' : Hp} {a : Addr} {o : HO} (e : Same H H') (h : H a = none) : Same H (upd H' a o) := fun b u q => by
  rw [upd_ne (ne_of_none q h)]
  exact e b u q
theorem Same.new {H : Hp} {a : Addr} {o : HO} (h : H a = none) : Same H (L2.upd H a o) := Same.upd (Same.refl H) h
end KV

/-! lists or tuples; kinds of values -/
namespace KV
open PySem PySem.Spec PyProof.Rows L2 KM
theorem iteP {c : Prop} [Decidable c] {A B : Prop} (h : c) (x : A) : if c then A else B := by rw [if_pos h]; exact x
theorem iteN {c : Prop} [Decidable c] {A B : Prop} (h : ¬ c) (x : B) : if c then A else B := by rw [if_neg h]; exact x
/-- what holds between two statements -/
theorem sq_cut {a b : TS} {D : Ends} {σ : L2.St} {H : Hp} (N : L2.St → Hp → Prop) (hs : ∀ Z : L2.St → Hp → Prop, (∀ σ' H', N σ' H' → Z σ' H') → a { nx := Z, rt := D.rt, bk := D.bk, ct := D.ct } σ H) (ht : ∀ σ' H', N σ' H' → b D σ' H') : tSeq a b D σ H := hs _ ht
theorem len_lt {n : Nat} (h : n ≤ 100000) : n < sizeLine := Nat.lt_of_le_of_lt h (by decide)
/-- at a stands a list or a tuple of xs -/
def SqA (K : PySem.W.Frag) (H : Hp) (a : Addr) (xs : List V) : Prop := SqL K H a xs ∨ SqT K H a xs
theorem Same.sqA {K : PySem.W.Frag} {H H' : Hp} {a : Addr} {xs : List V} (e : Same H H') (h : SqA K H a xs) : SqA K H' a xs := by
  rcases h with h | h
  · exact .inl (e.seq h)
  · exact .inr (Same.seqT e h)
section
variable {X : Cx} {tg : Expr}
def iSq (K : PySem.W.Frag) (tl : TE) : TI := fun σ H R => tl σ H fun x H1 => ∃ a, x = .ref a ∧ (((∃ xs, SqL K H1 a xs) ∧ R (Itl K a) H1) ∨ ((∃ xs, SqT K H1 a xs) ∧ R (Itt K a) H1))
theorem pi_sq {l : Expr} {tl : TE} (hl : PE X l tl) : PI X tg l (iSq X.K tl) := by
  refine ⟨fun pins s σ H R I h => ?_⟩
  refine thn (hl.run pins s σ H _ I h) fun v s1 ⟨x, H1, I1, r1, q1⟩ => ?_
  obtain ⟨a, e, q⟩ := q1
  subst e
  cases r1
  rcases q with ⟨⟨xs, hq⟩, q⟩ | ⟨⟨xs, hq⟩, q⟩
  · obtain ⟨its, rv, p, hz⟩ := I1.list hq
    refine wpAny_pyIter_list p.isList ?_
    refine ⟨s1.heap.objs.size, [s1.heap.objs.size], _, _, H1, rfl, I1.kept (t' := s1.toks) fun b o e => Heap.get?_push_of_some _ e, turn_list a _, ⟨_, Heap.get?_push_size _ rfl, rfl, rfl⟩, fun b hb => ?_, q⟩
    have e : b = s1.heap.objs.size := by simpa using hb
    subst e
    exact I1.fpOk (Nat.le_refl _) (I1.hok.fresh (Nat.le_refl _))
  · obtain ⟨its, rv, p, hz⟩ := I1.tuple hq
    refine wpAny_pyIter_tuple (show s1.heap.IsTuple a its.toArray from p) ?_
    refine ⟨s1.heap.objs.size, [s1.heap.objs.size], _, _, H1, rfl, I1.kept (t' := s1.toks) fun b o e => Heap.get?_push_of_some _ e, turn_tuple a _, ⟨_, Heap.get?_push_size _ rfl, rfl, rfl⟩, fun b hb => ?_, q⟩
    have e : b = s1.heap.objs.size := by simpa using hb
    subst e
    exact I1.fpOk (Nat.le_refl _) (I1.hok.fresh (Nat.le_refl _))
end
/-- the heap keeps what stands at a -/
def Ke (K : PySem.W.Frag) (H H' : Hp) (a : Addr) : Prop := ∀ xs, (SqL K H a xs → SqL K H' a xs) ∧ (SqT K H a xs → SqT K H' a xs)
theorem Ke.of {K : PySem.W.Frag} {H H' : Hp} {a : Addr} (s : Same H H') : Ke K H H' a := fun _ => ⟨fun h => s.seq h, fun h => Same.seqT s h⟩
theorem for_sq {K : PySem.W.Frag} {a : Addr} {xs : List V} {g : TG} {tb : TS} {D : Ends} {σ : L2.St} {H : Hp} (hS : SqA K H a xs) (Pv : Nat → L2.St → Hp → Prop) (h0 : Pv 0 σ H) (hl : ∀ i σ H', i ≤ xs.length → Pv i σ H' → Ke K H H' a)
    (hs : ∀ i x σ H, xs[i]? = some x → Pv i σ H → g x σ H fun σ2 H2 => tb { D with nx := Pv (i + 1), ct := Pv (i + 1), bk := D.nx } σ2 H2) (hd : ∀ σ H, Pv xs.length σ H → D.nx σ H) :
    ((∃ xs, SqL K H a xs) ∧ ∃ W : Nat → Nat → L2.St → Hp → Prop, (∃ m, W 0 m σ H) ∧ ∀ i m σ H, W i m σ H →
      ((Itl K a).stop i H ∧ D.nx σ H) ∨ ((Itl K a).go i H ∧ ∃ N : L2.St → Hp → Prop, (∀ σ' H', N σ' H' → ∃ m', m' < m ∧ W (i + 1) m' σ' H') ∧ ∀ x H', (Itl K a).yld i H x H' → g x σ H' fun σ2 H2 => tb { D with nx := N, ct := N, bk := D.nx } σ2 H2)) ∨
    ((∃ xs, SqT K H a xs) ∧ ∃ W : Nat → Nat → L2.St → Hp → Prop, (∃ m, W 0 m σ H) ∧ ∀ i m σ H, W i m σ H →
      ((Itt K a).stop i H ∧ D.nx σ H) ∨ ((Itt K a).go i H ∧ ∃ N : L2.St → Hp → Prop, (∀ σ' H', N σ' H' → ∃ m', m' < m ∧ W (i + 1) m' σ' H') ∧ ∀ x H', (Itt K a).yld i H x H' → g x σ H' fun σ2 H2 => tb { D with nx := N, ct := N, bk := D.nx } σ2 H2)) := by
  rcases hS with hS | hS
  · exact .inl ⟨⟨_, hS⟩, for_list Pv h0 (fun i σ H' hi p => (hl i σ H' hi p _).1 hS) hs hd⟩
  · exact .inr ⟨⟨_, hS⟩, for_tup Pv h0 (fun i σ H' hi p => (hl i σ H' hi p _).2 hS) hs hd⟩
theorem lc_sq {K : PySem.W.Frag} {a : Addr} {xs : List V} {g : TG} {tt : TT} {te : TE} {vs : List Nat} {σ : L2.St} {H1 : Hp} {Qd : Addr → Hp → Prop} (hS : SqA K H1 a xs) (Pv : Addr → Nat → Hp → Prop) (h0 : ∀ D, H1 D = none → Pv D 0 (upd H1 D (.lst []))) (hl : ∀ D i H, Pv D i H → Ke K H1 H a)
    (hs : ∀ D i x H, H1 D = none → xs[i]? = some x → Pv D i H → g x (wipe σ vs) H fun σ2 H2 => wipe σ2 vs = wipe σ vs ∧ tt σ2 H2 fun b H3 =>
      if b = true then te σ2 H3 fun y H4 => ∃ acc, H4 D = some (.lst acc) ∧ acc.length < sizeLine ∧ Pv D (i + 1) (upd H4 D (.lst (acc ++ [y]))) else Pv D (i + 1) H3) (hd : ∀ D H, H1 D = none → Pv D xs.length H → Qd D H) :
    ((∃ xs, SqL K H1 a xs) ∧ ∀ D, H1 D = none → ∃ W : Nat → Nat → Hp → Prop, (∃ m, W 0 m (upd H1 D (.lst []))) ∧ ∀ i m H, W i m H →
      ((Itl K a).stop i H ∧ Qd D H) ∨ ((Itl K a).go i H ∧ ∃ Nx : Hp → Prop, (∀ H', Nx H' → ∃ m', m' < m ∧ W (i + 1) m' H') ∧ ∀ x H', (Itl K a).yld i H x H' → g x (wipe σ vs) H' fun σ2 H2 => wipe σ2 vs = wipe σ vs ∧ tt σ2 H2 fun b H3 =>
        if b = true then te σ2 H3 fun y H4 => ∃ acc, H4 D = some (.lst acc) ∧ acc.length < sizeLine ∧ Nx (upd H4 D (.lst (acc ++ [y]))) else Nx H3)) ∨
    ((∃ xs, SqT K H1 a xs) ∧ ∀ D, H1 D = none → ∃ W : Nat → Nat → Hp → Prop, (∃ m, W 0 m (upd H1 D (.lst []))) ∧ ∀ i m H, W i m H →
      ((Itt K a).stop i H ∧ Qd D H) ∨ ((Itt K a).go i H ∧ ∃ Nx : Hp → Prop, (∀ H', Nx H' → ∃ m', m' < m ∧ W (i + 1) m' H') ∧ ∀ x H', (Itt K a).yld i H x H' → g x (wipe σ vs) H' fun σ2 H2 => wipe σ2 vs = wipe σ vs ∧ tt σ2 H2 fun b H3 =>
        if b = true then te σ2 H3 fun y H4 => ∃ acc, H4 D = some (.lst acc) ∧ acc.length < sizeLine ∧ Nx (upd H4 D (.lst (acc ++ [y]))) else Nx H3)) := by
  rcases hS with hS | hS
  · exact .inl ⟨⟨_, hS⟩, fun D hD => lc_list (Qd := Qd D) (Pv D) (h0 D hD) (fun i H hi p => (hl D i H p _).1 hS) (fun i x H hx p => hs D i x H hD hx p) (fun H p => hd D H hD p)⟩
  · exact .inr ⟨⟨_, hS⟩, fun D hD => lc_tup (Qd := Qd D) (Pv D) (h0 D hD) (fun i H hi p => (hl D i H p _).2 hS) (fun i x H hx p => hs D i x H hD hx p) (fun H p => hd D H hD p)⟩
theorem tyx_same {K : PySem.W.Frag} {H H' : Hp} (s : Same H H') {x : V} {t : Value} (h : TyX K H x t) : TyX K H' x t := by
  cases h with
  | base b =>
    refine .base ?_
    cases b with
    | non => exact .non
    | bl y => exact .bl y
    | int i => exact .int i
    | str y => exact .str y
    | flt y => exact .flt y
    | lst e => exact .lst (s _ _ e)
    | frz e => exact .frz (s _ _ e)
    | tup e => exact .tup (s _ _ e)
    | dK e => exact .dK (s _ _ e)
    | dT e => exact .dT (s _ _ e)
    | ins e a b c d f => exact .ins (s _ _ e) a b c d f
  | byt b => exact .byt b
  | set e => exact .set (s _ _ e)
  | kList e c => exact .kList e c
  | kTuple e c => exact .kTuple e c
  | kDict e c => exact .kDict e c
  | fTuple e => exact .fTuple (s _ _ e)
  | fDict e => exact .fDict (s _ _ e)
/-- an item: an int, or something of another kind -/
def Itm (K : PySem.W.Frag) (H : Hp) (x : V) : Prop := (∃ i : Int, x = .int i ∧ sm 120 i) ∨ ((∀ i : Int, x ≠ .int i) ∧ ∃ T : String, TyX K H x (.type T) ∧ (T = "bool" ∨ T = "NoneType" ∨ T = "str" ∨ T = "tuple"))
/-- a value: a sequence of items (some), or of another kind (none) -/
def ValA (K : PySem.W.Frag) (H : Hp) (v : V) : Option (List V) → Prop
  | some xs => ∃ a : Addr, v = .ref a ∧ SqA K H a xs ∧ (∃ T : String, TyX K H v (.type T) ∧ (T = "list" ∨ T = "tuple")) ∧ (∀ x ∈ xs, Itm K H x) ∧ xs.length ≤ 9
  | none => ∃ T : String, TyX K H v (.type T) ∧ (T = "NoneType" ∨ T = "int" ∨ T = "str" ∨ T = "dict")
theorem Itm.same {K : PySem.W.Frag} {H H' : Hp} (s : Same H H') {x : V} (h : Itm K H x) : Itm K H' x := by
  rcases h with h | ⟨h1, T, h2, h3⟩
  · exact .inl h
  · exact .inr ⟨h1, T, tyx_same s h2, h3⟩
theorem ValA.same {K : PySem.W.Frag} {H H' : Hp} (s : Same H H') {v : V} {ms : Option (List V)} (h : ValA K H v ms) : ValA K H' v ms := by
  cases ms with
  | none =>
    obtain ⟨T, h1, h2⟩ := h
    exact ⟨T, tyx_same s h1, h2⟩
  | some xs =>
    obtain ⟨a, h1, h2, ⟨T, h3, h3'⟩, h4, h5⟩ := h
    exact ⟨a, h1, Same.sqA s h2, ⟨T, tyx_same s h3, h3'⟩, fun x hx => (h4 x hx).same s, h5⟩
def isI : V → Bool
  | .int _ => true
  | _ => false
theorem itm_kit {K : PySem.W.Frag} {H : Hp} {x : V} (h : Itm K H x) : ∃ (t : Value) (b c : Bool), TyX K H x t ∧ PySem.W.kitOne K t (.type "int") = some b ∧ PySem.W.kitOne K t (.type "bool") = some c ∧ (b && !c) = isI x := by
  rcases h with ⟨i, rfl, _⟩ | ⟨ni, T, ty, hT⟩
  · exact ⟨.type "int", true, false, .base (.int i), kit_ty (by decide +kernel), kit_ty (by decide +kernel), rfl⟩
  · have e : isI x = false := by
      cases x <;> first | rfl | exact absurd rfl (ni _)
    rw [e]
    rcases hT with rfl | rfl | rfl | rfl
    · exact ⟨_, true, true, ty, kit_ty (by decide +kernel), kit_ty (by decide +kernel), rfl⟩
    · exact ⟨_, false, false, ty, kit_ty (by decide +kernel), kit_ty (by decide +kernel), rfl⟩
    · exact ⟨_, false, false, ty, kit_ty (by decide +kernel), kit_ty (by decide +kernel), rfl⟩
    · exact ⟨_, false, false, ty, kit_ty (by decide +kernel), kit_ty (by decide +kernel), rfl⟩
theorem kit2 {K : PySem.W.Frag} {T : String} {b c : Bool} (h1 : PySem.W.kitOne K (.type T) (.type "list") = some b) (h2 : PySem.W.kitOne K (.type T) (.type "tuple") = some c) : PySem.W.kitAny K (.type T) [.type "list", .type "tuple"] = some (b || c) := by
  refine kitAny_cons h1 (fun e => ?_) (fun e => by rw [e]; rfl)
  subst e
  refine kitAny_cons h2 (fun e => ?_) (fun e => by rw [e]; rfl)
  subst e
  exact kitAny_nil
theorem val_kit {K : PySem.W.Frag} {H : Hp} {v : V} {ms : Option (List V)} (h : ValA K H v ms) : ∃ t : Value, TyX K H v t ∧ PySem.W.kitAny K t [.type "list", .type "tuple"] = some ms.isSome := by
  cases ms with
  | some xs =>
    obtain ⟨a, rfl, _, ⟨T, ty, hT⟩, _⟩ := h
    rcases hT with rfl | rfl
    · exact ⟨_, ty, kit2 (b := true) (c := false) (kit_ty (by decide +kernel)) (kit_ty (by decide +kernel))⟩
    · exact ⟨_, ty, kit2 (b := false) (c := true) (kit_ty (by decide +kernel)) (kit_ty (by decide +kernel))⟩
  | none =>
    obtain ⟨T, ty, hT⟩ := h
    rcases hT with rfl | rfl | rfl | rfl
    · exact ⟨_, ty, kit2 (b := false) (c := false) (kit_ty (by decide +kernel)) (kit_ty (by decide +kernel))⟩
    · exact ⟨_, ty, kit2 (b := false) (c := false) (kit_ty (by decide +kernel)) (kit_ty (by decide +kernel))⟩
    · exact ⟨_, ty, kit2 (b := false) (c := false) (kit_ty (by decide +kernel)) (kit_ty (by decide +kernel))⟩
    · exact ⟨_, ty, kit2 (b := false) (c := false) (kit_ty (by decide +kernel)) (kit_ty (by decide +kernel))⟩
/-- all of it are ints -/
def isIs : Option (List V) → Bool
  | none => false
  | some xs => xs.all isI
theorem ints_of : ∀ {xs : List V}, xs.all isI = true → ∃ ns : List Int, xs = ns.map V.int
  | [], _ => ⟨[], rfl⟩
  | x :: r, h => by
    rw [List.all_cons, Bool.and_eq_true] at h
    obtain ⟨ns, e⟩ := ints_of h.2
    cases x with
    | int i => exact ⟨i :: ns, by rw [e]; rfl⟩
    | _ => exact absurd h.1 Bool.false_ne_true
theorem isIs_int (ns : List Int) : isIs (some (ns.map V.int)) = true := by
  unfold isIs
  rw [List.all_eq_true]
  intro x hx
  obtain ⟨n, _, rfl⟩ := List.mem_map.mp hx
  rfl
/-- the error InvalidQuestion(at) -/
def BadA (C : Addr) (at_ : Int) (H : Hp) (E : XK) : Prop := ∀ (H' : Hp) (d : Addr), Same H H' → H' d = none → E (.ref C) (some d) (L2.upd H' d (.xd [(("at" : Str), .int at_)]))
section
variable {X : Cx} {k j : Nat} {x : Str} {ps : List Str} {sp : Sp} {p pos : Pos} {e : Expr} {es : List Expr} {t : TA}
/-- a call of a def that may raise, from one that may -/
theorem pe_calX {W : WX} {E : XK} (C : Cal X.prog X.w X.K X.mg X.base (L2.CX X.prog X.w) k x ps sp) (hr : Room j X.A) (hj : k ≤ j) (tk : Takes X W) (hW : ∀ cls d σ H, E cls d H → W cls d σ H) (ha : PA X (e :: es) t)
    (hg : Gl X x := by rfl) (hdb : (x == ("__debug__" : Str)) = false := by decide)
    (he : starEach (e :: es) X.env = (false, eval e X.env) :: starEach es X.env := by rfl)
    (hpl : (backTo pos (starEach es X.env)).any (·.1) = false := by rfl) :
    PE X (.Call (.Name x p) (e :: es) [] pos) (tCall sp [] E t) := by
  obtain ⟨f, fd, F, h1, h2, h3⟩ := C
  exact pe_call F (hr.mono hj) hg h1 h2 h3 .nil (passes_call tk hW) ha hdb he hpl
end
section
variable {P : Program} {w : World} {K : PySem.W.Frag} {mg : Str → Option Value} {base : Heap} {C fI : Addr}
def spIsI (K : PySem.W.Frag) : Sp := fun vs H Q _ => ∃ v : V, vs = [v] ∧ Itm K H v ∧ Q (.bl (isI v)) H
theorem sc5 : FnScope ["value"] ["value"] (defScope (top 5)) := ⟨rfl, rfl, rfl, by decide +kernel, rfl, by decide +kernel, by decide +kernel⟩
theorem ok_isI {f : Addr} {fd : FuncData} (B : Bl mg) (F : Fun K "is_integer" "is_integer" (top 5) f fd) : FnOk P w K mg base CX0 1 f fd ["value"] (spIsI K) := by
  refine F.ok sc5 (fun vs H Q E h => ?_) (fun cdv A outer s H vs Q E hr h => ⟨_,
    pss_one (ps_ret (pe_and (pe_callB call_isi (by rfl) B.isi (by decide +kernel) (pa_cons (pv 0) (pa_cons (pe_bltn (v := .ty "int") (by rfl) B.int PyProof.Rows.boot_int rfl) pa_nil)))
      (pe_one (pe_not (pe_callB call_isi (by rfl) B.isi (by decide +kernel) (pa_cons (pv 0) (pa_cons (pe_bltn (v := .ty "bool") (by rfl) B.bool (by decide +kernel) rfl) pa_nil))))))), ?_⟩)
  · obtain ⟨v, rfl, _⟩ := h
    rfl
  obtain ⟨v, rfl, hv, q⟩ := h
  obtain ⟨t, b, c, ty, h1, h2, e⟩ := itm_kit (K := K) (H := H) hv
  rw [← e] at q
  refine ⟨_, rfl, v, _, t, _, b, rfl, .ty _, ty, h1, b, rfl, ?_⟩
  cases b with
  | false => exact q
  | true => exact ⟨_, rfl, v, _, t, _, c, rfl, .ty _, ty, h2, c, rfl, q⟩
def spIsSeq (K : PySem.W.Frag) : Sp := fun vs H Q _ => ∃ (v : V) (ms : Option (List V)), vs = [v] ∧ ValA K H v ms ∧ ∀ H', Same H H' → Q (.bl ms.isSome) H'
theorem sc7 : FnScope ["value"] ["value"] (defScope (top 7)) := ⟨rfl, rfl, rfl, by decide +kernel, rfl, by decide +kernel, by decide +kernel⟩
theorem ok_isSeq {f : Addr} {fd : FuncData} (B : Bl mg) (F : Fun K "is_sequence" "is_sequence" (top 7) f fd) : FnOk P w K mg base CX0 1 f fd ["value"] (spIsSeq K) := by
  refine F.ok sc7 (fun vs H Q E h => ?_) (fun cdv A outer s H vs Q E hr h => ⟨_,
    pss_one (ps_ret (pe_callB call_isiT (by rfl) B.isi (by decide +kernel) (pa_cons (pv 0) (pa_cons (pe_tup (pa_cons (pe_bltn (v := .ty "list") (by rfl) B.list (by decide +kernel) rfl) (pa_cons (pe_bltn (v := .ty "tuple") (by rfl) B.tuple (by decide +kernel) rfl) pa_nil))) pa_nil)))), ?_⟩)
  · obtain ⟨v, ms, rfl, _⟩ := h
    rfl
  obtain ⟨v, ms, rfl, hv, q⟩ := h
  refine ⟨_, rfl, (by show 2 ≤ sizeLine; decide), fun p hp => ?_⟩
  have s := Same.new (o := .tup [V.ty "list", V.ty "tuple"]) hp
  obtain ⟨t, ty, hk⟩ := val_kit (hv.same s)
  exact ⟨v, p, _, t, _, _, rfl, upd_same, .cons (.ty _) (.cons (.ty _) .nil), ty, hk, q _ s⟩
def spChk (K : PySem.W.Frag) (C : Addr) : Sp := fun vs H Q E => ∃ (v : V) (at_ : Int) (ms : Option (List V)), vs = [v, .int at_] ∧ ValA K H v ms ∧ (isIs ms = true → ∀ H', Same H H' → Q .non H') ∧ (isIs ms = false → BadA C at_ H E)
theorem sc9 : FnScope ["value", "at", "entry"] ["value", "at"] (defScope (top 9)) := ⟨rfl, rfl, rfl, by decide +kernel, rfl, by decide +kernel, by decide +kernel⟩
theorem ok_chk {f : Addr} {fd : FuncData} (B : Bl mg) (T : PySem.LowX.LowTxt K mg "InvalidQuestion" "InvalidQuestion.__init__" C fI) (CI : Cal P w K mg base CX0 1 "is_integer" ["value"] (spIsI K)) (CS : Cal P w K mg base CX0 1 "is_sequence" ["value"] (spIsSeq K))
    (F : Fun K "check_integers" "check_integers" (top 9) f fd) : FnOk P w K mg base (L2.CX P w) 2 f fd ["value", "at"] (spChk K C) := by
  refine F.okX sc9 (fun vs H Q E h => ?_) (fun cdv A outer s H vs Q E hr h => ⟨_,
    pss_one (ps_if (PW.pt (pw_or (pt_not (pt_val (by exact (pe_cal CS hr (by decide) (pa_cons (pv 0) pa_nil)))))
      (pw_or1 (pt_not (pt_val (pe_callB (cr_all rfl) (by rfl) B.all (by decide +kernel) (pa_cons
        (pe_lc (own := [("entry", 2)]) (g := gName 2) (tt := tYes) rfl sc9.nd (pi_sq (pv 0)) (blkOk_by (N := ["value", "at", "entry"]) (sc := defScope (top 9)) (by decide +kernel)) (fun _ _ _ _ _ => pg_name (i := 2) sc9.nd rfl (Or.inl rfl)) (fun _ _ _ _ _ => pts_nil)
          (fun _ _ _ _ _ => pe_cal CI hr (by decide) (pa_cons (pv 2) pa_nil))) pa_nil)))))))
      (pss_one (ps_raiseLow rfl T hr (takes_of rfl rfl rfl rfl) (by exact (pa_cons (pv 1) pa_nil)))) pss_nil), ?_⟩)
  · obtain ⟨v, a, ms, rfl, _⟩ := h
    rfl
  obtain ⟨v, at_, ms, rfl, hv, h1, h2⟩ := h
  refine ⟨_, rfl, v, ms, rfl, hv, fun H' s => ⟨_, rfl, ?_⟩⟩
  cases ms with
  | none => exact iteT (iteT ⟨_, rfl, _, rfl, fun d hd => h2 rfl H' d s hd⟩)
  | some xs =>
    obtain ⟨a, rfl, hS, _, hI, hl⟩ := hv.same s
    refine iteF ⟨_, rfl, a, rfl, lc_sq hS (fun D i H2 => Same H' H2 ∧ H2 D = some (.lst ((xs.take i).map fun x => V.bl (isI x)))) (fun D hD => ⟨Same.new hD, upd_same⟩) (fun D i H2 p => Ke.of p.1) ?_ ?_⟩
    · rintro D i x H2 hD hx ⟨p1, p2⟩
      refine ⟨rfl, _, rfl, x, rfl, (hI x (List.mem_of_getElem? hx)).same p1, _, p2, len_lt (by rw [List.length_map, List.length_take]; omega), Same.upd p1 hD, ?_⟩
      rw [upd_same, List.take_succ, hx, List.map_append]
      rfl
    · rintro D H2 hD ⟨p1, p2⟩
      rw [List.take_length] at p2
      refine ⟨D, xs.map isI, rfl, SqL.of (by rw [p2, List.map_map]; rfl), _, rfl, ?_⟩
      have ea : (xs.map isI).all id = xs.all isI := by
        rw [List.all_map]
        rfl
      rw [ea]
      cases e4 : xs.all isI with
      | false => exact iteT ⟨_, rfl, _, rfl, fun d hd => h2 e4 H2 d (s.trans p1) hd⟩
      | true => exact iteF (h1 e4 H2 (s.trans p1))
end
end KV

/-! the law's draws -/
namespace KV
open PySem PySem.Spec PyProof.Rows L2 KM
theorem canLay_ints : ∀ ns : List Int, PyData.canLayAll0 (ns.map PyData.int) = true
  | [] => rfl
  | n :: r => by simp only [List.map_cons, PyData.canLayAll0, PyData.canLay0, canLay_ints r, Bool.and_self]
theorem shaped_ints (ns : List Int) : SeqAt.shaped (.list (ns.map PyData.int)) = true := by
  unfold SeqAt.shaped
  simp only [PyData.canLay0, canLay_ints, PyData.depth, depth_ints]
  decide
theorem eqv_ints : ∀ ns ms : List Int, PyData.eqvAll (ns.map PyData.int) (ms.map PyData.int) = decide (ns = ms)
  | [], [] => rfl
  | [], _ :: _ => rfl
  | _ :: _, [] => rfl
  | n :: r, m :: s => by
    show (PyData.eqv (.int n) (.int m) && PyData.eqvAll (r.map PyData.int) (s.map PyData.int)) = _
    rw [eqv_ints r s]
    have e : PyData.eqv (.int n) (.int m) = decide (n = m) := by
      show (n == m) = _
      by_cases z : n = m <;> simp [z]
    rw [e]
    by_cases z : n = m <;> by_cases y : r = s <;> simp [z, y]
theorem dpL {K : PySem.W.Frag} {H : Hp} {a : Addr} {ns : List Int} (h : SqL K H a (ns.map V.int)) : Dp K H (.ref a) (.list (ns.map PyData.int)) := .lst h (dp_ints ns)
/-- xs != ys, xs == ys of lists of ints: the answer -/
theorem neL {K : PySem.W.Frag} {H : Hp} {a b : Addr} {ns ms : List Int} {Q : VK} (h1 : SqL K H a (ns.map V.int)) (h2 : SqL K H b (ms.map V.int)) (q : Q (.bl (!decide (ns = ms))) H) : rNeD K (.ref a) (.ref b) H Q :=
  ⟨_, _, dpL h1, dpL h2, shaped_ints ns, shaped_ints ms, by
    have e : PyData.eqv (.list (ns.map PyData.int)) (.list (ms.map PyData.int)) = decide (ns = ms) := eqv_ints ns ms
    rw [e]
    exact q⟩
theorem eqL {K : PySem.W.Frag} {H : Hp} {a b : Addr} {ns ms : List Int} {Q : VK} (h1 : SqL K H a (ns.map V.int)) (h2 : SqL K H b (ms.map V.int)) (q : Q (.bl (decide (ns = ms))) H) : rEqD K (.ref a) (.ref b) H Q :=
  ⟨_, _, dpL h1, dpL h2, shaped_ints ns, shaped_ints ms, by
    have e : PyData.eqv (.list (ns.map PyData.int)) (.list (ms.map PyData.int)) = decide (ns = ms) := eqv_ints ns ms
    rw [e]
    exact q⟩
/-- the source of draws at d, its cells at c -/
def Dl (H : Hp) (d c : Addr) : Prop := d ≠ c ∧ ∃ (cs : List Int) (b : Int), H d = some (.lst [.ref c, .int b]) ∧ H c = some (.lst (cs.map V.int)) ∧ (∀ x ∈ cs, 0 ≤ x) ∧ cs.length ≤ 64 ∧ 0 ≤ b ∧ b < 2147483648
/-- all else stands -/
def Kp (d c : Addr) (H H' : Hp) : Prop := ∀ b o, b ≠ d → b ≠ c → H b = some o → H' b = some o
theorem Kp.refl {d c : Addr} {H : Hp} : Kp d c H H := fun _ _ _ _ h => h
theorem Kp.trans {d c : Addr} {H H1 H2 : Hp} (a : Kp d c H H1) (b : Kp d c H1 H2) : Kp d c H H2 := fun x o h1 h2 h => b x o h1 h2 (a x o h1 h2 h)
theorem Kp.of {d c : Addr} {H H' : Hp} (s : Same H H') : Kp d c H H' := fun b o _ _ h => s b o h
theorem Kp.upd_d {d c : Addr} {H H' : Hp} {o : HO} (k : Kp d c H H') : Kp d c H (upd H' d o) := fun b u h1 h2 h => by
  rw [upd_ne h1]
  exact k b u h1 h2 h
theorem Kp.upd_c {d c : Addr} {H H' : Hp} {o : HO} (k : Kp d c H H') : Kp d c H (upd H' c o) := fun b u h1 h2 h => by
  rw [upd_ne h2]
  exact k b u h1 h2 h
theorem Kp.new {d c p : Addr} {H H' : Hp} {o : HO} (k : Kp d c H H') (hp : H' p = none) : Kp d c H (upd H' p o) := k.trans (Kp.of (Same.new hp))
theorem Kp.free {d c p : Addr} {H H' : Hp} (k : Kp d c H H') (hd : p ≠ d) (hc : p ≠ c) (hp : H' p = none) : H p = none := by
  cases e : H p with
  | none => rfl
  | some o =>
    rw [k p o hd hc e] at hp
    cases hp
theorem Dl.same {H H' : Hp} {d c : Addr} (h : Dl H d c) (s : Same H H') : Dl H' d c := by
  obtain ⟨n, cs, b, h1, h2, r⟩ := h
  exact ⟨n, cs, b, s _ _ h1, s _ _ h2, r⟩
theorem Dl.ne {H : Hp} {d c p : Addr} (h : Dl H d c) (hp : H p = none) : p ≠ d ∧ p ≠ c := by
  obtain ⟨_, cs, b, h1, h2, _⟩ := h
  exact ⟨fun e => (by rw [e, h1] at hp; cases hp), fun e => (by rw [e, h2] at hp; cases hp)⟩
theorem Dl.neT {H : Hp} {d c p : Addr} {xs : List V} (h : Dl H d c) (hp : H p = some (.tup xs)) : p ≠ d ∧ p ≠ c := by
  obtain ⟨_, cs, b, h1, h2, _⟩ := h
  exact ⟨fun e => (by rw [e, h1] at hp; cases hp), fun e => (by rw [e, h2] at hp; cases hp)⟩
section
variable {P : Program} {w : World} {K : PySem.W.Frag} {mg : Str → Option Value} {base : Heap}
def spDraw (K : PySem.W.Frag) : Sp := fun vs H Q _ => ∃ (a : Addr) (ns : List Int) (sa : Int), vs = [.ref a, .int sa] ∧ SqL K H a (ns.map V.int) ∧ 0 ≤ sa ∧ sa < 1000 ∧ ∀ H' d c, Same H H' → H d = none → H c = none → Dl H' d c → Q (.ref d) H'
theorem sc22 : FnScope ["_law_script", "_law_salt", "_law_cell", "_law_cells", "_law_blend"] ["_law_script", "_law_salt"] (defScope (top 22)) := ⟨rfl, rfl, rfl, by decide +kernel, rfl, by decide +kernel, by decide +kernel⟩
theorem ok_draw {f : Addr} {fd : FuncData} (B : Bl mg) (F : Fun K "_law_draw" "_law_draw" (top 22) f fd) : FnOk P w K mg base CX0 1 f fd ["_law_script", "_law_salt"] (spDraw K) := by
  refine F.ok sc22 (fun vs H Q E h => ?_) (fun cdv A outer s H vs Q E hr h => ⟨_,
    pss_cons (ps_setLc (i := 3) (own := [("_law_cell", 2)]) (g := gName 2) (tt := tYes) rfl sc22.nd rfl rfl (sw_true rfl rfl rfl (by decide +kernel)) (pi_list (pe_slice sl_list (pv 0) po_none (po_some pe_int)))
      (blkOk_by (N := ["_law_script", "_law_salt", "_law_cell", "_law_cells", "_law_blend"]) (sc := defScope (top 22)) (by decide +kernel)) (fun _ _ _ _ _ => pg_name (i := 2) sc22.nd rfl (Or.inl rfl)) (fun _ _ _ _ _ => pts_nil)
      (fun _ _ _ _ _ => pe_callB call_abs (by rfl) B.abs (by decide +kernel) (pa_cons (pe_callTy call_int1 (by rfl) B.int PyProof.Rows.boot_int (pa_cons (pv 2) pa_nil)) pa_nil)))
    (pss_cons (ps_set (i := 4) sc22.nd rfl (.inl rfl) (pe_op op_add pe_int (pe_op op_mul pe_int (pv 1))))
    (pss_cons (ps_for PassesOwn.never rfl (pi_list (pv 3)) (pg_name (i := 2) sc22.nd rfl (.inl rfl))
      (pss_one (ps_set (i := 4) sc22.nd rfl (.inl rfl) (pe_op op_mod (pe_callTy call_int1 (by rfl) B.int PyProof.Rows.boot_int (pa_cons (pe_op op_add (pe_op op_add (pe_op op_mul (pv 4) pe_int) (pe_op op_mod (pv 2) pe_int)) pe_int) pa_nil)) pe_int))))
    (pss_one (ps_ret (pe_lst (pa_cons (pe_revL
      (pe_lc (own := [("_law_cell", 2)]) (g := gName 2) rfl sc22.nd (pi_list (pv 3)) (blkOk_by (N := ["_law_script", "_law_salt", "_law_cell", "_law_cells", "_law_blend"]) (sc := defScope (top 22)) (by decide +kernel))
        (fun _ _ _ _ _ => pg_name (i := 2) sc22.nd rfl (Or.inl rfl)) (fun _ _ _ _ _ => pts_one (pt_cmpR op_ge (pv 2) (pe_op op_pow pe_int pe_int) (nomark _))) (fun _ _ _ _ _ => pv 2))) (pa_cons (pv 4) pa_nil))))))), ?_⟩)
  · obtain ⟨a, ns, sa, rfl, _⟩ := h
    rfl
  obtain ⟨a, ns, sa, rfl, hS, s0, s1, q⟩ := h
  refine ⟨_, rfl, _, rfl, a, _, rfl, hS, fun p hp => ?_⟩
  have ecut : cutV (ns.map V.int) none (some 48) = (ns.take 48).map V.int := by
    unfold cutV
    have e1 : HT.sIx (ns.map V.int).length 0 none = 0 := rfl
    have e2 : HT.sIx (ns.map V.int).length (ns.map V.int).length (some 48) = min 48 (ns.map V.int).length := HT.sIx_nat _ _ 48
    rw [e1, e2, List.drop_zero, Nat.sub_zero, List.length_map, List.map_take]
    rw [← List.length_map (f := V.int) (as := ns)]
    exact List.take_eq_take_min.symm
  have sp : Same H (upd H p (.lst (cutV (ns.map V.int) none (some 48)))) := Same.new hp
  have hpS : SqL K (upd H p (.lst (cutV (ns.map V.int) none (some 48)))) p ((ns.take 48).map V.int) := SqL.of (by rw [upd_same, ecut])
  generalize upd H p (.lst (cutV (ns.map V.int) none (some 48))) = H1 at sp hpS
  have l48 : (ns.take 48).length ≤ 48 := by rw [List.length_take]; omega
  generalize ns.take 48 = ms at hpS l48
  refine ⟨p, rfl, ⟨_, hpS⟩, fun D hD => lc_list (xs := ms.map V.int) (fun i H' => Same H1 H' ∧ ∃ cs : List Int, cs.length = i ∧ (∀ x ∈ cs, 0 ≤ x) ∧ H' D = some (.lst (cs.map V.int))) ⟨Same.new hD, [], rfl, fun _ z => by simp at z, upd_same⟩
    (fun i H' _ z => z.1.seq hpS) ?_ ?_⟩
  · rintro i x H' hx ⟨p1, cs, cl, c0, p2⟩
    obtain ⟨m, hm, rfl⟩ := map_at hx
    have hi := (List.getElem?_eq_some_iff.mp hm).1
    refine ⟨rfl, _, rfl, .inl ⟨m, rfl, m, rfl, cs.map V.int, p2, len_lt (by rw [List.length_map]; omega), Same.upd p1 hD, cs ++ [if m < 0 then -m else m], by simp [cl], fun y hy => ?_, ?_⟩⟩
    · rcases List.mem_append.mp hy with hy | hy
      · exact c0 y hy
      · have : y = if m < 0 then -m else m := by simpa using hy
        rw [this]
        split <;> omega
    · rw [upd_same, List.map_append]
      rfl
  · rintro H' ⟨p1, cs, cl, c0, p2⟩
    rw [List.length_map] at cl
    refine ⟨_, rfl, _, _, rfl, rfl, .inl ⟨by decide, by omega⟩, _, _, rfl, rfl, ?_⟩
    refine ⟨_, rfl, D, rfl, ⟨_, SqL.of p2⟩, for_list (xs := cs.map V.int) (fun i σ H2 => (∃ (u : Option V) (b : Int), 0 ≤ b ∧ b < 2147483648 ∧ σ = [some (.ref a), some (.int sa), u, some (.ref D), some (.int b)]) ∧ H2 = H')
      ⟨⟨none, _, ?_, ?_, rfl⟩, rfl⟩ ?_ ?_ ?_⟩
    · show 0 ≤ 7919 + 104729 * sa
      omega
    · show 7919 + 104729 * sa < 2147483648
      omega
    · rintro i σ H2 _ ⟨_, rfl⟩
      exact SqL.of p2
    · rintro i x σ H2 hx ⟨⟨u, b, b0, b1, rfl⟩, rfl⟩
      obtain ⟨m, hm, rfl⟩ := map_at hx
      refine ⟨_, rfl, _, _, rfl, rfl, .inl ⟨by omega, by omega⟩, _, rfl, _, _, rfl, rfl, (by show (0 : Int) < 2147483549; decide), _, _, rfl, rfl, _, _, rfl, rfl, .inl ⟨_, rfl, _, _, rfl, rfl, (by show (0 : Int) < 2147483647; decide), ⟨some (.int m), _, ?_, ?_, rfl⟩, rfl⟩⟩
      · exact Int.emod_nonneg _ (by decide)
      · have := Int.emod_lt_of_pos (b * 48271 + m % 2147483549 + 11) (show (0 : Int) < 2147483647 by decide)
        omega
    · rintro σ H2 ⟨⟨u, b, b0, b1, rfl⟩, rfl⟩
      refine ⟨_, rfl, D, rfl, ⟨_, SqL.of p2⟩, fun D2 hD2 => lc_list (xs := cs.map V.int) (fun i H3 => Same H2 H3 ∧ ∃ es : List Int, es.length ≤ i ∧ (∀ x ∈ es, 0 ≤ x) ∧ H3 D2 = some (.lst (es.map V.int))) ⟨Same.new hD2, [], Nat.le_refl _, fun _ z => by simp at z, upd_same⟩
        (fun i H3 _ z => z.1.seq (SqL.of p2)) ?_ ?_⟩
      · rintro i x H3 hx ⟨q1, es, el, e0, q2⟩
        obtain ⟨m, hm, rfl⟩ := map_at hx
        have hi := (List.getElem?_eq_some_iff.mp hm).1
        refine ⟨rfl, _, rfl, _, _, rfl, rfl, ⟨by decide, by decide, by decide⟩, _, _, rfl, rfl, _, rfl, ?_⟩
        cases decide ((10 : Int) ^ (18 : Int).toNat ≤ m) with
        | true =>
          refine iteT ⟨_, rfl, es.map V.int, q2, len_lt (by rw [List.length_map]; omega), Same.upd q1 hD2, es ++ [m], by simp; omega, fun y hy => ?_, ?_⟩
          · rcases List.mem_append.mp hy with hy | hy
            · exact e0 y hy
            · have : y = m := by simpa using hy
              rw [this]
              exact c0 m (List.mem_of_getElem? hm)
          · rw [upd_same, List.map_append]
            rfl
        | false => exact iteF ⟨q1, es, by omega, e0, q2⟩
      · rintro H3 ⟨q1, es, el, e0, q2⟩
        rw [List.length_map] at el
        refine ⟨D2, _, rfl, SqL.of q2, fun c hc => ⟨_, rfl, (by show 2 ≤ sizeLine; decide), fun d hd => ?_⟩⟩
        have t1 : Same H H3 := (sp.trans p1).trans q1
        have t2 : Same H (upd H3 c (.lst (es.map V.int).reverse)) := Same.upd t1 (t1.free hc)
        have dc : d ≠ c := fun e => by
          rw [e, upd_same] at hd
          cases hd
        refine q _ d c (Same.upd t2 (t2.free hd)) (t2.free hd) (t1.free hc) ⟨dc, es.reverse, b, upd_same, ?_, fun x hx => e0 x (by simpa using hx), by rw [List.length_reverse]; omega, b0, b1⟩
        rw [upd_ne (Ne.symm dc), upd_same, List.map_reverse]
end
end KV

/-! any, of, divisor -/
namespace KV
open PySem PySem.Spec PyProof.Rows L2 KM
section
variable {P : Program} {w : World} {K : PySem.W.Frag} {mg : Str → Option Value} {base : Heap}
def spAny : Sp := fun vs H Q _ => ∃ (d c : Addr) (m : Int), vs = [.ref d, .int m] ∧ Dl H d c ∧ 0 < m ∧ sm 200 m ∧ ∀ r H', 0 ≤ r → r < m → Dl H' d c → Kp d c H H' → Q (.int r) H'
theorem sc23 : FnScope ["_law_deal", "_law_bound", "_law_rest"] ["_law_deal", "_law_bound"] (defScope (top 23)) := ⟨rfl, rfl, rfl, by decide +kernel, rfl, by decide +kernel, by decide +kernel⟩
theorem at0 {x y : V} : atI [x, y] 0 = some x := rfl
theorem at1 {x y : V} : atI [x, y] 1 = some y := rfl
theorem at_last {es : List Int} {e : Int} : atI ((es ++ [e]).map V.int) (-1) = some (.int e) := by
  have hl : ((es ++ [e]).map V.int).length = es.length + 1 := by simp
  unfold atI L2.ixN
  rw [hl, if_neg (by decide), if_pos (by omega)]
  have e1 : (-1 + ((es.length + 1 : Nat) : Int)).toNat = es.length := by omega
  show ((es ++ [e]).map V.int)[(-1 + ((es.length + 1 : Nat) : Int)).toNat]? = _
  rw [e1, List.map_append, List.getElem?_append_right (by simp)]
  simp
theorem last_at {es : List Int} {e : Int} : ((es ++ [e]).map V.int)[((es ++ [e]).map V.int).length - 1]? = some (V.int e) := by
  rw [List.map_append, List.getElem?_append_right (by simp)]
  simp
theorem last_drop {es : List Int} {e : Int} : ((es ++ [e]).map V.int).dropLast = es.map V.int := by
  rw [List.map_append]
  exact List.dropLast_concat
def AnyW (d c : Addr) (m b : Int) (H : Hp) (k : Nat) (σ : L2.St) (H' : Hp) : Prop := σ = [some (.ref d), some (.int m), none] ∧ Kp d c H H' ∧ ∃ es : List Int, k = es.length ∧ (∀ x ∈ es, 0 ≤ x) ∧ es.length ≤ 64 ∧ H' d = some (.lst [.ref c, .int b]) ∧ H' c = some (.lst (es.map V.int))
theorem ok_any {f : Addr} {fd : FuncData} (B : Bl mg) (F : Fun K "_law_any" "_law_any" (top 23) f fd) : FnOk P w K mg base CX0 1 f fd ["_law_deal", "_law_bound"] spAny := by
  refine F.ok sc23 (fun vs H Q E h => ?_) (fun cdv A outer s H vs Q E hr h => ⟨_,
    pss_cons (ps_while PassesOwn.never (PW.pt (pw_and (pt_cmpR (op_neD hr.units) (pe_ix ix_list (pv 0) pe_int (fun _ _ => rfl)) (pe_lst pa_nil) (nomark _))
        (pw_and1 (pt_cmpR op_eq (pe_ix ix_list (pe_ix ix_list (pv 0) pe_int (fun _ _ => rfl)) (pe_un un_neg pe_int) (fun _ _ => rfl)) pe_int (nomark _)))))
      (pss_one (ps_expr (pe_bm0 PySem.F.plainAttrs_list PySem.F.slot_list_pop PySem.F.type_list_pop mt_pop (pe_ix ix_list (pv 0) pe_int (fun _ _ => rfl))))))
    (pss_cons (ps_if (pt_cmpR (op_neD hr.units) (pe_ix ix_list (pv 0) pe_int (fun _ _ => rfl)) (pe_lst pa_nil) (nomark _))
      (pss_cons (ps_set (i := 2) sc23.nd rfl (.inl rfl) (pe_callTy call_int1 (by rfl) B.int PyProof.Rows.boot_int (pa_cons (pe_bm0 PySem.F.plainAttrs_list PySem.F.slot_list_pop PySem.F.type_list_pop mt_pop (pe_ix ix_list (pv 0) pe_int (fun _ _ => rfl))) pa_nil)))
      (pss_cons (ps_expr (pe_bm PySem.F.plainAttrs_list PySem.F.slot_list_append PySem.F.type_list_append mt_append (pe_ix ix_list (pv 0) pe_int (fun _ _ => rfl)) (pa_cons (pe_op op_fdivW (pv 2) (pv 1)) pa_nil)))
      (pss_one (ps_ret (pe_op op_mod (pv 2) (pv 1)))))) pss_nil)
    (pss_cons (ps_asg (pe_op op_mod (pe_callTy call_int1 (by rfl) B.int PyProof.Rows.boot_int (pa_cons (pe_op op_add (pe_op op_mul (pe_ix ix_list (pv 0) pe_int (fun _ _ => rfl)) pe_int) pe_int) pa_nil)) pe_int) (pg_sub (pv 0) pe_int set_list))
    (pss_one (ps_ret (pe_op op_mod (pe_callTy call_int1 (by rfl) B.int PyProof.Rows.boot_int (pa_cons (pe_op op_fdiv (pe_ix ix_list (pv 0) pe_int (fun _ _ => rfl)) pe_int) pa_nil)) (pv 1)))))), ?_⟩)
  · obtain ⟨d, c, m, rfl, _⟩ := h
    rfl
  obtain ⟨d, c, m, rfl, hD, m0, ms, q⟩ := h
  obtain ⟨dc, cs, b, h1, h2, c0, cl, b0, b1⟩ := hD
  refine sq_cut (fun σ H' => σ = [some (.ref d), some (.int m), none] ∧ Kp d c H H' ∧ ∃ es : List Int, (∀ x ∈ es, 0 ≤ x) ∧ es.length ≤ 64 ∧ H' d = some (.lst [.ref c, .int b]) ∧ H' c = some (.lst (es.map V.int))) (fun Z hZ => ?_) ?_
  · refine ⟨AnyW d c m b H,
      ⟨_, rfl, Kp.refl, cs, rfl, c0, cl, h1, h2⟩, ?_⟩
    rintro k σ H' ⟨rfl, hk, es, rfl, e0, el, g1, g2⟩
    refine ⟨_, rfl, d, _, _, _, rfl, rfl, SqL.of g1, at0, (by show 0 ≤ sizeLine; decide), fun p hp => ?_⟩
    have hpc : p ≠ c := fun e => by rw [e, g2] at hp; cases hp
    have hpd : p ≠ d := fun e => by rw [e, g1] at hp; cases hp
    have u1 : upd H' p (.lst []) d = some (.lst [.ref c, .int b]) := by rw [upd_ne (Ne.symm hpd)]; exact g1
    have u2 : upd H' p (.lst []) c = some (.lst (es.map V.int)) := by rw [upd_ne (Ne.symm hpc)]; exact g2
    have uk : Kp d c H (upd H' p (.lst [])) := hk.new hp
    have u3 : upd H' p (.lst []) p = some (.lst []) := upd_same
    generalize upd H' p (.lst []) = H1 at u1 u2 u3 uk
    refine neL (ns := es) (ms := []) (SqL.of u2) (SqL.of u3) ⟨_, rfl, ?_⟩
    rcases List.eq_nil_or_concat es with rfl | ⟨es', e, ee⟩
    · exact iteN (by simp) (iteF (hZ _ _ ⟨rfl, uk, [], fun _ z => by simp at z, by simp, u1, u2⟩))
    · rw [List.concat_eq_append] at ee
      subst ee
      refine iteP (by simp) ⟨_, rfl, d, _, _, _, rfl, rfl, SqL.of u1, at0, ?_⟩
      refine ⟨_, rfl, c, _, _, _, rfl, rfl, SqL.of u2, at_last, rfl, _, rfl, ?_⟩
      by_cases e1 : e = 0
      · refine iteP (by simp [e1]) ⟨fun σ H' => ∃ m', m' < (es' ++ [e]).length ∧ AnyW d c m b H m' σ H', fun _ _ z => z, _, rfl, d, _, _, _, rfl, rfl, SqL.of u1, at0, .inl ⟨rfl, _, SqL.of u2⟩, c, _, _, rfl, rfl, u2, last_at, ?_⟩
        rw [last_drop]
        refine ⟨es'.length, by simp, rfl, uk.upd_c, es', rfl, fun x hx => e0 x (by simp [hx]), by simp at el; omega, ?_, upd_same⟩
        rw [upd_ne dc]
        exact u1
      · exact iteN (by simp [e1]) (hZ _ _ ⟨rfl, uk, _, e0, el, u1, u2⟩)
  · rintro σ H' ⟨rfl, hk, es, e0, el, g1, g2⟩
    refine ⟨_, rfl, d, _, _, _, rfl, rfl, SqL.of g1, at0, (by show 0 ≤ sizeLine; decide), fun p hp => ?_⟩
    have hpc : p ≠ c := fun e => by rw [e, g2] at hp; cases hp
    have hpd : p ≠ d := fun e => by rw [e, g1] at hp; cases hp
    have u1 : upd H' p (.lst []) d = some (.lst [.ref c, .int b]) := by rw [upd_ne (Ne.symm hpd)]; exact g1
    have u2 : upd H' p (.lst []) c = some (.lst (es.map V.int)) := by rw [upd_ne (Ne.symm hpc)]; exact g2
    have uk : Kp d c H (upd H' p (.lst [])) := hk.new hp
    have u3 : upd H' p (.lst []) p = some (.lst []) := upd_same
    generalize upd H' p (.lst []) = H1 at u1 u2 u3 uk
    refine neL (ns := es) (ms := []) (SqL.of u2) (SqL.of u3) ⟨_, rfl, ?_⟩
    rcases List.eq_nil_or_concat es with rfl | ⟨es', e, ee⟩
    · refine iteN (by simp) ⟨_, rfl, d, _, _, _, rfl, rfl, SqL.of u1, at1, _, _, rfl, rfl, .inl ⟨by omega, by omega⟩, _, _, rfl, rfl, .inl ⟨_, rfl, _, _, rfl, rfl, (by show (0 : Int) < 2147483647; decide), _, rfl, d, _, _, _, rfl, rfl, u1, rfl, ?_⟩⟩
      have f0 := Int.emod_nonneg (b * 40693 + 71) (show (2147483647 : Int) ≠ 0 by decide)
      have f1 := Int.emod_lt_of_pos (b * 40693 + 71) (show (0 : Int) < 2147483647 by decide)
      obtain ⟨b', eb⟩ : ∃ b', b' = (b * 40693 + 71) % 2147483647 := ⟨_, rfl⟩
      rw [← eb] at f0 f1
      have e8 : [V.ref c, V.int b].set (Int.toNat 1) ((fun i j : Int => V.int (i % j)) (b * 40693 + 71) 2147483647) = [V.ref c, V.int b'] := by
        show [V.ref c, V.int ((b * 40693 + 71) % 2147483647)] = _
        rw [← eb]
      rw [e8]
      have w1 : upd H1 d (.lst [.ref c, .int b']) d = some (.lst [.ref c, .int b']) := upd_same
      have w2 : upd H1 d (.lst [.ref c, .int b']) c = some (.lst (([] : List Int).map V.int)) := by
        rw [upd_ne (Ne.symm dc)]
        exact u2
      have wk : Kp d c H (upd H1 d (.lst [.ref c, .int b'])) := uk.upd_d
      refine ⟨_, rfl, d, _, _, _, rfl, rfl, SqL.of w1, at1, _, _, rfl, rfl, ⟨by decide, by decide⟩, .inl ⟨_, rfl, _, rfl, _, _, rfl, rfl, m0, ?_⟩⟩
      exact q _ _ (Int.emod_nonneg _ (by omega)) (Int.emod_lt_of_pos _ m0) ⟨dc, [], b', w1, w2, fun _ z => by simp at z, by simp, f0, by omega⟩ wk
    · rw [List.concat_eq_append] at ee
      subst ee
      refine iteP (by simp) ⟨_, rfl, d, _, _, _, rfl, rfl, SqL.of u1, at0, .inl ⟨rfl, _, SqL.of u2⟩, c, _, _, rfl, rfl, u2, last_at, ?_⟩
      rw [last_drop]
      have w2 : upd H1 c (.lst (es'.map V.int)) c = some (.lst (es'.map V.int)) := upd_same
      have w1 : upd H1 c (.lst (es'.map V.int)) d = some (.lst [.ref c, .int b]) := by
        rw [upd_ne dc]
        exact u1
      have wk : Kp d c H (upd H1 c (.lst (es'.map V.int))) := uk.upd_c
      generalize upd H1 c (.lst (es'.map V.int)) = H3 at w1 w2 wk
      have el' : es'.length + 1 ≤ 64 := by simpa using el
      refine .inl ⟨e, rfl, _, rfl, d, _, _, _, rfl, rfl, SqL.of w1, at0, .inl ⟨rfl, _, SqL.of w2⟩, _, rfl, _, rfl, _, _, rfl, rfl, divW m0 ms (by decide) (by decide), c, _, _, rfl, rfl, w2, len_lt (by simp; omega), ?_⟩
      have x2 : upd H3 c (.lst (es'.map V.int ++ [V.int (e / m)])) c = some (.lst ((es' ++ [e / m]).map V.int)) := by rw [upd_same, List.map_append]; rfl
      have x1 : upd H3 c (.lst (es'.map V.int ++ [V.int (e / m)])) d = some (.lst [.ref c, .int b]) := by
        rw [upd_ne dc]
        exact w1
      have xk : Kp d c H (upd H3 c (.lst (es'.map V.int ++ [V.int (e / m)]))) := wk.upd_c
      generalize upd H3 c (.lst (es'.map V.int ++ [V.int (e / m)])) = H4 at x1 x2 xk
      refine ⟨_, rfl, _, rfl, _, _, rfl, rfl, m0, ?_⟩
      have e1 := e0 e (by simp)
      exact q _ _ (Int.emod_nonneg _ (by omega)) (Int.emod_lt_of_pos _ m0) ⟨dc, es' ++ [e / m], b, x1, x2, fun x hx => by
        rcases List.mem_append.mp hx with hx | hx
        · exact e0 x (by simp [hx])
        · have : x = e / m := by simpa using hx
          rw [this]
          exact Int.ediv_nonneg e1 (by omega), by simp; omega, b0, b1⟩ xk
end
end KV

/-! of, divisor -/
namespace KV
open PySem PySem.Spec PyProof.Rows L2 KM
theorem Kp.seqL {K : PySem.W.Frag} {d c : Addr} {H H' : Hp} {a : Addr} {xs : List V} (k : Kp d c H H') (hd : a ≠ d) (hc : a ≠ c) (h : SqL K H a xs) : SqL K H' a xs := by
  rcases h with (h | ⟨o, h⟩) | h
  · exact .inl (.inl (k _ _ hd hc h))
  · exact .inl (.inr ⟨o, k _ _ hd hc h⟩)
  · exact .inr h
theorem Kp.seqT {K : PySem.W.Frag} {d c : Addr} {H H' : Hp} {a : Addr} {xs : List V} (k : Kp d c H H') (hd : a ≠ d) (hc : a ≠ c) (h : SqT K H a xs) : SqT K H' a xs := by
  rcases h with (h | ⟨o, h⟩) | h
  · exact .inl (.inl (k _ _ hd hc h))
  · exact .inl (.inr ⟨o, k _ _ hd hc h⟩)
  · exact .inr h
section
variable {P : Program} {w : World} {K : PySem.W.Frag} {mg : Str → Option Value} {base : Heap}
def spOf (K : PySem.W.Frag) : Sp := fun vs H Q _ => ∃ (d c a : Addr) (xs : List V), vs = [.ref d, .ref a] ∧ Dl H d c ∧ a ≠ d ∧ a ≠ c ∧ SqL K H a xs ∧ 0 < xs.length ∧ xs.length ≤ 1000 ∧ ∀ (j : Nat) x H', xs[j]? = some x → Dl H' d c → Kp d c H H' → Q x H'
theorem sc24 : FnScope ["_law_deal", "_law_some_here"] ["_law_deal", "_law_some_here"] (defScope (top 24)) := ⟨rfl, rfl, rfl, by decide +kernel, rfl, by decide +kernel, by decide +kernel⟩
theorem ok_of {f : Addr} {fd : FuncData} (B : Bl mg) (CA : Cal P w K mg base CX0 1 "_law_any" ["_law_deal", "_law_bound"] spAny) (F : Fun K "_law_of" "_law_of" (top 24) f fd) : FnOk P w K mg base CX0 2 f fd ["_law_deal", "_law_some_here"] (spOf K) := by
  refine F.ok sc24 (fun vs H Q E h => ?_) (fun cdv A outer s H vs Q E hr h => ⟨_,
    pss_one (ps_ret (pe_ix ix_list (pv 1) (pe_cal (X := L2.Cx.nox _) CA hr (by decide) (pa_cons (pv 0) (pa_cons (pe_callB call_len_seq (by rfl) B.len PySem.boot_len (pa_cons (pv 1) pa_nil)) pa_nil))) (fun _ _ => rfl))), ?_⟩)
  · obtain ⟨d, c, a, xs, rfl, _⟩ := h
    rfl
  obtain ⟨d, c, a, xs, rfl, hD, ad, ac, hS, l0, l1, q⟩ := h
  refine ⟨_, rfl, _, rfl, _, rfl, a, xs, rfl, .inl hS, d, c, _, rfl, hD, by omega, ?_, fun r H' r0 r1 hD' hk => ?_⟩
  · exact sm_of (by omega) (Int.lt_of_le_of_lt (show (xs.length : Int) ≤ 1000 by omega) (by decide))
  · have hj : r.toNat < xs.length := by omega
    have e1 : atI xs r = some xs[r.toNat] := by
      unfold atI L2.ixN
      rw [if_pos r0, if_pos r1]
      exact List.getElem?_eq_getElem hj
    exact ⟨a, xs, r, _, rfl, rfl, hk.seqL ad ac hS, e1, q r.toNat _ _ (List.getElem?_eq_getElem hj) hD' hk⟩
theorem gcd_step {a b : Int} (ha : 0 ≤ a) (hb : 0 ≤ b) : Int.gcd b (a % b) = Int.gcd b a := by
  obtain ⟨m, rfl⟩ := Int.eq_ofNat_of_zero_le ha
  obtain ⟨n, rfl⟩ := Int.eq_ofNat_of_zero_le hb
  show Nat.gcd n (m % n) = Nat.gcd n m
  rw [Nat.gcd_comm]
  exact (Nat.gcd_rec n m).symm
def spDiv : Sp := fun vs H Q _ => ∃ x y : Int, vs = [.int x, .int y] ∧ 0 ≤ x ∧ 0 ≤ y ∧ Q (.int (Int.gcd x y)) H
theorem sc26 : FnScope ["_law_one", "_law_other"] ["_law_one", "_law_other"] (defScope (top 26)) := ⟨rfl, rfl, rfl, by decide +kernel, rfl, by decide +kernel, by decide +kernel⟩
theorem ok_div {f : Addr} {fd : FuncData} (B : Bl mg) (F : Fun K "_law_divisor" "_law_divisor" (top 26) f fd) : FnOk P w K mg base CX0 1 f fd ["_law_one", "_law_other"] spDiv := by
  refine F.ok sc26 (fun vs H Q E h => ?_) (fun cdv A outer s H vs Q E hr h => ⟨_,
    pss_cons (ps_while PassesOwn.never (pt_cmpR op_ne (pv 1) pe_int (nomark _)) (pss_one (ps_par (i := 0) (j := 1) rfl sc26.nd rfl rfl (by decide) rfl rfl (pa_cons (pv 1) (pa_cons (pe_op op_mod (pe_callTy call_int1 (by rfl) B.int PyProof.Rows.boot_int (pa_cons (pv 0) pa_nil)) (pv 1)) pa_nil)) (by rfl))))
    (pss_one (ps_ret (pv 0))), ?_⟩)
  · obtain ⟨x, y, rfl, _⟩ := h
    rfl
  obtain ⟨x, y, rfl, x0, y0, q⟩ := h
  refine ⟨fun k σ H' => ∃ a b : Int, k = b.toNat ∧ 0 ≤ a ∧ 0 ≤ b ∧ Int.gcd a b = Int.gcd x y ∧ σ = [some (.int a), some (.int b)] ∧ H' = H, ⟨_, x, y, rfl, x0, y0, rfl, rfl, rfl⟩, ?_⟩
  rintro k σ H' ⟨a, b, rfl, a0, b0, g, rfl, rfl⟩
  refine ⟨_, rfl, rfl, _, rfl, ?_⟩
  by_cases e : b = 0
  · subst e
    refine iteN (by simp) ⟨_, rfl, ?_⟩
    rw [← g] at q
    have e1 : (Int.gcd a 0 : Int) = a := by
      rw [Int.gcd_zero_right]
      omega
    rw [e1] at q
    exact q
  · have b1 : 0 < b := by omega
    refine iteP (by simp [e]) ⟨fun σ' H2 => ∃ a b' : Int, b'.toNat < b.toNat ∧ 0 ≤ a ∧ 0 ≤ b' ∧ Int.gcd a b' = Int.gcd x y ∧ σ' = [some (.int a), some (.int b')] ∧ H2 = H', fun σ' H2 ⟨a, b', h0, h1, h2, h3, h4, h5⟩ => ⟨_, h0, a, b', rfl, h1, h2, h3, h4, h5⟩, ?_⟩
    have m0 := Int.emod_nonneg a e
    have m1 := Int.emod_lt_of_pos a b1
    refine ⟨_, rfl, _, rfl, .inl ⟨_, rfl, _, rfl, _, _, rfl, rfl, b1, _, _, rfl, b, a % b, by omega, b0, m0, ?_, rfl, rfl⟩⟩
    rw [← g, Int.gcd_comm a b]
    exact gcd_step a0 b0
end
end KV

/-! the law: inverse, a drawn lot, an integer that fits it -/
namespace KV
open PySem PySem.Spec PyProof.Rows L2 KM
theorem filt_at {f : Int → Bool} {l : List Int} {i : Nat} {x : Int} (h : l[i]? = some x) : (l.take (i + 1)).filter f = (l.take i).filter f ++ if f x = true then [x] else [] := by
  rw [take_at h, List.filter_append]
  congr 1
  by_cases z : f x = true
  · rw [if_pos z, List.filter_cons_of_pos z]
    rfl
  · rw [if_neg z, List.filter_cons_of_neg z]
    rfl
theorem filt_nil {f : Int → Bool} {l : List Int} (h : l.filter f = []) : ∀ x ∈ l, f x = false := fun x hx => by
  cases e : f x with
  | false => rfl
  | true =>
    have : x ∈ l.filter f := List.mem_filter.mpr ⟨hx, e⟩
    rw [h] at this
    simp at this
theorem Dl.upd {H : Hp} {d c p : Addr} {o : HO} (h : Dl H d c) (hd : p ≠ d) (hc : p ≠ c) : Dl (L2.upd H p o) d c := by
  obtain ⟨n, cs, b, h1, h2, r⟩ := h
  exact ⟨n, cs, b, by rw [upd_ne (Ne.symm hd)]; exact h1, by rw [upd_ne (Ne.symm hc)]; exact h2, r⟩
theorem Kp.updn {d c p : Addr} {H H' : Hp} {o : HO} (k : Kp d c H H') (hp : H p = none) : Kp d c H (L2.upd H' p o) := fun b u h1 h2 h => by
  rw [upd_ne (ne_of_none h hp)]
  exact k b u h1 h2 h

theorem atI_zero {x : V} {xs : List V} : atI (x :: xs) 0 = some x := by
  unfold atI L2.ixN
  rw [if_pos (by decide), if_pos (by simp only [List.length_cons]; omega)]
  rfl
theorem Ke.kp {K : PySem.W.Frag} {d c a : Addr} {H H' : Hp} (k : Kp d c H H') (hd : a ≠ d) (hc : a ≠ c) : Ke K H H' a := fun _ => ⟨fun h => k.seqL hd hc h, fun h => k.seqT hd hc h⟩
theorem Kp.sqA {K : PySem.W.Frag} {d c a : Addr} {H H' : Hp} {xs : List V} (k : Kp d c H H') (hd : a ≠ d) (hc : a ≠ c) (h : SqA K H a xs) : SqA K H' a xs := h.imp (fun h => k.seqL hd hc h) (fun h => k.seqT hd hc h)
theorem inv_last {m u x : Int} (hm : 3 ≤ m) (d : m ∣ 1 - u * x) : (u * x) % m = 1 := by
  have z := Int.emod_eq_emod_iff_emod_sub_eq_zero.mpr (Int.emod_eq_zero_of_dvd d)
  rw [← z]
  exact Int.emod_eq_of_lt (by omega) (by omega)
theorem inv_ex {W q : Int} (hq : 3 ≤ q) (g : Int.gcd W q = 1) : ∃ k : Int, 0 ≤ k ∧ k < q ∧ (k * W) % q = 1 := by
  have inv : ∀ (m : Nat) (r o t u : Int), Eu q W r o t u → r.toNat ≤ m → ∃ o' t' u', Eu q W 0 o' t' u' := by
    intro m
    induction m with
    | zero =>
      intro r o t u h hr
      have : r = 0 := by have := h.r0; omega
      subst this
      exact ⟨_, _, _, h⟩
    | succ m ihm =>
      intro r o t u h hr
      by_cases z : r = 0
      · subst z
        exact ⟨_, _, _, h⟩
      · obtain ⟨h2, d⟩ := h.step z
        exact ihm _ _ _ _ h2 (by omega)
  obtain ⟨o', t', u', e⟩ := inv _ _ _ _ _ (Eu.start (m := q) (x := W) (by omega)) (Nat.le_refl _)
  obtain ⟨_, d⟩ := e.end_ g
  refine ⟨u' % q, Int.emod_nonneg _ (by omega), Int.emod_lt_of_pos _ (by omega), ?_⟩
  have := inv_last hq d
  rw [Int.mul_emod, Int.emod_emod_of_dvd u' (Int.dvd_refl q), ← Int.mul_emod]
  exact this
/-- moduli whose product is not too great -/
structure FitL (ns : List Int) : Prop where
  ge : ∀ n ∈ ns, 3 ≤ n
  co : ns.Pairwise (fun a b => Int.gcd a b = 1)
  sml : prd ns < 2 ^ 100
  few : ns.length ≤ 1000
theorem prd_lek {k : Nat} : ∀ {ns : List Int}, (∀ n ∈ ns, 3 ≤ n) → (∀ n ∈ ns, n < 2 ^ k) → prd ns ≤ 2 ^ (k * ns.length)
  | [], _, _ => by show (1 : Int) ≤ 1; decide
  | n :: r, h, g => by
    have ih := prd_lek (ns := r) (fun m hm => h m (by simp [hm])) fun m hm => g m (by simp [hm])
    have h1 := h n (by simp)
    have g1 := g n (by simp)
    have pp := prd_pos (ns := r) fun m hm => h m (by simp [hm])
    have e : (2 : Int) ^ (k * (n :: r).length) = 2 ^ k * 2 ^ (k * r.length) := by
      rw [List.length_cons, Nat.mul_succ, Nat.add_comm, Int.pow_add]
    show n * prd r ≤ _
    rw [e]
    exact Int.mul_le_mul (by omega) ih (by omega) (by omega)
theorem fit_of {ns ns' : List Int} (hb : ∀ n ∈ ns, 3 ≤ n ∧ n < 2 ^ 24) (hp : ns.Pairwise (fun a b => Int.gcd a b = 1)) (hl : ns.length ≤ 4) (pe : ns'.Perm ns) : FitL ns' := by
  have l' : ns'.length ≤ 4 := by rw [pe.length_eq]; exact hl
  have b' : ∀ n ∈ ns', 3 ≤ n ∧ n < 2 ^ 24 := fun n hn => hb n (pe.mem_iff.mp hn)
  refine ⟨fun n hn => (b' n hn).1, (pe.pairwise_iff fun {a b} e => by rw [Int.gcd_comm]; exact e).mpr hp, ?_, by omega⟩
  have h1 := prd_lek (k := 24) (ns := ns') (fun n hn => (b' n hn).1) fun n hn => (b' n hn).2
  have e : (2 : Int) ^ (24 * ns'.length) ≤ 2 ^ 96 := by
    have := Nat.pow_le_pow_right (show 0 < 2 by decide) (show 24 * ns'.length ≤ 96 by omega)
    exact_mod_cast this
  have e2 : (2 : Int) ^ 96 < 2 ^ 100 := by decide
  omega
theorem FitL.take_le {ns : List Int} (h : FitL ns) (i : Nat) : 0 < prd (ns.take i) ∧ prd (ns.take i) ≤ prd ns := by
  have p1 : 0 < prd (ns.take i) := prd_pos fun n hn => h.ge n (List.mem_of_mem_take hn)
  have p2 : 0 < prd (ns.drop i) := prd_pos fun n hn => h.ge n (List.mem_of_mem_drop hn)
  refine ⟨p1, ?_⟩
  have e : prd ns = prd (ns.take i) * prd (ns.drop i) := by rw [← prd_app, List.take_append_drop]
  rw [e]
  have := Int.mul_le_mul_of_nonneg_left (show (1 : Int) ≤ prd (ns.drop i) by omega) (show 0 ≤ prd (ns.take i) by omega)
  rw [Int.mul_one] at this
  exact this
theorem FitL.sT {ns : List Int} (h : FitL ns) (i : Nat) : sm 101 (prd (ns.take i)) := by
  obtain ⟨a, b⟩ := h.take_le i
  have := h.sml
  refine sm_of (by omega) ?_
  have e2 : (2 : Int) ^ 100 < 2 ^ 101 := by decide
  omega
theorem FitL.sq {ns : List Int} (h : FitL ns) {q : Int} (hq : q ∈ ns) : sm 101 q := by
  have := h.ge q hq
  have p := prd_pos h.ge
  have := Int.le_of_dvd p (dvd_prd hq)
  have := h.sml
  refine sm_of (by omega) ?_
  have e2 : (2 : Int) ^ 100 < 2 ^ 101 := by decide
  omega
theorem FitL.gcd {ns : List Int} {i : Nat} {q : Int} (h : FitL ns) (hq : ns[i]? = some q) : Int.gcd (prd (ns.take i)) q = 1 := by
  have es : ns = ns.take i ++ (q :: ns.drop (i + 1)) := by rw [← drop_at hq, List.take_append_drop]
  have co := h.co
  rw [es] at co
  obtain ⟨_, _, c3⟩ := List.pairwise_append.mp co
  rw [Int.gcd_comm]
  refine gcd_prd fun n hn => ?_
  rw [Int.gcd_comm]
  exact c3 n hn q (by simp)
section
variable {P : Program} {w : World} {K : PySem.W.Frag} {mg : Str → Option Value} {base : Heap}
def spInvL : Sp := fun vs H Q _ => ∃ u q : Int, vs = [.int u, .int q] ∧ 3 ≤ q ∧ sm 101 q ∧ ∀ (r : Int) (H' : Hp), 0 ≤ r → r < q → Same H H' → Q (.int r) H'
theorem sc27 : FnScope ["_law_number", "_law_q", "_law_rest", "_law_other", "_law_times", "_law_others", "_law_step"] ["_law_number", "_law_q"] (defScope (top 27)) := ⟨rfl, rfl, rfl, by decide +kernel, rfl, by decide +kernel, by decide +kernel⟩
theorem ok_invL {f : Addr} {fd : FuncData} (B : Bl mg) (F : Fun K "_law_inverse" "_law_inverse" (top 27) f fd) : FnOk P w K mg base CX0 1 f fd ["_law_number", "_law_q"] spInvL := by
  refine F.ok sc27 (fun vs H Q E h => ?_) (fun cdv A outer s H vs Q E hr h => ⟨_,
    pss_cons (ps_asg (pe_tup (pa_cons (pe_op op_mod (pe_callTy call_int1 (by rfl) B.int PyProof.Rows.boot_int (pa_cons (pv 0) pa_nil)) (pv 1)) (pa_cons (pv 1) (pa_cons pe_int (pa_cons pe_int pa_nil))))) (pg_tup rfl (pgs_cons (pg_name (i := 2) sc27.nd rfl (.inl rfl)) (pgs_cons (pg_name (i := 3) sc27.nd rfl (.inl rfl)) (pgs_cons (pg_name (i := 4) sc27.nd rfl (.inl rfl)) (pgs_cons (pg_name (i := 5) sc27.nd rfl (.inl rfl)) pgs_nil))))))
    (pss_cons (ps_while PassesOwn.never (pt_cmpR op_ne (pv 2) pe_int (nomark _)) (pss_cons (ps_set (i := 6) sc27.nd rfl (.inl rfl) (pe_op op_fdivW (pv 3) (pv 2)))
    (pss_one (ps_asg (pe_tup (pa_cons (pe_op op_sub (pv 3) (pe_op op_mulW (pv 6) (pv 2))) (pa_cons (pv 2) (pa_cons (pe_op op_sub (pv 5) (pe_op op_mulW (pv 6) (pv 4))) (pa_cons (pv 4) pa_nil))))) (pg_tup rfl (pgs_cons (pg_name (i := 2) sc27.nd rfl (.inl rfl)) (pgs_cons (pg_name (i := 3) sc27.nd rfl (.inl rfl)) (pgs_cons (pg_name (i := 4) sc27.nd rfl (.inl rfl)) (pgs_cons (pg_name (i := 5) sc27.nd rfl (.inl rfl)) pgs_nil)))))))))
    (pss_one (ps_ret (pe_op op_mod (pe_callTy call_int1 (by rfl) B.int PyProof.Rows.boot_int (pa_cons (pv 5) pa_nil)) (pv 1))))), ?_⟩)
  · obtain ⟨u, q, rfl, _⟩ := h
    rfl
  obtain ⟨x, m, rfl, m3, ms, q⟩ := h
  refine ⟨_, rfl, .inl ⟨_, rfl, _, rfl, _, _, rfl, rfl, (by show (0 : Int) < m; omega), _, rfl, (by show 4 ≤ sizeLine; decide), fun t ht => ⟨_, _, rfl, SqT.of upd_same, rfl, _, _, rfl, _, _, rfl, _, _, rfl, _, _, rfl, rfl, ?_⟩⟩⟩
  dsimp only [gName]
  refine ⟨fun k σ H2 => (∃ (r o t u : Int) (v8 : Option V), k = r.toNat ∧ Eu m x r o t u ∧ σ = [some (.int x), some (.int m), some (.int r), some (.int o), some (.int t), some (.int u), v8]) ∧ Same H H2,
    ⟨_, ⟨_, _, _, _, none, rfl, Eu.start (by omega), rfl⟩, Same.new ht⟩, ?_⟩
  rintro k σ H2 ⟨⟨r, o, t, u, v8, rfl, eu, rfl⟩, hH2⟩
  refine ⟨_, rfl, rfl, _, rfl, ?_⟩
  by_cases hr0 : r = 0
  · subst hr0
    exact iteN (by simp) ⟨_, rfl, .inl ⟨_, rfl, _, rfl, _, _, rfl, rfl, (by show (0 : Int) < m; omega), q _ _ (Int.emod_nonneg _ (by omega)) (Int.emod_lt_of_pos _ (by omega)) hH2⟩⟩
  · obtain ⟨eu2, dec⟩ := eu.step hr0
    have r0 := eu.r0
    have ro := eu.ro
    have om := eu.om
    have so : sm 101 o := sm_le (by omega) om ms
    have sr : sm 101 r := sm_le r0 (by omega) so
    have sq : sm 101 (o / r) := sm_le (Int.ediv_nonneg (by omega) r0) (Int.ediv_le_self r (by omega)) so
    have st : sm 101 t := sm_abs eu.tb ms
    refine iteP (by simp [hr0]) ⟨fun σ' H3 => ∃ k', k' < r.toNat ∧ ((∃ (r o t u : Int) (v8 : Option V), k' = r.toNat ∧ Eu m x r o t u ∧ σ' = [some (.int x), some (.int m), some (.int r), some (.int o), some (.int t), some (.int u), v8]) ∧ Same H H3), fun _ _ z => z, ?_⟩
    refine ⟨_, rfl, _, rfl, _, _, rfl, rfl, divW (by omega) sr (by decide) (by decide), ?_⟩
    refine ⟨_, rfl, _, rfl, _, rfl, _, _, rfl, rfl, mulW sq sr (by decide) (by decide) (by decide), _, _, rfl, rfl, _, rfl, _, rfl, _, rfl, _, rfl, _, _, rfl, rfl, mulW sq st (by decide) (by decide) (by decide), _, _, rfl, rfl, _, rfl, (by show 4 ≤ sizeLine; decide), fun t' ht' => ⟨_, _, rfl, SqT.of upd_same, rfl, _, _, rfl, _, _, rfl, _, _, rfl, _, _, rfl, rfl, ?_⟩⟩
    exact ⟨_, dec, ⟨_, _, _, _, _, rfl, eu2, rfl⟩, hH2.trans (Same.new ht')⟩
def spFit (K : PySem.W.Frag) : Sp := fun vs H Q _ => ∃ (d c l : Addr) (ns : List Int), vs = [.ref d, .ref l] ∧ Dl H d c ∧ l ≠ d ∧ l ≠ c ∧ SqA K H l (ns.map V.int) ∧ FitL ns ∧ ∀ (r : Int) (H' : Hp), sm 104 r → Dl H' d c → Kp d c H H' → Q (.int r) H'
theorem sc28 : FnScope ["_law_deal", "_law_lot", "_law_found", "_law_whole", "_law_q", "_law_rest", "_law_inverse_here", "_law_k"] ["_law_deal", "_law_lot"] (defScope (top 28)) := ⟨rfl, rfl, rfl, by decide +kernel, rfl, by decide +kernel, by decide +kernel⟩
theorem ok_fit {f : Addr} {fd : FuncData} (B : Bl mg) (CA : Cal P w K mg base CX0 1 "_law_any" ["_law_deal", "_law_bound"] spAny) (CV : Cal P w K mg base CX0 1 "_law_inverse" ["_law_number", "_law_q"] spInvL)
    (F : Fun K "_law_fitting" "_law_fitting" (top 28) f fd) : FnOk P w K mg base CX0 2 f fd ["_law_deal", "_law_lot"] (spFit K) := by
  refine F.ok sc28 (fun vs H Q E h => ?_) (fun cdv A outer s H vs Q E hr h => ⟨_,
    pss_cons (ps_asg (pe_tup (pa_cons pe_int (pa_cons pe_int pa_nil))) (pg_tup rfl (pgs_cons (pg_name (i := 2) sc28.nd rfl (.inl rfl)) (pgs_cons (pg_name (i := 3) sc28.nd rfl (.inr rfl)) pgs_nil))))
    (pss_cons (ps_for PassesOwn.never rfl (pi_sq (pv 1)) (pg_name (i := 4) sc28.nd rfl (.inr rfl))
      (pss_cons (ps_set (i := 5) sc28.nd rfl (.inl rfl) (by exact (pe_cal (X := L2.Cx.nox _) CA hr (by decide) (pa_cons (pv 0) (pa_cons pe_int pa_nil)))))
      (pss_cons (ps_set (i := 6) sc28.nd rfl (.inl rfl) (pe_ifExp (pt_cmpR op_lt (pv 4) pe_int (nomark _))
        (pe_ix ix_list (pe_lc (own := [("_law_k", 7)]) (g := gName 7) rfl sc28.nd (pi_range1 rfl B.range (pa_cons (pv 4) pa_nil)) (blkOk_by (N := ["_law_deal", "_law_lot", "_law_found", "_law_whole", "_law_q", "_law_rest", "_law_inverse_here", "_law_k"]) (sc := defScope (top 28)) (by decide +kernel))
          (fun _ _ _ _ _ => pg_name (i := 7) sc28.nd rfl (Or.inl rfl)) (fun _ _ _ _ _ => pts_one (pt_cmpR op_eq (pe_op op_mod (pe_callTy call_int1 (by rfl) B.int PyProof.Rows.boot_int (pa_cons (pe_op op_mulW (pv 7) (pv 3)) pa_nil)) (pv 4)) pe_int (nomark _))) (fun _ _ _ _ _ => pv 7)) pe_int (fun _ _ => rfl))
        (by exact (pe_cal (X := L2.Cx.nox _) CV hr (by decide) (pa_cons (pv 3) (pa_cons (pv 4) pa_nil))))))
      (pss_cons (ps_set (i := 2) sc28.nd rfl (.inl rfl) (pe_op op_add (pv 2) (pe_op op_mulW (pv 3) (pe_op op_mod (pe_callTy call_int1 (by rfl) B.int PyProof.Rows.boot_int (pa_cons (pe_op op_mulW (pe_op op_sub (pv 5) (pv 2)) (pv 6)) pa_nil)) (pv 4)))))
      (pss_one (ps_set (i := 3) sc28.nd rfl (.inr rfl) (pe_op op_mulW (pv 3) (pv 4))))))))
    (pss_one (ps_ret (pe_op op_add (pv 2) (pe_op op_mulW (pv 3) (pe_op op_sub (by exact (pe_cal (X := L2.Cx.nox _) CA hr (by decide) (pa_cons (pv 0) (pa_cons pe_int pa_nil)))) pe_int)))))), ?_⟩)
  · obtain ⟨d, c, l, ns, rfl, _⟩ := h
    rfl
  obtain ⟨d, c, l, ns, rfl, hD, ld, lc, hS, hF, q⟩ := h
  refine ⟨(by show 2 ≤ sizeLine; decide), fun t ht => ⟨_, _, rfl, SqT.of upd_same, rfl, _, _, rfl, _, _, rfl, rfl, ?_⟩⟩
  dsimp only [gName]
  have D1 : Dl (upd H t (.tup [V.int 0, V.int 1])) d c := hD.same (Same.new ht)
  have k1 : Kp d c H (upd H t (.tup [V.int 0, V.int 1])) := Kp.refl.new ht
  generalize upd H t (.tup [V.int 0, V.int 1]) = H1 at D1 k1
  refine ⟨_, rfl, l, rfl, for_sq (k1.sqA ld lc hS) (fun i σ H' => (∃ (f : Int) (v4 v5 v6 : Option V), 0 ≤ f ∧ f < prd (ns.take i) ∧ σ = [some (.ref d), some (.ref l), some (.int f), some (.int (prd (ns.take i))), v4, v5, v6, none]) ∧ Dl H' d c ∧ Kp d c H1 H') ⟨⟨0, none, none, none, by decide, by show (0 : Int) < 1; decide, rfl⟩, D1, Kp.refl⟩ (fun i σ H' _ p => Ke.kp p.2.2 ld lc) ?_ ?_⟩
  · rintro i x σ H2 hx ⟨⟨f, v4, v5, v6, f0, f1, rfl⟩, D2, k2⟩
    obtain ⟨m, hm, rfl⟩ := map_at hx
    have hmm := List.mem_of_getElem? hm
    have m3 := hF.ge m hmm
    have ms := hF.sq hmm
    have Ws := hF.sT i
    have Wp := (hF.take_le i).1
    have gW := hF.gcd hm
    have fs : sm 101 f := sm_le f0 (by omega) Ws
    refine ⟨_, rfl, d, c, 2, rfl, D2, by decide, by decide, fun r H3 r0 r1 D3 k3 => ?_⟩
    dsimp only [gName]
    refine sq_cut (fun σ H' => ∃ v : Int, 0 ≤ v ∧ v < m ∧ σ = [some (.ref d), some (.ref l), some (.int f), some (.int (prd (ns.take i))), some (.int m), some (.int r), some (.int v), none] ∧ Dl H' d c ∧ Kp d c H3 H') (fun Z hZ => ⟨_, rfl, _, _, rfl, rfl, _, rfl, ?_⟩) ?_
    · by_cases e : m < 60
      · refine iteP (by simp [e]) ⟨_, rfl, m, rfl, (by omega), (by omega), fun D hD => lc_range (lo := 0) (n := m.toNat) (fun j H' => Same H3 H' ∧ H' D = some (.lst ((((List.range j).map fun k : Nat => ((0 : Int) + (k : Int))).filter fun k => decide (k * prd (ns.take i) % m = 1)).map V.int))) ⟨Same.new hD, upd_same⟩ ?_ ?_⟩
        · rintro j H4 hj ⟨p1, p2⟩
          have js : sm 101 (0 + (j : Int)) := sm_le (by omega) (by omega) ms
          refine ⟨rfl, _, rfl, _, rfl, _, _, rfl, rfl, mulW js Ws (by decide) (by decide) (by decide), .inl ⟨_, rfl, _, rfl, _, _, rfl, rfl, (by show (0 : Int) < m; omega), rfl, _, rfl, ?_⟩⟩
          cases e1 : decide ((0 + (j : Int)) * prd (ns.take i) % m = 1) with
          | true =>
            refine iteP (by simpa using e1) ⟨_, rfl, _, p2, len_lt ?_, Same.upd p1 hD, ?_⟩
            · rw [List.length_map]
              have a := List.length_filter_le (fun k => decide (k * prd (ns.take i) % m = 1)) ((List.range j).map fun k : Nat => ((0 : Int) + (k : Int)))
              rw [List.length_map, List.length_range] at a
              omega
            · rw [upd_same, List.range_succ, List.map_append, List.filter_append, List.map_append]
              simp only [List.map_cons, List.map_nil, List.filter_cons, e1, List.filter_nil, if_true]
          | false =>
            refine iteN (by simpa using e1) ⟨p1, ?_⟩
            rw [List.range_succ, List.map_append, List.filter_append]
            simp only [List.map_cons, List.map_nil, List.filter_cons, e1, List.filter_nil, if_neg Bool.false_ne_true, List.append_nil]
            exact p2
        · rintro H4 ⟨p1, p2⟩
          obtain ⟨k, k0, k1, ke⟩ := inv_ex m3 gW
          have mem : k ∈ ((List.range m.toNat).map fun k : Nat => ((0 : Int) + (k : Int))).filter fun k => decide (k * prd (ns.take i) % m = 1) := by
            rw [List.mem_filter, List.mem_map]
            exact ⟨⟨k.toNat, List.mem_range.mpr (by omega), by omega⟩, decide_eq_true ke⟩
          cases eL : ((List.range m.toNat).map fun k : Nat => ((0 : Int) + (k : Int))).filter fun k => decide (k * prd (ns.take i) % m = 1) with
          | nil =>
            rw [eL] at mem
            simp at mem
          | cons v rest =>
            have mv : v ∈ ((List.range m.toNat).map fun k : Nat => ((0 : Int) + (k : Int))).filter fun k => decide (k * prd (ns.take i) % m = 1) := by
              rw [eL]
              simp
            rw [eL] at p2
            rw [List.mem_filter, List.mem_map] at mv
            obtain ⟨⟨b, hb, rfl⟩, _⟩ := mv
            have := List.mem_range.mp hb
            exact ⟨D, _, 0, V.int (0 + (b : Int)), rfl, rfl, SqL.of p2, atI_zero, hZ _ _ ⟨0 + (b : Int), by omega, by omega, rfl, D3.same p1, Kp.of p1⟩⟩
      · exact iteN (by simp [e]) ⟨_, rfl, _, rfl, _, m, rfl, m3, ms, fun v H4 v0 v1 s4 => hZ _ _ ⟨v, v0, v1, rfl, D3.same s4, Kp.of s4⟩⟩
    · rintro σ H4 ⟨v, v0, v1, rfl, D4, k4⟩
      have vs : sm 101 v := sm_le v0 (by omega) ms
      have rs : sm 101 r := sm_of (by omega) (Int.lt_of_le_of_lt (show r ≤ 2 by omega) (by decide))
      have z0 := Int.emod_nonneg ((r - f) * v) (show m ≠ 0 by omega)
      have z1 := Int.emod_lt_of_pos ((r - f) * v) (show 0 < m by omega)
      have zs : sm 101 ((r - f) * v % m) := sm_le z0 (by omega) ms
      refine ⟨_, rfl, _, rfl, _, rfl, _, rfl, _, _, rfl, rfl, _, rfl, _, _, rfl, rfl, mulW (sm_sub rs fs) vs (by decide) (by decide) (by decide), .inl ⟨_, rfl, _, rfl, _, _, rfl, rfl, (by show (0 : Int) < m; omega), _, _, rfl, rfl, mulW Ws zs (by decide) (by decide) (by decide), _, _, rfl, rfl, ?_⟩⟩
      dsimp only [gName]
      refine ⟨_, rfl, _, rfl, _, _, rfl, rfl, mulW Ws ms (by decide) (by decide) (by decide), ⟨_, some (.int m), some (.int r), some (.int v), (lift_bd (o := v) (e := r) f0 f1 (show 0 < m by omega)).1, ?_, ?_⟩, D4, ((k2.trans k3).trans k4)⟩
      · rw [prd_at hm]
        exact (lift_bd (o := v) (e := r) f0 f1 (show 0 < m by omega)).2
      · rw [prd_at hm]
        rfl
  · rintro σ H2 ⟨⟨f, v4, v5, v6, f0, f1, rfl⟩, D2, k2⟩
    rw [List.length_map, List.take_length] at f1 ⊢
    have Ws : sm 101 (prd ns) := by
      have := hF.sT ns.length
      rw [List.take_length] at this
      exact this
    refine ⟨_, rfl, _, rfl, _, rfl, d, c, 7, rfl, D2, by decide, by decide, fun r H3 r0 r1 D3 k3 => ?_⟩
    have rs : sm 2 (r - 3) := by show (r - 3).natAbs < 2 ^ 2; omega
    exact ⟨_, _, rfl, rfl, _, _, rfl, rfl, mulW Ws rs (by decide) (by decide) (by decide), _, _, rfl, rfl, q _ _ (sm_add (sm_mono (sm_le f0 (by omega) Ws) (by decide)) (sm_mul Ws rs)) D3 (k1.trans (k2.trans k3))⟩
end
end KV

/-! what follows: divisors of counts or of the ones before -/
namespace KM
def pln (n : Int) : Prop := n = 0 ∨ n = 1
instance (n : Int) : Decidable (pln n) := inferInstanceAs (Decidable (n = 0 ∨ n = 1))
def ones (n : Int) : List Int := [(n.natAbs : Int), ((n - 1).natAbs : Int)].filter fun q => decide (2 < q)
def stepF (n : Int) (l : List Int) : List Int := l.flatMap fun o => [(Int.gcd n o : Int), (Int.gcd (n - 1) o : Int)]
def fnd (ns : List Int) : List Int := ns.foldl (fun l n => stepF n l) [0]
theorem fnd_nil : fnd [] = [0] := rfl
theorem fnd_snoc (ns : List Int) (n : Int) : fnd (ns ++ [n]) = stepF n (fnd ns) := by
  unfold fnd
  rw [List.foldl_append]
  rfl
theorem mem_stepF {n q : Int} {l : List Int} : q ∈ stepF n l ↔ ∃ o ∈ l, q = (Int.gcd n o : Int) ∨ q = (Int.gcd (n - 1) o : Int) := by
  unfold stepF
  rw [List.mem_flatMap]
  constructor
  · rintro ⟨o, ho, h⟩
    refine ⟨o, ho, ?_⟩
    simpa using h
  · rintro ⟨o, ho, h⟩
    refine ⟨o, ho, ?_⟩
    simpa using h
theorem stepF_len (n : Int) : ∀ l : List Int, (stepF n l).length = 2 * l.length
  | [] => rfl
  | o :: r => by
    have := stepF_len n r
    show ((Int.gcd n o : Int) :: (Int.gcd (n - 1) o : Int) :: stepF n r).length = _
    simp only [List.length_cons, this]
    omega
theorem snoc_ind {α : Type} {P : List α → Prop} (h0 : P []) (h1 : ∀ l a, P l → P (l ++ [a])) (l : List α) : P l := by
  have key : ∀ (n : Nat) (l : List α), l.length = n → P l := by
    intro n
    induction n with
    | zero =>
      intro l e
      rw [List.eq_nil_of_length_eq_zero e]
      exact h0
    | succ n ih =>
      intro l e
      rcases List.eq_nil_or_concat l with rfl | ⟨l', a, e'⟩
      · simp at e
      · rw [List.concat_eq_append] at e'
        subst e'
        exact h1 l' a (ih l' (by simpa using e))
  exact key _ l rfl
theorem fnd_len (ns : List Int) : (fnd ns).length = 2 ^ ns.length := by
  induction ns using snoc_ind with
  | h0 => rfl
  | h1 l a ih =>
    rw [fnd_snoc, stepF_len, ih, List.length_append, List.length_singleton, Nat.pow_succ]
    omega
theorem fnd_nonneg (ns : List Int) : ∀ q ∈ fnd ns, 0 ≤ q := by
  induction ns using snoc_ind with
  | h0 => intro q hq; simp [fnd_nil] at hq; omega
  | h1 l a ih =>
    intro q hq
    rw [fnd_snoc] at hq
    obtain ⟨o, _, h | h⟩ := mem_stepF.mp hq <;> omega
theorem gcd_plain0 (o : Int) (h : 0 ≤ o) : (Int.gcd 0 o : Int) = o := by
  rw [Int.gcd_zero_left]
  omega
theorem gcd_one_l (o : Int) : (Int.gcd 1 o : Int) = 1 := by
  rw [Int.gcd_one_left]
  rfl
theorem gcd_m1 (o : Int) : (Int.gcd (-1) o : Int) = 1 := by
  rw [Int.neg_gcd]
  exact gcd_one_l o
theorem mem_plain {n q : Int} {l : List Int} (hp : pln n) (hl : ∀ o ∈ l, 0 ≤ o) (ne : l ≠ []) : q ∈ stepF n l ↔ q ∈ l ∨ q = 1 := by
  obtain ⟨o0, r, rfl⟩ : ∃ o r, l = o :: r := by
    cases l with
    | nil => exact absurd rfl ne
    | cons o r => exact ⟨o, r, rfl⟩
  rw [mem_stepF]
  constructor
  · rintro ⟨o, ho, h⟩
    have z := hl o ho
    rcases hp with rfl | rfl
    · rcases h with h | h
      · rw [gcd_plain0 o z] at h
        exact .inl (by rw [h]; exact ho)
      · have e : (0 - 1 : Int) = -1 := rfl
        rw [e, gcd_m1] at h
        exact .inr h
    · rcases h with h | h
      · rw [gcd_one_l] at h
        exact .inr h
      · have e : (1 - 1 : Int) = 0 := rfl
        rw [e, gcd_plain0 o z] at h
        exact .inl (by rw [h]; exact ho)
  · rintro (h | rfl)
    · have z := hl q h
      rcases hp with rfl | rfl
      · exact ⟨q, h, .inl (gcd_plain0 q z).symm⟩
      · exact ⟨q, h, .inr (gcd_plain0 q z).symm⟩
    · rcases hp with rfl | rfl
      · exact ⟨o0, by simp, .inr (gcd_m1 o0).symm⟩
      · exact ⟨o0, by simp, .inl (gcd_one_l o0).symm⟩
theorem fnd_ne (ns : List Int) : fnd ns ≠ [] := by
  intro e
  have := fnd_len ns
  rw [e] at this
  have z : 0 < 2 ^ ns.length := Nat.pow_pos (by decide)
  simp at this
  omega
/-- all pln: 0, and perhaps 1 -/
theorem fnd_none (ns : List Int) : (∀ n ∈ ns, pln n) → 0 ∈ fnd ns ∧ ∀ q ∈ fnd ns, q = 0 ∨ q = 1 := by
  induction ns using snoc_ind with
  | h0 => intro _; exact ⟨by simp [fnd_nil], fun q hq => by simp [fnd_nil] at hq; exact .inl hq⟩
  | h1 l a ih =>
    intro h
    obtain ⟨i1, i2⟩ := ih fun n hn => h n (by simp [hn])
    have m := fun q => mem_plain (q := q) (h a (by simp)) (fnd_nonneg l) (fnd_ne l)
    rw [fnd_snoc]
    exact ⟨(m 0).mpr (.inl i1), fun q hq => ((m q).mp hq).elim (fun z => i2 q z) .inr⟩
theorem gcd_pos_np {n o : Int} (h : ¬ pln n) : (0 : Int) < Int.gcd n o ∧ (0 : Int) < Int.gcd (n - 1) o := by
  unfold pln at h
  have a := Int.gcd_pos_of_ne_zero_left (a := n) o (by omega)
  have b := Int.gcd_pos_of_ne_zero_left (a := n - 1) o (by omega)
  omega
theorem gcd_pos_o {n o : Int} (h : 0 < o) : (0 : Int) < Int.gcd n o := by
  have a := Int.gcd_pos_of_ne_zero_right n (b := o) (by omega)
  omega
/-- not all pln: none is 0 -/
theorem fnd_some (ns : List Int) : (∃ n ∈ ns, ¬ pln n) → ∀ q ∈ fnd ns, 0 < q := by
  induction ns using snoc_ind with
  | h0 => rintro ⟨n, hn, _⟩; simp at hn
  | h1 l a ih =>
    intro h q hq
    rw [fnd_snoc] at hq
    obtain ⟨o, ho, hq⟩ := mem_stepF.mp hq
    by_cases ha : pln a
    · have : ∃ n ∈ l, ¬ pln n := by
        obtain ⟨n, hn, np⟩ := h
        rcases List.mem_append.mp hn with z | z
        · exact ⟨n, z, np⟩
        · have : n = a := by simpa using z
          rw [this] at np
          exact absurd ha np
      have o1 := ih this o ho
      rcases hq with rfl | rfl
      · exact gcd_pos_o o1
      · exact gcd_pos_o o1
    · have := gcd_pos_np (o := o) ha
      rcases hq with rfl | rfl
      · exact this.1
      · exact this.2
theorem fnd_open (ns : List Int) : ∀ q ∈ fnd ns, ∀ n ∈ ns, q ∣ n ∨ q ∣ n - 1 := by
  induction ns using snoc_ind with
  | h0 => intro q _ n hn; simp at hn
  | h1 l a ih =>
    intro q hq n hn
    rw [fnd_snoc] at hq
    obtain ⟨o, ho, hq⟩ := mem_stepF.mp hq
    rcases List.mem_append.mp hn with z | z
    · have d : q ∣ o := by
        rcases hq with rfl | rfl
        · exact Int.gcd_dvd_right ..
        · exact Int.gcd_dvd_right ..
      exact (ih o ho n z).imp (Int.dvd_trans d) (Int.dvd_trans d)
    · have e : n = a := by simpa using z
      subst e
      rcases hq with rfl | rfl
      · exact .inl (Int.gcd_dvd_left ..)
      · exact .inr (Int.gcd_dvd_left ..)
theorem co_of {x y a b : Int} (hx : x ∣ a) (hy : y ∣ b) (h : Int.gcd a b = 1) : Int.gcd x y = 1 := by
  have h1 : (Int.gcd x y : Int) ∣ Int.gcd a b := Int.dvd_coe_gcd (Int.dvd_trans (Int.gcd_dvd_left ..) hx) (Int.dvd_trans (Int.gcd_dvd_right ..) hy)
  rw [h] at h1
  have := Int.eq_one_of_dvd_one (Int.natCast_nonneg _) h1
  omega
theorem co_next (n : Int) : Int.gcd n (n - 1) = 1 := by
  have h1 : (Int.gcd n (n - 1) : Int) ∣ n - (n - 1) := Int.dvd_sub (Int.gcd_dvd_left ..) (Int.gcd_dvd_right ..)
  have e : n - (n - 1) = 1 := by omega
  rw [e] at h1
  have := Int.eq_one_of_dvd_one (Int.natCast_nonneg _) h1
  omega
theorem stepF_co {n : Int} : ∀ {l : List Int}, l.Pairwise (fun a b => Int.gcd a b = 1) → (stepF n l).Pairwise (fun a b => Int.gcd a b = 1)
  | [], _ => .nil
  | o :: r, h => by
    obtain ⟨h1, h2⟩ := List.pairwise_cons.mp h
    have far : ∀ x : Int, x ∣ o → ∀ y ∈ stepF n r, Int.gcd x y = 1 := by
      intro x hx y hy
      obtain ⟨o', ho', hy⟩ := mem_stepF.mp hy
      refine co_of hx (b := o') ?_ (h1 o' ho')
      rcases hy with rfl | rfl
      · exact Int.gcd_dvd_right ..
      · exact Int.gcd_dvd_right ..
    show ((Int.gcd n o : Int) :: (Int.gcd (n - 1) o : Int) :: stepF n r).Pairwise _
    refine List.pairwise_cons.mpr ⟨fun y hy => ?_, List.pairwise_cons.mpr ⟨far _ (Int.gcd_dvd_right ..), stepF_co h2⟩⟩
    rcases List.mem_cons.mp hy with rfl | hy
    · exact co_of (Int.gcd_dvd_left ..) (Int.gcd_dvd_left ..) (co_next n)
    · exact far _ (Int.gcd_dvd_right ..) y hy
theorem fnd_co (ns : List Int) : (fnd ns).Pairwise (fun a b => Int.gcd a b = 1) := by
  induction ns using snoc_ind with
  | h0 => exact List.pairwise_singleton ..
  | h1 l a ih =>
    rw [fnd_snoc]
    exact stepF_co ih
/-- what the lot of counts is -/
def LotI (ns : List Int) : Option (List Int) → Prop
  | none => ∀ n ∈ ns, pln n
  | some L => (∃ n ∈ ns, ¬ pln n) ∧ (∀ q, q ∈ L ↔ q ∈ fnd ns ∧ 2 < q) ∧ L.length ≤ 2 ^ ns.length
theorem LotI.nil : LotI [] none := fun _ h => by simp at h
theorem LotI.pln {ns : List Int} {o : Option (List Int)} {n : Int} (h : LotI ns o) (hp : pln n) : LotI (ns ++ [n]) o := by
  cases o with
  | none =>
    intro m hm
    rcases List.mem_append.mp hm with z | z
    · exact h m z
    · have : m = n := by simpa using z
      rw [this]
      exact hp
  | some L =>
    obtain ⟨⟨m, hm, np⟩, h2, h3⟩ := h
    refine ⟨⟨m, by simp [hm], np⟩, fun q => ?_, ?_⟩
    · rw [fnd_snoc, mem_plain hp (fnd_nonneg ns) (fnd_ne ns), h2]
      constructor
      · rintro ⟨a, b⟩
        exact ⟨.inl a, b⟩
      · rintro ⟨a | a, b⟩
        · exact ⟨a, b⟩
        · omega
    · rw [List.length_append, List.length_singleton, Nat.pow_succ]
      omega
theorem mem_ones {n q : Int} : q ∈ ones n ↔ (q = n.natAbs ∨ q = (n - 1).natAbs) ∧ 2 < q := by
  unfold ones
  rw [List.mem_filter]
  simp
theorem ones_len (n : Int) : (ones n).length ≤ 2 := List.length_filter_le _ _
theorem LotI.first {ns : List Int} {n : Int} {L : List Int} (h : LotI ns none) (hp : ¬ KM.pln n) (pe : L.Perm (ones n)) : LotI (ns ++ [n]) (some L) := by
  obtain ⟨f0, f1⟩ := fnd_none ns h
  refine ⟨⟨n, by simp, hp⟩, fun q => ?_, ?_⟩
  · rw [pe.mem_iff, mem_ones, fnd_snoc, mem_stepF]
    constructor
    · rintro ⟨a, b⟩
      refine ⟨⟨0, f0, ?_⟩, b⟩
      rw [Int.gcd_zero_right, Int.gcd_zero_right]
      exact a
    · rintro ⟨⟨o, ho, e⟩, b⟩
      refine ⟨?_, b⟩
      rcases f1 o ho with rfl | rfl
      · rw [Int.gcd_zero_right, Int.gcd_zero_right] at e
        exact e
      · rw [Int.gcd_one_right, Int.gcd_one_right] at e
        rcases e with e | e
        · rw [e] at b
          exact absurd b (by decide)
        · rw [e] at b
          exact absurd b (by decide)
  · rw [pe.length_eq, List.length_append, List.length_singleton, Nat.pow_succ]
    have := ones_len n
    have : 0 < 2 ^ ns.length := Nat.pow_pos (by decide)
    omega
/-- the greatest common divisors from 3 on -/
def comF (L M : List Int) : List Int := (L.flatMap fun m => M.map fun n => (Int.gcd m n : Int)).filter fun q => decide (2 < q)
theorem flat_len (L M : List Int) : (L.flatMap fun m => M.map fun n => (Int.gcd m n : Int)).length = L.length * M.length := by
  induction L with
  | nil => simp
  | cons a r ih =>
    rw [List.flatMap_cons, List.length_append, ih, List.length_map, List.length_cons, Nat.succ_mul]
    omega
theorem comF_len (L M : List Int) : (comF L M).length ≤ L.length * M.length := by
  rw [← flat_len]
  exact List.length_filter_le _ _
theorem mem_comF {L M : List Int} {q : Int} : q ∈ comF L M ↔ (∃ m ∈ L, ∃ n ∈ M, q = Int.gcd m n) ∧ 2 < q := by
  unfold comF
  rw [List.mem_filter, List.mem_flatMap, decide_eq_true_eq]
  constructor
  · rintro ⟨⟨m, hm, h⟩, b⟩
    obtain ⟨n, hn, e⟩ := List.mem_map.mp h
    exact ⟨⟨m, hm, n, hn, e.symm⟩, b⟩
  · rintro ⟨⟨m, hm, n, hn, e⟩, b⟩
    exact ⟨⟨m, hm, List.mem_map.mpr ⟨n, hn, e.symm⟩⟩, b⟩
theorem gcd_le_r {n o : Int} (h : 0 < o) : (Int.gcd n o : Int) ≤ o := Int.le_of_dvd h (Int.gcd_dvd_right ..)
theorem gcd_le_l {n o : Int} (h : n ≠ 0) : (Int.gcd n o : Int) ≤ n.natAbs := Int.le_of_dvd (by omega) (Int.dvd_natAbs.mpr (Int.gcd_dvd_left ..))
theorem gcd_abs (n o : Int) : Int.gcd (n.natAbs : Int) o = Int.gcd n o := by
  unfold Int.gcd
  rw [Int.natAbs_natCast]
theorem LotI.next {ns : List Int} {n : Int} {L M R : List Int} (h : LotI ns (some L)) (hp : ¬ KM.pln n) (pm : M.Perm (ones n)) (pr : R.Perm (comF L M)) : LotI (ns ++ [n]) (some R) := by
  obtain ⟨h1, h2, h3⟩ := h
  have fs := fnd_some ns h1
  have n0 : n ≠ 0 ∧ n - 1 ≠ 0 := by unfold KM.pln at hp; omega
  refine ⟨⟨n, by simp, hp⟩, fun q => ?_, ?_⟩
  · rw [pr.mem_iff, mem_comF, fnd_snoc, mem_stepF]
    constructor
    · rintro ⟨⟨m, hm, k, hk, e⟩, b⟩
      refine ⟨⟨m, ((h2 m).mp hm).1, ?_⟩, b⟩
      rcases (mem_ones.mp (pm.mem_iff.mp hk)).1 with rfl | rfl
      · rw [Int.gcd_comm, gcd_abs] at e
        exact .inl e
      · rw [Int.gcd_comm, gcd_abs] at e
        exact .inr e
    · rintro ⟨⟨o, ho, e⟩, b⟩
      refine ⟨⟨o, (h2 o).mpr ⟨ho, ?_⟩, ?_⟩, b⟩
      · have := fs o ho
        rcases e with rfl | rfl
        · have := gcd_le_r (n := n) this
          omega
        · have := gcd_le_r (n := n - 1) this
          omega
      · rcases e with rfl | rfl
        · refine ⟨(n.natAbs : Int), pm.mem_iff.mpr (mem_ones.mpr ⟨.inl rfl, ?_⟩), ?_⟩
          · have := gcd_le_l (o := o) n0.1
            omega
          · rw [Int.gcd_comm (n.natAbs : Int) o |>.symm, gcd_abs]
        · refine ⟨((n - 1).natAbs : Int), pm.mem_iff.mpr (mem_ones.mpr ⟨.inr rfl, ?_⟩), ?_⟩
          · have := gcd_le_l (o := o) n0.2
            omega
          · rw [Int.gcd_comm ((n - 1).natAbs : Int) o |>.symm, gcd_abs]
  · rw [pr.length_eq, List.length_append, List.length_singleton, Nat.pow_succ]
    have a := comF_len L M
    have b := ones_len n
    rw [← pm.length_eq] at b
    have c : L.length * M.length ≤ L.length * 2 := Nat.mul_le_mul_left _ b
    omega
/-- a doubt of the integer n -/
def isD (ns : List Int) (n k : Int) : Prop := 3 ≤ k ∧ (∀ c ∈ ns, ¬ 1 < c % k) ∧ 1 < n % k
instance (ns : List Int) (n k : Int) : Decidable (isD ns n k) := inferInstanceAs (Decidable (_ ∧ _ ∧ _))
/-- there is one -/
def due (ns : List Int) (n : Int) : Prop := (∃ q ∈ fnd ns, 2 < q ∧ 1 < n % q) ∨ (0 ∈ fnd ns ∧ ¬ pln n)
instance (ns : List Int) (n : Int) : Decidable (due ns n) := inferInstanceAs (Decidable ((∃ q ∈ fnd ns, 2 < q ∧ 1 < n % q) ∨ _))
theorem plain_mod {c k : Int} (h : pln c) (hk : 3 ≤ k) : ¬ 1 < c % k := by
  rcases h with rfl | rfl
  · rw [Int.zero_emod]; omega
  · rw [Int.emod_eq_of_lt (by omega) (by omega)]; omega
theorem open_mod {c k : Int} (h : k ∣ c ∨ k ∣ c - 1) (hk : 3 ≤ k) : ¬ 1 < c % k := by
  rcases h with h | h
  · rw [Int.emod_eq_zero_of_dvd h]; omega
  · obtain ⟨m, e⟩ := h
    have : c = 1 + k * m := by omega
    rw [this, Int.add_mul_emod_self_left, Int.emod_eq_of_lt (by omega) (by omega)]
    omega
/-- without a lot: exactly what is neither 0 nor 1 -/
theorem due_none {ns : List Int} {n : Int} (h : LotI ns none) : due ns n ↔ ¬ pln n := by
  obtain ⟨f0, f1⟩ := fnd_none ns h
  constructor
  · rintro (⟨q, hq, h2, _⟩ | ⟨_, z⟩)
    · rcases f1 q hq with rfl | rfl <;> omega
    · exact z
  · exact fun z => .inr ⟨f0, z⟩
theorem due_some {ns : List Int} {n : Int} {L : List Int} (h : LotI ns (some L)) : due ns n ↔ ∃ q ∈ L, 1 < n % q := by
  obtain ⟨h1, h2, _⟩ := h
  constructor
  · rintro (⟨q, hq, a, b⟩ | ⟨z, _⟩)
    · exact ⟨q, (h2 q).mpr ⟨hq, a⟩, b⟩
    · exact absurd (fnd_some ns h1 0 z) (by omega)
  · rintro ⟨q, hq, b⟩
    obtain ⟨a, c⟩ := (h2 q).mp hq
    exact .inl ⟨q, a, c, b⟩
theorem due_plain {ns : List Int} {n : Int} (h : pln n) : ¬ due ns n := by
  rintro (⟨q, _, a, b⟩ | ⟨_, z⟩)
  · exact plain_mod h (by omega) b
  · exact z h
theorem isD_lot {ns : List Int} {n : Int} {L : List Int} (h : LotI ns (some L)) {q : Int} (hq : q ∈ L) (hn : 1 < n % q) : isD ns n q := by
  obtain ⟨_, h2, _⟩ := h
  obtain ⟨a, c⟩ := (h2 q).mp hq
  exact ⟨by omega, fun x hx => open_mod (fnd_open ns q a x hx) (by omega), hn⟩
theorem isD_least {ns : List Int} {n k : Int} (h : LotI ns none) (hk : 3 ≤ k) (hn : 1 < n % k) : isD ns n k :=
  ⟨hk, fun x hx => plain_mod (h x hx) hk, hn⟩
/-- a lot's moduli are no greater than the counts -/
theorem lot_le {ns : List Int} {L : List Int} {b : Int} (h : LotI ns (some L)) (hb : ∀ n ∈ ns, (n.natAbs : Int) ≤ b) {q : Int} (hq : q ∈ L) : q ≤ b + 1 := by
  obtain ⟨⟨n, hn, np⟩, h2, _⟩ := h
  obtain ⟨a, c⟩ := (h2 q).mp hq
  have hb' := hb n hn
  unfold pln at np
  rcases fnd_open ns q a n hn with d | d
  · have := Int.le_of_dvd (a := q) (b := n.natAbs) (by omega) (Int.dvd_natAbs.mpr d)
    omega
  · have := Int.le_of_dvd (a := q) (b := (n - 1).natAbs) (by omega) (Int.dvd_natAbs.mpr d)
    omega
theorem fnd_le {ns : List Int} {b q : Int} (hb : ∀ n ∈ ns, (n.natAbs : Int) ≤ b) (hq : q ∈ fnd ns) (h2 : 2 < q) : q ≤ b + 1 := by
  by_cases h : ∀ n ∈ ns, pln n
  · rcases (fnd_none ns h).2 q hq with rfl | rfl <;> omega
  · have : ∃ n ∈ ns, ¬ pln n := by
      refine Classical.byContradiction fun z => h fun n hn => ?_
      exact Classical.byContradiction fun y => z ⟨n, hn, y⟩
    obtain ⟨n, hn, np⟩ := this
    have hb' := hb n hn
    unfold pln at np
    rcases fnd_open ns q hq n hn with d | d
    · have := Int.le_of_dvd (a := q) (b := n.natAbs) (by omega) (Int.dvd_natAbs.mpr d)
      omega
    · have := Int.le_of_dvd (a := q) (b := (n - 1).natAbs) (by omega) (Int.dvd_natAbs.mpr d)
      omega
/-- the count leaves more than 1 by its size and 2 -/
theorem far_mod {n : Int} (h : ¬ pln n) : 1 < n % ((n.natAbs : Int) + 2) := by
  unfold pln at h
  by_cases z : 0 ≤ n
  · rw [Int.emod_eq_of_lt z (by omega)]
    omega
  · have e : n % ((n.natAbs : Int) + 2) = (n + ((n.natAbs : Int) + 2)) % ((n.natAbs : Int) + 2) := by rw [Int.add_emod_right]
    rw [e, Int.emod_eq_of_lt (by omega) (by omega)]
    omega
end KM

/-! the program: lots of a count, common moduli -/
namespace KV
open PySem PySem.Spec PyProof.Rows L2 KM
/-- a tuple walked by a comprehension, whatever its block is -/
theorem walk_tup {K : PySem.W.Frag} {a : Addr} {xs : List V} {B : V → Hp → (Hp → Prop) → Prop} {Qd : Hp → Prop} {H0 : Hp} (Pv : Nat → Hp → Prop) (h0 : Pv 0 H0) (hl : ∀ i H, i ≤ xs.length → Pv i H → SqT K H a xs)
    (hs : ∀ i x H, xs[i]? = some x → Pv i H → B x H (Pv (i + 1))) (hd : ∀ H, Pv xs.length H → Qd H) :
    ∃ W : Nat → Nat → Hp → Prop, (∃ m, W 0 m H0) ∧ ∀ i m H, W i m H →
      ((Itt K a).stop i H ∧ Qd H) ∨ ((Itt K a).go i H ∧ ∃ Nx : Hp → Prop, (∀ H', Nx H' → ∃ m', m' < m ∧ W (i + 1) m' H') ∧ ∀ x H', (Itt K a).yld i H x H' → B x H' Nx) := by
  refine ⟨fun i m H => m = xs.length - i ∧ i ≤ xs.length ∧ Pv i H, ⟨xs.length, by simp, Nat.zero_le _, h0⟩, ?_⟩
  rintro i m H ⟨rfl, hi, p⟩
  have q := hl i H hi p
  by_cases hlt : i < xs.length
  · refine .inr ⟨⟨xs, xs[i], q, by simp [hlt]⟩, Pv (i + 1), fun H' p' => ⟨xs.length - (i + 1), by omega, rfl, hlt, p'⟩, fun x H' y => ?_⟩
    obtain ⟨e, y⟩ := y
    subst e
    exact hs i x _ (y xs q) p
  · have e : i = xs.length := by omega
    subst e
    exact .inl ⟨⟨xs, q, Nat.le_refl _⟩, hd H p⟩
theorem abs_e (n : Int) : (if n < 0 then -n else n) = (n.natAbs : Int) := by
  by_cases h : n < 0
  · rw [if_pos h]; omega
  · rw [if_neg h]; omega
section
variable {P : Program} {w : World} {K : PySem.W.Frag} {mg : Str → Option Value} {base : Heap}
def spPlain : Sp := fun vs H Q _ => ∃ n : Int, vs = [.int n] ∧ Q (.bl (decide (pln n))) H
theorem sc14 : FnScope ["count"] ["count"] (defScope (top 14)) := ⟨rfl, rfl, rfl, by decide +kernel, rfl, by decide +kernel, by decide +kernel⟩
theorem ok_plain {f : Addr} {fd : FuncData} (F : Fun K "_is_plain" "_is_plain" (top 14) f fd) : FnOk P w K mg base CX0 1 f fd ["count"] spPlain := by
  refine F.ok sc14 (fun vs H Q E h => ?_) (fun cdv A outer s H vs Q E hr h => ⟨_,
    pss_one (ps_ret (pe_or (pe_cmpR op_eq (pv 0) pe_int (nomark _)) (pe_one (pe_cmpR op_eq (pv 0) pe_int (nomark _))))), ?_⟩)
  · obtain ⟨n, rfl, _⟩ := h
    rfl
  obtain ⟨n, rfl, q⟩ := h
  refine ⟨_, rfl, rfl, _, rfl, ?_⟩
  by_cases e0 : n = 0
  · have e : decide (pln n) = true := decide_eq_true (.inl e0)
    rw [e] at q
    exact iteP (by simp [e0]) q
  · refine iteN (by simp [e0]) ⟨_, rfl, rfl, ?_⟩
    have e : decide (V.int n = V.int 1) = decide (pln n) := by
      rw [decide_eq_decide, V.int.injEq]
      unfold pln
      omega
    rw [e]
    exact q
def spOne : Sp := fun vs H Q _ => ∃ n : Int, vs = [.int n] ∧ ∀ (p : Addr) (ns : List Int) (H' : Hp), Same H H' → H p = none → H' p = some (.tup (ns.map V.int)) → ns.Perm (ones n) → Q (.ref p) H'
theorem sc15 : FnScope ["count", "side"] ["count"] (defScope (top 15)) := ⟨rfl, rfl, rfl, by decide +kernel, rfl, by decide +kernel, by decide +kernel⟩
theorem ok_one {f : Addr} {fd : FuncData} (B : Bl mg) (F : Fun K "_lot_of_one" "_lot_of_one" (top 15) f fd) : FnOk P w K mg base CX0 1 f fd ["count"] spOne := by
  refine F.ok sc15 (fun vs H Q E h => ?_) (fun cdv A outer s H vs Q E hr h => ⟨_,
    pss_one (ps_ret (pe_callTy call_tuple_of (by rfl) B.tuple (by decide +kernel) (pa_cons (pe_callB cr_sortedI (by rfl) B.sorted (by decide +kernel) (pa_cons
      (pe_lc (own := [("side", 1)]) (g := gName 1) rfl sc15.nd (pi_tup (pe_tup (pa_cons (pe_callB call_abs (by rfl) B.abs (by decide +kernel) (pa_cons (pv 0) pa_nil)) (pa_cons (pe_callB call_abs (by rfl) B.abs (by decide +kernel) (pa_cons (pe_op op_sub (pv 0) pe_int) pa_nil)) pa_nil)))) (blkOk_by (N := ["count", "side"]) (sc := defScope (top 15)) (by decide +kernel))
        (fun _ _ _ _ _ => pg_name (i := 1) sc15.nd rfl (Or.inl rfl)) (fun _ _ _ _ _ => pts_one (pt_cmpR op_gt (pv 1) pe_int (nomark _))) (fun _ _ _ _ _ => pv 1)) pa_nil)) pa_nil))), ?_⟩)
  · obtain ⟨n, rfl, _⟩ := h
    rfl
  obtain ⟨n, rfl, q⟩ := h
  refine ⟨_, rfl, n, rfl, _, rfl, _, _, rfl, rfl, n - 1, rfl, (by show 2 ≤ sizeLine; decide), fun t ht => ⟨t, rfl, ⟨_, SqT.of upd_same⟩, fun D hD => ?_⟩⟩
  have s1 : Same H (upd H t (.tup [V.int (if n < 0 then -n else n), V.int (if n - 1 < 0 then -(n - 1) else n - 1)])) := Same.new ht
  have e1 : [V.int (if n < 0 then -n else n), V.int (if n - 1 < 0 then -(n - 1) else n - 1)] = [(n.natAbs : Int), ((n - 1).natAbs : Int)].map V.int := by
    rw [abs_e, abs_e]
    rfl
  rw [e1] at s1 hD ⊢
  have g1 : upd H t (.tup ([(n.natAbs : Int), ((n - 1).natAbs : Int)].map V.int)) t = some (.tup ([(n.natAbs : Int), ((n - 1).natAbs : Int)].map V.int)) := upd_same
  generalize upd H t (.tup ([(n.natAbs : Int), ((n - 1).natAbs : Int)].map V.int)) = H1 at s1 g1 hD
  refine lc_tup (xs := [(n.natAbs : Int), ((n - 1).natAbs : Int)].map V.int) (fun i H' => Same H1 H' ∧ H' D = some (.lst (((([(n.natAbs : Int), ((n - 1).natAbs : Int)] : List Int).take i).filter fun o => decide (2 < o)).map V.int))) ⟨Same.new hD, upd_same⟩ (fun i H' _ p => SqT.of (p.1 _ _ g1)) ?_ ?_
  · rintro i x H2 hx ⟨p1, p2⟩
    obtain ⟨o, ho, rfl⟩ := map_at hx
    refine ⟨rfl, _, rfl, _, _, rfl, rfl, _, rfl, ?_⟩
    cases e : decide (2 < o) with
    | true =>
      refine iteP (by simpa using e) ⟨_, rfl, _, p2, len_lt ?_, Same.upd p1 hD, ?_⟩
      · rw [List.length_map]
        have := List.length_filter_le (fun o : Int => decide (2 < o)) (List.take i [(n.natAbs : Int), ((n - 1).natAbs : Int)])
        have := List.length_take_le' i [(n.natAbs : Int), ((n - 1).natAbs : Int)]
        simp only [List.length_cons, List.length_nil] at this
        omega
      · rw [upd_same, take_at ho, List.filter_append, List.map_append]
        simp only [List.filter_cons, e, List.filter_nil, if_true, List.map_cons, List.map_nil]
    | false =>
      refine iteN (by simpa using e) ⟨p1, ?_⟩
      rw [take_at ho, List.filter_append]
      simp only [List.filter_cons, e, List.filter_nil, if_neg Bool.false_ne_true, List.append_nil]
      exact p2
  · rintro H2 ⟨p1, p2⟩
    rw [List.length_map, List.take_length] at p2
    refine ⟨D, _, rfl, SqL.of p2, fun ns' p pe so hp => ⟨p, _, rfl, .inl ⟨SqL.of upd_same, fun l hl => ?_⟩⟩⟩
    have s2 : Same H (upd H2 p (.lst (ns'.map V.int))) := Same.upd (s1.trans p1) ((s1.trans p1).free hp)
    exact q l ns' _ (Same.upd s2 (s2.free hl)) (s2.free hl) upd_same pe
def spCom (K : PySem.W.Frag) : Sp := fun vs H Q _ => ∃ (a b : Addr) (L M : List Int), vs = [.ref a, .ref b] ∧ SqT K H a (L.map V.int) ∧ SqT K H b (M.map V.int) ∧ L.length ≤ 1000 ∧ M.length ≤ 50 ∧
  ∀ (p : Addr) (ns : List Int) (H' : Hp), Same H H' → H p = none → H' p = some (.tup (ns.map V.int)) → ns.Perm (comF L M) → Q (.ref p) H'
theorem sc11 : FnScope ["one", "other", "shared", "modulus", "beside", "divisor"] ["one", "other"] (defScope (top 11)) := ⟨rfl, rfl, rfl, by decide +kernel, rfl, by decide +kernel, by decide +kernel⟩
theorem ok_com {f : Addr} {fd : FuncData} (B : Bl mg) (F : Fun K "common_moduli" "common_moduli" (top 11) f fd) : FnOk P w K mg base CX0 1 f fd ["one", "other"] (spCom K) := by
  refine F.ok sc11 (fun vs H Q E h => ?_) (fun cdv A outer s H vs Q E hr h => ⟨_,
    pss_cons (ps_setLc2 (i := 2) (own := [("modulus", 3), ("beside", 4)]) (vs1 := [4]) (wi1 := iTup K (tVar 1)) (g := gName 3) (tt := tYes) (g1 := gName 4) (tt1 := tYes) rfl sc11.nd rfl rfl (sw_true rfl rfl rfl (by decide +kernel)) (pi_tup (pv 0)) (blkOk_by (N := ["one", "other", "shared", "modulus", "beside", "divisor"]) (sc := defScope (top 11)) (by decide +kernel)) (by decide)
      (fun _ _ _ _ _ => pg_name (i := 3) sc11.nd rfl (Or.inl rfl)) (fun _ _ _ _ _ => pts_nil) (fun _ _ _ _ _ => by exact (pi_tup (pv 1))) (fun _ _ _ _ _ => pg_name (i := 4) sc11.nd rfl (Or.inl rfl)) (fun _ _ _ _ _ => pts_nil)
      (fun _ _ _ _ _ => pe_callBfun cr_gcd (by rfl) B.gcd (pa_cons (pv 3) (pa_cons (pv 4) pa_nil))))
    (pss_one (ps_ret (pe_callTy call_tuple_of (by rfl) B.tuple (by decide +kernel) (pa_cons (pe_callB cr_sortedI (by rfl) B.sorted (by decide +kernel) (pa_cons
      (pe_lc (own := [("divisor", 5)]) (g := gName 5) rfl sc11.nd (pi_list (pv 2)) (blkOk_by (N := ["one", "other", "shared", "modulus", "beside", "divisor"]) (sc := defScope (top 11)) (by decide +kernel))
        (fun _ _ _ _ _ => pg_name (i := 5) sc11.nd rfl (Or.inl rfl)) (fun _ _ _ _ _ => pts_one (pt_cmpR op_gt (pv 5) pe_int (nomark _))) (fun _ _ _ _ _ => pv 5)) pa_nil)) pa_nil)))), ?_⟩)
  · obtain ⟨a, b, L, M, rfl, _⟩ := h
    rfl
  obtain ⟨a, b, L, M, rfl, hA, hB, lL, lM, q⟩ := h
  refine ⟨_, rfl, a, rfl, ⟨_, hA⟩, fun D hD => ?_⟩
  refine walk_tup (xs := L.map V.int) (fun i H' => Same H H' ∧ H' D = some (.lst ((((L.take i).flatMap fun m => M.map fun n => (Int.gcd m n : Int))).map V.int))) ⟨Same.new hD, upd_same⟩ (fun i H' _ p => Same.seqT p.1 hA) ?_ ?_
  · rintro i x H2 hx ⟨p1, p2⟩
    obtain ⟨m, hm, rfl⟩ := map_at hx
    have lt : ((L.take i).flatMap fun m => M.map fun n => (Int.gcd m n : Int)).length ≤ 50000 := by
      rw [flat_len]
      have a : (L.take i).length ≤ 1000 := Nat.le_trans (List.length_take_le' i L) lL
      exact Nat.mul_le_mul a lM
    have hi := (List.getElem?_eq_some_iff.mp hm).1
    refine ⟨rfl, _, rfl, b, rfl, ⟨_, Same.seqT p1 hB⟩, ?_⟩
    refine walk_tup (xs := M.map V.int) (fun j H' => Same H H' ∧ H' D = some (.lst ((((L.take i).flatMap fun m => M.map fun n => (Int.gcd m n : Int)) ++ (M.take j).map fun n => (Int.gcd m n : Int)).map V.int))) ⟨p1, by rw [List.take_zero, List.map_nil, List.append_nil]; exact p2⟩ (fun j H' _ p => Same.seqT p.1 hB) ?_ ?_
    · rintro j y H3 hy ⟨p3, p4⟩
      obtain ⟨n, hn, rfl⟩ := map_at hy
      refine ⟨rfl, _, rfl, _, rfl, m, n, rfl, _, p4, len_lt ?_, Same.upd p3 hD, ?_⟩
      · rw [List.length_map, List.length_append, List.length_map]
        have : (M.take j).length ≤ M.length := List.length_take_le' j M
        omega
      · rw [upd_same, take_at hn, List.map_append (l₁ := M.take j), ← List.append_assoc, List.map_append (l₂ := List.map _ [n])]
        rfl
    · rintro H3 ⟨p3, p4⟩
      rw [List.length_map, List.take_length] at p4
      refine ⟨p3, ?_⟩
      rw [p4, take_at hm, List.flatMap_append]
      simp only [List.flatMap_cons, List.flatMap_nil, List.append_nil]
  · rintro H2 ⟨p1, p2⟩
    rw [List.length_map, List.take_length] at p2
    refine ⟨_, rfl, D, rfl, ⟨_, SqL.of p2⟩, fun D2 hD2 => ?_⟩
    have lt : (L.flatMap fun m => M.map fun n => (Int.gcd m n : Int)).length ≤ 50000 := by
      rw [flat_len]
      exact Nat.mul_le_mul lL lM
    refine lc_list (xs := (L.flatMap fun m => M.map fun n => (Int.gcd m n : Int)).map V.int) (fun i H' => Same H2 H' ∧ H' D2 = some (.lst ((((L.flatMap fun m => M.map fun n => (Int.gcd m n : Int)).take i).filter fun o => decide (2 < o)).map V.int))) ⟨Same.new hD2, upd_same⟩ (fun i H' _ p => p.1.seq (SqL.of p2)) ?_ ?_
    · rintro i x H3 hx ⟨p3, p4⟩
      obtain ⟨o, ho, rfl⟩ := map_at hx
      refine ⟨rfl, _, rfl, _, _, rfl, rfl, _, rfl, ?_⟩
      cases e : decide (2 < o) with
      | true =>
        refine iteP (by simpa using e) ⟨_, rfl, _, p4, len_lt ?_, Same.upd p3 hD2, ?_⟩
        · rw [List.length_map]
          have a := List.length_filter_le (fun o : Int => decide (2 < o)) (List.take i (L.flatMap fun m => M.map fun n => (Int.gcd m n : Int)))
          have b := List.length_take_le' i (L.flatMap fun m => M.map fun n => (Int.gcd m n : Int))
          omega
        · rw [upd_same, take_at ho, List.filter_append, List.map_append]
          simp only [List.filter_cons, e, List.filter_nil, if_true, List.map_cons, List.map_nil]
      | false =>
        refine iteN (by simpa using e) ⟨p3, ?_⟩
        rw [take_at ho, List.filter_append]
        simp only [List.filter_cons, e, List.filter_nil, if_neg Bool.false_ne_true, List.append_nil]
        exact p4
    · rintro H3 ⟨p3, p4⟩
      rw [List.length_map, List.take_length] at p4
      refine ⟨D2, _, rfl, SqL.of p4, fun ns' p pe so hp => ⟨p, _, rfl, .inl ⟨SqL.of upd_same, fun l hl => ?_⟩⟩⟩
      have s1 : Same H H3 := p1.trans p3
      have s2 : Same H (upd H3 p (.lst (ns'.map V.int))) := Same.upd s1 (s1.free hp)
      exact q l ns' _ (Same.upd s2 (s2.free hl)) (s2.free hl) upd_same pe
end
end KV

/-! the program: the lot of counts, doubts -/
namespace KV
open PySem PySem.Spec PyProof.Rows L2 KM
/-- None, or a tuple of moduli -/
def LotVal (H : Hp) (u : V) : Option (List Int) → Prop
  | none => u = .non
  | some L => ∃ p : Addr, u = .ref p ∧ H p = some (.tup (L.map V.int))
theorem LotVal.same {H H' : Hp} {u : V} {o : Option (List Int)} (s : Same H H') (h : LotVal H u o) : LotVal H' u o := by
  cases o with
  | none => exact h
  | some L =>
    obtain ⟨p, e, h⟩ := h
    exact ⟨p, e, s _ _ h⟩
/-- the ints of such a value -/
theorem valA_ints {K : PySem.W.Frag} {H : Hp} {v : V} {ns : List Int} (h : ValA K H v (some (ns.map V.int))) : ∃ a : Addr, v = .ref a ∧ SqA K H a (ns.map V.int) ∧ ns.length ≤ 9 ∧ ∀ n ∈ ns, sm 120 n := by
  obtain ⟨a, e, h1, _, h2, h3⟩ := h
  refine ⟨a, e, h1, by rw [List.length_map] at h3; exact h3, fun n hn => ?_⟩
  rcases h2 _ (List.mem_map.mpr ⟨n, hn, rfl⟩) with ⟨i, e, z⟩ | ⟨z, _⟩
  · rw [V.int.inj e]
    exact z
  · exact absurd rfl (z n)
def isDV (ns : List Int) (n : Int) : V → Bool
  | .int k => decide (isD ns n k)
  | _ => false
section
variable {P : Program} {w : World} {K : PySem.W.Frag} {mg : Str → Option Value} {base : Heap} {C fI : Addr}
def spLotOf (K : PySem.W.Frag) (C : Addr) : Sp := fun vs H Q E => ∃ (v : V) (ms : Option (List V)), vs = [v] ∧ ValA K H v ms ∧
  ((isIs ms = false ∧ BadA C 0 H E) ∨ ∃ ns : List Int, ms = some (ns.map V.int) ∧ ∀ (u : V) (o : Option (List Int)) (H' : Hp), Same H H' → LotVal H' u o → LotI ns o → Q u H')
theorem sc13 : FnScope ["counts", "lot", "count", "alone"] ["counts"] (defScope (top 13)) := ⟨rfl, rfl, rfl, by decide +kernel, rfl, by decide +kernel, by decide +kernel⟩
theorem ok_lotOf {f : Addr} {fd : FuncData} (CK : Cal P w K mg base (L2.CX P w) 2 "check_integers" ["value", "at"] (spChk K C)) (CP : Cal P w K mg base CX0 1 "_is_plain" ["count"] spPlain) (CO : Cal P w K mg base CX0 1 "_lot_of_one" ["count"] spOne)
    (CC : Cal P w K mg base CX0 1 "common_moduli" ["one", "other"] (spCom K)) (F : Fun K "lot_of" "lot_of" (top 13) f fd) : FnOk P w K mg base (L2.CX P w) 3 f fd ["counts"] (spLotOf K C) := by
  refine F.okX sc13 (fun vs H Q E h => ?_) (fun cdv A outer s H vs Q E hr h => ⟨_,
    pss_cons (ps_expr (by exact (pe_calX CK hr (by decide) (takes_of rfl rfl rfl rfl) (fun _ _ _ _ z => z) (pa_cons (pv 0) (pa_cons pe_int pa_nil)))))
    (pss_cons (ps_set (i := 1) sc13.nd rfl (.inl rfl) pe_non)
    (pss_cons (ps_for (passes_of rfl) rfl (pi_sq (pv 0)) (pg_name (i := 2) sc13.nd rfl (.inl rfl))
      (pss_one (ps_if (pt_not (pt_val (by exact (pe_cal CP hr (by decide) (pa_cons (pv 2) pa_nil)))))
        (pss_cons (ps_set (i := 3) sc13.nd rfl (.inl rfl) (by exact (pe_cal CO hr (by decide) (pa_cons (pv 2) pa_nil))))
        (pss_one (ps_set (i := 1) sc13.nd rfl (.inl rfl) (pe_ifExp (pt_cmpR op_isN (pv 1) pe_non (nomark _)) (pv 3) (by exact (pe_cal CC hr (by decide) (pa_cons (pv 1) (pa_cons (pv 3) pa_nil)))))))) pss_nil)))
    (pss_one (ps_ret (pv 1))))), ?_⟩)
  · obtain ⟨v, ms, rfl, _⟩ := h
    rfl
  obtain ⟨v, ms, rfl, hv, h⟩ := h
  refine ⟨_, rfl, v, 0, ms, rfl, hv, fun ht H1 s1 => ?_, fun hf => ?_⟩
  · rcases h with ⟨hf, _⟩ | ⟨ns, rfl, q⟩
    · rw [ht] at hf
      cases hf
    obtain ⟨a, rfl, hS, hl, hb⟩ := valA_ints (hv.same s1)
    dsimp only [gName]
    refine ⟨_, rfl, a, rfl, for_sq hS (fun i σ H' => Same H1 H' ∧ ∃ (u : V) (o : Option (List Int)) (v2 v3 : Option V), σ = [some (.ref a), some u, v2, v3] ∧ LotVal H' u o ∧ LotI (ns.take i) o) ⟨Same.refl H1, .non, none, none, none, rfl, rfl, LotI.nil⟩ (fun i σ H' _ p => Ke.of p.1) ?_ ?_⟩
    · rintro i x σ H2 hx ⟨s2, u, o, v2, v3, rfl, hu, hL⟩
      obtain ⟨n, hn, rfl⟩ := map_at hx
      have en : ns.take (i + 1) = ns.take i ++ [n] := take_at hn
      refine ⟨_, rfl, n, rfl, _, rfl, ?_⟩
      by_cases hp : pln n
      · refine iteN (by simp [hp]) ⟨s2, u, o, _, _, rfl, hu, ?_⟩
        rw [en]
        exact hL.pln hp
      · refine iteP (by simp [hp]) ⟨_, rfl, n, rfl, fun p M H3 s3 p0 p1 pm => ?_⟩
        dsimp only [gName]
        refine ⟨_, rfl, rfl, _, rfl, ?_⟩
        cases o with
        | none =>
          obtain rfl : u = .non := hu
          refine iteP (by simp) ⟨_, rfl, s2.trans s3, _, some M, _, _, rfl, ⟨p, rfl, p1⟩, ?_⟩
          rw [en]
          exact hL.first hp pm
        | some L =>
          obtain ⟨l, rfl, hl3⟩ := hu
          have ll : L.length ≤ 1000 := by
            have h3 := hL.2.2
            have : (ns.take i).length ≤ 9 := Nat.le_trans (List.length_take_le' i ns) hl
            have := Nat.pow_le_pow_right (show 0 < 2 by decide) this
            omega
          refine iteN (by simp) ⟨_, rfl, _, rfl, l, p, L, M, rfl, SqT.of (s3 _ _ hl3), SqT.of p1, ll, ?_, fun r R H4 s4 _ r1 pr => ?_⟩
          · have := ones_len n
            rw [← pm.length_eq] at this
            omega
          · refine ⟨s2.trans (s3.trans s4), _, some R, _, _, rfl, ⟨r, rfl, r1⟩, ?_⟩
            rw [en]
            exact hL.next hp pm pr
    · rintro σ H2 ⟨s2, u, o, v2, v3, rfl, hu, hL⟩
      rw [List.length_map, List.take_length] at hL
      exact ⟨_, rfl, q u o H2 (s1.trans s2) hu hL⟩
  · rcases h with ⟨_, z⟩ | ⟨ns, rfl, q⟩
    · exact z
    · rw [isIs_int] at hf
      cases hf
end
end KV

/-! the law: counts, what is none, parts, doubts -/
namespace KV
open PySem PySem.Spec PyProof.Rows L2 KM
section
variable {P : Program} {w : World} {K : PySem.W.Frag} {mg : Str → Option Value} {base : Heap}
/-- a list or a tuple of ints -/
def IsSq (H : Hp) (a : Addr) (ns : List Int) : Prop := H a = some (.lst (ns.map V.int)) ∨ H a = some (.tup (ns.map V.int))
def spNo (K : PySem.W.Frag) : Sp := fun vs H Q _ => ∃ (d c a : Addr) (ns : List Int), vs = [.ref d, .ref a] ∧ Dl H d c ∧ a ≠ d ∧ a ≠ c ∧ IsSq H a ns ∧ ns.length ≤ 7 ∧ (∀ n ∈ ns, sm 105 n) ∧
  ∀ (v : V) (ms : Option (List V)) (H' : Hp), ValA K H' v ms → isIs ms = false → (∀ b, v = .ref b → b ≠ d ∧ b ≠ c) → Dl H' d c → Kp d c H H' → Q v H'
theorem sc29 : FnScope ["_law_deal", "_law_counts", "_law_odd"] ["_law_deal", "_law_counts"] (defScope (top 29)) := ⟨rfl, rfl, rfl, by decide +kernel, rfl, by decide +kernel, by decide +kernel⟩
theorem ok_no {f : Addr} {fd : FuncData} (B : Bl mg) (CO : Cal P w K mg base CX0 2 "_law_of" ["_law_deal", "_law_some_here"] (spOf K)) (F : Fun K "_law_no_counts" "_law_no_counts" (top 29) f fd) : FnOk P w K mg base CX0 3 f fd ["_law_deal", "_law_counts"] (spNo K) := by
  refine F.ok sc29 (fun vs H Q E h => ?_) (fun cdv A outer s H vs Q E hr h => ⟨_,
    (pss_cons (ps_set (i := 2) sc29.nd rfl (.inl rfl) (by exact (pe_cal (X := L2.Cx.nox _) CO hr (by decide) (pa_cons (pv 0) (pa_cons (pe_lst (pa_cons pe_non (pa_cons pe_bl (pa_cons pe_str (pa_cons (pe_tup (pa_cons pe_int pa_nil)) (pa_cons pe_bl pa_nil)))))) pa_nil)))))
    (pss_one (ps_ret (by exact (pe_cal (X := L2.Cx.nox _) CO hr (by decide) (pa_cons (pv 0) (pa_cons (pe_lst (pa_cons pe_non (pa_cons pe_int (pa_cons pe_str (pa_cons pe_dnewK (pa_cons (pe_op op_cat (pe_callTy call_list_of (by rfl) B.list (by decide +kernel) (pa_cons (pv 1) pa_nil)) (pe_lst (pa_cons (pv 2) pa_nil))) (pa_cons (pe_op op_catA (pe_tup (pa_cons (pv 2) pa_nil)) (pe_callTy call_tuple_of (by rfl) B.tuple (by decide +kernel) (pa_cons (pv 1) pa_nil))) pa_nil))))))) pa_nil))))))), ?_⟩)
  · obtain ⟨d, c, a, ns, rfl, _⟩ := h
    rfl
  obtain ⟨d, c, a, ns, rfl, hD, ad, ac, hS, hl, hb, q⟩ := h
  have dne : ∀ {G : Hp} {p : Addr} {o : HO}, Dl G d c → G p = some o → (∀ xs, o ≠ .lst xs) → p ≠ d ∧ p ≠ c := by
    intro G p o D e z
    obtain ⟨_, cs, b, h1, h2, _⟩ := D
    exact ⟨fun y => z _ (by rw [y, h1] at e; exact (Option.some.inj e).symm), fun y => z _ (by rw [y, h2] at e; exact (Option.some.inj e).symm)⟩
  refine ⟨_, rfl, (by show 1 ≤ sizeLine; decide), fun t ht => ⟨(by show 5 ≤ sizeLine; decide), fun a1 ha1 => ?_⟩⟩
  have t1 : upd (upd H t (.tup [V.int 3])) a1 (.lst [V.non, V.bl true, V.str "3", V.ref t, V.bl false]) t = some (.tup [V.int 3]) := by
    rw [upd_ne (ne_of_none upd_same ha1)]
    exact upd_same
  have s1 : Same H (upd (upd H t (.tup [V.int 3])) a1 (.lst [V.non, V.bl true, V.str "3", V.ref t, V.bl false])) := (Same.new ht).trans (Same.new ha1)
  have D1 := hD.same s1
  have a1d := (hD.same (Same.new (o := .tup [V.int 3]) ht)).ne ha1
  refine ⟨d, c, a1, _, rfl, D1, a1d.1, a1d.2, SqL.of upd_same, Nat.succ_pos _, (by show 5 ≤ 1000; decide), fun j x H4 hx D4 k4 => ?_⟩
  have td := dne D1 t1 (fun _ z => by cases z)
  have t4 := k4 _ _ td.1 td.2 t1
  have K4 : Kp d c H H4 := (Kp.of s1).trans k4
  have hx2 := List.mem_of_getElem? hx
  have hxI : isI x = false ∧ ∀ G : Hp, G t = some (.tup [V.int 3]) → Itm K G x := by
    simp at hx2
    rcases hx2 with rfl | rfl | rfl | rfl | rfl
    · exact ⟨rfl, fun G _ => .inr ⟨fun _ z => (by cases z), _, .base .non, .inr (.inl rfl)⟩⟩
    · exact ⟨rfl, fun G _ => .inr ⟨fun _ z => (by cases z), _, .base (.bl true), .inl rfl⟩⟩
    · exact ⟨rfl, fun G _ => .inr ⟨fun _ z => (by cases z), _, .base (.str _), .inr (.inr (.inl rfl))⟩⟩
    · exact ⟨rfl, fun G g => .inr ⟨fun _ z => (by cases z), _, .base (.tup g), .inr (.inr (.inr rfl))⟩⟩
    · exact ⟨rfl, fun G _ => .inr ⟨fun _ z => (by cases z), _, .base (.bl false), .inl rfl⟩⟩
  have hS4 : IsSq H4 a ns := hS.imp (fun h => K4 _ _ ad ac h) (fun h => K4 _ _ ad ac h)
  clear hx2 hx
  dsimp only [gName]
  refine ⟨_, rfl, fun dd hdd => ⟨_, rfl, a, _, rfl, hS4.imp (fun h => SqL.of (Same.new hdd _ _ h)) (fun h => SqT.of (Same.new hdd _ _ h)), fun l1 hl1 => ⟨_, rfl, (by show 1 ≤ sizeLine; decide), fun l2 hl2 => ⟨l1, l2, ns.map V.int, [x], rfl, rfl, by rw [upd_ne (ne_of_none upd_same hl2)]; exact upd_same, upd_same, ?_, fun l3 hl3 => ?_⟩⟩⟩⟩
  · rw [List.length_map]
    exact Nat.le_of_lt (len_lt (by simp only [List.length_cons, List.length_nil]; omega))
  have s2 : Same H4 (upd H4 dd (.dK [])) := Same.new hdd
  have s3 := s2.trans (Same.new (o := .lst (ns.map V.int)) hl1)
  have s4 := s3.trans (Same.new (o := .lst [x]) hl2)
  have s5 := s4.trans (Same.new (o := .lst (ns.map V.int ++ [x])) hl3)
  have d5 : upd (upd (upd (upd H4 dd (.dK [])) l1 (.lst (ns.map V.int))) l2 (.lst [x])) l3 (.lst (ns.map V.int ++ [x])) dd = some (.dK []) := (((Same.new hl1).trans (Same.new hl2)).trans (Same.new hl3)) _ _ upd_same
  have l5 : upd (upd (upd (upd H4 dd (.dK [])) l1 (.lst (ns.map V.int))) l2 (.lst [x])) l3 (.lst (ns.map V.int ++ [x])) l3 = some (.lst (ns.map V.int ++ [x])) := upd_same
  have ld := (D4.same s4).ne hl3
  generalize upd (upd (upd (upd H4 dd (.dK [])) l1 (.lst (ns.map V.int))) l2 (.lst [x])) l3 (.lst (ns.map V.int ++ [x])) = H5 at s5 d5 l5
  have D5 := D4.same s5
  have dd5 := dne D5 d5 (fun _ z => by cases z)
  have fin : ∀ (tp : Addr) (H6 : Hp), Same H5 H6 → H6 tp = some (.tup (x :: ns.map V.int)) → ∀ (j : Nat) (y : V) (H7 : Hp), [V.non, .int 5, .str "35", .ref dd, .ref l3, .ref tp][j]? = some y → Dl H7 d c → Kp d c H6 H7 → Q y H7 := by
    intro tp H6 s6 h6 j y H7 hy D7 k7
    have k57 : Kp d c H5 H7 := (Kp.of s6).trans k7
    have K7 : Kp d c H H7 := (K4.trans (Kp.of s5)).trans k57
    have tp6 := dne (D5.same s6) h6 (fun _ z => by cases z)
    have t7 : H7 t = some (.tup [V.int 3]) := k57 _ _ td.1 td.2 (s5 _ _ t4)
    have d7 := k57 _ _ dd5.1 dd5.2 d5
    have l7 := k57 _ _ ld.1 ld.2 l5
    have p7 := k7 _ _ tp6.1 tp6.2 h6
    have xi := hxI.2 H7 t7
    have itz : ∀ z ∈ ns.map V.int, Itm K H7 z := fun z hz => by
      obtain ⟨n, hn, rfl⟩ := List.mem_map.mp hz
      exact .inl ⟨n, rfl, sm_mono (hb n hn) (by decide)⟩
    have hy2 := List.mem_of_getElem? hy
    simp at hy2
    rcases hy2 with rfl | rfl | rfl | rfl | rfl | rfl
    · exact q _ none H7 ⟨_, .base .non, .inl rfl⟩ rfl (fun _ z => by cases z) D7 K7
    · exact q _ none H7 ⟨_, .base (.int 5), .inr (.inl rfl)⟩ rfl (fun _ z => by cases z) D7 K7
    · exact q _ none H7 ⟨_, .base (.str _), .inr (.inr (.inl rfl))⟩ rfl (fun _ z => by cases z) D7 K7
    · exact q _ none H7 ⟨_, .base (.dK d7), .inr (.inr (.inr rfl))⟩ rfl (fun b z => by cases z; exact dd5) D7 K7
    · refine q _ (some (ns.map V.int ++ [x])) H7 ⟨l3, rfl, .inl (SqL.of l7), ⟨_, .base (.lst l7), .inl rfl⟩, fun z hz => ?_, ?_⟩ ?_ (fun b z => by cases z; exact ld) D7 K7
      · rcases List.mem_append.mp hz with z1 | z1
        · exact itz z z1
        · have : z = x := by simpa using z1
          rw [this]
          exact xi
      · rw [List.length_append, List.length_map, List.length_singleton]
        omega
      · show (ns.map V.int ++ [x]).all isI = false
        rw [List.all_append, List.all_cons, hxI.1]
        simp
    · refine q _ (some (x :: ns.map V.int)) H7 ⟨tp, rfl, .inr (SqT.of p7), ⟨_, .base (.tup p7), .inr rfl⟩, fun z hz => ?_, ?_⟩ ?_ (fun b z => by cases z; exact tp6) D7 K7
      · rcases List.mem_cons.mp hz with z1 | z1
        · rw [z1]
          exact xi
        · exact itz z z1
      · rw [List.length_cons, List.length_map]
        omega
      · show (x :: ns.map V.int).all isI = false
        rw [List.all_cons, hxI.1]
        rfl
  refine ⟨_, rfl, (by show 1 ≤ sizeLine; decide), fun t1 ht1 => ?_⟩
  have u1 : upd H5 t1 (.tup [x]) t1 = some (.tup [x]) := upd_same
  have s6 : Same H5 (upd H5 t1 (.tup [x])) := Same.new ht1
  generalize upd H5 t1 (.tup [x]) = H6 at u1 s6
  have lz : ([x] : List V).length + (ns.map V.int).length ≤ sizeLine := by
    rw [List.length_map]
    exact Nat.le_of_lt (len_lt (by simp only [List.length_cons, List.length_nil]; omega))
  rcases hS4 with hS4 | hS4
  · refine ⟨_, rfl, a, _, rfl, .inl ⟨SqL.of (s6 _ _ (s5 _ _ hS4)), fun u hu => ?_⟩⟩
    have s7 : Same H6 (upd H6 u (.tup (ns.map V.int))) := Same.new hu
    have u7 : upd H6 u (.tup (ns.map V.int)) u = some (.tup (ns.map V.int)) := upd_same
    generalize upd H6 u (.tup (ns.map V.int)) = H7 at s7 u7
    refine ⟨t1, u, [x], ns.map V.int, rfl, rfl, SqT.of (s7 _ _ u1), SqT.of u7, lz, fun z => (by cases z), fun _ z => ?_, fun _ _ p hp => ?_⟩
    · refine ⟨(by show 6 ≤ sizeLine; decide), fun l6 h6 => ⟨d, c, l6, _, rfl, (D5.same (s6.trans s7)).same (Same.new h6), ((D5.same (s6.trans s7)).ne h6).1, ((D5.same (s6.trans s7)).ne h6).2, SqL.of upd_same, Nat.succ_pos _, (by show 6 ≤ 1000; decide), fun j y H8 hy D8 k8 => fin t1 _ ((s6.trans s7).trans (Same.new h6)) ?_ j y H8 hy D8 k8⟩⟩
      rw [upd_ne (ne_of_none (s7 _ _ u1) h6), z]
      exact s7 _ _ u1
    · refine ⟨(by show 6 ≤ sizeLine; decide), fun l6 h6 => ?_⟩
      have D9 := D5.same ((s6.trans s7).trans (Same.new (o := .tup ([x] ++ ns.map V.int)) hp))
      refine ⟨d, c, l6, _, rfl, D9.same (Same.new h6), (D9.ne h6).1, (D9.ne h6).2, SqL.of upd_same, Nat.succ_pos _, (by show 6 ≤ 1000; decide), fun j y H8 hy D8 k8 => fin p _ (((s6.trans s7).trans (Same.new hp)).trans (Same.new h6)) ?_ j y H8 hy D8 k8⟩
      rw [upd_ne (ne_of_none upd_same h6)]
      exact upd_same
  · refine ⟨_, rfl, a, _, rfl, .inr ⟨SqT.of (s6 _ _ (s5 _ _ hS4)), ?_⟩⟩
    refine ⟨t1, a, [x], ns.map V.int, rfl, rfl, SqT.of u1, SqT.of (s6 _ _ (s5 _ _ hS4)), lz, fun z => (by cases z), fun _ z => ?_, fun _ _ p hp => ?_⟩
    · refine ⟨(by show 6 ≤ sizeLine; decide), fun l6 h6 => ⟨d, c, l6, _, rfl, (D5.same s6).same (Same.new h6), ((D5.same s6).ne h6).1, ((D5.same s6).ne h6).2, SqL.of upd_same, Nat.succ_pos _, (by show 6 ≤ 1000; decide), fun j y H8 hy D8 k8 => fin t1 _ (s6.trans (Same.new h6)) ?_ j y H8 hy D8 k8⟩⟩
      rw [upd_ne (ne_of_none u1 h6), z]
      exact u1
    · refine ⟨(by show 6 ≤ sizeLine; decide), fun l6 h6 => ?_⟩
      have D9 := D5.same (s6.trans (Same.new (o := .tup ([x] ++ ns.map V.int)) hp))
      refine ⟨d, c, l6, _, rfl, D9.same (Same.new h6), (D9.ne h6).1, (D9.ne h6).2, SqL.of upd_same, Nat.succ_pos _, (by show 6 ≤ 1000; decide), fun j y H8 hy D8 k8 => fin p _ ((s6.trans (Same.new hp)).trans (Same.new h6)) ?_ j y H8 hy D8 k8⟩
      rw [upd_ne (ne_of_none upd_same h6)]
      exact upd_same
end
end KV

/-! a comprehension within a comprehension's block -/
namespace KV
open PySem PySem.Spec PyProof.Rows L2 KM
def rLenQ (K : PySem.W.Frag) : List V → Hp → VK → Prop := fun xs H Q => ∃ p ys, xs = [V.ref p] ∧ (SqL K H p ys ∨ SqT K H p ys) ∧ Q (V.int (ys.length : Nat)) H
theorem call_lenQ {X : Cx} : CallR X (Value.builtin "len") (rLenQ X.K) := call_len_seq
theorem look_relabel {env : Env} : ∀ {names : List (Str × NameKind)} {x : Str}, names.lookup x = some .cell ∨ names.lookup x = some .free →
    (names.map fun (n, k) => if (k == NameKind.free && env.scope.kind == .function && env.kindOf n == some .cell) then (n, NameKind.cell) else (n, k)).lookup x = some .cell ∨
    (names.map fun (n, k) => if (k == NameKind.free && env.scope.kind == .function && env.kindOf n == some .cell) then (n, NameKind.cell) else (n, k)).lookup x = some .free
  | [], _, h => by simp at h
  | (n, k) :: r, x, h => by
    have ih := @look_relabel env r x
    show List.lookup x ((if (k == NameKind.free && env.scope.kind == .function && env.kindOf n == some .cell) = true then (n, NameKind.cell) else (n, k)) :: _) = _ ∨ List.lookup x ((if (k == NameKind.free && env.scope.kind == .function && env.kindOf n == some .cell) = true then (n, NameKind.cell) else (n, k)) :: _) = _
    cases hx : x == n with
    | true =>
      simp only [List.lookup_cons, hx] at h
      by_cases z : (k == NameKind.free && env.scope.kind == .function && env.kindOf n == some .cell) = true
      · rw [if_pos z]
        simp only [List.lookup_cons, hx]
        first | exact .inl rfl | exact .inl trivial
      · rw [if_neg z]
        simp only [List.lookup_cons, hx]
        exact h
    | false =>
      simp only [List.lookup_cons, hx] at h
      have ih := ih h
      by_cases z : (k == NameKind.free && env.scope.kind == .function && env.kindOf n == some .cell) = true
      · rw [if_pos z]
        simp only [List.lookup_cons, hx]
        exact ih
      · rw [if_neg z]
        simp only [List.lookup_cons, hx]
        exact ih
theorem pe_lcN {X : Cx} {s0 : Shared} {H0 : Hp} {scope0 : Scope} {C0 : Addr} {cl0 : List (Str × Addr)} {fp0 : List Addr} {elt tg iter : Expr} {ifs : List Expr} {scope : Scope} {own : List (Str × Nat)} {pos : Pos} {wi : TI} {g : TG} {tt : TT} {te : TE} (N : List Str)
    (hc : X.calm = true) (hN : X.N.Nodup) (hi : PI (X.blk s0 H0 scope0 (compEnvC scope0 cl0 C0 X.env) fp0) tg iter wi) (hX : X.N = N) (ok : blkC N scope0 scope own = true)
    (hg : ∀ (s : Shared) (H : Hp) (C : Addr) (cl : List (Str × Addr)) (fp : List Addr), PG ((X.blk s0 H0 scope0 (compEnvC scope0 cl0 C0 X.env) fp0).blk s H scope (compEnvC scope cl C (compEnvC scope0 cl0 C0 X.env)) fp) tg g)
    (ht : ∀ (s : Shared) (H : Hp) (C : Addr) (cl : List (Str × Addr)) (fp : List Addr), PTs ((X.blk s0 H0 scope0 (compEnvC scope0 cl0 C0 X.env) fp0).blk s H scope (compEnvC scope cl C (compEnvC scope0 cl0 C0 X.env)) fp) ifs tt)
    (he : ∀ (s : Shared) (H : Hp) (C : Addr) (cl : List (Str × Addr)) (fp : List Addr), PE ((X.blk s0 H0 scope0 (compEnvC scope0 cl0 C0 X.env) fp0).blk s H scope (compEnvC scope cl C (compEnvC scope0 cl0 C0 X.env)) fp) elt te)
    (hs : ∀ x, foldedSetIterable iter (compEnvC scope0 cl0 C0 X.env) x = pure x := by intro _; rfl) :
    PE (X.blk s0 H0 scope0 (compEnvC scope0 cl0 C0 X.env) fp0) (.ListComp elt [⟨tg, iter, ifs, 0⟩] scope pos) (tLc wi g tt te (own.map (·.2))) :=
  pe_lc (X := X.blk s0 H0 scope0 (compEnvC scope0 cl0 C0 X.env) fp0) hc hN hi (by
    have e : BlkOk N scope0 scope own := blkOk_by ok
    rw [← hX] at e
    exact ⟨e.kind, e.uniq, e.ix, fun y hy z => look_relabel (env := X.env) (e.free y hy z), e.own⟩) hg ht he hs
end KV

/-! enumerate(tuple) in a for -/
namespace KV
open PySem PySem.Spec PyProof.Rows L2
open AutoSeq1 (wpAny_loadPart')
/-- what stands behind enumerate(t) -/
def enumHeap (hp : Heap) (a : Addr) : Heap :=
  (hp.push { cls := .type "tuple_iterator", data := .fields #[.ref a, .int 0 0] }).push { cls := .type "enumerate", data := .fields #[.none, .bool false, .ref hp.objs.size, rawInt 0, .none, .none] }
theorem enum_newT (a : Addr) (xs : Array Value) (k : Nat) (dd : Option Addr) (sl : Array (Option Value)) :
    Meets (Builtin.«enumerate.__new__» ⟨[.type "enumerate", .ref a], []⟩) (fun _ R st => st.heap.get? a = some { cls := .type "tuple", dict := dd, data := .seq xs k, slots := sl } ∧
      R (.ok (.ret (.ref (st.heap.push { cls := .type "tuple_iterator", data := .fields #[.ref a, .int 0 0] }).objs.size))) { st with heap := enumHeap st.heap a }) :=
  .of_wp fun P w B R st z => by
    obtain ⟨hp, gn, dr, tk, os⟩ := st; obtain ⟨ho, z⟩ := z
    have hsub := sub_enumerate
    have hT : Heap.IsTuple (Shared.heap ⟨hp, gn, dr, tk, os⟩) a xs := ⟨_, ho, rfl, k, rfl⟩
    wp_walk using wpAny_loadPart' ho
    refine wpAny_stack_any fun stk => wpAny_pure ?_
    split
    · rename_i c _ _ _ _ _
      cases (c == Value.type "enumerate")
      · wp_walk using wpAny_loadPart' ho, wpAny_pyIter_tuple hT
        exact ⟨_, rfl, z⟩
      · wp_walk using wpAny_loadPart' ho, wpAny_pyIter_tuple hT
        exact ⟨_, rfl, z⟩
    · wp_walk using wpAny_loadPart' ho, wpAny_pyIter_tuple hT
      exact ⟨_, rfl, z⟩
theorem call_enumT {P : Program} {w : World} {B : Around} {E : Value → Shared → Prop} {st : Shared} {a : Addr} {xs : Array Value} {Q : Value → Shared → Prop} (hT : IsTup st.heap a xs)
    (z : IsEnum (enumHeap st.heap a) (st.heap.objs.size + 1) st.heap.objs.size 0 .none → (enumHeap st.heap a).IsTupleIter st.heap.objs.size a 0 →
      (∀ b o, st.heap.get? b = some o → (enumHeap st.heap a).get? b = some o) → Q (.ref (st.heap.objs.size + 1)) { st with heap := enumHeap st.heap a }) :
    wpAny (model P w) B (call (.type "enumerate") [.ref a]) Q E st := by
  obtain ⟨⟨c, dd, dt, sl⟩, ho, hc, k, hd⟩ := hT
  have hc2 : c = .type "tuple" := hc
  have hd2 : dt = .seq xs k := hd
  subst hc2 hd2
  refine callType_new F.called_enumerate (by decide) (F.typeCall_enumerate_1 _) (F.newCall_enumerate_1 _) (fun obj => F.args_object_init_2 obj _) F.entry_enumerate_new (enum_newT a xs k dd sl) ⟨ho, ?_⟩
  have one : (st.heap.push { cls := .type "tuple_iterator", data := .fields #[.ref a, .int 0 0] }).objs.size = st.heap.objs.size + 1 := Heap.size_push ..
  show _ ∧ _
  rw [one]
  have en : IsEnum (enumHeap st.heap a) (st.heap.objs.size + 1) st.heap.objs.size 0 .none := by
    have q := Heap.get?_push_size (st.heap.push { cls := .type "tuple_iterator", data := .fields #[.ref a, .int 0 0] })
      (o := { cls := .type "enumerate", data := .fields #[.none, .bool false, .ref st.heap.objs.size, rawInt 0, .none, .none] }) rfl
    rw [one] at q
    exact q
  exact ⟨⟨_, en, rfl⟩, z en ⟨_, Heap.get?_push_of_some _ (Heap.get?_push_size _ rfl), rfl, rfl⟩ fun b o x => Heap.get?_push_of_some _ (Heap.get?_push_of_some _ x)⟩
/-- each item of the tuple at a, in a new pair -/
def Iet (K : PySem.W.Frag) (a : Addr) : It :=
  ⟨fun i H => ∃ (xs : List V) (x : V), SqT K H a xs ∧ xs[i]? = some x,
   fun i H v H' => ∃ T x, v = .ref T ∧ H T = none ∧ H' = upd H T (.tup [.int (i : Nat), x]) ∧ ∀ xs, SqT K H a xs → xs[i]? = some x,
   fun i H => ∃ xs : List V, SqT K H a xs ∧ xs.length ≤ i⟩
theorem turn_enumT {P : Program} {w : World} {K : PySem.W.Frag} {elts : List Expr} {kk : Nat} {tpos : Pos} (a e it : Addr) (hai : a ≠ it) (hea : e ≠ a) :
    Turn P w K (.Tuple elts kk tpos) (Iet K a) [e, it] e (fun i h => (∃ old, IsEnum h e it ((i : Nat) : Int) old) ∧ h.IsTupleIter it a i ∧ e ≠ it) where
  mem := by simp
  self := fun B i st Q E q z => let ⟨⟨_, he⟩, _⟩ := q; wpAny_pyIter_enum he z
  obj := fun i h q b hb => by
    obtain ⟨⟨old, he⟩, ⟨o, ho, hc, hd⟩, _⟩ := q
    rcases (show b = e ∨ b = it by simpa using hb) with z | z
    · rw [z]
      exact ⟨_, he, fun v y => nomatch y⟩
    · rw [z]
      exact ⟨o, ho, fun v y => by rw [hd] at y; cases y⟩
  keep := fun i h h' q k => let ⟨⟨old, he⟩, hi, hne⟩ := q; ⟨⟨old, k e (by simp) _ he⟩, hi.at fun o y => k it (by simp) o y, hne⟩
  item := by
    intro X hP hw hK hc i pins st σ H E I hf q hg
    subst hP hw hK
    obtain ⟨⟨old, he⟩, hit, hne⟩ := q
    obtain ⟨xs, x, hq, hx⟩ := hg
    obtain ⟨its, rv, p, hz⟩ := I.tuple hq
    obtain ⟨u, hu, ru⟩ := rv.get hx
    have el : e < st.heap.objs.size := Heap.lt_size he
    have il : it < st.heap.objs.size := by obtain ⟨_, y, _⟩ := hit; exact Heap.lt_size y
    have D := Draws.tuple (prog := X.prog) (w := X.w) (A := X.A.in1) (by exact I.ok.hd hc) it a hai its.toArray
    have hlt : i < its.toArray.size := by
      obtain ⟨y, _⟩ := List.getElem?_eq_some_iff.mp hu
      simpa using y
    refine wpAny_pyNext_enum_itemD D he ⟨hit, p⟩ hlt hne (by simp; exact ⟨hne, hea⟩) fun v h' tk hv ho hst hT hsz hk => ?_
    have huv : v = u := by
      have y : its.toArray[i]? = some v := hv
      have y2 : its.toArray[i]? = some u := by simpa using hu
      rw [y2] at y
      exact (Option.some.inj y).symm
    subst huv
    refine ⟨_, rfl, wpAny_letOwnedTupleGo_enum (s := { st with heap := h', toks := tk + 1 }) ho fun h2 he2 sb => ?_⟩
    have hT2 : h2.get? st.heap.objs.size = some { cls := .type "tuple", data := .seq #[.int i tk, v] } := (sb.2 _ (Nat.ne_of_gt el)).trans hT
    have new : ObjOk X.prog X.w (upd H st.heap.objs.size (.tup [.int (i : Nat), x])) h2 st.heap.objs.size (.tup [.int (i : Nat), x]) :=
      ⟨by show 2 ≤ sizeLine; decide, [.int i tk, v], .cons ⟨_, rfl⟩ (.cons ru .nil), ⟨_, hT2, rfl, _, rfl⟩⟩
    have I2 : Inv X pins σ (upd H st.heap.objs.size (.tup [.int (i : Nat), x])) { st with heap := h2, toks := tk + 1 } :=
      I.turnedNew (ch := [e, it]) (fun b ob hb y => (sb.2 b (fun z => hb (by simp [z]))).trans (hk b ob (fun z => hb (by simp [z])) (fun z => hb (by simp [z])) y)) hf (Nat.le_refl _) new
    refine ⟨.ref st.heap.objs.size, _, I2, rfl, ⟨_, x, rfl, I.hok.fresh (Nat.le_refl _), rfl, fun ys hy => by rw [I.tuple_inj hy hq]; exact hx⟩, ⟨⟨v, ?_⟩, hst.1.at fun o y => (sb.2 it (Ne.symm hne)).trans y, hne⟩, fun b hb => ?_⟩
    · have e1 : ((i + 1 : Nat) : Int) = (i : Int) + 1 := by omega
      rw [e1]
      exact he2
    · have lt : b < st.heap.objs.size := by
        rcases (show b = e ∨ b = it by simpa using hb) with z | z
        · rw [z]
          exact el
        · rw [z]
          exact il
      rw [upd_ne (Nat.ne_of_lt lt)]
      exact (hf b hb).1
  done := by
    intro X hP hw hK hc i pins st σ H E I hf q hg
    subst hP hw hK
    obtain ⟨⟨old, he⟩, hit, hne⟩ := q
    obtain ⟨xs, hq, hx⟩ := hg
    obtain ⟨its, rv, p, hz⟩ := I.tuple hq
    obtain ⟨f0, f1, f2, f3, f4, f5⟩ := hf it (by simp)
    have hl := rv.length
    unfold pyNext
    have hT : st.TypeIs (.ref e) "enumerate" := ⟨_, he, rfl⟩
    refine wpAny_bind (wpAny_attempt (wpAny_callSpecial?_slot (name := Str.ofString "__next__") hT F.slot_enumerate_next
      (wpAny_call_entry F.slot_enumerate_next hT F.entry_enumerate_next ?_ (F.args_enumerate_next_1 _))))
    show wpAny _ _ (field (.ref e) 2 >>= _) _ _ _
    refine wpAny_bind (wpAny_field he rfl (x := .ref it) rfl ?_)
    refine wpAny_bind (wpAny_nextOf_tuple_end (I.ok.hd hc) hit (show st.heap.IsTuple a its.toArray from p) (by simp; omega) fun h' x he' hx' => ?_)
    obtain ⟨o, ho, hc'⟩ := hx'
    refine wpAny_bind (wpAny_isInstance (T := "StopIteration") (b := true) ⟨o, ho, hc'⟩ isSubtype_stop ?_)
    exact wpAny_pure ⟨rfl, I.turned (t' := st.toks) (fun b o hb y => he' b o hb y) f0 f1 f3 f4 f5⟩
def iEnumT (K : PySem.W.Frag) (ta : TA) : TI := fun σ H R => ta σ H fun vs H1 => ∃ a xs, vs = [.ref a] ∧ SqT K H1 a xs ∧ R (Iet K a) H1
theorem pi_enumT {X : Cx} {e : Expr} {ta : TA} {p pos tpos : Pos} {elts : List Expr} {kk : Nat} (hg : Gl X "enumerate") (hm : X.mg "enumerate" = none) (ha : PA X [e] ta) (hs : starEach [e] X.env = [(false, eval e X.env)] := by rfl) :
    PI X (.Tuple elts kk tpos) (.Call (.Name "enumerate" p) [e] [] pos) (iEnumT X.K ta) := by
  constructor
  intro pins st σ H R I h
  refine Call_ (ld_blt I hg hm boot_enumerate (PyProof.Rows.callWith_type1 (thn (ha.run pos pins st σ H _ I h) fun us s1 ⟨vs, H1, I1, r1, q1⟩ => ?_) hs rfl))
  obtain ⟨a, xs, ex, hq, q⟩ := q1
  subst ex
  cases r1 with
  | cons r rr =>
    cases rr
    cases r
    obtain ⟨its, rv, p', hz⟩ := I1.tuple hq
    refine call_enumT p' fun en hit hk => wpAny_pyIter_enum en ?_
    have al : a < s1.heap.objs.size := p'.lt
    refine ⟨s1.heap.objs.size + 1, [s1.heap.objs.size + 1, s1.heap.objs.size], _, _, H1, rfl, I1.kept (t' := s1.toks) hk, turn_enumT a (s1.heap.objs.size + 1) s1.heap.objs.size (Nat.ne_of_lt al) (Nat.ne_of_gt (Nat.lt_succ_of_lt al)), ⟨⟨.none, en⟩, hit, Nat.succ_ne_self _⟩, fun b hb => ?_, q⟩
    have le : s1.heap.objs.size ≤ b := by
      rcases (show b = s1.heap.objs.size + 1 ∨ b = s1.heap.objs.size by simpa using hb) with z | z
      · rw [z]
        exact Nat.le_succ _
      · rw [z]
        exact Nat.le_refl _
    exact I1.fpOk le (I1.hok.fresh le)
/-- the loop -/
theorem for_enumT {K : PySem.W.Frag} {a : Addr} {xs : List V} {g : TG} {tb : TS} {D : Ends} {σ : L2.St} {H : Hp} (Pv : Nat → L2.St → Hp → Prop) (h0 : Pv 0 σ H) (hl : ∀ i σ H, i ≤ xs.length → Pv i σ H → SqT K H a xs)
    (hs : ∀ i x σ H T, xs[i]? = some x → Pv i σ H → H T = none → g (.ref T) σ (upd H T (.tup [.int (i : Nat), x])) fun σ2 H2 => tb { D with nx := Pv (i + 1), ct := Pv (i + 1), bk := D.nx } σ2 H2) (hd : ∀ σ H, Pv xs.length σ H → D.nx σ H) :
    ∃ W : Nat → Nat → L2.St → Hp → Prop, (∃ m, W 0 m σ H) ∧ ∀ i m σ H, W i m σ H → ((Iet K a).stop i H ∧ D.nx σ H) ∨ ((Iet K a).go i H ∧ ∃ N : L2.St → Hp → Prop, (∀ σ' H', N σ' H' → ∃ m', m' < m ∧ W (i + 1) m' σ' H') ∧
      ∀ x H', (Iet K a).yld i H x H' → g x σ H' fun σ2 H2 => tb { D with nx := N, ct := N, bk := D.nx } σ2 H2) := by
  refine ⟨fun i m σ H => m = xs.length - i ∧ i ≤ xs.length ∧ Pv i σ H, ⟨xs.length, by simp, Nat.zero_le _, h0⟩, ?_⟩
  intro i m σ H w
  obtain ⟨em, hi, p⟩ := w
  subst em
  have q := hl i σ H hi p
  by_cases lt : i < xs.length
  · refine .inr ⟨⟨xs, xs[i], q, by simp [lt]⟩, Pv (i + 1), fun σ' H' p' => ⟨xs.length - (i + 1), by omega, rfl, lt, p'⟩, fun x H' y => ?_⟩
    obtain ⟨T, y1, rfl, hT, rfl, y2⟩ := y
    exact hs i y1 σ H T (y2 xs q) p hT
  · have e : i = xs.length := by omega
    subst e
    exact .inl ⟨⟨xs, q, Nat.le_refl _⟩, hd σ H p⟩
end KV

/-! calls by keywords alone; asked -/
namespace KV
open PySem PySem.Spec PyProof.Rows L2 KM
def rv {α : Type} (b : Bool) (l : List α) : List α := if b = true then l.reverse else l
theorem vals_app : ∀ {vs zs : List V} {us ws : List Value}, Vals vs us → Vals zs ws → Vals (vs ++ zs) (us ++ ws)
  | [], _, _, _, .nil, k => k
  | _ :: _, _, _, _, .cons r h, k => .cons r (vals_app h k)
theorem vals_rev : ∀ {vs : List V} {us : List Value}, Vals vs us → Vals vs.reverse us.reverse
  | [], _, .nil => .nil
  | _ :: _, _, .cons r h => by
    rw [List.reverse_cons, List.reverse_cons]
    exact vals_app (vals_rev h) (.cons r .nil)
theorem vals_rv {b : Bool} {vs : List V} {us : List Value} (h : Vals vs us) : Vals (rv b vs) (rv b us) := by
  cases b with
  | false => exact h
  | true => exact vals_rev h
/-- how a call with keywords alone binds: the names ks stand in the parameters' order, or the other way round (b) -/
def KB (K : PySem.W.Frag) (fd : FuncData) (ps ks : List Str) (b : Bool) : Prop := ∀ (s : Shared) (ws : List Value), K.In s.heap → (rv b ws).length = ps.length → BindsTo s fd ⟨[], ks.zip ws⟩ (ps.zip (rv b ws))
theorem KB.mk {K : PySem.W.Frag} {x qual : Str} {st : Stmt} {f : Addr} {fd : FuncData} {ps ks : List Str} {b : Bool} (F : Fun K x qual st f fd)
    (h : ∀ (kV doc pm : Value) (an : Option Addr) (cdv ct : Value) (us : List Value), us.length = ps.length → bindArgs (PySem.W.fnOf x qual (defArgs st) (defBody st) (defScope st) .none kV doc pm an cdv ct) ⟨[], ks.zip us⟩ = pure (ps.zip (rv b us))) : KB K fd ps ks b := by
  obtain ⟨oc, od, kV, doc, pm, an, cdv, ct, osl, rfl, lk, hcd⟩ := F.ex
  intro s ws _ hl
  refine .of_eq (h kV doc pm an cdv ct ws ?_)
  cases b with
  | false => exact hl
  | true => exact (List.length_reverse (as := ws)).symm.trans hl
/-- a def of the module that may be called with keywords alone -/
def CalK (P : Program) (w : World) (K : PySem.W.Frag) (mg : Str → Option Value) (base : Heap) (Z : CXT) (k : Nat) (x : Str) (ps ks : List Str) (b : Bool) (sp : Sp) : Prop :=
  ∃ (f : Addr) (fd : FuncData), FnOk P w K mg base Z k f fd ps sp ∧ mg x = some (.ref f) ∧ PySem.W.keepIn K (.ref f) = true ∧ KB K fd ps ks b
section
variable {X : Cx} {Z : CXT} {k j : Nat} {f : Addr} {fd : FuncData} {x : Str} {ps ks : List Str} {b : Bool} {sp : Sp} {p pos : Pos} {kws : List Keyword} {tk : TA} {E : L2.St → XK}
theorem run_fnSK {pins : List (Addr × Obj)} {σ : L2.St} {H : Hp} {s : Shared} {Q : VK} {ws : List Value} {zs : List V} (F : FnOk X.prog X.w X.K X.mg X.base Z k f fd ps sp) (hr : Room k X.A) (hb : KB X.K fd ps ks b) (hx : PassesAt Z X σ (E σ))
    (I : L2.Inv X pins σ H s) (rz : Vals zs ws) (h : sp (rv b zs) H Q (E σ)) : wpAny (model X.prog X.w) X.A (call (.ref f) [] (ks.zip ws)) (EP X pins σ Q) X.xe s := by
  have r2 := vals_rv (b := b) rz
  have hl : (rv b ws).length = ps.length := by rw [← r2.length]; exact F.len _ _ _ _ h
  refine wpAny_call (codeAny_mono (F.run X.A X.stack s H ⟨[], ks.zip ws⟩ (rv b ws) (rv b zs) Q (E σ) hr I.env0 (hb s ws I.kIn hl) r2 h) fun r s' hq => ?_)
  cases r with
  | error e => exact hx pins H s e s' I hq
  | ok fl =>
    cases fl with
    | ret u => exact I.after hq
    | next => exact False.elim hq
    | brk => exact False.elim hq
    | cont => exact False.elim hq
def tCallSK (sp : Sp) (b : Bool) (E : L2.St → XK) (tk : TA) : TE := fun σ H Q => tk σ H fun zs H1 => sp (rv b zs) H1 Q (E σ)
theorem pe_calSK (C : CalK X.prog X.w X.K X.mg X.base Z k x ps ks b sp) (hr : Room j X.A) (hj : k ≤ j) (hx : ∀ σ, PassesAt Z X σ (E σ)) (hkw : PK X kws tk) (hg : Gl X x := by rfl)
    (hall : (backToKw pos (keywordEach kws X.env)).all (·.1.isSome) = true := by rfl) (hks : (backToKw pos (keywordEach kws X.env)).filterMap (·.1) = ks := by rfl)
    (hdb : (x == ("__debug__" : Str)) = false := by decide)
    (hpl : ((backTo pos (starEach [] X.env)).any (·.1) || (backToKw pos (keywordEach kws X.env)).any (·.1.isNone)) = false := by rfl) :
    PE X (.Call (.Name x p) [] kws pos) (tCallSK sp b E tk) := by
  obtain ⟨f, fd, F, hm, hk, hb⟩ := C
  refine ⟨fun pins s σ H Q I h => ?_⟩
  refine wpAny_Call_Name_kw (ld_glob I hg hm ?_ hdb)
  refine PySem.W.callWith_KW0 (first := []) (h₀ := X.base) I.ok.mod.kin hk hall (thn (hkw.run pos pins s σ H _ I h) fun ws s2 ⟨zs, H2, I2, rz, q2⟩ => ⟨I2.kIn, ?_⟩) hpl
  rw [hks]
  exact run_fnSK F (hr.mono hj) hb (hx σ) I2 rz q2
theorem pe_calS {e : Expr} {es : List Expr} {t : TA} (C : Cal X.prog X.w X.K X.mg X.base Z k x ps sp) (hr : Room j X.A) (hj : k ≤ j) (hx : ∀ σ, PassesAt Z X σ (E σ)) (ha : PA X (e :: es) t)
    (hg : Gl X x := by rfl) (hdb : (x == ("__debug__" : Str)) = false := by decide)
    (he : starEach (e :: es) X.env = (false, eval e X.env) :: starEach es X.env := by rfl)
    (hpl : (backTo pos (starEach es X.env)).any (·.1) = false := by rfl) :
    PE X (.Call (.Name x p) (e :: es) [] pos) (tCallS sp E t) := by
  obtain ⟨f, fd, F, h1, h2, h3⟩ := C
  exact pe_callS F (hr.mono hj) hg h1 h2 h3 hx ha hdb he hpl
end
theorem passL {X : Cx} (σ : L2.St) : PassesAt (L2.CX X.prog X.w) X σ E0 := fun _ _ _ _ _ _ ⟨_, _, _, _, _, _, _, _, _, _, _, _, h⟩ => h.elim
end KV

/-! forcing -/
namespace KM
def pF (q : Int) : Bool := decide (q = 0) || decide (2 < q)
def Frc (ns : List Int) : Prop := ∀ k : Int, 3 ≤ k → ∃ n ∈ ns, 1 < n % k
def frcB (ns : List Int) : Bool := decide ((fnd ns).filter pF = [])
theorem open_dvd {c k : Int} (h : ¬ 1 < c % k) (hk : 3 ≤ k) : k ∣ c ∨ k ∣ c - 1 := by
  have h0 := Int.emod_nonneg c (show k ≠ 0 by omega)
  by_cases z : c % k = 0
  · exact .inl (Int.dvd_of_emod_eq_zero z)
  · have e : c % k = 1 := by omega
    refine .inr ⟨c / k, ?_⟩
    have := Int.mul_ediv_add_emod c k
    omega
theorem fnd_up {k : Int} (ns : List Int) : (∀ n ∈ ns, k ∣ n ∨ k ∣ n - 1) → ∃ q ∈ fnd ns, k ∣ q := by
  induction ns using snoc_ind with
  | h0 => intro _; exact ⟨0, by simp [fnd_nil], Int.dvd_zero k⟩
  | h1 l a ih =>
    intro h
    obtain ⟨o, ho, d⟩ := ih fun n hn => h n (by simp [hn])
    rw [fnd_snoc]
    rcases h a (by simp) with z | z
    · exact ⟨_, mem_stepF.mpr ⟨o, ho, .inl rfl⟩, Int.dvd_coe_gcd z d⟩
    · exact ⟨_, mem_stepF.mpr ⟨o, ho, .inr rfl⟩, Int.dvd_coe_gcd z d⟩
theorem frc_iff (ns : List Int) : Frc ns ↔ (fnd ns).filter pF = [] := by
  constructor
  · intro h
    rw [List.filter_eq_nil_iff]
    intro q hq hp
    have hp2 : q = 0 ∨ 2 < q := by simpa [pF] using hp
    rcases hp2 with rfl | h2
    · have all : ∀ n ∈ ns, pln n := fun n hn => Classical.byContradiction fun y => by
        have := fnd_some ns ⟨n, hn, y⟩ 0 hq
        omega
      obtain ⟨n, hn, z⟩ := h 3 (by omega)
      exact plain_mod (all n hn) (by omega) z
    · obtain ⟨n, hn, z⟩ := h q (by omega)
      exact open_mod (fnd_open ns q hq n hn) (by omega) z
  · intro h k hk
    refine Classical.byContradiction fun y => ?_
    have op : ∀ n ∈ ns, ¬ 1 < n % k := fun n hn z => y ⟨n, hn, z⟩
    obtain ⟨q, hq, d⟩ := fnd_up (k := k) ns fun n hn => open_dvd (op n hn) hk
    have q0 := fnd_nonneg ns q hq
    rw [List.filter_eq_nil_iff] at h
    refine h q hq ?_
    by_cases z : q = 0
    · simp [pF, z]
    · have := Int.le_of_dvd (a := k) (b := q) (by omega) d
      simp [pF]
      omega
theorem frcB_iff {ns : List Int} : frcB ns = true ↔ Frc ns := by
  unfold frcB
  rw [decide_eq_true_eq, frc_iff]
theorem frcB_of {ns ms : List Int} (h : Frc ns ↔ Frc ms) : frcB ns = frcB ms := by
  rw [Bool.eq_iff_iff, frcB_iff, frcB_iff]
  exact h
theorem Frc.mono {ns ms : List Int} (h : Frc ns) (s : ∀ n ∈ ns, n ∈ ms) : Frc ms := fun k hk => by
  obtain ⟨n, hn, z⟩ := h k hk
  exact ⟨n, s n hn, z⟩
theorem lot_frc {ns : List Int} {o : Option (List Int)} (h : LotI ns o) : decide (o = some []) = frcB ns := by
  unfold frcB
  rw [decide_eq_decide, List.filter_eq_nil_iff]
  cases o with
  | none =>
    obtain ⟨f0, _⟩ := fnd_none ns h
    constructor
    · intro e
      cases e
    · intro z
      exact absurd (by simp [pF]) (z 0 f0)
  | some L =>
    obtain ⟨h1, h2, _⟩ := h
    constructor
    · intro e q hq hp
      have := fnd_some ns h1 q hq
      have m := (h2 q).mpr ⟨hq, by simp [pF] at hp; omega⟩
      rw [Option.some.inj e] at m
      simp at m
    · intro z
      cases L with
      | nil => rfl
      | cons q r =>
        obtain ⟨a, b⟩ := (h2 q).mp (by simp)
        exact absurd (by simp [pF, b]) (z q a)
theorem step_filt (n : Int) : ∀ l : List Int, (∀ o ∈ l, 0 ≤ o) → (stepF n (l.filter pF)).filter pF = (stepF n l).filter pF
  | [], _ => rfl
  | o :: r, h => by
    have ih := step_filt n r fun x hx => h x (by simp [hx])
    have o0 := h o (by simp)
    have ec : stepF n (o :: r) = [(Int.gcd n o : Int), (Int.gcd (n - 1) o : Int)] ++ stepF n r := rfl
    by_cases z : pF o = true
    · rw [List.filter_cons_of_pos z]
      have e1 : stepF n (o :: r.filter pF) = [(Int.gcd n o : Int), (Int.gcd (n - 1) o : Int)] ++ stepF n (r.filter pF) := rfl
      rw [e1, ec, List.filter_append, List.filter_append, ih]
    · rw [List.filter_cons_of_neg z, ec, List.filter_append, ih]
      have o12 : 0 < o ∧ o ≤ 2 := by
        simp [pF] at z
        omega
      have none : ([(Int.gcd n o : Int), (Int.gcd (n - 1) o : Int)]).filter pF = [] := by
        have a1 := gcd_le_r (n := n) (o := o) o12.1
        have a2 := gcd_le_r (n := n - 1) (o := o) o12.1
        have b1 := gcd_pos_o (n := n) (o := o) o12.1
        have b2 := gcd_pos_o (n := n - 1) (o := o) o12.1
        rw [List.filter_eq_nil_iff]
        intro q hq
        simp at hq
        rcases hq with rfl | rfl
        · simp [pF]
          omega
        · simp [pF]
          omega
      rw [none]
      rfl
/-- the law's own -/
def lfs (ns : List Int) : List Int := (fnd ns).filter pF
theorem lfs_nil : lfs [] = [0] := rfl
theorem lfs_snoc (ns : List Int) (n : Int) : lfs (ns ++ [n]) = (stepF n (lfs ns)).filter pF := by
  unfold lfs
  rw [fnd_snoc, step_filt n _ (fnd_nonneg ns)]
theorem lfs_len (ns : List Int) : (lfs ns).length ≤ 2 ^ ns.length := by
  rw [← fnd_len]
  exact List.length_filter_le _ _
theorem lfs_nonneg (ns : List Int) : ∀ q ∈ lfs ns, 0 ≤ q := fun q hq => fnd_nonneg ns q (List.mem_filter.mp hq).1
/-- the indexes' counts -/
def pick (ns : List Int) (is : List Int) : List Int := is.map fun i => ns.getD i.toNat 0
theorem mem_pick {ns is js : List Int} (h : ∀ i ∈ is, i ∈ js) : ∀ n ∈ pick ns is, n ∈ pick ns js := fun n hn => by
  obtain ⟨i, hi, e⟩ := List.mem_map.mp hn
  exact List.mem_map.mpr ⟨i, h i hi, e⟩
def but (is : List Int) (j : Int) : List Int := is.filter fun i => decide (i ≠ j)
theorem mem_but {is : List Int} {i j : Int} : i ∈ but is j ↔ i ∈ is ∧ i ≠ j := by
  unfold but
  rw [List.mem_filter, decide_eq_true_eq]
theorem but_len (is : List Int) (j : Int) : (but is j).length ≤ is.length := List.length_filter_le _ _
/-- ascending indexes below m -/
structure Idx (m : Nat) (is : List Int) : Prop where
  lt : ∀ i ∈ is, 0 ≤ i ∧ i < m
  asc : is.Pairwise (· < ·)
theorem Idx.but {m : Nat} {is : List Int} (h : Idx m is) (j : Int) : Idx m (but is j) :=
  ⟨fun i hi => h.lt i (mem_but.mp hi).1, h.asc.filter _⟩
/-- some least ones -/
structure Least (ns is : List Int) : Prop where
  idx : Idx ns.length is
  frc : Frc (pick ns is)
  min : ∀ j ∈ is, ¬ Frc (pick ns (but is j))
def idxB (m : Nat) (is : List Int) : Bool := decide (∀ i ∈ is, 0 ≤ i ∧ i < m) && decide (is.Pairwise (· < ·))
def leastB (ns is : List Int) : Bool := idxB ns.length is && frcB (pick ns is) && decide (∀ j ∈ is, frcB (pick ns (but is j)) = false)
theorem leastB_of {ns is : List Int} (h : Least ns is) : leastB ns is = true := by
  unfold leastB idxB
  simp only [Bool.and_eq_true, decide_eq_true_eq]
  refine ⟨⟨⟨h.idx.lt, h.idx.asc⟩, frcB_iff.mpr h.frc⟩, fun j hj => ?_⟩
  cases e : frcB (pick ns (but is j)) with
  | false => rfl
  | true => exact absurd (frcB_iff.mp e) (h.min j hj)
/-- behind the indexes below i -/
structure LF (ns is : List Int) (i : Nat) : Prop where
  idx : Idx ns.length is
  frc : Frc (pick ns is)
  min : ∀ j ∈ is, j < i → ¬ Frc (pick ns (but is j))
def upto (m : Nat) : List Int := (List.range m).map fun (i : Nat) => (i : Int)
theorem upto_idx (m : Nat) : Idx m (upto m) := by
  refine ⟨fun i hi => ?_, ?_⟩
  · obtain ⟨k, hk, rfl⟩ := List.mem_map.mp hi
    have := List.mem_range.mp hk
    omega
  · unfold upto
    rw [List.pairwise_map]
    refine List.Pairwise.imp ?_ (List.pairwise_lt_range (n := m))
    intro a b h
    omega
theorem pick_upto (ns : List Int) : pick ns (upto ns.length) = ns := by
  refine List.ext_getElem? fun i => ?_
  unfold pick upto
  rw [List.map_map, List.getElem?_map]
  by_cases h : i < ns.length
  · rw [List.getElem?_range h]
    show some (ns.getD ((i : Int).toNat) 0) = ns[i]?
    rw [Int.toNat_natCast, List.getD_eq_getElem?_getD, List.getElem?_eq_getElem h]
    rfl
  · rw [List.getElem?_eq_none (by simpa using h), List.getElem?_eq_none (by simpa using h)]
    rfl
theorem LF.start {ns : List Int} (h : Frc ns) : LF ns (upto ns.length) 0 :=
  ⟨upto_idx _, by rw [pick_upto]; exact h, fun j hj z => by have := ((upto_idx ns.length).lt j hj).1; omega⟩
theorem LF.out {ns is : List Int} {i : Nat} (h : LF ns is i) (f : Frc (pick ns (but is i))) : LF ns (but is i) (i + 1) := by
  refine ⟨h.idx.but _, f, fun j hj z => ?_⟩
  obtain ⟨a, b⟩ := mem_but.mp hj
  refine fun g => h.min j a (by omega) (g.mono (mem_pick fun x hx => ?_))
  obtain ⟨x1, x2⟩ := mem_but.mp hx
  exact mem_but.mpr ⟨(mem_but.mp x1).1, x2⟩
theorem LF.stay {ns is : List Int} {i : Nat} (h : LF ns is i) (f : ¬ Frc (pick ns (but is i))) : LF ns is (i + 1) := by
  refine ⟨h.idx, h.frc, fun j hj z => ?_⟩
  by_cases e : j = i
  · rw [e]
    exact f
  · exact h.min j hj (by omega)
theorem LF.done {ns is : List Int} (h : LF ns is ns.length) : Least ns is := ⟨h.idx, h.frc, fun j hj => h.min j hj (h.idx.lt j hj).2⟩
/-! three neighbours, a single one -/
theorem frc_three (n : Int) : Frc [n, n + 1, n - 1] := fun k hk => by
  have h0 := Int.emod_nonneg n (show k ≠ 0 by omega)
  by_cases z : 1 < n % k
  · exact ⟨n, by simp, z⟩
  by_cases e : n % k = 0
  · refine ⟨n - 1, by simp, ?_⟩
    have e2 : n - 1 = (k - 1) + k * (n / k - 1) := by
      have := Int.mul_ediv_add_emod n k
      rw [Int.mul_sub]
      omega
    rw [e2, Int.add_mul_emod_self_left, Int.emod_eq_of_lt (by omega) (by omega)]
    omega
  · refine ⟨n + 1, by simp, ?_⟩
    have e2 : n + 1 = 2 + k * (n / k) := by
      have := Int.mul_ediv_add_emod n k
      omega
    rw [e2, Int.add_mul_emod_self_left, Int.emod_eq_of_lt (by omega) (by omega)]
    omega
theorem frc_one (n : Int) : Frc [n] ↔ n = 2 ∨ n = -1 := by
  constructor
  · intro h
    have sing : ∀ k : Int, 3 ≤ k → 1 < n % k := fun k hk => by
      obtain ⟨m, hm, z⟩ := h k hk
      have : m = n := by simpa using hm
      rw [this] at z
      exact z
    by_cases big : 3 ≤ (n.natAbs : Int)
    · have := sing _ big
      rw [Int.emod_eq_zero_of_dvd (Int.natAbs_dvd.mpr (Int.dvd_refl n))] at this
      omega
    · have h3 := sing 3 (by omega)
      omega
  · rintro (rfl | rfl) k hk
    · exact ⟨2, by simp, by rw [Int.emod_eq_of_lt (by omega) (by omega)]; omega⟩
    · refine ⟨-1, by simp, ?_⟩
      have e2 : (-1 : Int) = (k - 1) + k * (-1) := by omega
      rw [e2, Int.add_mul_emod_self_left, Int.emod_eq_of_lt (by omega) (by omega)]
      omega
/-! by primes -/
def noDiv (q : Int) : Prop := ∀ d : Int, 2 ≤ d → d < q → q % d ≠ 0
theorem prime_b : ((List.range 32).all fun k => !decide (3 ≤ k) || (List.range 32).any fun q => decide (k % q = 0) && decide (3 ≤ q) && (decide (q = 4) || (decide (q ≤ k) && (List.range 32).all fun d => !decide (2 ≤ d) || !decide (d < q) || !decide (q % d = 0)))) = true := by decide +kernel
theorem prime_in (k : Nat) (hk : k < 32) (h3 : 3 ≤ k) : ∃ q ∈ List.range 32, k % q = 0 ∧ 3 ≤ q ∧ (q = 4 ∨ (q ≤ k ∧ ∀ d : Nat, d < 32 → 2 ≤ d → d < q → q % d ≠ 0)) := by
  have h := List.all_eq_true.mp prime_b k (List.mem_range.mpr hk)
  rw [Bool.or_eq_true] at h
  rcases h with h | h
  · rw [decide_eq_true h3] at h
    cases h
  · obtain ⟨q, hq, h⟩ := List.any_eq_true.mp h
    simp only [Bool.and_eq_true, Bool.or_eq_true, decide_eq_true_eq] at h
    obtain ⟨⟨h1, h2⟩, h4⟩ := h
    refine ⟨q, hq, h1, h2, h4.imp id fun z => ⟨z.1, fun d d32 d2 dq e => ?_⟩⟩
    have := List.all_eq_true.mp z.2 d (List.mem_range.mpr d32)
    rw [decide_eq_true d2, decide_eq_true dq, decide_eq_true e] at this
    cases this
theorem prime_int {k : Int} (h3 : 3 ≤ k) (h : k ≤ 31) : ∃ q : Int, q ∣ k ∧ (q = 4 ∨ (3 ≤ q ∧ q ≤ k ∧ noDiv q)) := by
  obtain ⟨q, q32, e, q3, r⟩ := prime_in k.toNat (by omega) (by omega)
  have q32 := List.mem_range.mp q32
  refine ⟨q, ?_, ?_⟩
  · have : (k.toNat : Int) = k := by omega
    rw [← this]
    exact Int.natCast_dvd_natCast.mpr (Nat.dvd_of_mod_eq_zero e)
  · rcases r with rfl | ⟨qk, nd⟩
    · exact .inl rfl
    · refine .inr ⟨by omega, by omega, fun d d2 dq z => nd d.toNat (by omega) (by omega) (by omega) ?_⟩
      have : ((q % d.toNat : Nat) : Int) = (q : Int) % (d.toNat : Int) := by simp
      have e2 : (d.toNat : Int) = d := by omega
      rw [e2, z] at this
      omega
theorem by_primes {ns ps : List Int} {most : Int} (hb : ∀ n ∈ ns, (n.natAbs : Int) + 1 ≤ most) (hm : most ≤ 31) (hp : ∀ q, q ∈ ps ↔ 3 ≤ q ∧ q ≤ most ∧ noDiv q) :
    Frc ns ↔ (∀ q ∈ (4 : Int) :: ps, ∃ n ∈ ns, 1 < n % q) ∧ ∃ n ∈ ns, ¬ pln n := by
  constructor
  · intro h
    refine ⟨fun q hq => ?_, ?_⟩
    · rcases List.mem_cons.mp hq with rfl | hq
      · exact h 4 (by omega)
      · exact h q ((hp q).mp hq).1
    · obtain ⟨n, hn, z⟩ := h 3 (by omega)
      exact ⟨n, hn, fun p => plain_mod p (by omega) z⟩
  · rintro ⟨h1, m, hm2, np⟩ k hk
    refine Classical.byContradiction fun y => ?_
    have op : ∀ n ∈ ns, k ∣ n ∨ k ∣ n - 1 := fun n hn => open_dvd (fun z => y ⟨n, hn, z⟩) hk
    have km : k ≤ most := by
      have b := hb m hm2
      unfold pln at np
      rcases op m hm2 with d | d
      · have := Int.le_of_dvd (a := k) (b := m.natAbs) (by omega) (Int.dvd_natAbs.mpr d)
        omega
      · have := Int.le_of_dvd (a := k) (b := (m - 1).natAbs) (by omega) (Int.dvd_natAbs.mpr d)
        omega
    obtain ⟨q, d, r⟩ := prime_int hk (by omega)
    have q3 : 3 ≤ q := by
      rcases r with rfl | r
      · omega
      · exact r.1
    have hq : q ∈ (4 : Int) :: ps := by
      rcases r with rfl | ⟨a, b, c⟩
      · simp
      · exact List.mem_cons_of_mem _ ((hp q).mpr ⟨a, by omega, c⟩)
    obtain ⟨n, hn, z⟩ := h1 q hq
    refine open_mod (k := q) ?_ q3 z
    exact (op n hn).imp (Int.dvd_trans d) (Int.dvd_trans d)
end KM

/-! the program: indexes, forcing -/
namespace KV
open PySem PySem.Spec PyProof.Rows L2 KM
theorem atI_eq {xs : List V} {i : Nat} {v : V} {z : Int} (e : z = (i : Int)) (h : xs[i]? = some v) : atI xs z = some v := by
  rw [e]
  exact atI_nat h
theorem shaped_intsT (ns : List Int) : SeqAt.shaped (.tuple (ns.map PyData.int)) = true := by
  unfold SeqAt.shaped
  simp only [PyData.canLay0, canLay_ints, PyData.depth, depth_ints]
  decide
/-- == of a tuple of ints and () -/
theorem eqT0 {K : PySem.W.Frag} {H : Hp} {a b : Addr} {ns ms : List Int} {Q : VK} (h1 : SqT K H a (ns.map V.int)) (h2 : SqT K H b (ms.map V.int)) (q : Q (.bl (decide (ns = ms))) H) : rEqD K (.ref a) (.ref b) H Q :=
  ⟨_, _, .tup h1 (dp_ints ns), .tup h2 (dp_ints ms), shaped_intsT ns, shaped_intsT ms, by
    have e : PyData.eqv (.tuple (ns.map PyData.int)) (.tuple (ms.map PyData.int)) = decide (ns = ms) := eqv_ints ns ms
    rw [e]
    exact q⟩
theorem eqN0 {K : PySem.W.Frag} {H : Hp} {b : Addr} {ms : List Int} {Q : VK} (h2 : SqT K H b (ms.map V.int)) (q : Q (.bl false) H) : rEqD K .non (.ref b) H Q :=
  ⟨_, _, .non, .tup h2 (dp_ints ms), by decide +kernel, shaped_intsT ms, q⟩
def belV (b : Int) : V → Bool
  | .int i => decide (0 ≤ i) && decide (i < b)
  | _ => false
theorem asc_iff : ∀ {is : List Int}, is.Pairwise (· < ·) ↔ ∀ i, i + 1 < is.length → is.getD i 0 < is.getD (i + 1) 0
  | [] => by simp
  | [x] => by simp
  | x :: y :: r => by
    have ih := asc_iff (is := y :: r)
    rw [List.pairwise_cons, ih]
    constructor
    · rintro ⟨h1, h2⟩ i hi
      cases i with
      | zero => exact h1 y (by simp)
      | succ i => exact h2 i (by simpa using hi)
    · intro h
      have h2 : ∀ i, i + 1 < (y :: r).length → (y :: r).getD i 0 < (y :: r).getD (i + 1) 0 := fun i hi => h (i + 1) (by simpa using hi)
      refine ⟨fun z hz => ?_, h2⟩
      have xy : x < y := h 0 (by simp)
      have pw := ih.mpr h2
      rcases List.mem_cons.mp hz with rfl | hz
      · exact xy
      · have := (List.pairwise_cons.mp pw).1 z hz
        omega
/-- a value: a tuple of items (some), or of another kind (none) -/
def ValT (K : PySem.W.Frag) (H : Hp) (v : V) : Option (List V) → Prop
  | some xs => ∃ a : Addr, v = .ref a ∧ SqT K H a xs ∧ TyX K H v (.type "tuple") ∧ (∀ x ∈ xs, Itm K H x) ∧ xs.length ≤ 9
  | none => ∃ T : String, TyX K H v (.type T) ∧ (T = "NoneType" ∨ T = "int" ∨ T = "list")
theorem ValT.same {K : PySem.W.Frag} {H H' : Hp} (s : Same H H') {v : V} {ms : Option (List V)} (h : ValT K H v ms) : ValT K H' v ms := by
  cases ms with
  | none =>
    obtain ⟨T, h1, h2⟩ := h
    exact ⟨T, tyx_same s h1, h2⟩
  | some xs =>
    obtain ⟨a, h1, h2, h3, h4, h5⟩ := h
    exact ⟨a, h1, Same.seqT s h2, tyx_same s h3, fun x hx => (h4 x hx).same s, h5⟩
theorem valT_kit {K : PySem.W.Frag} {H : Hp} {v : V} {ms : Option (List V)} (h : ValT K H v ms) : ∃ t : Value, TyX K H v t ∧ PySem.W.kitOne K t (.type "tuple") = some ms.isSome := by
  cases ms with
  | some xs =>
    obtain ⟨a, rfl, _, ty, _⟩ := h
    exact ⟨_, ty, show PySem.W.kitOne K (.type "tuple") (.type "tuple") = some true from kit_ty (by decide +kernel)⟩
  | none =>
    obtain ⟨T, ty, hT⟩ := h
    rcases hT with rfl | rfl | rfl
    · exact ⟨_, ty, kit_ty (by decide +kernel)⟩
    · exact ⟨_, ty, kit_ty (by decide +kernel)⟩
    · exact ⟨_, ty, kit_ty (by decide +kernel)⟩
def intOf : V → Int
  | .int i => i
  | _ => 0
def intsOf (xs : List V) : List Int := xs.map intOf
theorem intsOf_ints (ns : List Int) : intsOf (ns.map V.int) = ns := by
  unfold intsOf
  rw [List.map_map]
  exact List.map_id _
def leastV (ns : List Int) : Option (List V) → Bool
  | none => false
  | some xs => xs.all isI && leastB ns (intsOf xs)
section
variable {P : Program} {w : World} {K : PySem.W.Frag} {mg : Str → Option Value} {base : Heap} {C fI : Addr}
def spBel (K : PySem.W.Frag) : Sp := fun vs H Q _ => ∃ (v : V) (b : Int), vs = [v, .int b] ∧ Itm K H v ∧ Q (.bl (belV b v)) H
theorem sc6 : FnScope ["value", "bound"] ["value", "bound"] (defScope (top 6)) := ⟨rfl, rfl, rfl, by decide +kernel, rfl, by decide +kernel, by decide +kernel⟩
theorem ok_bel {f : Addr} {fd : FuncData} (CI : Cal P w K mg base CX0 1 "is_integer" ["value"] (spIsI K)) (F : Fun K "is_below" "is_below" (top 6) f fd) : FnOk P w K mg base CX0 2 f fd ["value", "bound"] (spBel K) := by
  refine F.ok sc6 (fun vs H Q E h => ?_) (fun cdv A outer s H vs Q E hr h => ⟨_,
    (pss_one (ps_ret (pe_and (by exact (pe_cal (X := L2.Cx.nox _) CI hr (by decide) (pa_cons (pv 0) pa_nil))) (pe_one (pe_chain op_le op_lt pe_int (pv 0) (pv 1)))))), ?_⟩)
  · obtain ⟨v, b, rfl, _⟩ := h
    rfl
  obtain ⟨v, b, rfl, hv, q⟩ := h
  refine ⟨_, rfl, v, rfl, hv, _, rfl, ?_⟩
  cases v with
  | int i =>
    refine iteT ⟨_, rfl, _, _, rfl, rfl, _, rfl, ?_⟩
    have e : belV b (.int i) = (decide (0 ≤ i) && decide (i < b)) := rfl
    rw [e] at q
    cases z : decide (0 ≤ i) with
    | true =>
      rw [z] at q
      exact iteT ⟨_, rfl, _, _, rfl, rfl, q⟩
    | false =>
      rw [z] at q
      exact iteF q
  | _ => exact iteF q

def spAsc (K : PySem.W.Frag) : Sp := fun vs H Q _ => ∃ (a : Addr) (is : List Int), vs = [.ref a] ∧ SqT K H a (is.map V.int) ∧ is.length ≤ 1000 ∧ ∀ H', Same H H' → Q (.bl (decide (is.Pairwise (· < ·)))) H'
theorem sc8 : FnScope ["values", "at"] ["values"] (defScope (top 8)) := ⟨rfl, rfl, rfl, by decide +kernel, rfl, by decide +kernel, by decide +kernel⟩
theorem ok_asc {f : Addr} {fd : FuncData} (B : Bl mg) (F : Fun K "is_ascending" "is_ascending" (top 8) f fd) : FnOk P w K mg base CX0 1 f fd ["values"] (spAsc K) := by
  refine F.ok sc8 (fun vs H Q E h => ?_) (fun cdv A outer s H vs Q E hr h => ⟨_,
    (pss_one (ps_ret (pe_callB (cr_all rfl) (by rfl) B.all (by decide +kernel) (pa_cons (pe_lc (own := [("at", 1)]) (g := gName 1) (tt := tYes) rfl sc8.nd (pi_range1 (by rfl) B.range (pa_cons (pe_op op_sub (pe_callB call_len_seq (by rfl) B.len PySem.boot_len (pa_cons (pv 0) pa_nil)) pe_int) pa_nil)) (blkOk_by (N := ["values", "at"]) (sc := defScope (top 8)) (by decide +kernel))
        (fun _ _ _ _ _ => (pg_name (i := 1) sc8.nd rfl (Or.inl rfl))) (fun _ _ _ _ _ => pts_nil) (fun _ _ _ _ _ => (pe_cmpR op_lt (pe_ix (r := rIxT K) ix_tup (pv 0) (pv 1) (fun _ _ => rfl)) (pe_ix (r := rIxT K) ix_tup (pv 0) (pe_op op_add (pv 1) pe_int) (fun _ _ => rfl)) (nomark _)))) pa_nil)))), ?_⟩)
  · obtain ⟨a, is, rfl, _⟩ := h
    rfl
  obtain ⟨a, is, rfl, hS, hl, q⟩ := h
  refine ⟨_, rfl, a, _, rfl, .inr hS, _, _, rfl, rfl, _, rfl, by rw [List.length_map]; omega, by rw [List.length_map]; omega, fun D hD => ?_⟩
  have en : (((is.map V.int).length : Nat) : Int) - 1 = (is.length : Int) - 1 := by rw [List.length_map]
  refine lc_range (n := ((((is.map V.int).length : Nat) : Int) - 1).toNat) (fun i H' => Same H H' ∧ H' D = some (.lst (((List.range i).map fun j => decide (is.getD j 0 < is.getD (j + 1) 0)).map V.bl))) ⟨Same.new hD, upd_same⟩ ?_ ?_
  · rintro i H' hi ⟨p1, p2⟩
    rw [List.length_map] at hi
    have g1 : (is.map V.int)[i]? = some (V.int (is.getD i 0)) := by
      rw [List.getElem?_map, List.getD_eq_getElem?_getD, List.getElem?_eq_getElem (show i < is.length by omega)]
      rfl
    have g2 : (is.map V.int)[i + 1]? = some (V.int (is.getD (i + 1) 0)) := by
      rw [List.getElem?_map, List.getD_eq_getElem?_getD, List.getElem?_eq_getElem (show i + 1 < is.length by omega)]
      rfl
    have hS' := Same.seqT p1 hS
    refine ⟨rfl, _, rfl, _, rfl, a, _, _, _, rfl, rfl, hS', atI_eq (by omega) g1, _, rfl, _, rfl, _, _, rfl, rfl, a, _, _, _, rfl, rfl, hS', atI_eq (by omega) g2, _, _, rfl, rfl, _, p2, len_lt (by rw [List.length_map, List.length_map, List.length_range]; omega), Same.upd p1 hD, ?_⟩
    rw [upd_same, List.range_succ, List.map_append, List.map_append]
    rfl
  · rintro H' ⟨p1, p2⟩
    refine ⟨D, _, rfl, SqL.of p2, ?_⟩
    have e : (((List.range ((((is.map V.int).length : Nat) : Int) - 1).toNat).map fun j => decide (is.getD j 0 < is.getD (j + 1) 0)).all id) = decide (is.Pairwise (· < ·)) := by
      rw [Bool.eq_iff_iff, decide_eq_true_eq, asc_iff, List.all_map, List.all_eq_true, List.length_map]
      constructor
      · intro h i hi
        exact of_decide_eq_true (h i (List.mem_range.mpr (by omega)))
      · intro h i hi
        have := List.mem_range.mp hi
        exact decide_eq_true (h i (by omega))
    rw [e]
    exact q _ p1

def spFrc (K : PySem.W.Frag) (C : Addr) : Sp := fun vs H Q E => ∃ (v : V) (ms : Option (List V)), vs = [v] ∧ ValA K H v ms ∧
  ((isIs ms = false ∧ BadA C 0 H E) ∨ ∃ ns : List Int, ms = some (ns.map V.int) ∧ ∀ (H' : Hp), Same H H' → Q (.bl (frcB ns)) H')
theorem sc17 : FnScope ["counts"] ["counts"] (defScope (top 17)) := ⟨rfl, rfl, rfl, by decide +kernel, rfl, by decide +kernel, by decide +kernel⟩
theorem ok_frc {f : Addr} {fd : FuncData} (CL : Cal P w K mg base (L2.CX P w) 3 "lot_of" ["counts"] (spLotOf K C)) (F : Fun K "forces" "forces" (top 17) f fd) : FnOk P w K mg base (L2.CX P w) 4 f fd ["counts"] (spFrc K C) := by
  refine F.okX sc17 (fun vs H Q E h => ?_) (fun cdv A outer s H vs Q E hr h => ⟨_,
    (pss_one (ps_ret (pe_cmpR (op_eqD hr.units) (by exact (pe_calX CL hr (by decide) (takes_of rfl rfl rfl rfl) (fun _ _ _ _ z => z) (pa_cons (pv 0) pa_nil))) (pe_tup pa_nil) (nomark _)))), ?_⟩)
  · obtain ⟨v, ms, rfl, _⟩ := h
    rfl
  obtain ⟨v, ms, rfl, hv, h⟩ := h
  refine ⟨_, rfl, v, ms, rfl, hv, ?_⟩
  rcases h with ⟨hf, z⟩ | ⟨ns, rfl, q⟩
  · exact .inl ⟨hf, z⟩
  refine .inr ⟨ns, rfl, fun u o H1 s1 hu hL => ⟨(by show 0 ≤ sizeLine; decide), fun t ht => ?_⟩⟩
  have s2 : Same H1 (upd H1 t (.tup [])) := Same.new ht
  have t2 : SqT K (upd H1 t (.tup [])) t (([] : List Int).map V.int) := SqT.of upd_same
  have q := q _ (s1.trans s2)
  rw [← lot_frc hL] at q
  cases o with
  | none =>
    obtain rfl : u = .non := hu
    exact eqN0 t2 q
  | some L =>
    obtain ⟨l, rfl, hl⟩ := hu
    refine eqT0 (SqT.of (s2 _ _ hl)) t2 ?_
    have e : decide (some L = some ([] : List Int)) = decide (L = []) := by
      rw [decide_eq_decide, Option.some.injEq]
    rw [← e]
    exact q

theorem at_sq {K : PySem.W.Frag} {H : Hp} {a : Addr} {xs : List V} {i : Nat} {v : V} {z : Int} {Q : VK} (h : SqA K H a xs) (e : z = (i : Int)) (g : xs[i]? = some v) (q : Q v H) : rIx K (.ref a) (.int z) H Q := by
  rcases h with h | h
  · exact .inl ⟨a, _, _, _, rfl, rfl, h, atI_eq e g, q⟩
  · exact .inr (.inl ⟨a, _, _, _, rfl, rfl, h, atI_eq e g, q⟩)
theorem get_at {ns : List Int} {i : Int} (h : 0 ≤ i ∧ i < ns.length) : (ns.map V.int)[i.toNat]? = some (V.int (ns.getD i.toNat 0)) := by
  rw [List.getElem?_map, List.getD_eq_getElem?_getD, List.getElem?_eq_getElem (show i.toNat < ns.length by omega)]
  rfl
theorem mem_of_pick {ns is : List Int} (h : ∀ i ∈ is, 0 ≤ i ∧ i < ns.length) : ∀ n ∈ pick ns is, n ∈ ns := fun n hn => by
  obtain ⟨i, hi, rfl⟩ := List.mem_map.mp hn
  have := h i hi
  rw [List.getD_eq_getElem?_getD, List.getElem?_eq_getElem (show i.toNat < ns.length by omega)]
  exact List.getElem_mem _
theorem valA_list {K : PySem.W.Frag} {H : Hp} {a : Addr} {ns : List Int} (h : H a = some (.lst (ns.map V.int))) (hl : ns.length ≤ 9) (hb : ∀ n ∈ ns, sm 120 n) : ValA K H (.ref a) (some (ns.map V.int)) := by
  refine ⟨a, rfl, .inl (SqL.of h), ⟨_, .base (.lst h), .inl rfl⟩, fun x hx => ?_, by rw [List.length_map]; exact hl⟩
  obtain ⟨n, hn, rfl⟩ := List.mem_map.mp hx
  exact .inl ⟨n, rfl, hb n hn⟩
def spFA (K : PySem.W.Frag) : Sp := fun vs H Q _ => ∃ (a b : Addr) (ns is : List Int), vs = [.ref a, .ref b] ∧ SqA K H a (ns.map V.int) ∧ (∀ n ∈ ns, sm 120 n) ∧ SqA K H b (is.map V.int) ∧ (∀ i ∈ is, 0 ≤ i ∧ i < ns.length) ∧ is.length ≤ 9 ∧
  ∀ H', Same H H' → Q (.bl (frcB (pick ns is))) H'
theorem sc20 : FnScope ["counts", "indexes", "at"] ["counts", "indexes"] (defScope (top 20)) := ⟨rfl, rfl, rfl, by decide +kernel, rfl, by decide +kernel, by decide +kernel⟩
theorem ok_fA {f : Addr} {fd : FuncData} (CF : Cal P w K mg base (L2.CX P w) 4 "forces" ["counts"] (spFrc K C)) (F : Fun K "_force_at" "_force_at" (top 20) f fd) : FnOk P w K mg base (L2.CX P w) 5 f fd ["counts", "indexes"] (spFA K) := by
  refine F.okX sc20 (fun vs H Q E h => ?_) (fun cdv A outer s H vs Q E hr h => ⟨_,
    (pss_one (ps_ret (by exact (pe_calX CF hr (by decide) (takes_of rfl rfl rfl rfl) (fun _ _ _ _ z => z) (pa_cons (pe_lc (own := [("at", 2)]) (g := gName 2) (tt := tYes) rfl sc20.nd (pi_sq (pv 1)) (blkOk_by (N := ["counts", "indexes", "at"]) (sc := defScope (top 20)) (by decide +kernel))
        (fun _ _ _ _ _ => (pg_name (i := 2) sc20.nd rfl (Or.inl rfl))) (fun _ _ _ _ _ => pts_nil) (fun _ _ _ _ _ => (pe_ix (r := rIx K) ix_seq (pv 0) (pv 2) (fun _ _ => rfl)))) pa_nil))))), ?_⟩)
  · obtain ⟨a, b, ns, is, rfl, _⟩ := h
    rfl
  obtain ⟨a, b, ns, is, rfl, hA, hb, hB, hi, hl, q⟩ := h
  refine ⟨_, rfl, b, rfl, lc_sq hB (fun D i H2 => Same H H2 ∧ H2 D = some (.lst ((pick ns (is.take i)).map V.int))) (fun D hD => ⟨Same.new hD, upd_same⟩) (fun D i H2 p => Ke.of p.1) ?_ ?_⟩
  · rintro D i x H2 hD hx ⟨p1, p2⟩
    obtain ⟨k, hk, rfl⟩ := map_at hx
    have kb := hi k (List.mem_of_getElem? hk)
    refine ⟨rfl, _, rfl, _, rfl, at_sq (Same.sqA p1 hA) (show k = (k.toNat : Int) by omega) (get_at kb) ⟨_, p2, len_lt (by unfold pick; rw [List.length_map, List.length_map, List.length_take]; omega), Same.upd p1 hD, ?_⟩⟩
    rw [upd_same, take_at hk]
    unfold pick
    rw [List.map_append, List.map_append]
    rfl
  · rintro D H2 hD ⟨p1, p2⟩
    rw [List.length_map, List.take_length] at p2
    exact ⟨_, _, rfl, valA_list p2 (by unfold pick; rw [List.length_map]; exact hl) (fun n hn => hb n (mem_of_pick hi n hn)), .inr ⟨_, rfl, fun H' s' => q _ (p1.trans s')⟩⟩

theorem but_at {is : List Int} {i : Nat} {k j : Int} (h : is[i]? = some k) : but (is.take (i + 1)) j = but (is.take i) j ++ if k ≠ j then [k] else [] := by
  unfold but
  rw [filt_at h]
  by_cases z : k = j
  · rw [if_neg (by simp [z]), if_neg (by simp [z])]
  · rw [if_pos (by simp [z]), if_pos z]
theorem rg_upto (n : Nat) : rgV 0 (n : Int) = (upto n).map V.int := by
  unfold rgV upto
  rw [List.map_map]
  have e : ((n : Int) - 0).toNat = n := by omega
  rw [e]
  refine List.map_congr_left fun i _ => ?_
  show V.int (0 + (i : Int)) = V.int (i : Int)
  rw [Int.zero_add]
def spLeF (K : PySem.W.Frag) (C : Addr) : Sp := fun vs H Q E => ∃ (v : V) (ms : Option (List V)), vs = [v] ∧ ValA K H v ms ∧
  ((isIs ms = false ∧ BadA C 0 H E) ∨ ∃ ns : List Int, ms = some (ns.map V.int) ∧ ∀ (u : V) (H' : Hp), Same H H' → ((u = .non ∧ frcB ns = false) ∨ ∃ (p : Addr) (is : List Int), u = .ref p ∧ H' p = some (.tup (is.map V.int)) ∧ Least ns is ∧ frcB ns = true ∧ H p = none ∧ is.length ≤ ns.length) → Q u H')
theorem sc18 : FnScope ["counts", "kept", "left", "fewer", "at"] ["counts"] (defScope (top 18)) := ⟨rfl, rfl, rfl, by decide +kernel, rfl, by decide +kernel, by decide +kernel⟩
theorem ok_leF {f : Addr} {fd : FuncData} (B : Bl mg) (CF : Cal P w K mg base (L2.CX P w) 4 "forces" ["counts"] (spFrc K C)) (CA : Cal P w K mg base (L2.CX P w) 5 "_force_at" ["counts", "indexes"] (spFA K)) (F : Fun K "least_forcing" "least_forcing" (top 18) f fd) : FnOk P w K mg base (L2.CX P w) 6 f fd ["counts"] (spLeF K C) := by
  refine F.okX sc18 (fun vs H Q E h => ?_) (fun cdv A outer s H vs Q E hr h => ⟨_,
    (pss_cons (ps_if (pt_not (pt_val (by exact (pe_calX CF hr (by decide) (takes_of rfl rfl rfl rfl) (fun _ _ _ _ z => z) (pa_cons (pv 0) pa_nil))))) (pss_one (ps_ret pe_non)) pss_nil)
    (pss_cons (ps_set (i := 1) sc18.nd rfl (.inl rfl) (pe_listRg rfl (by rfl) B.list (prg_1 (by rfl) B.range (pe_callB call_len_seq (by rfl) B.len PySem.boot_len (pa_cons (pv 0) pa_nil)))))
    (pss_cons (ps_for (passes_of rfl) rfl (pi_range1 (by rfl) B.range (pa_cons (pe_callB call_len_seq (by rfl) B.len PySem.boot_len (pa_cons (pv 0) pa_nil)) pa_nil)) (pg_name (i := 2) sc18.nd rfl (.inr rfl)) (pss_cons (ps_setLc (i := 3) (own := [("at", 4)]) (g := gName 4) rfl sc18.nd rfl rfl (sw_true rfl rfl rfl (by decide +kernel)) (pi_list (pv 1)) (blkOk_by (N := ["counts", "kept", "left", "fewer", "at"]) (sc := defScope (top 18)) (by decide +kernel))
        (fun _ _ _ _ _ => (pg_name (i := 4) sc18.nd rfl (Or.inl rfl))) (fun _ _ _ _ _ => (pts_one (pt_cmpR op_ne (pv 4) (pv 2) (nomark _)))) (fun _ _ _ _ _ => (pv 4)))
    (pss_one (ps_if (pt_val (by exact (pe_calS CA hr (by decide) (fun σ => passL σ) (pa_cons (pv 0) (pa_cons (pv 3) pa_nil))))) (pss_one (ps_set (i := 1) sc18.nd rfl (.inl rfl) (pv 3))) pss_nil))))
    (pss_one (ps_ret (pe_callTy call_tuple_of (by rfl) B.tuple (by decide +kernel) (pa_cons (pv 1) pa_nil))))))), ?_⟩)
  · obtain ⟨v, ms, rfl, _⟩ := h
    rfl
  obtain ⟨v, ms, rfl, hv, h⟩ := h
  refine ⟨_, rfl, v, ms, rfl, hv, ?_⟩
  rcases h with ⟨hf, z⟩ | ⟨ns, rfl, q⟩
  · exact .inl ⟨hf, z⟩
  refine .inr ⟨ns, rfl, fun H1 s1 => ⟨_, rfl, ?_⟩⟩
  obtain ⟨a, rfl, hA, hl, hb⟩ := valA_ints (hv.same s1)
  have lm : (ns.map V.int).length = ns.length := List.length_map ..
  cases e : frcB ns with
  | false => exact iteT (q _ _ s1 (.inl ⟨rfl, e⟩))
  | true =>
    refine iteF ?_
    refine ⟨_, rfl, a, _, rfl, hA, _, rfl, RgOk.of_le (by omega) (by rw [lm]; omega) (by omega) (by omega), fun kp hk => ?_⟩
    dsimp only [gName]
    have k1 : upd H1 kp (.lst (rgV 0 (((ns.map V.int).length : Nat) : Int))) kp = some (.lst ((upto ns.length).map V.int)) := by
      rw [upd_same, lm, rg_upto]
    have s2 : Same H1 (upd H1 kp (.lst (rgV 0 (((ns.map V.int).length : Nat) : Int)))) := Same.new hk
    generalize upd H1 kp (.lst (rgV 0 (((ns.map V.int).length : Nat) : Int))) = H2 at k1 s2
    refine ⟨_, rfl, a, _, rfl, Same.sqA s2 hA, _, rfl, by rw [lm]; omega, by rw [lm]; omega, for_range (n := (((ns.map V.int).length : Nat) : Int).toNat) (fun i σ H' => ∃ (kp : Addr) (is : List Int) (u2 u3 u4 : Option V), σ = [some (.ref a), some (.ref kp), u2, u3, u4] ∧ H' kp = some (.lst (is.map V.int)) ∧ is.length ≤ ns.length ∧ LF ns is i ∧ Same H1 H')
      ⟨kp, upto ns.length, none, none, none, rfl, k1, by unfold upto; rw [List.length_map, List.length_range]; exact Nat.le_refl _, LF.start (frcB_iff.mp e), s2⟩ ?_ ?_⟩
    · rintro i σ H3 hi ⟨kp, is, u2, u3, u4, rfl, k3, il, hL, s3⟩
      rw [Int.zero_add]
      refine ⟨_, rfl, kp, rfl, ⟨_, SqL.of k3⟩, fun D hD => lc_list (xs := is.map V.int) (fun j H4 => Same H3 H4 ∧ H4 D = some (.lst ((but (is.take j) i).map V.int))) ⟨Same.new hD, upd_same⟩ (fun j H4 _ p => p.1.seq (SqL.of k3)) ?_ ?_⟩
      · rintro j x H4 hx ⟨p1, p2⟩
        obtain ⟨k, hk', rfl⟩ := map_at hx
        refine ⟨rfl, _, rfl, _, rfl, rfl, _, rfl, ?_⟩
        by_cases z : k = (i : Int)
        · refine iteN (by simp [z]) ⟨p1, ?_⟩
          rw [but_at hk', if_neg (by simp [z]), List.append_nil]
          exact p2
        · refine iteP (by simp [z]) ⟨_, rfl, _, p2, len_lt ?_, Same.upd p1 hD, ?_⟩
          · have x := but_len (is.take j) (i : Int)
            have y := List.length_take_le' j is
            rw [List.length_map]
            omega
          · rw [upd_same, but_at hk', if_pos z, List.map_append]
            rfl
      · rintro H4 ⟨p1, p2⟩
        rw [List.length_map, List.take_length] at p2
        have bl := but_len is (i : Int)
        refine ⟨_, rfl, _, rfl, a, D, ns, but is (i : Int), rfl, Same.sqA (s3.trans p1) hA, hb, .inl (SqL.of p2), fun x hx => hL.idx.lt x (mem_but.mp hx).1, by omega, fun H5 s5 => ⟨_, rfl, ?_⟩⟩
        cases e4 : frcB (pick ns (but is (i : Int))) with
        | true => exact iteT ⟨_, rfl, D, _, _, _, _, rfl, s5 _ _ p2, by omega, hL.out (frcB_iff.mp e4), (s3.trans p1).trans s5⟩
        | false => exact iteF ⟨kp, is, _, _, _, rfl, (p1.trans s5) _ _ k3, il, hL.stay (fun z => by rw [frcB_iff.mpr z] at e4; cases e4), (s3.trans p1).trans s5⟩
    · rintro σ H3 ⟨kp, is, u2, u3, u4, rfl, k3, il, hL, s3⟩
      have eN : (((ns.map V.int).length : Nat) : Int).toNat = ns.length := by rw [lm]; omega
      rw [eN] at hL
      refine ⟨_, rfl, kp, _, rfl, .inl ⟨SqL.of k3, fun t ht => q _ _ ((s1.trans s3).trans (Same.new ht)) (.inr ⟨t, is, rfl, upd_same, hL.done, e, (s1.trans s3).free ht, il⟩)⟩⟩

theorem leastV_bel {ns : List Int} {ys : List V} (h : ys.all (belV ns.length) = false) : leastV ns (some ys) = false := by
  cases e : leastV ns (some ys) with
  | false => rfl
  | true =>
    unfold leastV leastB idxB at e
    simp only [Bool.and_eq_true, decide_eq_true_eq] at e
    obtain ⟨e1, ⟨⟨e2, _⟩, _⟩, _⟩ := e
    obtain ⟨is, rfl⟩ := ints_of e1
    rw [intsOf_ints] at e2
    have : (is.map V.int).all (belV ns.length) = true := by
      rw [List.all_eq_true]
      intro x hx
      obtain ⟨i, hi, rfl⟩ := List.mem_map.mp hx
      have := e2 i hi
      show (decide (0 ≤ i) && decide (i < (ns.length : Int))) = true
      simp [this.1, this.2]
    rw [this] at h
    cases h
theorem bel_ints {m : Nat} {ys : List V} (h : ys.all (belV m) = true) : ∃ is : List Int, ys = is.map V.int ∧ ∀ i ∈ is, 0 ≤ i ∧ i < m := by
  have hI : ys.all isI = true := by
    rw [List.all_eq_true] at h ⊢
    intro x hx
    have := h x hx
    cases x <;> first | rfl | cases this
  obtain ⟨is, rfl⟩ := ints_of hI
  refine ⟨is, rfl, fun i hi => ?_⟩
  rw [List.all_eq_true] at h
  have := h _ (List.mem_map.mpr ⟨i, hi, rfl⟩)
  have e : (decide (0 ≤ i) && decide (i < (m : Int))) = true := this
  simpa using e
theorem leastV_ints (ns is : List Int) : leastV ns (some (is.map V.int)) = leastB ns is := by
  show ((is.map V.int).all isI && leastB ns (intsOf (is.map V.int))) = leastB ns is
  rw [intsOf_ints, show (is.map V.int).all isI = true from isIs_int is, Bool.true_and]
theorem leastB_eq {ns is : List Int} (h : ∀ i ∈ is, 0 ≤ i ∧ i < ns.length) (h2 : is.Pairwise (· < ·)) (h3 : frcB (pick ns is) = true) : leastB ns is = !((is.map fun k => frcB (pick ns (but is k))).any id) := by
  unfold leastB idxB
  rw [decide_eq_true h, decide_eq_true h2, h3]
  simp only [Bool.true_and]
  rw [Bool.eq_iff_iff, decide_eq_true_eq, Bool.not_eq_true', List.any_map, List.any_eq_false]
  constructor
  · intro z x hx
    simp [z x hx]
  · intro z x hx
    simpa using z x hx
def spILF (K : PySem.W.Frag) (C : Addr) : Sp := fun vs H Q E => ∃ (v x : V) (ms xs : Option (List V)), vs = [v, x] ∧ ValA K H v ms ∧ ValT K H x xs ∧
  ((isIs ms = false ∧ BadA C 0 H E) ∨ ∃ ns : List Int, ms = some (ns.map V.int) ∧ ∀ (H' : Hp), Same H H' → Q (.bl (leastV ns xs)) H')
theorem sc19 : FnScope ["counts", "value", "left", "at"] ["counts", "value"] (defScope (top 19)) := ⟨rfl, rfl, rfl, by decide +kernel, rfl, by decide +kernel, by decide +kernel⟩
theorem ok_ilf {f : Addr} {fd : FuncData} (B : Bl mg) (CK : Cal P w K mg base (L2.CX P w) 2 "check_integers" ["value", "at"] (spChk K C)) (CB : Cal P w K mg base CX0 2 "is_below" ["value", "bound"] (spBel K)) (CAs : Cal P w K mg base CX0 1 "is_ascending" ["values"] (spAsc K)) (CA : Cal P w K mg base (L2.CX P w) 5 "_force_at" ["counts", "indexes"] (spFA K)) (F : Fun K "is_least_forcing" "is_least_forcing" (top 19) f fd) : FnOk P w K mg base (L2.CX P w) 6 f fd ["counts", "value"] (spILF K C) := by
  refine F.okX sc19 (fun vs H Q E h => ?_) (fun cdv A outer s H vs Q E hr h => ⟨_,
    (pss_cons (ps_expr (by exact (pe_calX CK hr (by decide) (takes_of rfl rfl rfl rfl) (fun _ _ _ _ z => z) (pa_cons (pv 0) (pa_cons pe_int pa_nil)))))
    (pss_cons (ps_if (PW.pt (pw_or (pt_not (pt_val (pe_callB call_isi (by rfl) B.isi (by decide +kernel) (pa_cons (pv 1) (pa_cons (pe_bltn (v := .ty "tuple") (by rfl) B.tuple (by decide +kernel) rfl) pa_nil))))) (pw_or1 (pt_not (pt_val (pe_callB (cr_all rfl) (by rfl) B.all (by decide +kernel) (pa_cons (pe_lc (own := [("at", 3)]) (g := gName 3) (tt := tYes) rfl sc19.nd (pi_tup (pv 1)) (blkOk_by (N := ["counts", "value", "left", "at"]) (sc := defScope (top 19)) (by decide +kernel))
        (fun _ _ _ _ _ => (pg_name (i := 3) sc19.nd rfl (Or.inl rfl))) (fun _ _ _ _ _ => pts_nil) (fun _ _ _ _ _ => (pe_cal CB hr (by decide) (pa_cons (pv 3) (pa_cons (pe_callB (r := rLenQ K) call_lenQ (by rfl) B.len PySem.boot_len (pa_cons (pv 0) pa_nil)) pa_nil))))) pa_nil))))))) (pss_one (ps_ret pe_bl)) pss_nil)
    (pss_cons (ps_if (PW.pt (pw_or (pt_not (pt_val (by exact (pe_cal CAs hr (by decide) (pa_cons (pv 1) pa_nil))))) (pw_or1 (pt_not (pt_val (by exact (pe_calS CA hr (by decide) (fun σ => passL σ) (pa_cons (pv 0) (pa_cons (pv 1) pa_nil))))))))) (pss_one (ps_ret pe_bl)) pss_nil)
    (pss_one (ps_ret (pe_not (pe_callB (cr_any rfl) (by rfl) B.any (by decide +kernel) (pa_cons (pe_lc (own := [("left", 2)]) (g := gName 2) (tt := tYes) rfl sc19.nd (pi_tup (pv 1)) (blkOk_by (N := ["counts", "value", "left", "at"]) (sc := defScope (top 19)) (by decide +kernel))
        (fun _ _ _ _ _ => (pg_name (i := 2) sc19.nd rfl (Or.inr rfl))) (fun _ _ _ _ _ => pts_nil) (fun _ _ _ _ _ => (pe_calS CA hr (by decide) (fun σ => passL σ) (pa_cons (pv 0) (pa_cons (pe_lcN ["counts", "value", "left", "at"] (wi := iTup K (tVar 1)) (own := [("at", 3)]) (g := gName 3) rfl sc19.nd (by exact (pi_tup (pv 1))) rfl (by decide +kernel)
        (fun _ _ _ _ _ => (pg_name (i := 3) sc19.nd rfl (Or.inl rfl))) (fun _ _ _ _ _ => (pts_one (pt_cmpR op_ne (pv 3) (pv 2) (nomark _)))) (fun _ _ _ _ _ => (pv 3))) pa_nil))))) pa_nil)))))))), ?_⟩)
  · obtain ⟨v, x, ms, xs, rfl, _⟩ := h
    rfl
  obtain ⟨v, x, ms, xs, rfl, hv, hx, h⟩ := h
  refine ⟨_, rfl, v, 0, ms, rfl, hv, fun ht H1 s1 => ?_, fun hf => ?_⟩
  · rcases h with ⟨hf, _⟩ | ⟨ns, rfl, q⟩
    · rw [ht] at hf
      cases hf
    obtain ⟨a, rfl, hA, hl, hb⟩ := valA_ints (hv.same s1)
    have hx := hx.same s1
    obtain ⟨t, ty, kt⟩ := valT_kit hx
    refine ⟨_, rfl, x, _, t, _, xs.isSome, rfl, .ty _, ty, kt, _, rfl, ?_⟩
    cases xs with
    | none => exact iteT (iteT (q _ s1))
    | some ys =>
      obtain ⟨b, rfl, hB, _, hI, hl2⟩ := hx
      refine iteF ⟨_, rfl, b, rfl, ⟨_, hB⟩, fun D hD => lc_tup (xs := ys) (fun i H2 => Same H1 H2 ∧ H2 D = some (.lst ((ys.take i).map fun y => V.bl (belV ns.length y)))) ⟨Same.new hD, upd_same⟩ (fun i H2 _ p => Same.seqT p.1 hB) ?_ ?_⟩
      · rintro i y H2 hy ⟨p1, p2⟩
        refine ⟨rfl, _, rfl, _, rfl, a, _, rfl, Same.sqA p1 hA, y, _, rfl, (hI y (List.mem_of_getElem? hy)).same p1, _, p2, len_lt (by rw [List.length_map, List.length_take]; omega), Same.upd p1 hD, ?_⟩
        rw [upd_same, List.take_succ, hy, List.map_append, List.length_map]
        rfl
      · rintro H2 ⟨p1, p2⟩
        rw [List.take_length] at p2
        refine ⟨D, ys.map (belV ns.length), rfl, SqL.of (by rw [p2, List.map_map]; rfl), _, rfl, ?_⟩
        have ea : (ys.map (belV ns.length)).all id = ys.all (belV ns.length) := by
          rw [List.all_map]
          rfl
        rw [ea]
        have s2 := s1.trans p1
        cases e1 : ys.all (belV ns.length) with
        | false =>
          have q := q _ s2
          rw [leastV_bel e1] at q
          exact iteT q
        | true =>
          obtain ⟨is, rfl, hi⟩ := bel_ints e1
          rw [leastV_ints] at q
          rw [List.length_map] at hl2
          refine iteF ⟨_, rfl, b, is, rfl, Same.seqT p1 hB, by omega, fun H3 s3 => ⟨_, rfl, ?_⟩⟩
          have s4 := s2.trans s3
          cases e2 : decide (is.Pairwise (· < ·)) with
          | false =>
            have q := q _ s4
            have z : leastB ns is = false := by
              unfold leastB idxB
              rw [e2, Bool.and_false]
              rfl
            rw [z] at q
            exact iteT (iteT q)
          | true =>
            have hA3 := Same.sqA (p1.trans s3) hA
            have hB3 := Same.seqT (p1.trans s3) hB
            refine iteF ⟨_, rfl, _, rfl, a, b, ns, is, rfl, hA3, hb, .inr hB3, hi, hl2, fun H4 s5 => ⟨_, rfl, ?_⟩⟩
            cases e3 : frcB (pick ns is) with
            | false =>
              have q := q _ (s4.trans s5)
              have z : leastB ns is = false := by
                unfold leastB
                rw [e3, Bool.and_false]
                rfl
              rw [z] at q
              exact iteT q
            | true =>
              rw [leastB_eq hi (of_decide_eq_true e2) e3] at q
              have hA4 := Same.sqA s5 hA3
              have hB4 := Same.seqT s5 hB3
              refine iteF ⟨_, rfl, b, rfl, ⟨_, hB4⟩, fun D2 hD2 => lc_tup (xs := is.map V.int) (fun i H5 => Same H4 H5 ∧ H5 D2 = some (.lst ((is.take i).map fun k => V.bl (frcB (pick ns (but is k)))))) ⟨Same.new hD2, upd_same⟩ (fun i H5 _ p => Same.seqT p.1 hB4) ?_ ?_⟩
              · rintro i y H5 hy ⟨r1, r2⟩
                obtain ⟨k, hk, rfl⟩ := map_at hy
                have hB5 := Same.seqT r1 hB4
                refine ⟨rfl, _, rfl, _, rfl, b, rfl, ⟨_, hB5⟩, fun D3 hD3 => lc_tup (xs := is.map V.int) (fun j H6 => Same H5 H6 ∧ H6 D3 = some (.lst ((but (is.take j) k).map V.int))) ⟨Same.new hD3, upd_same⟩ (fun j H6 _ p => Same.seqT p.1 hB5) ?_ ?_⟩
                · rintro j z H6 hz ⟨w1, w2⟩
                  obtain ⟨l, hl6, rfl⟩ := map_at hz
                  refine ⟨rfl, _, rfl, _, rfl, rfl, _, rfl, ?_⟩
                  by_cases lk : l = k
                  · refine iteN (by simp [lk]) ⟨w1, ?_⟩
                    rw [but_at hl6, if_neg (by simp [lk]), List.append_nil]
                    exact w2
                  · refine iteP (by simp [lk]) ⟨_, rfl, _, w2, len_lt ?_, Same.upd w1 hD3, ?_⟩
                    · have x := but_len (is.take j) k
                      have y := List.length_take_le' j is
                      rw [List.length_map]
                      omega
                    · rw [upd_same, but_at hl6, if_pos lk, List.map_append]
                      rfl
                · rintro H6 ⟨w1, w2⟩
                  rw [List.length_map, List.take_length] at w2
                  have bl := but_len is k
                  refine ⟨a, D3, ns, but is k, rfl, Same.sqA (r1.trans w1) hA4, hb, .inl (SqL.of w2), fun x hx => hi x (mem_but.mp hx).1, by omega, fun H7 s7 => ⟨_, (w1.trans s7) _ _ r2, len_lt (by rw [List.length_map, List.length_take]; omega), Same.upd ((r1.trans w1).trans s7) hD2, ?_⟩⟩
                  rw [upd_same, take_at hk, List.map_append]
                  rfl
              · rintro H5 ⟨r1, r2⟩
                rw [List.length_map, List.take_length] at r2
                exact ⟨D2, is.map fun k => frcB (pick ns (but is k)), rfl, SqL.of (by rw [r2, List.map_map]; rfl), _, rfl, q _ ((s4.trans s5).trans r1)⟩
  · rcases h with ⟨_, z⟩ | ⟨ns, rfl, q⟩
    · exact z
    · rw [isIs_int] at hf
      cases hf

end
end KV

/-! the law: in another order, counts, least ones -/
namespace KV
open PySem PySem.Spec PyProof.Rows L2 KM
theorem map_erase (ls : List Int) (k : Nat) : (ls.map V.int).eraseIdx k = (ls.eraseIdx k).map V.int := by
  induction ls generalizing k with
  | nil => rfl
  | cons x ls ih =>
    cases k with
    | zero => rfl
    | succ k =>
      show V.int x :: (ls.map V.int).eraseIdx k = V.int x :: (ls.eraseIdx k).map V.int
      rw [ih]
theorem perm_erase : ∀ (ls : List Int) (k : Nat) (h : k < ls.length), (ls[k] :: ls.eraseIdx k).Perm ls
  | x :: ls, 0, _ => List.Perm.refl _
  | x :: ls, k + 1, h => by
    have h' : k < ls.length := by simpa using h
    have z := perm_erase ls k h'
    show (ls[k] :: x :: ls.eraseIdx k).Perm (x :: ls)
    exact (List.Perm.swap x _ _).trans (z.cons x)
theorem map_get {ls : List Int} {k : Nat} (h : k < ls.length) : (ls.map V.int)[k]? = some (V.int ls[k]) := by
  rw [List.getElem?_map, List.getElem?_eq_getElem h]
  rfl
theorem six_ok {r : Int} {n : Nat} (h0 : 0 ≤ r) (h1 : r < n) : seqIndex? r n = some r.toNat := by
  unfold seqIndex?
  have e1 : ¬ r < 0 := by omega
  simp only [e1, if_false]
  rw [if_pos (by simp only [Bool.and_eq_true, decide_eq_true_eq]; omega)]
section
variable {P : Program} {w : World} {K : PySem.W.Frag} {mg : Str → Option Value} {base : Heap}
def spMix : Sp := fun vs H Q _ => ∃ (d c a : Addr) (ns : List Int), vs = [.ref d, .ref a] ∧ Dl H d c ∧ H a = some (.lst (ns.map V.int)) ∧ a ≠ d ∧ a ≠ c ∧ ns.length ≤ 16 ∧ ∀ (l : Addr) (ms : List Int) (H' : Hp), ms.Perm ns → H l = none → H' l = some (.lst (ms.map V.int)) → Dl H' d c → Kp d c H H' → Q (.ref l) H'
def MixW (d c a l f : Addr) (ns : List Int) (H : Hp) (k : Nat) (σ : L2.St) (H' : Hp) : Prop := σ = [some (.ref d), some (.ref a), some (.ref l), some (.ref f)] ∧ ∃ ls fs : List Int, k = ls.length ∧ (fs ++ ls).Perm ns ∧ H' l = some (.lst (ls.map V.int)) ∧ H' f = some (.lst (fs.map V.int)) ∧ Dl H' d c ∧ Kp d c H H'
theorem sc25 : FnScope ["_law_deal", "_law_some_here", "_law_left", "_law_found"] ["_law_deal", "_law_some_here"] (defScope (top 25)) := ⟨rfl, rfl, rfl, by decide +kernel, rfl, by decide +kernel, by decide +kernel⟩
theorem ok_mixed {f : Addr} {fd : FuncData} (B : Bl mg) (CA : Cal P w K mg base CX0 1 "_law_any" ["_law_deal", "_law_bound"] spAny) (F : Fun K "_law_mixed" "_law_mixed" (top 25) f fd) : FnOk P w K mg base CX0 2 f fd ["_law_deal", "_law_some_here"] spMix := by
  refine F.ok sc25 (fun vs H Q E h => ?_) (fun cdv A outer s H vs Q E hr h => ⟨_,
    (pss_cons (ps_par (i := 2) (j := 3) rfl sc25.nd rfl rfl (by decide) rfl rfl (pa_cons (pe_callTy call_list_of (by rfl) B.list (by decide +kernel) (pa_cons (pv 1) pa_nil)) (pa_cons (pe_lst pa_nil) pa_nil)) (by rfl))
    (pss_cons (ps_while PassesOwn.never (pt_cmpR (op_neD hr.units) (pv 2) (pe_lst pa_nil) (nomark _)) (pss_one (ps_expr (pe_bm PySem.F.plainAttrs_list PySem.F.slot_list_append PySem.F.type_list_append mt_append (pv 3) (pa_cons (pe_bm PySem.F.plainAttrs_list PySem.F.slot_list_pop PySem.F.type_list_pop mt_popAt (pv 2) (pa_cons (by exact (pe_cal (X := L2.Cx.nox _) CA hr (by decide) (pa_cons (pv 0) (pa_cons (pe_callB call_len_seq (by rfl) B.len PySem.boot_len (pa_cons (pv 2) pa_nil)) pa_nil)))) pa_nil)) pa_nil)))))
    (pss_one (ps_ret (pv 3))))), ?_⟩)
  · obtain ⟨d, c, a, ns, rfl, _⟩ := h
    rfl
  obtain ⟨d, c, a, ns, rfl, hD, ha, ad, ac, hn, q⟩ := h
  refine ⟨_, rfl, a, _, rfl, .inl (SqL.of ha), fun l hl => ⟨(by show 0 ≤ sizeLine; decide), fun f hf => ⟨_, _, rfl, ?_⟩⟩⟩
  have ld := hD.ne hl
  have fd' := (hD.same (Same.new hl)).ne hf
  have lf : l ≠ f := fun e => by rw [← e, upd_same] at hf; cases hf
  have hfn : H f = none := (Same.new hl).free hf
  have h0 : MixW d c a l f ns H ns.length [some (.ref d), some (.ref a), some (.ref l), some (.ref f)] (upd (upd H l (.lst (ns.map V.int))) f (.lst [])) :=
    ⟨rfl, ns, [], rfl, List.Perm.refl _, by rw [upd_ne lf, upd_same], upd_same, (hD.same (Same.new hl)).same (Same.new hf), (Kp.refl.new hl).new hf⟩
  generalize upd (upd H l (.lst (ns.map V.int))) f (.lst []) = H1 at h0
  dsimp only
  refine sq_cut (MixW d c a l f ns H 0) (fun Z hZ => ⟨MixW d c a l f ns H, ⟨_, h0⟩, ?_⟩) ?_
  · rintro k σ H2 ⟨rfl, ls, fs, rfl, pe, h1, h2, hD2, k2⟩
    have le : ls.length ≤ 16 := by
      have := pe.length_eq
      rw [List.length_append] at this
      omega
    refine ⟨_, rfl, (by show 0 ≤ sizeLine; decide), fun p hp => ?_⟩
    have sp : Same H2 (upd H2 p (.lst [])) := Same.new hp
    have h1 := sp _ _ h1
    have h2 := sp _ _ h2
    have hD2 := hD2.same sp
    have k2 := k2.trans (Kp.of sp)
    have hpp : upd H2 p (.lst []) p = some (.lst (([] : List Int).map V.int)) := upd_same
    generalize upd H2 p (.lst []) = H3 at h1 h2 hD2 k2 hpp
    refine neL (ms := []) (SqL.of h1) (SqL.of hpp) ⟨_, rfl, ?_⟩
    by_cases e : ls = []
    · subst e
      exact iteN (by simp) (hZ _ _ ⟨rfl, [], fs, rfl, pe, h1, h2, hD2, k2⟩)
    · have l0 : 0 < ls.length := List.length_pos_iff.mpr e
      have lv : (ls.map V.int).length = ls.length := List.length_map ..
      refine iteP (by simp [e]) ⟨fun σ H' => ∃ m', m' < ls.length ∧ MixW d c a l f ns H m' σ H', fun _ _ z => z, ?_⟩
      refine ⟨_, rfl, .inl ⟨rfl, _, SqL.of h2⟩, _, rfl, .inl ⟨rfl, _, SqL.of h1⟩, _, rfl, _, rfl, l, _, rfl, .inl (SqL.of h1), d, c, _, rfl, hD2, by omega, sm_of (by omega) (Int.lt_of_le_of_lt (show (((ls.map V.int).length : Nat) : Int) ≤ 1000 by omega) (by decide)), fun r H4 r0 r1 hD4 k4 => ?_⟩
      have hr1 : r.toNat < ls.length := by omega
      have g1 := k4 _ _ ld.1 ld.2 h1
      have g2 := k4 _ _ fd'.1 fd'.2 h2
      refine ⟨l, _, r, r.toNat, _, rfl, rfl, g1, by omega, by omega, six_ok r0 r1, map_get hr1, f, fs.map V.int, _, rfl, rfl, by rw [upd_ne (Ne.symm lf)]; exact g2, len_lt (by rw [List.length_map]; have z := pe.length_eq; rw [List.length_append] at z; omega), ?_⟩
      rw [map_erase]
      refine ⟨(ls.eraseIdx r.toNat).length, ?_, rfl, ls.eraseIdx r.toNat, fs ++ [ls[r.toNat]], rfl, ?_, ?_, ?_, ?_, ?_⟩
      · rw [List.length_eraseIdx_of_lt hr1]
        omega
      · have z : (ls[r.toNat] :: ls.eraseIdx r.toNat).Perm ls := perm_erase ls _ hr1
        rw [List.append_assoc]
        exact (List.Perm.append_left fs z).trans pe
      · rw [upd_ne lf, upd_same]
      · rw [upd_same, List.map_append]
        rfl
      · exact (hD4.upd ld.1 ld.2).upd fd'.1 fd'.2
      · exact ((k2.trans k4).updn hl).updn hfn
  · rintro σ H2 ⟨rfl, ls, fs, e0, pe, h1, h2, hD2, k2⟩
    have e : ls = [] := List.eq_nil_of_length_eq_zero e0.symm
    subst e
    rw [List.append_nil] at pe
    exact ⟨_, rfl, q f fs H2 pe hfn h2 hD2 k2⟩

def lot5 : List Int := [4, 3, 5, 7, 11]
theorem cut_lot {r : Int} (h0 : 0 ≤ r) (h1 : r < 4) : cutV (lot5.map V.int) none (some (2 + r)) = (lot5.take (2 + r.toNat)).map V.int := by
  have e : r = 0 ∨ r = 1 ∨ r = 2 ∨ r = 3 := by omega
  rcases e with rfl | rfl | rfl | rfl <;> rfl
theorem fit5 {l : List Int} (h : l.Sublist lot5) : FitL l := by
  have ge : ∀ n ∈ l, 3 ≤ n := fun n hn => by
    have := h.subset hn
    unfold lot5 at this
    simp at this
    omega
  have lt : ∀ n ∈ l, n < 2 ^ 4 := fun n hn => by
    have := h.subset hn
    unfold lot5 at this
    simp at this
    omega
  have len : l.length ≤ 5 := h.length_le
  refine ⟨ge, List.Pairwise.sublist h (by unfold lot5; decide +kernel), ?_, by omega⟩
  have h1 := prd_lek (k := 4) ge lt
  have e : (2 : Int) ^ (4 * l.length) ≤ 2 ^ 20 := by
    have := Nat.pow_le_pow_right (show 0 < 2 by decide) (show 4 * l.length ≤ 20 by omega)
    exact_mod_cast this
  have e2 : (2 : Int) ^ 20 < 2 ^ 100 := by decide
  omega
def spSome : Sp := fun vs H Q _ => ∃ (d c : Addr), vs = [.ref d] ∧ Dl H d c ∧ ∀ (a : Addr) (ns : List Int) (H' : Hp), H a = none → IsSq H' a ns → ns.length ≤ 7 → (∀ n ∈ ns, sm 105 n) → Dl H' d c → Kp d c H H' → Q (.ref a) H'
theorem sc32 : FnScope ["_law_deal", "_law_form", "_law_found", "_law_lot", "_law_turn", "_law_q"] ["_law_deal"] (defScope (top 32)) := ⟨rfl, rfl, rfl, by decide +kernel, rfl, by decide +kernel, by decide +kernel⟩
theorem ok_some {f : Addr} {fd : FuncData} (B : Bl mg) (CA : Cal P w K mg base CX0 1 "_law_any" ["_law_deal", "_law_bound"] spAny) (CO : Cal P w K mg base CX0 2 "_law_of" ["_law_deal", "_law_some_here"] (spOf K)) (CF : Cal P w K mg base CX0 2 "_law_fitting" ["_law_deal", "_law_lot"] (spFit K)) (F : Fun K "_law_some" "_law_some" (top 32) f fd) : FnOk P w K mg base CX0 3 f fd ["_law_deal"] spSome := by
  refine F.ok sc32 (fun vs H Q E h => ?_) (fun cdv A outer s H vs Q E hr h => ⟨_,
    (pss_cons (ps_par (i := 1) (j := 2) rfl sc32.nd rfl rfl (by decide) rfl rfl (pa_cons (by exact (pe_cal (X := L2.Cx.nox _) CA hr (by decide) (pa_cons (pv 0) (pa_cons pe_int pa_nil)))) (pa_cons (pe_lst pa_nil) pa_nil)) (by rfl))
    (pss_cons (ps_set (i := 3) sc32.nd rfl (.inr rfl) (pe_slice sl_list (pe_lst (pa_cons pe_int (pa_cons pe_int (pa_cons pe_int (pa_cons pe_int (pa_cons pe_int pa_nil)))))) po_none (po_some (pe_op op_add pe_int (by exact (pe_cal (X := L2.Cx.nox _) CA hr (by decide) (pa_cons (pv 0) (pa_cons pe_int pa_nil))))))))
    (pss_cons (ps_for PassesOwn.never rfl (pi_range1 (by rfl) B.range (pa_cons (by exact (pe_cal (X := L2.Cx.nox _) CA hr (by decide) (pa_cons (pv 0) (pa_cons pe_int pa_nil)))) pa_nil)) (pg_name (i := 4) sc32.nd rfl (.inr rfl)) (pss_one (ps_if (pt_cmpR op_eq (pv 1) pe_int (nomark _)) (pss_one (ps_expr (pe_bm PySem.F.plainAttrs_list PySem.F.slot_list_append PySem.F.type_list_append mt_append (pv 2) (pa_cons (pe_op op_sub (by exact (pe_cal (X := L2.Cx.nox _) CA hr (by decide) (pa_cons (pv 0) (pa_cons pe_int pa_nil)))) pe_int) pa_nil)))) (pss_one (ps_if (pt_cmpR op_eq (pv 1) pe_int (nomark _)) (pss_one (ps_expr (pe_bm PySem.F.plainAttrs_list PySem.F.slot_list_append PySem.F.type_list_append mt_append (pv 2) (pa_cons (by exact (pe_cal (X := L2.Cx.nox _) CO hr (by decide) (pa_cons (pv 0) (pa_cons (pe_lst (pa_cons pe_int (pa_cons pe_int (pa_cons pe_int (pa_cons pe_int (pa_cons pe_int (pa_cons pe_int (pa_cons pe_int (pa_cons pe_int (pa_cons pe_int (pa_cons pe_int (pa_cons pe_int (pa_cons pe_int (pa_cons pe_int pa_nil)))))))))))))) pa_nil)))) pa_nil)))) (pss_one (ps_if (pt_cmpR op_eq (pv 1) pe_int (nomark _)) (pss_one (ps_expr (pe_bm PySem.F.plainAttrs_list PySem.F.slot_list_append PySem.F.type_list_append mt_append (pv 2) (pa_cons (by exact (pe_cal (X := L2.Cx.nox _) CF hr (by decide) (pa_cons (pv 0) (pa_cons (pe_lc (own := [("_law_q", 5)]) (g := gName 5) rfl sc32.nd (pi_list (pv 3)) (blkOk_by (N := ["_law_deal", "_law_form", "_law_found", "_law_lot", "_law_turn", "_law_q"]) (sc := defScope (top 32)) (by decide +kernel))
        (fun _ _ _ _ _ => (pg_name (i := 5) sc32.nd rfl (Or.inl rfl))) (fun _ _ _ _ _ => (pts_one (pt_cmpR op_ne (pv 5) (pe_ix (r := rIxL K) ix_list (pv 3) (pe_op op_mod (pe_callTy call_int1 (by rfl) B.int PyProof.Rows.boot_int (pa_cons (pv 4) pa_nil)) (pe_callB (r := rLenQ K) call_lenQ (by rfl) B.len PySem.boot_len (pa_cons (pv 3) pa_nil))) (fun _ _ => rfl)) (nomark _)))) (fun _ _ _ _ _ => (pv 5))) pa_nil)))) pa_nil)))) (pss_one (ps_expr (pe_bm PySem.F.plainAttrs_list PySem.F.slot_list_append PySem.F.type_list_append mt_append (pv 2) (pa_cons (pe_op op_add (pe_op op_mulW (by exact (pe_cal (X := L2.Cx.nox _) CA hr (by decide) (pa_cons (pv 0) (pa_cons (pe_op op_pow pe_int pe_int) pa_nil)))) (by exact (pe_cal (X := L2.Cx.nox _) CO hr (by decide) (pa_cons (pv 0) (pa_cons (pe_lst (pa_cons pe_int (pa_cons (pe_un un_neg pe_int) pa_nil))) pa_nil))))) (by exact (pe_cal (X := L2.Cx.nox _) CA hr (by decide) (pa_cons (pv 0) (pa_cons pe_int pa_nil))))) pa_nil)))))))))))
    (pss_one (ps_ret (pe_ifExp (pt_cmpR op_eq (by exact (pe_cal (X := L2.Cx.nox _) CA hr (by decide) (pa_cons (pv 0) (pa_cons pe_int pa_nil)))) pe_int (nomark _)) (pv 2) (pe_callTy call_tuple_of (by rfl) B.tuple (by decide +kernel) (pa_cons (pv 2) pa_nil)))))))), ?_⟩)
  · obtain ⟨d, c, rfl, _⟩ := h
    rfl
  obtain ⟨d, c, rfl, hD, q⟩ := h
  refine ⟨_, rfl, d, c, 4, rfl, hD, by decide, by decide, fun g H1 _ _ D1 k1 => ⟨(by show 0 ≤ sizeLine; decide), fun l hl => ⟨_, _, rfl, ?_⟩⟩⟩
  have ld := D1.ne hl
  have hl0 : H l = none := k1.free ld.1 ld.2 hl
  have D2 : Dl (upd H1 l (.lst [])) d c := D1.same (Same.new hl)
  have k2 : Kp d c H (upd H1 l (.lst [])) := k1.new hl
  have hl1 : upd H1 l (.lst []) l = some (.lst (([] : List Int).map V.int)) := upd_same
  generalize upd H1 l (.lst []) = H2 at D2 k2 hl1
  refine ⟨(by show 5 ≤ sizeLine; decide), fun L hL => ?_⟩
  have Ld := D2.ne hL
  have D3 : Dl (upd H2 L (.lst [V.int 4, V.int 3, V.int 5, V.int 7, V.int 11])) d c := D2.same (Same.new hL)
  have k3 : Kp d c H (upd H2 L (.lst [V.int 4, V.int 3, V.int 5, V.int 7, V.int 11])) := k2.new hL
  have hl2 := Same.new (o := .lst [V.int 4, V.int 3, V.int 5, V.int 7, V.int 11]) hL _ _ hl1
  have hL2 : upd H2 L (.lst [V.int 4, V.int 3, V.int 5, V.int 7, V.int 11]) L = some (.lst (lot5.map V.int)) := upd_same
  generalize upd H2 L (.lst [V.int 4, V.int 3, V.int 5, V.int 7, V.int 11]) = H3 at D3 k3 hl2 hL2
  refine ⟨_, rfl, d, c, 4, rfl, D3, by decide, by decide, fun r H4 r0 r1 D4 k4 => ⟨_, _, rfl, rfl, _, rfl, L, _, rfl, SqL.of (k4 _ _ Ld.1 Ld.2 hL2), fun p p0 => ?_⟩⟩
  rw [cut_lot r0 r1]
  have pd := D4.ne p0
  have hl4 := k4 _ _ ld.1 ld.2 hl2
  have pl : p ≠ l := fun e => by rw [e, hl4] at p0; cases p0
  have LL : (lot5.take (2 + r.toNat)).Sublist lot5 := List.take_sublist _ _
  have Ln : 0 < (lot5.take (2 + r.toNat)).length := by
    rw [List.length_take]
    show 0 < min (2 + r.toNat) 5
    omega
  have Ln5 : (lot5.take (2 + r.toNat)).length ≤ 5 := LL.length_le
  generalize lot5.take (2 + r.toNat) = M at LL Ln Ln5 p0
  have D5 : Dl (upd H4 p (.lst (M.map V.int))) d c := D4.same (Same.new p0)
  have k5 : Kp d c H (upd H4 p (.lst (M.map V.int))) := (k3.trans k4).new p0
  have hl5 := Same.new (o := .lst (M.map V.int)) p0 _ _ hl4
  have hp5 : upd H4 p (.lst (M.map V.int)) p = some (.lst (M.map V.int)) := upd_same
  generalize upd H4 p (.lst (M.map V.int)) = H5 at D5 k5 hl5 hp5
  dsimp only [gName]
  refine ⟨_, rfl, d, c, 8, rfl, D5, by decide, by decide, fun t H6 t0 t1 D6 k6 => ⟨t, rfl, (by omega), (by omega), for_range (n := t.toNat)
    (fun i σ H' => ∃ (ns : List Int) (u v : Option V), ns.length ≤ i ∧ (∀ n ∈ ns, sm 105 n) ∧ σ = [some (.ref d), some (.int g), some (.ref l), some (.ref p), u, v] ∧ H' l = some (.lst (ns.map V.int)) ∧ H' p = some (.lst (M.map V.int)) ∧ Dl H' d c ∧ Kp d c H H')
    ⟨[], none, none, Nat.le_refl _, fun _ z => by simp at z, rfl, k6 _ _ ld.1 ld.2 hl5, k6 _ _ pd.1 pd.2 hp5, D6, k5.trans k6⟩ ?_ ?_⟩⟩
  · rintro i σ H' hi ⟨ns, u, v, hn, hb, rfl, hl', hp', D', k'⟩
    have hi4 : i < 7 := by omega
    have put : ∀ (r : Int) (H5 : Hp), sm 105 r → Dl H5 d c → Kp d c H' H5 → H5 l = some (.lst (ns.map V.int)) ∧ (ns.map V.int).length < sizeLine ∧
        (fun i σ H' => ∃ (ns : List Int) (u v : Option V), ns.length ≤ i ∧ (∀ n ∈ ns, sm 105 n) ∧ σ = [some (.ref d), some (.int g), some (.ref l), some (.ref p), u, v] ∧ H' l = some (.lst (ns.map V.int)) ∧ H' p = some (.lst (M.map V.int)) ∧ Dl H' d c ∧ Kp d c H H') (i + 1) ([some (.ref d), some (.int g), some (.ref l), some (.ref p), u, v].set 4 (some (V.int (0 + (i : Int))))) (upd H5 l (.lst (ns.map V.int ++ [V.int r]))) := by
      intro r H5 hr5 D5 k5
      refine ⟨k5 _ _ ld.1 ld.2 hl', len_lt (by rw [List.length_map]; omega), ns ++ [r], _, _, by rw [List.length_append, List.length_singleton]; omega, fun n hn => ?_, rfl, ?_, ?_, D5.upd ld.1 ld.2, (k'.trans k5).updn hl0⟩
      · rcases List.mem_append.mp hn with z | z
        · exact hb n z
        · have : n = r := by simpa using z
          rw [this]
          exact hr5
      · rw [upd_same, List.map_append]
        rfl
      · rw [upd_ne pl]
        exact k5 _ _ pd.1 pd.2 hp'
    refine ⟨_, rfl, rfl, _, rfl, ?_⟩
    by_cases e0 : g = 0
    · refine iteP (by simp [e0]) ⟨_, rfl, .inl ⟨rfl, _, SqL.of hl'⟩, _, rfl, d, c, 25, rfl, D', by decide, by decide, fun r H5 r0 r1 D5 k5 => ?_⟩
      obtain ⟨a1, a2, a3⟩ := put (r - 9) H5 (by show (r - 9).natAbs < 2 ^ 105; have : (31 : Nat) < 2 ^ 105 := (by decide); omega) D5 k5
      exact ⟨_, _, rfl, rfl, l, _, _, rfl, rfl, a1, a2, a3⟩
    refine iteN (by simp [e0]) ⟨_, rfl, rfl, _, rfl, ?_⟩
    by_cases e1 : g = 1
    · refine iteP (by simp [e1]) ⟨_, rfl, .inl ⟨rfl, _, SqL.of hl'⟩, _, rfl, (by show 13 ≤ sizeLine; decide), fun a ha => ⟨d, c, a, _, rfl, D'.same (Same.new ha), (D'.ne ha).1, (D'.ne ha).2, SqL.of upd_same, Nat.succ_pos _, (by show 13 ≤ 1000; decide), fun j x H6 hx D6 k6 => ?_⟩⟩
      obtain ⟨y, hy, rfl⟩ := map_at (ns := [0, 1, 3, 4, 6, 7, 9, 10, 12, 13, 15, 16, 21]) hx
      have hy2 := List.mem_of_getElem? hy
      have ys : sm 105 y := by
        simp at hy2
        show y.natAbs < 2 ^ 105
        have : (31 : Nat) < 2 ^ 105 := by decide
        omega
      obtain ⟨a1, a2, a3⟩ := put y H6 ys D6 ((Kp.of (Same.new ha)).trans k6)
      exact ⟨l, _, _, rfl, rfl, a1, a2, a3⟩
    refine iteN (by simp [e1]) ⟨_, rfl, rfl, _, rfl, ?_⟩
    by_cases e2 : g = 2
    · refine iteP (by simp [e2]) ⟨_, rfl, .inl ⟨rfl, _, SqL.of hl'⟩, _, rfl, _, rfl, p, rfl, ⟨_, SqL.of hp'⟩, fun D hD => ?_⟩
      have jl : ((0 + (i : Int)) % (M.length : Int)).toNat < M.length := by
        have a1 := Int.emod_nonneg (0 + (i : Int)) (show (M.length : Int) ≠ 0 by omega)
        have a2 := Int.emod_lt_of_pos (0 + (i : Int)) (show (0 : Int) < (M.length : Int) by omega)
        omega
      have je : (0 + (i : Int)) % (((M.map V.int).length : Nat) : Int) = ((((0 + (i : Int)) % (M.length : Int)).toNat : Nat) : Int) := by
        rw [List.length_map]
        have a1 := Int.emod_nonneg (0 + (i : Int)) (show (M.length : Int) ≠ 0 by omega)
        omega
      generalize ((0 + (i : Int)) % (M.length : Int)).toNat = j at jl je
      refine lc_list (xs := M.map V.int) (fun k G => Same H' G ∧ G D = some (.lst (((M.take k).filter fun q => decide (q ≠ M[j])).map V.int))) ⟨Same.new hD, upd_same⟩ (fun k G _ z => z.1.seq (SqL.of hp')) ?_ ?_
      · rintro k x H2 hx ⟨p1, p2⟩
        obtain ⟨y, hy, rfl⟩ := map_at hx
        have hp2 := p1 _ _ hp'
        refine ⟨rfl, _, rfl, _, rfl, _, rfl, .inl ⟨_, rfl, _, rfl, p, _, rfl, .inl (SqL.of hp2), _, _, rfl, rfl, (by show (0 : Int) < (((M.map V.int).length : Nat) : Int); rw [List.length_map]; omega), p, _, _, _, rfl, rfl, SqL.of hp2, atI_eq je (map_get jl), rfl, _, rfl, ?_⟩⟩
        by_cases z : y = M[j]
        · refine iteN (by simp [z]) ⟨p1, ?_⟩
          rw [filt_at hy, if_neg (by simp [z]), List.append_nil]
          exact p2
        · refine iteP (by simp [z]) ⟨_, rfl, _, p2, len_lt ?_, Same.upd p1 hD, ?_⟩
          · rw [List.length_map]
            have x := List.length_filter_le (fun q => decide (q ≠ M[j])) (M.take k)
            have y := List.length_take_le' k M
            omega
          · rw [upd_same, filt_at hy, if_pos (by simp [z]), List.map_append]
            rfl
      · rintro H2 ⟨p1, p2⟩
        rw [List.length_map, List.take_length] at p2
        have dD := D'.ne hD
        refine ⟨d, c, D, _, rfl, D'.same p1, dD.1, dD.2, .inl (SqL.of p2), fit5 ((List.filter_sublist (l := M)).trans LL), fun r H5 rs D5 k5 => ?_⟩
        obtain ⟨a1, a2, a3⟩ := put r H5 (sm_mono rs (by decide)) D5 ((Kp.of p1).trans k5)
        exact ⟨l, _, _, rfl, rfl, a1, a2, a3⟩
    refine iteN (by simp [e2]) ⟨_, rfl, .inl ⟨rfl, _, SqL.of hl'⟩, _, rfl, _, _, rfl, rfl, ⟨by decide, by decide, by decide⟩, d, c, _, rfl, D', by decide, by decide, fun r H5 r0 r1 D5 k5 => ?_⟩
    refine ⟨_, rfl, _, rfl, (by show 2 ≤ sizeLine; decide), fun a ha => ⟨d, c, a, _, rfl, D5.same (Same.new ha), (D5.ne ha).1, (D5.ne ha).2, SqL.of upd_same, by decide, by decide, fun j x H6 hx D6 k6 => ?_⟩⟩
    obtain ⟨y, hy, rfl⟩ := map_at (ns := [1, -1]) hx
    have hy2 := List.mem_of_getElem? hy
    have ys : sm 2 y := by
      simp at hy2
      show y.natAbs < 2 ^ 2
      omega
    have rs : sm 97 r := sm_of r0 (Int.lt_of_lt_of_le r1 (by decide))
    refine ⟨_, _, rfl, rfl, mulW rs ys (by decide) (by decide) (by decide), _, rfl, d, c, 3, rfl, D6, by decide, by decide, fun z H7 z0 z1 D7 k7 => ?_⟩
    have zs : sm 99 z := sm_of z0 (Int.lt_of_lt_of_le z1 (by decide))
    obtain ⟨a1, a2, a3⟩ := put (r * y + z) H7 (sm_mono (sm_add (sm_mul rs ys) zs) (by decide)) D7 (((k5.new ha).trans k6).trans k7)
    exact ⟨_, _, rfl, rfl, l, _, _, rfl, rfl, a1, a2, a3⟩
  · rintro σ H' ⟨ns, u, v, hn, hb, rfl, hl', hp', D', k'⟩
    refine ⟨_, rfl, d, c, 2, rfl, D', by decide, by decide, fun r H5 r0 r1 D5 k5 => ⟨rfl, _, rfl, ?_⟩⟩
    have hl5 := k5 _ _ ld.1 ld.2 hl'
    by_cases e : r = 0
    · exact iteP (by simp [e]) ⟨_, rfl, q l ns H5 hl0 (.inl hl5) (by omega) hb D5 (k'.trans k5)⟩
    · refine iteN (by simp [e]) ⟨_, rfl, l, _, rfl, .inl ⟨SqL.of hl5, fun m hm => ?_⟩⟩
      exact q m ns _ ((k'.trans k5).free (D5.ne hm).1 (D5.ne hm).2 hm) (.inr upd_same) (by omega) hb (D5.same (Same.new hm)) ((k'.trans k5).new hm)

end
end KV

/-! the law: forcing by its own steps, by primes, in another order -/
namespace KV
open PySem PySem.Spec PyProof.Rows L2 KM
theorem lfs_take_len {ns : List Int} (hl : ns.length ≤ 9) (i : Nat) : (lfs (ns.take i)).length ≤ 512 :=
  Nat.le_trans (lfs_len _) (Nat.pow_le_pow_right (show 0 < 2 by decide) (show (ns.take i).length ≤ 9 from Nat.le_trans (List.length_take_le' i ns) hl))
def noDivL (q : Int) : List Int := ((List.range (q - 2).toNat).map fun (k : Nat) => (2 : Int) + k).filter fun d => decide (q % d = 0)
def noDivB (q : Int) : Bool := decide (noDivL q = [])
theorem noDivB_iff {q : Int} : noDivB q = true ↔ noDiv q := by
  unfold noDivB noDivL noDiv
  rw [decide_eq_true_eq, List.filter_eq_nil_iff]
  constructor
  · intro h d d2 dq e
    refine h d (List.mem_map.mpr ⟨(d - 2).toNat, List.mem_range.mpr (by omega), by omega⟩) ?_
    simp [e]
  · intro h d hd
    obtain ⟨k, hk, rfl⟩ := List.mem_map.mp hd
    have := List.mem_range.mp hk
    have := h (2 + k) (by omega) (by omega)
    simpa using this
def primesL (i : Nat) : List Int := ((List.range i).map fun (k : Nat) => (3 : Int) + k).filter noDivB
theorem mem_primes {m q : Int} (hm : 3 ≤ m) : q ∈ primesL (m + 1 - 3).toNat ↔ 3 ≤ q ∧ q ≤ m ∧ noDiv q := by
  unfold primesL
  rw [List.mem_filter, noDivB_iff]
  constructor
  · rintro ⟨h, n⟩
    obtain ⟨k, hk, rfl⟩ := List.mem_map.mp h
    have := List.mem_range.mp hk
    exact ⟨by omega, by omega, n⟩
  · rintro ⟨a, b, n⟩
    exact ⟨List.mem_map.mpr ⟨(q - 3).toNat, List.mem_range.mpr (by omega), by omega⟩, n⟩
theorem primes_len (i : Nat) : (primesL i).length ≤ i := by
  unfold primesL
  refine Nat.le_trans (List.length_filter_le _ _) ?_
  rw [List.length_map, List.length_range]
  exact Nat.le_refl i
/-- what is left -/
def leftL (ns ps : List Int) : List Int := ps.filter fun q => decide ((ns.filter fun n => decide (1 < n % q)) = [])
def npl (ns : List Int) : List Int := ns.filter fun n => decide (n ≠ 0) && decide (n ≠ 1)
theorem by_primesB {ns ps : List Int} {most : Int} (hb : ∀ n ∈ ns, (n.natAbs : Int) + 1 ≤ most) (hm : most ≤ 31) (hp : ∀ q, q ∈ ps ↔ 3 ≤ q ∧ q ≤ most ∧ noDiv q) :
    (decide (leftL ns (4 :: ps) = []) && !decide (npl ns = [])) = frcB ns := by
  rw [Bool.eq_iff_iff, frcB_iff, by_primes hb hm hp, Bool.and_eq_true, decide_eq_true_eq, Bool.not_eq_true', decide_eq_false_iff_not]
  unfold leftL npl
  rw [List.filter_eq_nil_iff, List.filter_eq_nil_iff]
  refine and_congr ?_ ?_
  · constructor
    · intro h q hq
      have := h q hq
      rw [decide_eq_true_eq, List.filter_eq_nil_iff] at this
      refine Classical.byContradiction fun y => this fun n hn z => y ⟨n, hn, of_decide_eq_true z⟩
    · intro h q hq z
      rw [decide_eq_true_eq, List.filter_eq_nil_iff] at z
      obtain ⟨n, hn, w⟩ := h q hq
      exact z n hn (decide_eq_true w)
  · constructor
    · intro h
      refine Classical.byContradiction fun y => h fun n hn z => y ⟨n, hn, ?_⟩
      unfold pln
      simp at z
      omega
    · rintro ⟨n, hn, z⟩ h
      unfold pln at z
      have := h n hn
      simp at this
      omega
section
variable {P : Program} {w : World} {K : PySem.W.Frag} {mg : Str → Option Value} {base : Heap}
def spFrL (K : PySem.W.Frag) : Sp := fun vs H Q _ => ∃ (a : Addr) (ns : List Int), vs = [.ref a] ∧ SqA K H a (ns.map V.int) ∧ ns.length ≤ 9 ∧ ∀ H', Same H H' → Q (.bl (frcB ns)) H'
theorem sc30 : FnScope ["_law_counts", "_law_found", "_law_n", "_law_longer", "_law_one"] ["_law_counts"] (defScope (top 30)) := ⟨rfl, rfl, rfl, by decide +kernel, rfl, by decide +kernel, by decide +kernel⟩
theorem ok_frL {f : Addr} {fd : FuncData} (B : Bl mg) (CD : Cal P w K mg base CX0 1 "_law_divisor" ["_law_one", "_law_other"] spDiv) (F : Fun K "_law_forces" "_law_forces" (top 30) f fd) : FnOk P w K mg base CX0 2 f fd ["_law_counts"] (spFrL K) := by
  refine F.ok sc30 (fun vs H Q E h => ?_) (fun cdv A outer s H vs Q E hr h => ⟨_,
    (pss_cons (ps_set (i := 1) sc30.nd rfl (.inl rfl) (pe_lst (pa_cons pe_int pa_nil)))
    (pss_cons (ps_for PassesOwn.never rfl (pi_sq (pv 0)) (pg_name (i := 2) sc30.nd rfl (.inl rfl)) (pss_cons (ps_set (i := 3) sc30.nd rfl (.inl rfl) (pe_lst pa_nil))
    (pss_cons (ps_for PassesOwn.never rfl (pi_list (pv 1)) (pg_name (i := 4) sc30.nd rfl (.inl rfl)) (pss_one (ps_set (i := 3) sc30.nd rfl (.inl rfl) (pe_op op_cat (pv 3) (pe_lst (pa_cons (by exact (pe_cal (X := L2.Cx.nox _) CD hr (by decide) (pa_cons (pe_callB call_abs (by rfl) B.abs (by decide +kernel) (pa_cons (pv 2) pa_nil)) (pa_cons (pv 4) pa_nil)))) (pa_cons (by exact (pe_cal (X := L2.Cx.nox _) CD hr (by decide) (pa_cons (pe_callB call_abs (by rfl) B.abs (by decide +kernel) (pa_cons (pe_op op_sub (pv 2) pe_int) pa_nil)) (pa_cons (pv 4) pa_nil)))) pa_nil)))))))
    (pss_one (ps_setLc (i := 1) (own := [("_law_one", 4)]) (g := gName 4) rfl sc30.nd rfl rfl (sw_true rfl rfl rfl (by decide +kernel)) (pi_list (pv 3)) (blkOk_by (N := ["_law_counts", "_law_found", "_law_n", "_law_longer", "_law_one"]) (sc := defScope (top 30)) (by decide +kernel))
        (fun _ _ _ _ _ => (pg_name (i := 4) sc30.nd rfl (Or.inl rfl))) (fun _ _ _ _ _ => (pts_one (PW.pt (pw_or (pt_cmpR op_eq (pv 4) pe_int (nomark _)) (pw_or1 (pt_cmpR op_gt (pv 4) pe_int (nomark _))))))) (fun _ _ _ _ _ => (pv 4)))))))
    (pss_one (ps_ret (pe_cmpR (op_eqD hr.units) (pv 1) (pe_lst pa_nil) (nomark _)))))), ?_⟩)
  · obtain ⟨a, ns, rfl, _⟩ := h
    rfl
  obtain ⟨a, ns, rfl, hS, hl, q⟩ := h
  refine ⟨(by show 1 ≤ sizeLine; decide), fun fl hf => ?_⟩
  have f1 : upd H fl (.lst [.int 0]) fl = some (.lst ((lfs []).map V.int)) := upd_same
  have s1 : Same H (upd H fl (.lst [.int 0])) := Same.new hf
  dsimp only [gName]
  generalize upd H fl (.lst [.int 0]) = H1 at f1 s1
  refine ⟨_, rfl, a, rfl, for_sq (Same.sqA s1 hS) (fun i σ H' => Same H1 H' ∧ ∃ (fl : Addr) (v2 v3 v4 : Option V), σ = [some (.ref a), some (.ref fl), v2, v3, v4] ∧ H' fl = some (.lst ((lfs (ns.take i)).map V.int))) ⟨Same.refl H1, fl, none, none, none, rfl, f1⟩ (fun i σ H' _ p => Ke.of p.1) ?_ ?_⟩
  · rintro i x σ H2 hx ⟨s2, fl, v2, v3, v4, rfl, f2⟩
    obtain ⟨n, hn, rfl⟩ := map_at hx
    have len := lfs_take_len hl i
    have nng := lfs_nonneg (ns.take i)
    have en : lfs (ns.take (i + 1)) = (stepF n (lfs (ns.take i))).filter pF := by rw [take_at hn, lfs_snoc]
    generalize lfs (ns.take i) = L at f2 len nng en
    refine ⟨(by show 0 ≤ sizeLine; decide), fun ll hll => ?_⟩
    dsimp only [gName]
    have g1 : upd H2 ll (.lst []) ll = some (.lst ((stepF n (L.take 0)).map V.int)) := upd_same
    have g2 : upd H2 ll (.lst []) fl = some (.lst (L.map V.int)) := by rw [upd_ne (ne_of_none f2 hll)]; exact f2
    have s3 : Same H2 (upd H2 ll (.lst [])) := Same.new hll
    generalize upd H2 ll (.lst []) = H3 at g1 g2 s3
    refine ⟨_, rfl, fl, rfl, ⟨_, SqL.of g2⟩, for_list (xs := L.map V.int) (fun j σ H' => Same H3 H' ∧ ∃ (ll : Addr) (v4 : Option V), σ = [some (.ref a), some (.ref fl), some (.int n), some (.ref ll), v4] ∧ H' ll = some (.lst ((stepF n (L.take j)).map V.int))) ⟨Same.refl H3, ll, v4, rfl, g1⟩ (fun j σ H' _ p => p.1.seq (SqL.of g2)) ?_ ?_⟩
    · rintro j x σ H4 hx ⟨s4, ll, v4, rfl, g4⟩
      obtain ⟨o, ho, rfl⟩ := map_at hx
      have o0 := nng o (List.mem_of_getElem? ho)
      have e1 : (if n < 0 then -n else n) = (n.natAbs : Int) := abs_e n
      have e2 : (if n - 1 < 0 then -(n - 1) else n - 1) = ((n - 1).natAbs : Int) := abs_e (n - 1)
      have ll4 : (stepF n (L.take j)).length ≤ 2000 := by
        rw [stepF_len]
        have := List.length_take_le' j L
        omega
      refine ⟨_, rfl, _, rfl, n, rfl, _, rfl, _, _, rfl, by rw [e1]; omega, o0, _, rfl, _, _, rfl, rfl, n - 1, rfl, _, rfl, _, _, rfl, by rw [e2]; omega, o0, (by show 2 ≤ sizeLine; decide), fun D hD => ?_⟩
      have e3 : ((if n < 0 then -n else n).gcd o : Int) = (Int.gcd n o : Int) := by rw [e1, gcd_abs]
      have e4 : ((if n - 1 < 0 then -(n - 1) else n - 1).gcd o : Int) = (Int.gcd (n - 1) o : Int) := by rw [e2, gcd_abs]
      rw [e3, e4]
      refine ⟨ll, D, _, _, rfl, rfl, (by rw [upd_ne (ne_of_none g4 hD)]; exact g4), upd_same, ?_, fun p hp => ⟨Same.upd (s4.trans (Same.new hD)) ((s4.trans (Same.new hD)).free hp), p, _, rfl, ?_⟩⟩
      · rw [List.length_map]
        exact Nat.le_of_lt (len_lt (by simp only [List.length_cons, List.length_nil]; omega))
      · rw [upd_same, take_at ho]
        unfold stepF
        rw [List.flatMap_append, List.map_append]
        rfl
    · rintro σ H4 ⟨s4, ll, v4, rfl, g4⟩
      rw [List.length_map, List.take_length] at g4
      have sl := stepF_len n L
      refine ⟨_, rfl, ll, rfl, ⟨_, SqL.of g4⟩, fun D hD => lc_list (xs := (stepF n L).map V.int) (fun j H' => Same H4 H' ∧ H' D = some (.lst ((((stepF n L).take j).filter pF).map V.int))) ⟨Same.new hD, upd_same⟩ (fun j H' _ p => p.1.seq (SqL.of g4)) ?_ ?_⟩
      · rintro j x H5 hx ⟨p3, p4⟩
        obtain ⟨o, ho, rfl⟩ := map_at hx
        have keep : pF o = true → H5 D = some (.lst ((((stepF n L).take j).filter pF).map V.int)) ∧ ((((stepF n L).take j).filter pF).map V.int).length < sizeLine ∧
            (Same H4 (upd H5 D (.lst (((((stepF n L).take j).filter pF).map V.int) ++ [V.int o]))) ∧ (upd H5 D (.lst (((((stepF n L).take j).filter pF).map V.int) ++ [V.int o]))) D = some (.lst ((((stepF n L).take (j + 1)).filter pF).map V.int))) := by
          intro e
          refine ⟨p4, len_lt ?_, Same.upd p3 hD, ?_⟩
          · rw [List.length_map]
            have x := List.length_filter_le pF ((stepF n L).take j)
            have y := List.length_take_le' j (stepF n L)
            omega
          · rw [upd_same, filt_at ho, if_pos e, List.map_append]
            rfl
        refine ⟨rfl, _, rfl, rfl, _, rfl, ?_⟩
        by_cases e0 : o = 0
        · obtain ⟨a1, a2, a3⟩ := keep (by simp [pF, e0])
          exact iteP (by simp [e0]) (iteT ⟨_, rfl, _, a1, a2, a3⟩)
        refine iteN (by simp [e0]) ⟨_, rfl, _, _, rfl, rfl, _, rfl, ?_⟩
        by_cases e1 : 2 < o
        · obtain ⟨a1, a2, a3⟩ := keep (by simp [pF, e1])
          exact iteP (by simp [e1]) ⟨_, rfl, _, a1, a2, a3⟩
        · refine iteN (by simp [e1]) ⟨p3, ?_⟩
          rw [filt_at ho, if_neg (by simp [pF, e0, e1]), List.append_nil]
          exact p4
      · rintro H5 ⟨p3, p4⟩
        rw [List.length_map, List.take_length, ← en] at p4
        exact ⟨s2.trans ((s3.trans s4).trans p3), D, _, _, _, rfl, p4⟩
  · rintro σ H2 ⟨s2, fl, v2, v3, v4, rfl, f2⟩
    rw [List.length_map, List.take_length] at f2
    refine ⟨_, rfl, (by show 0 ≤ sizeLine; decide), fun D hD => eqL (ms := []) (SqL.of (by rw [upd_ne (ne_of_none f2 hD)]; exact f2)) (SqL.of upd_same) ?_⟩
    exact q _ ((s1.trans s2).trans (Same.new hD))

def spBP (K : PySem.W.Frag) : Sp := fun vs H Q _ => ∃ (a : Addr) (ns : List Int), vs = [.ref a] ∧ SqA K H a (ns.map V.int) ∧ ns.length ≤ 9 ∧ (∀ n ∈ ns, n.natAbs ≤ 30) ∧ ∀ H', Same H H' → Q (.bl (frcB ns)) H'
theorem sc31 : FnScope ["_law_counts", "_law_most", "_law_primes", "_law_left", "_law_q", "_law_n", "_law_d"] ["_law_counts"] (defScope (top 31)) := ⟨rfl, rfl, rfl, by decide +kernel, rfl, by decide +kernel, by decide +kernel⟩
theorem ok_bp {f : Addr} {fd : FuncData} (B : Bl mg) (F : Fun K "_law_by_primes" "_law_by_primes" (top 31) f fd) : FnOk P w K mg base CX0 1 f fd ["_law_counts"] (spBP K) := by
  refine F.ok sc31 (fun vs H Q E h => ?_) (fun cdv A outer s H vs Q E hr h => ⟨_,
    (pss_cons (ps_set (i := 1) sc31.nd rfl (.inl rfl) (pe_callB (cr_max rfl) (by rfl) B.max (by decide +kernel) (pa_cons (pe_op op_cat (pe_lst (pa_cons pe_int pa_nil)) (pe_lc (own := [("_law_n", 5)]) (g := gName 5) (tt := tYes) rfl sc31.nd (pi_sq (pv 0)) (blkOk_by (N := ["_law_counts", "_law_most", "_law_primes", "_law_left", "_law_q", "_law_n", "_law_d"]) (sc := defScope (top 31)) (by decide +kernel))
        (fun _ _ _ _ _ => (pg_name (i := 5) sc31.nd rfl (Or.inl rfl))) (fun _ _ _ _ _ => pts_nil) (fun _ _ _ _ _ => (pe_op op_add (pe_callB call_abs (by rfl) B.abs (by decide +kernel) (pa_cons (pv 5) pa_nil)) pe_int)))) pa_nil)))
    (pss_cons (ps_setLc (i := 2) (own := [("_law_q", 4)]) (g := gName 4) rfl sc31.nd rfl rfl (sw_true rfl rfl rfl (by decide +kernel)) (pi_range2 (by rfl) B.range (pa_cons pe_int (pa_cons (pe_op op_add (pv 1) pe_int) pa_nil))) (blkOk_by (N := ["_law_counts", "_law_most", "_law_primes", "_law_left", "_law_q", "_law_n", "_law_d"]) (sc := defScope (top 31)) (by decide +kernel))
        (fun _ _ _ _ _ => (pg_name (i := 4) sc31.nd rfl (Or.inr rfl))) (fun _ _ _ _ _ => (pts_one (pt_cmpR (r := rEqD K) (op_eqD hr.units) (pe_lcN ["_law_counts", "_law_most", "_law_primes", "_law_left", "_law_q", "_law_n", "_law_d"] (own := [("_law_d", 6)]) (g := gName 6) rfl sc31.nd (pi_range2 (by rfl) B.range (pa_cons pe_int (pa_cons (pv 4) pa_nil))) rfl (by decide +kernel)
        (fun _ _ _ _ _ => (pg_name (i := 6) sc31.nd rfl (Or.inl rfl))) (fun _ _ _ _ _ => (pts_one (pt_cmpR op_eq (pe_op op_mod (pe_callTy call_int1 (by rfl) B.int PyProof.Rows.boot_int (pa_cons (pv 4) pa_nil)) (pv 6)) pe_int (nomark _)))) (fun _ _ _ _ _ => (pv 6))) (pe_lst pa_nil) (nomark _)))) (fun _ _ _ _ _ => (pv 4)))
    (pss_cons (ps_setLc (i := 3) (own := [("_law_q", 4)]) (g := gName 4) rfl sc31.nd rfl rfl (sw_true rfl rfl rfl (by decide +kernel)) (pi_list (pe_op op_cat (pe_lst (pa_cons pe_int pa_nil)) (pv 2))) (blkOk_by (N := ["_law_counts", "_law_most", "_law_primes", "_law_left", "_law_q", "_law_n", "_law_d"]) (sc := defScope (top 31)) (by decide +kernel))
        (fun _ _ _ _ _ => (pg_name (i := 4) sc31.nd rfl (Or.inr rfl))) (fun _ _ _ _ _ => (pts_one (pt_cmpR (r := rEqD K) (op_eqD hr.units) (pe_lcN ["_law_counts", "_law_most", "_law_primes", "_law_left", "_law_q", "_law_n", "_law_d"] (wi := iSq K (tVar 0)) (own := [("_law_n", 5)]) (g := gName 5) rfl sc31.nd (by exact (pi_sq (pv 0))) rfl (by decide +kernel)
        (fun _ _ _ _ _ => (pg_name (i := 5) sc31.nd rfl (Or.inl rfl))) (fun _ _ _ _ _ => (pts_one (pt_cmpR op_gt (pe_op op_mod (pe_callTy call_int1 (by rfl) B.int PyProof.Rows.boot_int (pa_cons (pv 5) pa_nil)) (pv 4)) pe_int (nomark _)))) (fun _ _ _ _ _ => (pv 5))) (pe_lst pa_nil) (nomark _)))) (fun _ _ _ _ _ => (pv 4)))
    (pss_one (ps_ret (pe_and (pe_cmpR (op_eqD hr.units) (pv 3) (pe_lst pa_nil) (nomark _)) (pe_one (pe_cmpR (op_neD hr.units) (pe_lc (own := [("_law_n", 5)]) (g := gName 5) rfl sc31.nd (pi_sq (pv 0)) (blkOk_by (N := ["_law_counts", "_law_most", "_law_primes", "_law_left", "_law_q", "_law_n", "_law_d"]) (sc := defScope (top 31)) (by decide +kernel))
        (fun _ _ _ _ _ => (pg_name (i := 5) sc31.nd rfl (Or.inl rfl))) (fun _ _ _ _ _ => (pts_one (PW.pt (pw_and (pt_cmpR op_ne (pv 5) pe_int (nomark _)) (pw_and1 (pt_cmpR op_ne (pv 5) pe_int (nomark _))))))) (fun _ _ _ _ _ => (pv 5))) (pe_lst pa_nil) (nomark _))))))))), ?_⟩)
  · obtain ⟨a, ns, rfl, _⟩ := h
    rfl
  obtain ⟨a, ns, rfl, hS, hl, hb, q⟩ := h
  refine ⟨(by show 1 ≤ sizeLine; decide), fun L1 hL1 => ?_⟩
  have l1 : upd H L1 (.lst [V.int 3]) L1 = some (.lst [V.int 3]) := upd_same
  have s1 : Same H (upd H L1 (.lst [V.int 3])) := Same.new hL1
  generalize upd H L1 (.lst [V.int 3]) = H1 at l1 s1
  have hS1 := Same.sqA s1 hS
  refine ⟨_, rfl, a, rfl, lc_sq hS1 (fun D i H2 => Same H1 H2 ∧ H2 D = some (.lst (((ns.take i).map fun n => (n.natAbs : Int) + 1).map V.int))) (fun D hD => ⟨Same.new hD, upd_same⟩) (fun D i H2 p => Ke.of p.1) ?_ ?_⟩
  · rintro D i x H2 hD hx ⟨p1, p2⟩
    obtain ⟨n, hn, rfl⟩ := map_at hx
    refine ⟨rfl, _, rfl, n, rfl, _, _, rfl, rfl, _, p2, len_lt (by rw [List.length_map, List.length_map, List.length_take]; omega), Same.upd p1 hD, ?_⟩
    rw [upd_same, take_at hn, List.map_append, List.map_append, abs_e]
    rfl
  · rintro D H2 hD ⟨p1, p2⟩
    rw [List.length_map, List.take_length] at p2
    refine ⟨L1, D, _, _, rfl, rfl, p1 _ _ l1, p2, ?_, fun p hp => ?_⟩
    · rw [List.length_map, List.length_map]
      exact Nat.le_of_lt (len_lt (by simp only [List.length_cons, List.length_nil]; omega))
    have p3 : upd H2 p (.lst ([V.int 3] ++ (ns.map fun n => (n.natAbs : Int) + 1).map V.int)) p = some (.lst ((3 :: ns.map fun n => (n.natAbs : Int) + 1).map V.int)) := upd_same
    have s2 : Same H (upd H2 p (.lst ([V.int 3] ++ (ns.map fun n => (n.natAbs : Int) + 1).map V.int))) := (s1.trans p1).trans (Same.new hp)
    generalize upd H2 p (.lst ([V.int 3] ++ (ns.map fun n => (n.natAbs : Int) + 1).map V.int)) = H3 at p3 s2
    refine ⟨p, _, rfl, SqL.of p3, Nat.succ_pos _, fun m hm hmax => ?_⟩
    have m3 : 3 ≤ m := hmax 3 (by simp)
    have mb : ∀ n ∈ ns, (n.natAbs : Int) + 1 ≤ m := fun n hn => hmax _ (List.mem_cons_of_mem _ (List.mem_map.mpr ⟨n, hn, rfl⟩))
    have m31 : m ≤ 31 := by
      rcases List.mem_cons.mp hm with rfl | z
      · omega
      · obtain ⟨n, hn, rfl⟩ := List.mem_map.mp z
        have := hb n hn
        omega
    clear hm hmax p3
    dsimp only [gName]
    refine ⟨_, rfl, _, _, rfl, rfl, _, _, rfl, ⟨by omega, by omega, by omega, by omega⟩, fun D2 hD2 => lc_range (lo := 3) (n := (m + 1 - 3).toNat) (fun i H' => Same H3 H' ∧ H' D2 = some (.lst ((primesL i).map V.int))) ⟨Same.new hD2, upd_same⟩ ?_ ?_⟩
    · rintro i H4 hi ⟨r1, r2⟩
      refine ⟨rfl, _, rfl, _, _, rfl, ⟨by omega, by omega, by omega, by omega⟩, fun D3 hD3 => lc_range (lo := 2) (n := (3 + (i : Int) - 2).toNat) (fun j H' => Same H4 H' ∧ H' D3 = some (.lst (((((List.range j).map fun (k : Nat) => (2 : Int) + k).filter fun d => decide ((3 + (i : Int)) % d = 0))).map V.int))) ⟨Same.new hD3, upd_same⟩ ?_ ?_⟩
      · rintro j H5 hj ⟨w1, w2⟩
        have er : ((List.range (j + 1)).map fun (k : Nat) => (2 : Int) + k).filter (fun d => decide ((3 + (i : Int)) % d = 0)) = ((List.range j).map fun (k : Nat) => (2 : Int) + k).filter (fun d => decide ((3 + (i : Int)) % d = 0)) ++ if (3 + (i : Int)) % (2 + (j : Int)) = 0 then [2 + (j : Int)] else [] := by
          rw [List.range_succ, List.map_append, List.filter_append]
          congr 1
          by_cases z : (3 + (i : Int)) % (2 + (j : Int)) = 0
          · rw [if_pos z]
            simp [z]
          · rw [if_neg z]
            simp [z]
        refine ⟨rfl, _, rfl, .inl ⟨_, rfl, _, rfl, _, _, rfl, rfl, (by show (0 : Int) < 2 + (j : Int); omega), rfl, _, rfl, ?_⟩⟩
        by_cases z : (3 + (i : Int)) % (2 + (j : Int)) = 0
        · refine iteP (by simp [z]) ⟨_, rfl, _, w2, len_lt ?_, Same.upd w1 hD3, ?_⟩
          · rw [List.length_map]
            have x := List.length_filter_le (fun d => decide ((3 + (i : Int)) % d = 0)) ((List.range j).map fun (k : Nat) => (2 : Int) + k)
            rw [List.length_map, List.length_range] at x
            omega
          · rw [upd_same, er, if_pos z, List.map_append]
            rfl
        · refine iteN (by simp [z]) ⟨w1, ?_⟩
          rw [er, if_neg z, List.append_nil]
          exact w2
      · rintro H5 ⟨w1, w2⟩
        refine ⟨(by show 0 ≤ sizeLine; decide), fun E1 hE => eqL (ns := noDivL (3 + (i : Int))) (ms := []) (SqL.of (by rw [upd_ne (ne_of_none w2 hE)]; exact w2)) (SqL.of upd_same) ⟨_, rfl, ?_⟩⟩
        have s6 := (r1.trans w1).trans (Same.new (o := .lst []) hE)
        have r6 : upd H5 E1 (.lst []) D2 = some (.lst ((primesL i).map V.int)) := by
          have := (w1.trans (Same.new (o := .lst []) hE)) _ _ r2
          exact this
        have ep : primesL (i + 1) = primesL i ++ if noDivB (3 + (i : Int)) = true then [3 + (i : Int)] else [] := by
          unfold primesL
          rw [List.range_succ, List.map_append, List.filter_append]
          congr 1
          cases z : noDivB (3 + (i : Int)) with
          | true => simp [z]
          | false => simp [z]
        have pl := primes_len i
        by_cases z : noDivB (3 + (i : Int)) = true
        · refine iteP z ⟨_, rfl, _, r6, len_lt (by rw [List.length_map]; omega), Same.upd s6 hD2, ?_⟩
          rw [upd_same, ep, if_pos z, List.map_append]
          rfl
        · refine iteN z ⟨s6, ?_⟩
          rw [ep, if_neg z, List.append_nil]
          exact r6
    · rintro H4 ⟨r1, r2⟩
      have mp := @mem_primes m
      have pl := primes_len (m + 1 - 3).toNat
      generalize primesL (m + 1 - 3).toNat = ps at r2 mp pl
      have mp := fun q => mp (q := q) m3
      dsimp only [gName]
      refine ⟨(by show 1 ≤ sizeLine; decide), fun L4 hL4 => ⟨_, rfl, L4, D2, _, _, rfl, rfl, upd_same, by rw [upd_ne (ne_of_none r2 hL4)]; exact r2, ?_, fun p5 hp5 => ?_⟩⟩
      · rw [List.length_map]
        exact Nat.le_of_lt (len_lt (by simp only [List.length_cons, List.length_nil]; omega))
      have e5 : upd (upd H4 L4 (.lst [V.int 4])) p5 (.lst ([V.int 4] ++ ps.map V.int)) p5 = some (.lst ((4 :: ps).map V.int)) := upd_same
      have s5 : Same H (upd (upd H4 L4 (.lst [V.int 4])) p5 (.lst ([V.int 4] ++ ps.map V.int))) := ((s2.trans r1).trans (Same.new hL4)).trans (Same.new hp5)
      generalize upd (upd H4 L4 (.lst [V.int 4])) p5 (.lst ([V.int 4] ++ ps.map V.int)) = H5 at e5 s5
      have q3 : ∀ q ∈ (4 : Int) :: ps, 3 ≤ q := fun q hq => by
        rcases List.mem_cons.mp hq with rfl | hq
        · omega
        · exact ((mp q).mp hq).1
      refine ⟨p5, rfl, ⟨_, SqL.of e5⟩, fun D6 hD6 => lc_list (xs := ((4 : Int) :: ps).map V.int) (fun i H' => Same H5 H' ∧ H' D6 = some (.lst ((leftL ns (((4 : Int) :: ps).take i)).map V.int))) ⟨Same.new hD6, upd_same⟩ (fun i H' _ p => p.1.seq (SqL.of e5)) ?_ ?_⟩
      · rintro i x H6 hx ⟨w1, w2⟩
        obtain ⟨k, hk, rfl⟩ := map_at hx
        have k3 := q3 k (List.mem_of_getElem? hk)
        have hS6 := Same.sqA (s5.trans w1) hS
        refine ⟨rfl, _, rfl, a, rfl, lc_sq hS6 (fun D7 j H' => Same H6 H' ∧ H' D7 = some (.lst (((ns.take j).filter fun n => decide (1 < n % k)).map V.int))) (fun D7 hD7 => ⟨Same.new hD7, upd_same⟩) (fun D7 j H' p => Ke.of p.1) ?_ ?_⟩
        · rintro D7 j y H7 hD7 hy ⟨t1, t2⟩
          obtain ⟨n, hn, rfl⟩ := map_at hy
          refine ⟨rfl, _, rfl, .inl ⟨_, rfl, _, rfl, _, _, rfl, rfl, (by show (0 : Int) < k; omega), _, _, rfl, rfl, _, rfl, ?_⟩⟩
          by_cases z : 1 < n % k
          · refine iteP (by simp [z]) ⟨_, rfl, _, t2, len_lt ?_, Same.upd t1 hD7, ?_⟩
            · rw [List.length_map]
              have x := List.length_filter_le (fun n => decide (1 < n % k)) (ns.take j)
              have y := List.length_take_le' j ns
              omega
            · rw [upd_same, filt_at hn, if_pos (by simp [z]), List.map_append]
              rfl
          · refine iteN (by simp [z]) ⟨t1, ?_⟩
            rw [filt_at hn, if_neg (by simp [z]), List.append_nil]
            exact t2
        · rintro D7 H7 hD7 ⟨t1, t2⟩
          rw [List.length_map, List.take_length] at t2
          refine ⟨(by show 0 ≤ sizeLine; decide), fun E1 hE => eqL (ns := ns.filter fun n => decide (1 < n % k)) (ms := []) (SqL.of (by rw [upd_ne (ne_of_none t2 hE)]; exact t2)) (SqL.of upd_same) ⟨_, rfl, ?_⟩⟩
          have s8 := (w1.trans t1).trans (Same.new (o := .lst []) hE)
          have w8 := (t1.trans (Same.new (o := .lst []) hE)) _ _ w2
          have el : leftL ns (((4 : Int) :: ps).take (i + 1)) = leftL ns (((4 : Int) :: ps).take i) ++ if decide ((ns.filter fun n => decide (1 < n % k)) = []) = true then [k] else [] := by
            unfold leftL
            exact filt_at hk
          by_cases z : decide ((ns.filter fun n => decide (1 < n % k)) = []) = true
          · refine iteP z ⟨_, rfl, _, w8, len_lt ?_, Same.upd s8 hD6, ?_⟩
            · rw [List.length_map]
              unfold leftL
              have x := List.length_filter_le (fun q => decide ((ns.filter fun n => decide (1 < n % q)) = [])) (((4 : Int) :: ps).take i)
              have y := List.length_take_le' i ((4 : Int) :: ps)
              rw [List.length_cons] at y
              omega
            · rw [upd_same, el, if_pos z, List.map_append]
              rfl
          · refine iteN z ⟨s8, ?_⟩
            rw [el, if_neg z, List.append_nil]
            exact w8
      · rintro H6 ⟨w1, w2⟩
        rw [List.length_map, List.take_length] at w2
        have fin := by_primesB mb m31 mp
        dsimp only [gName]
        refine ⟨_, rfl, (by show 0 ≤ sizeLine; decide), fun E1 hE => eqL (ms := []) (SqL.of (by rw [upd_ne (ne_of_none w2 hE)]; exact w2)) (SqL.of upd_same) ⟨_, rfl, ?_⟩⟩
        have s7 : Same H (upd H6 E1 (.lst [])) := (s5.trans w1).trans (Same.new hE)
        generalize upd H6 E1 (.lst []) = H7 at s7
        cases e : decide (leftL ns (4 :: ps) = []) with
        | false =>
          rw [e, Bool.false_and] at fin
          have q := q _ s7
          rw [← fin] at q
          exact iteF q
        | true =>
          rw [e, Bool.true_and] at fin
          have hS7 := Same.sqA s7 hS
          refine iteT ⟨_, rfl, a, rfl, lc_sq hS7 (fun D8 j H' => Same H7 H' ∧ H' D8 = some (.lst ((npl (ns.take j)).map V.int))) (fun D8 hD8 => ⟨Same.new hD8, upd_same⟩) (fun D8 j H' p => Ke.of p.1) ?_ ?_⟩
          · rintro D8 j y H8 hD8 hy ⟨t1, t2⟩
            obtain ⟨n, hn, rfl⟩ := map_at hy
            have en : npl (ns.take (j + 1)) = npl (ns.take j) ++ if (decide (n ≠ 0) && decide (n ≠ 1)) = true then [n] else [] := by
              unfold npl
              exact filt_at hn
            refine ⟨rfl, _, rfl, rfl, _, rfl, ?_⟩
            by_cases z0 : n = 0
            · refine iteN (by simp [z0]) (iteF ⟨t1, ?_⟩)
              rw [en, if_neg (by simp [z0]), List.append_nil]
              exact t2
            refine iteP (by simp [z0]) ⟨_, rfl, rfl, _, rfl, ?_⟩
            by_cases z1 : n = 1
            · refine iteN (by simp [z1]) ⟨t1, ?_⟩
              rw [en, if_neg (by simp [z1]), List.append_nil]
              exact t2
            · refine iteP (by simp [z1]) ⟨_, rfl, _, t2, len_lt ?_, Same.upd t1 hD8, ?_⟩
              · rw [List.length_map]
                unfold npl
                have x := List.length_filter_le (fun n : Int => decide (n ≠ 0) && decide (n ≠ 1)) (ns.take j)
                have y := List.length_take_le' j ns
                omega
              · rw [upd_same, en, if_pos (by simp [z0, z1]), List.map_append]
                rfl
          · rintro D8 H8 hD8 ⟨t1, t2⟩
            rw [List.length_map, List.take_length] at t2
            refine ⟨(by show 0 ≤ sizeLine; decide), fun E2 hE2 => neL (ms := []) (SqL.of (by rw [upd_ne (ne_of_none t2 hE2)]; exact t2)) (SqL.of upd_same) ?_⟩
            rw [fin]
            exact q _ ((s7.trans t1).trans (Same.new hE2))

end
end KV

/-! the law: values near what is told -/
namespace KV
open PySem PySem.Spec PyProof.Rows L2 KM
/-- told: None, or a tuple of indexes -/
def ToldI (H : Hp) (u : V) : Prop := u = .non ∨ ∃ (p : Addr) (is : List Int), u = .ref p ∧ H p = some (.tup (is.map V.int)) ∧ is.length ≤ 7 ∧ ∀ i ∈ is, 0 ≤ i ∧ i ≤ 100
/-- the list that is changed -/
structure NS (d c l : Addr) (H H' : Hp) (is : List Int) (m : Nat) : Prop where
  lst : H' l = some (.lst (is.map V.int))
  ld : l ≠ d ∧ l ≠ c
  ln : H l = none
  len : is.length ≤ m
  bd : ∀ i ∈ is, 0 ≤ i ∧ i ≤ 100
  dl : Dl H' d c
  kp : Kp d c H H'
theorem NS.go {d c l : Addr} {H H1 H2 : Hp} {is : List Int} {m : Nat} (h : NS d c l H H1 is m) (D : Dl H2 d c) (k : Kp d c H1 H2) : NS d c l H H2 is m := ⟨k _ _ h.ld.1 h.ld.2 h.lst, h.ld, h.ln, h.len, h.bd, D, h.kp.trans k⟩
theorem NS.same {d c l : Addr} {H H1 H2 : Hp} {is : List Int} {m : Nat} (h : NS d c l H H1 is m) (s : Same H1 H2) : NS d c l H H2 is m := h.go (h.dl.same s) (Kp.of s)
theorem NS.le {d c l : Addr} {H H1 : Hp} {is : List Int} {m n : Nat} (h : NS d c l H H1 is m) (mn : m ≤ n) : NS d c l H H1 is n := ⟨h.lst, h.ld, h.ln, Nat.le_trans h.len mn, h.bd, h.dl, h.kp⟩
/-- a new list in its place -/
theorem NS.fresh {d c l p : Addr} {H H1 H2 : Hp} {is js : List Int} {m n : Nat} (h : NS d c l H H1 is m) (D : Dl H1 d c) (hp : H1 p = none) (s : Same H1 H2) (e : H2 p = some (.lst (js.map V.int))) (hl : js.length ≤ n) (hb : ∀ i ∈ js, 0 ≤ i ∧ i ≤ 100) : NS d c p H H2 js n :=
  ⟨e, D.ne hp, h.kp.free (D.ne hp).1 (D.ne hp).2 hp, hl, hb, D.same s, h.kp.trans (Kp.of s)⟩
/-- it is changed -/
theorem NS.put {d c l : Addr} {H H1 : Hp} {is js : List Int} {m n : Nat} (h : NS d c l H H1 is m) (hl : js.length ≤ n) (hb : ∀ i ∈ js, 0 ≤ i ∧ i ≤ 100) : NS d c l H (upd H1 l (.lst (js.map V.int))) js n :=
  ⟨upd_same, h.ld, h.ln, hl, hb, h.dl.upd h.ld.1 h.ld.2, h.kp.updn h.ln⟩
theorem IsSq.kp {d c a : Addr} {H H' : Hp} {ns : List Int} (h : IsSq H a ns) (hd : a ≠ d) (hc : a ≠ c) (k : Kp d c H H') : IsSq H' a ns := h.imp (fun z => k _ _ hd hc z) (fun z => k _ _ hd hc z)
theorem IsSq.same {a : Addr} {H H' : Hp} {ns : List Int} (h : IsSq H a ns) (s : Same H H') : IsSq H' a ns := h.imp (fun z => s _ _ z) (fun z => s _ _ z)
theorem IsSq.sqA {K : PySem.W.Frag} {a : Addr} {H : Hp} {ns : List Int} (h : IsSq H a ns) : SqA K H a (ns.map V.int) := h.imp SqL.of SqT.of
theorem itm_int {K : PySem.W.Frag} {H : Hp} {i : Int} (h : i.natAbs ≤ 1000) : Itm K H (.int i) := .inl ⟨i, rfl, Nat.lt_of_le_of_lt h (by decide)⟩
theorem valT_tup {K : PySem.W.Frag} {H : Hp} {t : Addr} {xs : List V} (h : H t = some (.tup xs)) (hI : ∀ x ∈ xs, Itm K H x) (hl : xs.length ≤ 9) : ValT K H (.ref t) (some xs) := ⟨t, rfl, SqT.of h, .base (.tup h), hI, hl⟩
section
variable {P : Program} {w : World} {K : PySem.W.Frag} {mg : Str → Option Value} {base : Heap}
def spNear (K : PySem.W.Frag) : Sp := fun vs H Q _ => ∃ (d c a : Addr) (ns : List Int) (u : V), vs = [.ref d, .ref a, u] ∧ Dl H d c ∧ a ≠ d ∧ a ≠ c ∧ IsSq H a ns ∧ ns.length ≤ 7 ∧ ToldI H u ∧
  ∀ (y : V) (xs : Option (List V)) (H' : Hp), ValT K H' y xs → (∀ b, y = .ref b → b ≠ d ∧ b ≠ c) → Dl H' d c → Kp d c H H' → Q y H'
theorem sc34 : FnScope ["_law_deal", "_law_counts", "_law_told", "_law_some_here", "_law_form", "_law_at"] ["_law_deal", "_law_counts", "_law_told"] (defScope (top 34)) := ⟨rfl, rfl, rfl, by decide +kernel, rfl, by decide +kernel, by decide +kernel⟩
theorem ok_near {f : Addr} {fd : FuncData} (B : Bl mg) (CA : Cal P w K mg base CX0 1 "_law_any" ["_law_deal", "_law_bound"] spAny) (CO : Cal P w K mg base CX0 2 "_law_of" ["_law_deal", "_law_some_here"] (spOf K)) (F : Fun K "_law_near" "_law_near" (top 34) f fd) : FnOk P w K mg base CX0 3 f fd ["_law_deal", "_law_counts", "_law_told"] (spNear K) := by
  refine F.ok sc34 (fun vs H Q E h => ?_) (fun cdv A outer s H vs Q E hr h => ⟨_,
    (pss_cons (ps_par (i := 3) (j := 4) rfl sc34.nd rfl rfl (by decide) rfl rfl (pa_cons (pe_ifExp (pt_cmpR op_notN (pv 2) pe_non (nomark _)) (pe_callTy call_list_of (by rfl) B.list (by decide +kernel) (pa_cons (pv 2) pa_nil)) (pe_lst (pa_cons pe_int pa_nil))) (pa_cons (by exact (pe_cal (X := L2.Cx.nox _) CA hr (by decide) (pa_cons (pv 0) (pa_cons pe_int pa_nil)))) pa_nil)) (by rfl))
    (pss_cons (ps_if (pt_cmpR op_eq (pv 4) pe_int (nomark _)) (pss_one (ps_ret (by exact (pe_cal (X := L2.Cx.nox _) CO hr (by decide) (pa_cons (pv 0) (pa_cons (pe_lst (pa_cons pe_non (pa_cons (pv 3) (pa_cons (pe_tup (pa_cons pe_bl pa_nil)) (pa_cons (pe_tup (pa_cons pe_bl pa_nil)) (pa_cons (pe_tup (pa_cons pe_str pa_nil)) (pa_cons pe_int (pa_cons (pe_tup (pa_cons (pe_callB call_len_seq (by rfl) B.len PySem.boot_len (pa_cons (pv 1) pa_nil)) pa_nil)) (pa_cons (pe_tup (pa_cons (pe_un un_neg pe_int) pa_nil)) (pa_cons (pe_callTy call_tuple_of (by rfl) B.tuple (by decide +kernel) (pa_cons (pe_listRg rfl (by rfl) B.list (prg_1 (by rfl) B.range (pe_callB call_len_seq (by rfl) B.len PySem.boot_len (pa_cons (pv 1) pa_nil)))) pa_nil)) pa_nil)))))))))) pa_nil)))))) pss_nil)
    (pss_cons (ps_if (PW.pt (pw_and (pt_cmpR op_eq (pv 4) pe_int (nomark _)) (pw_and1 (pt_cmpR (op_neD hr.units) (pv 3) (pe_lst pa_nil) (nomark _))))) (pss_one (ps_expr (pe_bm PySem.F.plainAttrs_list PySem.F.slot_list_pop PySem.F.type_list_pop mt_popAt (pv 3) (pa_cons (by exact (pe_cal (X := L2.Cx.nox _) CA hr (by decide) (pa_cons (pv 0) (pa_cons (pe_callB call_len_seq (by rfl) B.len PySem.boot_len (pa_cons (pv 3) pa_nil)) pa_nil)))) pa_nil)))) pss_nil)
    (pss_cons (ps_if (pt_cmpR op_eq (pv 4) pe_int (nomark _)) (pss_one (ps_set (i := 3) sc34.nd rfl (.inl rfl) (pe_callB cr_sortedI (by rfl) B.sorted (by decide +kernel) (pa_cons (pe_op op_cat (pv 3) (pe_lst (pa_cons (by exact (pe_cal (X := L2.Cx.nox _) CA hr (by decide) (pa_cons (pv 0) (pa_cons (pe_op op_add (pe_callB call_len_seq (by rfl) B.len PySem.boot_len (pa_cons (pv 1) pa_nil)) pe_int) pa_nil)))) pa_nil))) pa_nil)))) pss_nil)
    (pss_cons (ps_if (pt_cmpR op_eq (pv 4) pe_int (nomark _)) (pss_one (ps_set (i := 3) sc34.nd rfl (.inl rfl) (pe_revL (pv 3)))) pss_nil)
    (pss_cons (ps_if (PW.pt (pw_and (pt_cmpR op_eq (pv 4) pe_int (nomark _)) (pw_and1 (pt_cmpR (op_neD hr.units) (pv 3) (pe_lst pa_nil) (nomark _))))) (pss_one (ps_asg (by exact (pe_cal (X := L2.Cx.nox _) CA hr (by decide) (pa_cons (pv 0) (pa_cons (pe_op op_add (pe_callB call_len_seq (by rfl) B.len PySem.boot_len (pa_cons (pv 1) pa_nil)) pe_int) pa_nil)))) (pg_sub (pv 3) (by exact (pe_cal (X := L2.Cx.nox _) CA hr (by decide) (pa_cons (pv 0) (pa_cons (pe_callB call_len_seq (by rfl) B.len PySem.boot_len (pa_cons (pv 3) pa_nil)) pa_nil)))) set_list))) pss_nil)
    (pss_cons (ps_if (pt_cmpR op_eq (pv 4) pe_int (nomark _)) (pss_one (ps_setLc (i := 3) (own := [("_law_at", 5)]) (g := gName 5) rfl sc34.nd rfl rfl (sw_true rfl rfl rfl (by decide +kernel)) (pi_range1 (by rfl) B.range (pa_cons (pe_callB call_len_seq (by rfl) B.len PySem.boot_len (pa_cons (pv 1) pa_nil)) pa_nil)) (blkOk_by (N := ["_law_deal", "_law_counts", "_law_told", "_law_some_here", "_law_form", "_law_at"]) (sc := defScope (top 34)) (by decide +kernel))
        (fun _ _ _ _ _ => (pg_name (i := 5) sc34.nd rfl (Or.inl rfl))) (fun _ _ _ _ _ => (pts_one (pt_cmpR op_eq (pe_cal CA hr (by decide) (pa_cons (pv 0) (pa_cons pe_int pa_nil))) pe_int (nomark _)))) (fun _ _ _ _ _ => (pv 5)))) pss_nil)
    (pss_one (ps_ret (pe_callTy call_tuple_of (by rfl) B.tuple (by decide +kernel) (pa_cons (pv 3) pa_nil))))))))))), ?_⟩)
  · obtain ⟨d, c, a, ns, u, rfl, _⟩ := h
    rfl
  obtain ⟨d, c, a, ns, u, rfl, hD, ad, ac, hS, hl, hu, q⟩ := h
  have lm : (ns.map V.int).length = ns.length := List.length_map ..
  refine sq_cut (fun σ H' => ∃ (l : Addr) (is : List Int) (fm : Int) (z : Option V), σ = [some (.ref d), some (.ref a), some u, some (.ref l), some (.int fm), z] ∧ NS d c l H H' is 7) (fun Z hZ => ⟨_, rfl, rfl, _, rfl, ?_⟩) ?_
  · rcases hu with rfl | ⟨p, is, rfl, hp, pl, pb⟩
    · refine iteN (by simp) ⟨(by show 1 ≤ sizeLine; decide), fun l hl => ⟨_, rfl, d, c, 8, rfl, hD.same (Same.new hl), by decide, by decide, fun fm H2 f0 f1 D2 k2 => ⟨_, _, rfl, hZ _ _ ⟨l, [0], fm, none, rfl, ?_⟩⟩⟩⟩
      have n0 : NS d c l H (upd H l (.lst [V.int 0])) [0] 7 := ⟨upd_same, hD.ne hl, hl, by decide, fun i hi => by rw [show i = 0 from by simpa using hi]; decide, hD.same (Same.new hl), Kp.of (Same.new hl)⟩
      exact n0.go D2 k2
    · refine iteP (by simp) ⟨_, rfl, p, _, rfl, .inr (SqT.of hp), fun l hl => ⟨_, rfl, d, c, 8, rfl, hD.same (Same.new hl), by decide, by decide, fun fm H2 f0 f1 D2 k2 => ⟨_, _, rfl, hZ _ _ ⟨l, is, fm, none, rfl, ?_⟩⟩⟩⟩
      have n0 : NS d c l H (upd H l (.lst (is.map V.int))) is 7 := ⟨upd_same, hD.ne hl, hl, pl, pb, hD.same (Same.new hl), Kp.of (Same.new hl)⟩
      exact n0.go D2 k2
  rintro σ H1 ⟨l, is, fm, z, rfl, N1⟩
  refine sq_cut (fun σ H' => ∃ (l : Addr) (is : List Int) (fm : Int) (z : Option V), σ = [some (.ref d), some (.ref a), some u, some (.ref l), some (.int fm), z] ∧ NS d c l H H' is 7) (fun Z hZ => ⟨_, rfl, rfl, _, rfl, ?_⟩) ?_
  · by_cases z0 : fm = 0
    · refine iteP (by simp [z0]) ⟨_, rfl, _, rfl, (by show 1 ≤ sizeLine; decide), fun t1 h1 => ?_⟩
      have s1 : Same H1 (upd H1 t1 (.tup [V.bl true])) := Same.new h1
      have e1 : upd H1 t1 (.tup [V.bl true]) t1 = some (.tup [V.bl true]) := upd_same
      generalize upd H1 t1 (.tup [V.bl true]) = G1 at s1 e1
      refine ⟨(by show 1 ≤ sizeLine; decide), fun t2 h2 => ?_⟩
      have s2 : Same G1 (upd G1 t2 (.tup [V.bl false])) := Same.new h2
      have e2 : upd G1 t2 (.tup [V.bl false]) t2 = some (.tup [V.bl false]) := upd_same
      generalize upd G1 t2 (.tup [V.bl false]) = G2 at s2 e2
      refine ⟨(by show 1 ≤ sizeLine; decide), fun t3 h3 => ?_⟩
      have s3 : Same G2 (upd G2 t3 (.tup [V.str "0"])) := Same.new h3
      have e3 : upd G2 t3 (.tup [V.str "0"]) t3 = some (.tup [V.str "0"]) := upd_same
      generalize upd G2 t3 (.tup [V.str "0"]) = G3 at s3 e3
      have sA := (s1.trans s2).trans s3
      have hS3 := (hS.kp ad ac N1.kp).same sA
      refine ⟨_, rfl, a, _, rfl, hS3.sqA, (by show 1 ≤ sizeLine; decide), fun t4 h4 => ?_⟩
      rw [lm]
      have s4 : Same G3 (upd G3 t4 (.tup [V.int (ns.length : Nat)])) := Same.new h4
      have e4 : upd G3 t4 (.tup [V.int (ns.length : Nat)]) t4 = some (.tup [V.int (ns.length : Nat)]) := upd_same
      generalize upd G3 t4 (.tup [V.int (ns.length : Nat)]) = G4 at s4 e4
      refine ⟨_, rfl, (by show 1 ≤ sizeLine; decide), fun t5 h5 => ?_⟩
      have s5 : Same G4 (upd G4 t5 (.tup [V.int (-1)])) := Same.new h5
      have e5 : upd G4 t5 (.tup [V.int (-1)]) t5 = some (.tup [V.int (-1)]) := upd_same
      generalize upd G4 t5 (.tup [V.int (-1)]) = G5 at s5 e5
      refine ⟨_, rfl, a, _, rfl, (hS3.same (s4.trans s5)).sqA, _, rfl, RgOk.of_le (by omega) (by rw [lm]; omega) (by omega) (by omega), fun L hL => ?_⟩
      rw [lm, rg_upto]
      have s6 : Same G5 (upd G5 L (.lst ((upto ns.length).map V.int))) := Same.new hL
      have e6 : upd G5 L (.lst ((upto ns.length).map V.int)) L = some (.lst ((upto ns.length).map V.int)) := upd_same
      generalize upd G5 L (.lst ((upto ns.length).map V.int)) = G6 at s6 e6
      refine ⟨L, _, rfl, .inl ⟨SqL.of e6, fun t6 h6 => ?_⟩⟩
      have s7 : Same G6 (upd G6 t6 (.tup ((upto ns.length).map V.int))) := Same.new h6
      have e7 : upd G6 t6 (.tup ((upto ns.length).map V.int)) t6 = some (.tup ((upto ns.length).map V.int)) := upd_same
      generalize upd G6 t6 (.tup ((upto ns.length).map V.int)) = G7 at s7 e7
      refine ⟨(by show 9 ≤ sizeLine; decide), fun l9 h9 => ?_⟩
      have s8 : Same G7 (upd G7 l9 (.lst [V.non, V.ref l, V.ref t1, V.ref t2, V.ref t3, V.int 0, V.ref t4, V.ref t5, V.ref t6])) := Same.new h9
      have sG := ((((sA.trans s4).trans s5).trans s6).trans s7)
      have N7 := N1.same sG
      have N8 := N1.same (sG.trans s8)
      refine ⟨d, c, l9, _, rfl, N8.dl, (N7.dl.ne h9).1, (N7.dl.ne h9).2, SqL.of upd_same, Nat.succ_pos _, (by show 9 ≤ 1000; decide), fun j y H8 hy D8 k8 => ?_⟩
      have k18 : Kp d c G7 H8 := (Kp.of s8).trans k8
      have KK : Kp d c H H8 := N7.kp.trans k18
      have tt : ∀ {t : Addr} {xs : List V}, G7 t = some (.tup xs) → (t ≠ d ∧ t ≠ c) ∧ H8 t = some (.tup xs) := fun {t xs} e => by
        have n := N7.dl.neT e
        exact ⟨n, k18 _ _ n.1 n.2 e⟩
      have f1 := tt ((((((s2.trans s3).trans s4).trans s5).trans s6).trans s7) _ _ e1)
      have f2 := tt (((((s3.trans s4).trans s5).trans s6).trans s7) _ _ e2)
      have f3 := tt ((((s4.trans s5).trans s6).trans s7) _ _ e3)
      have f4 := tt (((s5.trans s6).trans s7) _ _ e4)
      have f5 := tt ((s6.trans s7) _ _ e5)
      have f7 := tt e7
      have lL := k18 _ _ N7.ld.1 N7.ld.2 N7.lst
      have nI : ∀ x : V, isI x = false → ∀ i : Int, x ≠ .int i := fun x h i e => by rw [e] at h; cases h
      have hy2 := List.mem_of_getElem? hy
      simp at hy2
      rcases hy2 with rfl | rfl | rfl | rfl | rfl | rfl | rfl | rfl | rfl
      · exact q _ none H8 ⟨_, .base .non, .inl rfl⟩ (fun _ z => by cases z) D8 KK
      · exact q _ none H8 ⟨_, .base (.lst lL), .inr (.inr rfl)⟩ (fun b z => by cases z; exact N7.ld) D8 KK
      · exact q _ _ H8 (valT_tup f1.2 (fun x hx => by have e : x = .bl true := by simpa using hx
                                                      rw [e]; exact .inr ⟨nI _ rfl, _, .base (.bl true), .inl rfl⟩) (by decide)) (fun b z => by cases z; exact f1.1) D8 KK
      · exact q _ _ H8 (valT_tup f2.2 (fun x hx => by have e : x = .bl false := by simpa using hx
                                                      rw [e]; exact .inr ⟨nI _ rfl, _, .base (.bl false), .inl rfl⟩) (by decide)) (fun b z => by cases z; exact f2.1) D8 KK
      · exact q _ _ H8 (valT_tup f3.2 (fun x hx => by have e : x = .str "0" := by simpa using hx
                                                      rw [e]; exact .inr ⟨nI _ rfl, _, .base (.str _), .inr (.inr (.inl rfl))⟩) (by decide)) (fun b z => by cases z; exact f3.1) D8 KK
      · exact q _ none H8 ⟨_, .base (.int 0), .inr (.inl rfl)⟩ (fun _ z => by cases z) D8 KK
      · exact q _ _ H8 (valT_tup f4.2 (fun x hx => by have e : x = .int (ns.length : Nat) := by simpa using hx
                                                      rw [e]; exact itm_int (by omega)) (by show 1 ≤ 9; decide)) (fun b z => by cases z; exact f4.1) D8 KK
      · exact q _ _ H8 (valT_tup f5.2 (fun x hx => by have e : x = .int (-1) := by simpa using hx
                                                      rw [e]; exact itm_int (by decide)) (by decide)) (fun b z => by cases z; exact f5.1) D8 KK
      · refine q _ _ H8 (valT_tup f7.2 (fun x hx => ?_) ?_) (fun b z => by cases z; exact f7.1) D8 KK
        · obtain ⟨i, hi, rfl⟩ := List.mem_map.mp hx
          have := (upto_idx ns.length).lt i hi
          exact itm_int (by omega)
        · unfold upto
          rw [List.length_map, List.length_map, List.length_range]
          omega
    · exact iteN (by simp [z0]) (hZ _ _ ⟨l, is, fm, z, rfl, N1⟩)
  rintro σ H1 ⟨l, is, fm, z, rfl, N1⟩
  refine sq_cut (fun σ H' => ∃ (l : Addr) (is : List Int) (fm : Int) (z : Option V), σ = [some (.ref d), some (.ref a), some u, some (.ref l), some (.int fm), z] ∧ NS d c l H H' is 7) (fun Z hZ => ⟨_, rfl, rfl, _, rfl, ?_⟩) ?_
  · by_cases z1 : fm = 1
    · refine iteP (by simp [z1]) ⟨_, rfl, (by show 0 ≤ sizeLine; decide), fun p hp => neL (ms := []) (SqL.of ((N1.same (Same.new hp)).lst)) (SqL.of upd_same) ⟨_, rfl, ?_⟩⟩
      have N2 := N1.same (Same.new (o := .lst []) hp)
      generalize upd H1 p (.lst []) = H2 at N2
      by_cases e : is = []
      · exact iteN (by simp [e]) (hZ _ _ ⟨l, is, fm, z, rfl, N2⟩)
      · have l0 : 0 < is.length := List.length_pos_iff.mpr e
        have i7 := N2.len
        have lv : (is.map V.int).length = is.length := List.length_map ..
        refine iteP (by simp [e]) ⟨_, rfl, .inl ⟨rfl, _, SqL.of N2.lst⟩, _, rfl, _, rfl, l, _, rfl, .inl (SqL.of N2.lst), d, c, _, rfl, N2.dl, by omega, sm_of (by omega) (Int.lt_of_le_of_lt (show (((is.map V.int).length : Nat) : Int) ≤ 1000 by omega) (by decide)), fun r H4 r0 r1 D4 k4 => ?_⟩
        have hr1 : r.toNat < is.length := by omega
        have N4 := N2.go D4 k4
        refine ⟨l, _, r, r.toNat, _, rfl, rfl, N4.lst, by omega, by omega, six_ok r0 r1, map_get hr1, ?_⟩
        rw [map_erase]
        refine hZ _ _ ⟨l, _, fm, z, rfl, N4.put ?_ fun i hi => N4.bd i (List.mem_of_mem_eraseIdx hi)⟩
        have := List.length_eraseIdx_of_lt hr1
        omega
    · exact iteN (by simp [z1]) (iteF (hZ _ _ ⟨l, is, fm, z, rfl, N1⟩))
  rintro σ H1 ⟨l, is, fm, z, rfl, N1⟩
  refine sq_cut (fun σ H' => ∃ (l : Addr) (is : List Int) (fm : Int) (z : Option V), σ = [some (.ref d), some (.ref a), some u, some (.ref l), some (.int fm), z] ∧ NS d c l H H' is 8) (fun Z hZ => ⟨_, rfl, rfl, _, rfl, ?_⟩) ?_
  · by_cases z2 : fm = 2
    · refine iteP (by simp [z2]) ⟨_, rfl, _, rfl, _, rfl, a, _, rfl, (hS.kp ad ac N1.kp).sqA, _, _, rfl, rfl, d, c, _, rfl, N1.dl, by omega, sm_of (by omega) (Int.lt_of_le_of_lt (show (((ns.map V.int).length : Nat) : Int) + 1 ≤ 1000 by omega) (by decide)), fun r H2 r0 r1 D2 k2 => ⟨(by show 1 ≤ sizeLine; decide), fun p hp => ?_⟩⟩
      have N2 := N1.go D2 k2
      have i7 := N2.len
      have N3 := N2.same (Same.new (o := .lst [V.int r]) hp)
      have p3 : upd H2 p (.lst [V.int r]) p = some (.lst [V.int r]) := upd_same
      generalize upd H2 p (.lst [V.int r]) = H3 at N3 p3
      refine ⟨l, p, _, _, rfl, rfl, N3.lst, p3, ?_, fun p4 hp4 => ?_⟩
      · rw [List.length_map]
        exact Nat.le_of_lt (len_lt (by simp only [List.length_cons, List.length_nil]; omega))
      have e4 : upd H3 p4 (.lst (is.map V.int ++ [V.int r])) p4 = some (.lst ((is ++ [r]).map V.int)) := by
        rw [upd_same, List.map_append]
        rfl
      have N4 := N3.same (Same.new (o := .lst (is.map V.int ++ [V.int r])) hp4)
      generalize upd H3 p4 (.lst (is.map V.int ++ [V.int r])) = H4 at e4 N4
      refine ⟨p4, _, rfl, SqL.of e4, fun js p5 pe so hp5 => hZ _ _ ⟨p5, js, fm, z, rfl, N4.fresh N4.dl hp5 (Same.new hp5) upd_same ?_ fun i hi => ?_⟩⟩
      · rw [pe.length_eq, List.length_append, List.length_singleton]
        omega
      · rcases List.mem_append.mp (pe.mem_iff.mp hi) with y | y
        · exact N2.bd i y
        · have : i = r := by simpa using y
          rw [lm] at r1
          omega
    · exact iteN (by simp [z2]) (hZ _ _ ⟨l, is, fm, z, rfl, N1.le (by decide)⟩)
  rintro σ H1 ⟨l, is, fm, z, rfl, N1⟩
  refine sq_cut (fun σ H' => ∃ (l : Addr) (is : List Int) (fm : Int) (z : Option V), σ = [some (.ref d), some (.ref a), some u, some (.ref l), some (.int fm), z] ∧ NS d c l H H' is 8) (fun Z hZ => ⟨_, rfl, rfl, _, rfl, ?_⟩) ?_
  · by_cases z3 : fm = 3
    · refine iteP (by simp [z3]) ⟨_, rfl, l, _, rfl, SqL.of N1.lst, fun p hp => hZ _ _ ⟨p, is.reverse, fm, z, rfl, N1.fresh N1.dl hp (Same.new hp) (by rw [upd_same, ← List.map_reverse]) (by rw [List.length_reverse]; exact N1.len) fun i hi => N1.bd i (List.mem_reverse.mp hi)⟩⟩
    · exact iteN (by simp [z3]) (hZ _ _ ⟨l, is, fm, z, rfl, N1⟩)
  rintro σ H1 ⟨l, is, fm, z, rfl, N1⟩
  refine sq_cut (fun σ H' => ∃ (l : Addr) (is : List Int) (fm : Int) (z : Option V), σ = [some (.ref d), some (.ref a), some u, some (.ref l), some (.int fm), z] ∧ NS d c l H H' is 8) (fun Z hZ => ⟨_, rfl, rfl, _, rfl, ?_⟩) ?_
  · by_cases z4 : fm = 4
    · refine iteP (by simp [z4]) ⟨_, rfl, (by show 0 ≤ sizeLine; decide), fun p hp => neL (ms := []) (SqL.of ((N1.same (Same.new hp)).lst)) (SqL.of upd_same) ⟨_, rfl, ?_⟩⟩
      have N2 := N1.same (Same.new (o := .lst []) hp)
      generalize upd H1 p (.lst []) = H2 at N2
      by_cases e : is = []
      · exact iteN (by simp [e]) (hZ _ _ ⟨l, is, fm, z, rfl, N2⟩)
      · have l0 : 0 < is.length := List.length_pos_iff.mpr e
        have i8 := N2.len
        have lv : (is.map V.int).length = is.length := List.length_map ..
        refine iteP (by simp [e]) ⟨_, rfl, _, rfl, a, _, rfl, (hS.kp ad ac N2.kp).sqA, _, _, rfl, rfl, d, c, _, rfl, N2.dl, by omega, sm_of (by omega) (Int.lt_of_le_of_lt (show (((ns.map V.int).length : Nat) : Int) + 1 ≤ 1000 by omega) (by decide)), fun r H3 r0 r1 D3 k3 => ?_⟩
        have N3 := N2.go D3 k3
        refine ⟨_, rfl, _, rfl, _, rfl, l, _, rfl, .inl (SqL.of N3.lst), d, c, _, rfl, N3.dl, by omega, sm_of (by omega) (Int.lt_of_le_of_lt (show (((is.map V.int).length : Nat) : Int) ≤ 1000 by omega) (by decide)), fun j H4 j0 j1 D4 k4 => ?_⟩
        have N4 := N3.go D4 k4
        refine ⟨l, _, j, j.toNat, rfl, rfl, N4.lst, ?_, ?_⟩
        · unfold L2.ixN
          rw [if_pos j0, if_pos j1]
        · have em : (is.map V.int).set j.toNat (V.int r) = (is.set j.toNat r).map V.int := by rw [List.map_set]
          rw [em]
          refine hZ _ _ ⟨l, _, fm, z, rfl, N4.put (by rw [List.length_set]; exact i8) fun i hi => ?_⟩
          rcases List.mem_or_eq_of_mem_set hi with y | y
          · exact N4.bd i y
          · rw [lm] at r1
            omega
    · exact iteN (by simp [z4]) (iteF (hZ _ _ ⟨l, is, fm, z, rfl, N1⟩))
  rintro σ H1 ⟨l, is, fm, z, rfl, N1⟩
  refine sq_cut (fun σ H' => ∃ (l : Addr) (is : List Int) (fm : Int) (z : Option V), σ = [some (.ref d), some (.ref a), some u, some (.ref l), some (.int fm), z] ∧ NS d c l H H' is 8) (fun Z hZ => ⟨_, rfl, rfl, _, rfl, ?_⟩) ?_
  · by_cases z5 : fm = 5
    · refine iteP (by simp [z5]) ⟨_, rfl, a, _, rfl, (hS.kp ad ac N1.kp).sqA, _, rfl, by rw [lm]; omega, by rw [lm]; omega, fun D hD => ?_⟩
      have dD := N1.dl.ne hD
      have Dn : H D = none := N1.kp.free dD.1 dD.2 hD
      refine lc_range (n := (((ns.map V.int).length : Nat) : Int).toNat) (fun i H' => ∃ js : List Int, H' D = some (.lst (js.map V.int)) ∧ js.length ≤ i ∧ (∀ j ∈ js, 0 ≤ j ∧ j ≤ 100) ∧ Dl H' d c ∧ Kp d c H H') ⟨[], upd_same, Nat.le_refl _, fun _ y => by simp at y, N1.dl.same (Same.new hD), N1.kp.trans (Kp.of (Same.new hD))⟩ ?_ ?_
      · rintro i H2 hi ⟨js, p1, p2, p3, p4, p5⟩
        rw [lm] at hi
        refine ⟨rfl, _, rfl, d, c, 2, rfl, p4, by decide, by decide, fun r H3 r0 r1 D3 k3 => ⟨rfl, _, rfl, ?_⟩⟩
        have p1 := k3 _ _ dD.1 dD.2 p1
        by_cases e : r = 0
        · refine iteP (by simp [e]) ⟨_, rfl, _, p1, len_lt (by rw [List.length_map]; omega), js ++ [0 + (i : Int)], ?_, ?_, fun j hj => ?_, D3.upd dD.1 dD.2, (p5.trans k3).updn Dn⟩
          · rw [upd_same, List.map_append]
            rfl
          · rw [List.length_append, List.length_singleton]
            omega
          · rcases List.mem_append.mp hj with y | y
            · exact p3 j y
            · have : j = 0 + (i : Int) := by simpa using y
              omega
        · exact iteN (by simp [e]) ⟨js, p1, by omega, p3, D3, p5.trans k3⟩
      · rintro H2 ⟨js, p1, p2, p3, p4, p5⟩
        rw [lm] at p2
        exact hZ _ _ ⟨D, js, fm, z, rfl, p1, dD, Dn, by omega, p3, p4, p5⟩
    · exact iteN (by simp [z5]) (hZ _ _ ⟨l, is, fm, z, rfl, N1⟩)
  rintro σ H1 ⟨l, is, fm, z, rfl, N1⟩
  refine ⟨_, rfl, l, _, rfl, .inl ⟨SqL.of N1.lst, fun t ht => ?_⟩⟩
  have i8 := N1.len
  refine q _ (some (is.map V.int)) _ (valT_tup upd_same (fun x hx => ?_) (by rw [List.length_map]; omega)) (fun b y => by cases y; exact N1.dl.ne ht) (N1.dl.same (Same.new ht)) (N1.kp.new ht)
  obtain ⟨i, hi, rfl⟩ := List.mem_map.mp hx
  have := N1.bd i hi
  exact itm_int (by omega)

end
end KV

/-! repr of a list or of a tuple of ints, of a truth value -/
namespace KV
open PySem PySem.Spec PyProof.Rows L2 KM
/-- a list (true) or a tuple -/
def SqO (b : Bool) (ns : List Int) : HO := if b = true then .lst (ns.map V.int) else .tup (ns.map V.int)
def SqD (b : Bool) (ns : List Int) : PyData := if b = true then .list (ns.map PyData.int) else .tuple (ns.map PyData.int)
def rReprA (K : PySem.W.Frag) : List V → Hp → VK → Prop := fun xs H Q =>
  (∃ b : Bool, xs = [.bl b] ∧ Q (.str (if b then "True" else "False")) H) ∨
  ∃ (a : Addr) (ns : List Int) (b : Bool), xs = [.ref a] ∧ H a = some (SqO b ns) ∧ (∀ n ∈ ns, n.natAbs.log2 < 1920) ∧ ns.length ≤ 1000 ∧ Q (.str (SqD b ns).shown) H
theorem shownAll_ints : ∀ ns : List Int, PyData.shownAll (ns.map PyData.int) = ns.map fun n => Str.ofString (toString n)
  | [] => rfl
  | n :: r => by
    show (PyData.int n).shown :: PyData.shownAll (r.map PyData.int) = _
    rw [shownAll_ints r]
    rfl
theorem piled_le : ∀ ts : List Str, (∀ t ∈ ts, t.length ≤ 1921) → piled ts ≤ 1923 * ts.length
  | [], _ => Nat.le_refl _
  | t :: r, h => by
    have h1 := h t (by simp)
    have h2 := piled_le r fun x hx => h x (by simp [hx])
    rw [piled_cons, List.length_cons]
    omega
theorem textFrom_le : ∀ (ts : List Str) (k : Nat) (acc : Str), (textFrom k acc ts).length ≤ acc.length + piled ts
  | [], _, _ => Nat.le_add_right ..
  | t :: ts, k, acc => by
    have h := textFrom_le ts (k + 1) (acc ++ (if k > 0 then ", " else "" : String) ++ t)
    rw [strLen_append, strLen_append] at h
    rw [piled_cons]
    have e : ((if k > 0 then ", " else "" : String) : Str).length ≤ 2 := by
      split <;> decide
    show (textFrom (k + 1) (acc ++ (if k > 0 then ", " else "" : String) ++ t) ts).length ≤ _
    omega
theorem shown_len {ns : List Int} (b : Bool) (hb : ∀ n ∈ ns, n.natAbs.log2 < 1920) (hl : ns.length ≤ 1000) : (SqD b ns).shown.length ≤ sizeLine := by
  have hp := piled_le (ns.map fun n => Str.ofString (toString n)) fun t ht => by
    obtain ⟨n, hn, rfl⟩ := List.mem_map.mp ht
    exact int_text_len_1921 (hb n hn)
  rw [List.length_map] at hp
  have hj : (Str.join ", " (ns.map fun n => Str.ofString (toString n))).length ≤ 1923 * 1000 := by
    cases e : ns with
    | nil => show 0 ≤ _; omega
    | cons n r =>
      have := join_length_add (ns.map fun n => Str.ofString (toString n)) (by rw [e]; simp)
      rw [e] at this hp hl
      omega
  have e3 : 1923 * 1000 + 3 ≤ sizeLine := by decide
  cases b with
  | false =>
    show (tupleText (PyData.shownAll (ns.map PyData.int))).length ≤ sizeLine
    rw [shownAll_ints]
    unfold tupleText
    rw [strLen_append, strLen_append]
    have e1 : (("(" : String) : Str).length = 1 := rfl
    have e2 : (((if ((ns.map fun n => Str.ofString (toString n)).length == 1) = true then ",)" else ")" : String)) : Str).length ≤ 2 := by
      split <;> decide
    omega
  | true =>
    show (listText (PyData.shownAll (ns.map PyData.int))).length ≤ sizeLine
    rw [shownAll_ints]
    unfold listText
    rw [strLen_append]
    have e2 : (("]" : String) : Str).length = 1 := rfl
    have e4 := textFrom_le (ns.map fun n => Str.ofString (toString n)) 0 ("[" : String)
    have e1 : (("[" : String) : Str).length = 1 := rfl
    omega
theorem log_sm {k : Nat} {n : Int} (h : sm k n) (hk : k ≤ 1920) (h0 : 0 < k) : n.natAbs.log2 < 1920 := by
  by_cases z : n.natAbs = 0
  · rw [z]
    show Nat.log2 0 < 1920
    decide
  · exact Nat.lt_of_lt_of_le ((Nat.log2_lt z).mpr h) hk
theorem call_reprA {X : Cx} (hg : X.A.guards = some []) (hu : X.A.units + 64 < cLine) : CallR X (.builtin "repr") (rReprA X.K) := by
  intro pins s σ H xs us Q I r h
  rcases h with ⟨b, rfl, q⟩ | ⟨a, ns, b, rfl, hs, hb, hl, q⟩
  · obtain ⟨u, rfl, r1⟩ := vals1 r
    cases r1
    exact PySem.P.repr_of_bool ⟨.str _, H, I.tok _, ⟨_, rfl⟩, q⟩
  · obtain ⟨u, rfl, r1⟩ := vals1 r
    have r2 : RelV (.ref a) u := r1
    have hz := shown_len b hb hl
    cases b with
    | false =>
      obtain ⟨as, rd⟩ := Dp.reads I (.tuple (ns.map PyData.int)) (.ref a) u (.tup (SqT.of hs) (dp_ints ns)) r2
      cases r1
      refine repr_of_reads' rd (by simp only [PyData.showable]; exact showAll_ints ns hb) (fun z => ?_) hg (by simp only [PyData.depth, depth_ints]; omega) (fun _ _ z => z) (fun h' u tk kk => ?_) hz
      · simp only [PyData.hasDict, noDict_ints] at z
        exact absurd z Bool.false_ne_true
      · exact ⟨.str _, H, I.kept kk, ⟨_, rfl⟩, q⟩
    | true =>
      obtain ⟨as, rd⟩ := Dp.reads I (.list (ns.map PyData.int)) (.ref a) u (.lst (SqL.of hs) (dp_ints ns)) r2
      cases r1
      refine repr_of_reads' rd (by simp only [PyData.showable]; exact showAll_ints ns hb) (fun z => ?_) hg (by simp only [PyData.depth, depth_ints]; omega) (fun _ _ z => z) (fun h' u tk kk => ?_) hz
      · simp only [PyData.hasDict, noDict_ints] at z
        exact absurd z Bool.false_ne_true
      · exact ⟨.str _, H, I.kept kk, ⟨_, rfl⟩, q⟩
end KV

/-! the law: whether indexes are least ones -/
namespace KV
open PySem PySem.Spec PyProof.Rows L2 KM
theorem leastV_idx {ns : List Int} {ys : List V} (e : leastV ns (some ys) = true) : ∃ is : List Int, ys = is.map V.int ∧ Idx ns.length is ∧ frcB (pick ns is) = true ∧ ∀ j ∈ is, frcB (pick ns (but is j)) = false := by
  have e' : (ys.all isI && leastB ns (intsOf ys)) = true := e
  rw [Bool.and_eq_true] at e'
  obtain ⟨is, rfl⟩ := ints_of e'.1
  rw [intsOf_ints] at e'
  have e2 := e'.2
  unfold leastB idxB at e2
  simp only [Bool.and_eq_true, decide_eq_true_eq] at e2
  exact ⟨is, rfl, ⟨e2.1.1.1, e2.1.1.2⟩, e2.1.2, e2.2⟩
theorem least_at {ns : List Int} {ys : List V} {i : Nat} {x : V} (e : leastV ns (some ys) = true) (hx : ys[i]? = some x) :
    ∃ k : Int, x = .int k ∧ 0 ≤ k ∧ k < ns.length ∧ ∀ m : Int, 0 < i → ys[i - 1]? = some (.int m) → m < k := by
  obtain ⟨is, rfl, hI, _⟩ := leastV_idx e
  obtain ⟨k, hk, rfl⟩ := map_at hx
  have kb := hI.lt k (List.mem_of_getElem? hk)
  refine ⟨k, rfl, kb.1, kb.2, fun m i0 hm => ?_⟩
  obtain ⟨m', hm', e⟩ := map_at hm
  rw [V.int.inj e]
  obtain ⟨b1, e1⟩ := List.getElem?_eq_some_iff.mp hk
  obtain ⟨b2, e2⟩ := List.getElem?_eq_some_iff.mp hm'
  rw [← e1, ← e2]
  exact List.pairwise_iff_getElem.mp hI.asc (i - 1) i b2 b1 (by omega)
theorem asc_last {is : List Int} (h : is.Pairwise (· < ·)) {m : Int} (hm : is[is.length - 1]? = some m) : ∀ x ∈ is, x ≤ m := by
  intro x hx
  obtain ⟨j, hj, rfl⟩ := List.mem_iff_getElem.mp hx
  obtain ⟨b, e⟩ := List.getElem?_eq_some_iff.mp hm
  rw [← e]
  by_cases z : j = is.length - 1
  · subst z
    exact Int.le_refl _
  · exact Int.le_of_lt (List.pairwise_iff_getElem.mp h j (is.length - 1) hj b (by omega))
theorem idx_snoc {m : Nat} {is : List Int} (h : Idx m is) {k : Int} (k0 : 0 ≤ k) (k1 : k < m) (hl : ∀ x ∈ is, x < k) : Idx m (is ++ [k]) := by
  refine ⟨fun i hi => ?_, List.pairwise_append.mpr ⟨h.asc, List.pairwise_singleton _ _, fun a ha b hb => ?_⟩⟩
  · rcases List.mem_append.mp hi with z | z
    · exact h.lt i z
    · have : i = k := by simpa using z
      rw [this]
      exact ⟨k0, k1⟩
  · have : b = k := by simpa using hb
    rw [this]
    exact hl a ha
theorem leastB_eq2 {ns is : List Int} (h : Idx ns.length is) (h3 : frcB (pick ns is) = true) : leastB ns is = decide ((is.filter fun k => frcB (pick ns (but is k))) = []) := by
  unfold leastB idxB
  rw [decide_eq_true h.lt, decide_eq_true h.asc, h3]
  simp only [Bool.true_and]
  rw [decide_eq_decide, List.filter_eq_nil_iff]
  constructor
  · intro z x hx
    rw [z x hx]
    exact Bool.false_ne_true
  · intro z x hx
    simpa using z x hx
section
variable {P : Program} {w : World} {K : PySem.W.Frag} {mg : Str → Option Value} {base : Heap}
def spLIL (K : PySem.W.Frag) : Sp := fun vs H Q _ => ∃ (a : Addr) (ns : List Int) (x : V) (xs : Option (List V)), vs = [.ref a, x] ∧ SqA K H a (ns.map V.int) ∧ ns.length ≤ 9 ∧ ValT K H x xs ∧ ∀ H', Same H H' → Q (.bl (leastV ns xs)) H'
theorem sc33 : FnScope ["_law_counts", "_law_value", "_law_k", "_law_at", "_law_one"] ["_law_counts", "_law_value"] (defScope (top 33)) := ⟨rfl, rfl, rfl, by decide +kernel, rfl, by decide +kernel, by decide +kernel⟩
theorem ok_lil {f : Addr} {fd : FuncData} (B : Bl mg) (CF : Cal P w K mg base CX0 2 "_law_forces" ["_law_counts"] (spFrL K)) (F : Fun K "_law_is_least" "_law_is_least" (top 33) f fd) : FnOk P w K mg base CX0 3 f fd ["_law_counts", "_law_value"] (spLIL K) := by
  refine F.ok sc33 (fun vs H Q E h => ?_) (fun cdv A outer s H vs Q E hr h => ⟨_,
    (pss_cons (ps_if (pt_not (pt_val (pe_callB call_isi (by rfl) B.isi (by decide +kernel) (pa_cons (pv 1) (pa_cons (pe_bltn (v := .ty "tuple") (by rfl) B.tuple (by decide +kernel) rfl) pa_nil))))) (pss_one (ps_ret pe_bl)) pss_nil)
    (pss_cons (ps_for PassesOwn.never rfl (pi_enumT (by rfl) B.enumerate (pa_cons (pv 1) pa_nil)) (pg_tup rfl (pgs_cons (pg_name (i := 2) sc33.nd rfl (.inl rfl)) (pgs_cons (pg_name (i := 3) sc33.nd rfl (.inl rfl)) pgs_nil))) (pss_one (ps_if (PW.pt (pw_or (pt_not (pt_val (pe_callB call_isi (by rfl) B.isi (by decide +kernel) (pa_cons (pv 3) (pa_cons (pe_bltn (v := .ty "int") (by rfl) B.int PyProof.Rows.boot_int rfl) pa_nil))))) (pw_or (pt_val (pe_callB call_isi (by rfl) B.isi (by decide +kernel) (pa_cons (pv 3) (pa_cons (pe_bltn (v := .ty "bool") (by rfl) B.bool (by decide +kernel) rfl) pa_nil)))) (pw_or (pt_cmpR op_lt (pv 3) pe_int (nomark _)) (pw_or (pt_cmpR op_ge (pv 3) (pe_callB call_len_seq (by rfl) B.len PySem.boot_len (pa_cons (pv 0) pa_nil)) (nomark _)) (pw_or1 (PW.pt (pw_and (pt_cmpR op_gt (pv 2) pe_int (nomark _)) (pw_and1 (pt_cmpR op_le (pv 3) (pe_ix ix_tup (pv 1) (pe_op op_sub (pv 2) pe_int) (fun _ _ => rfl)) (nomark _))))))))))) (pss_one (ps_ret pe_bl)) pss_nil)))
    (pss_cons (ps_if (pt_not (pt_val (by exact (pe_cal (X := L2.Cx.nox _) CF hr (by decide) (pa_cons (pe_lc (own := [("_law_at", 3)]) (g := gName 3) (tt := tYes) rfl sc33.nd (pi_tup (pv 1)) (blkOk_by (N := ["_law_counts", "_law_value", "_law_k", "_law_at", "_law_one"]) (sc := defScope (top 33)) (by decide +kernel))
        (fun _ _ _ _ _ => (pg_name (i := 3) sc33.nd rfl (Or.inl rfl))) (fun _ _ _ _ _ => pts_nil) (fun _ _ _ _ _ => (pe_ix (r := rIx K) ix_seq (pv 0) (pv 3) (fun _ _ => rfl)))) pa_nil))))) (pss_one (ps_ret pe_bl)) pss_nil)
    (pss_one (ps_ret (pe_cmpR (op_eqD hr.units) (pe_lc (own := [("_law_one", 4)]) (g := gName 4) rfl sc33.nd (pi_tup (pv 1)) (blkOk_by (N := ["_law_counts", "_law_value", "_law_k", "_law_at", "_law_one"]) (sc := defScope (top 33)) (by decide +kernel))
        (fun _ _ _ _ _ => (pg_name (i := 4) sc33.nd rfl (Or.inr rfl))) (fun _ _ _ _ _ => (pts_one (pt_val (pe_cal CF hr (by decide) (pa_cons (pe_lcN ["_law_counts", "_law_value", "_law_k", "_law_at", "_law_one"] (wi := iTup K (tVar 1)) (own := [("_law_at", 3)]) (g := gName 3) rfl sc33.nd (by exact (pi_tup (pv 1))) rfl (by decide +kernel)
        (fun _ _ _ _ _ => (pg_name (i := 3) sc33.nd rfl (Or.inl rfl))) (fun _ _ _ _ _ => (pts_one (pt_cmpR op_ne (pv 3) (pv 4) (nomark _)))) (fun _ _ _ _ _ => (pe_ix (r := rIx K) ix_seq (pv 0) (pv 3) (fun _ _ => rfl)))) pa_nil))))) (fun _ _ _ _ _ => (pv 4))) (pe_lst pa_nil) (nomark _))))))), ?_⟩)
  · obtain ⟨a, ns, x, xs, rfl, _⟩ := h
    rfl
  obtain ⟨a, ns, x, xs, rfl, hA, hl, hx, q⟩ := h
  obtain ⟨t, ty, kt⟩ := valT_kit hx
  refine ⟨_, rfl, x, _, t, _, xs.isSome, rfl, .ty _, ty, kt, _, rfl, ?_⟩
  cases xs with
  | none => exact iteT (q _ (Same.refl _))
  | some ys =>
    obtain ⟨b, rfl, hB, _, hI, hl2⟩ := hx
    have lm : (ns.map V.int).length = ns.length := List.length_map ..
    have bad : ∀ H', Same H H' → leastV ns (some ys) ≠ true → Q (.bl false) H' := fun H' s z => by
      have := q H' s
      cases e : leastV ns (some ys) with
      | true => exact absurd e z
      | false =>
        rw [e] at this
        exact this
    refine iteF ⟨_, rfl, b, _, rfl, hB, for_enumT (xs := ys) (fun i σ H' => (∃ u v z : Option V, σ = [some (.ref a), some (.ref b), u, v, z]) ∧ Same H H' ∧ ∃ is : List Int, ys.take i = is.map V.int ∧ Idx ns.length is) ⟨⟨none, none, none, rfl⟩, Same.refl H, [], rfl, fun _ z => by simp at z, .nil⟩ (fun i σ H' _ p => Same.seqT p.2.1 hB) ?_ ?_⟩
    · rintro i x σ H' T hx' ⟨⟨u, v, z, rfl⟩, s1, is, ht, hid⟩ hT
      have s2 : Same H (upd H' T (.tup [V.int (i : Int), x])) := s1.trans (Same.new hT)
      refine ⟨T, _, rfl, SqT.of upd_same, rfl, _, _, rfl, _, _, rfl, rfl, ?_⟩
      generalize upd H' T (.tup [V.int (i : Int), x]) = H1 at s2
      have hil : i < ys.length := (List.getElem?_eq_some_iff.mp hx').1
      have isl : is.length = i := by
        have := congrArg List.length ht
        rw [List.length_take, List.length_map] at this
        omega
      obtain ⟨t, c1, c2, ty, k1, k2, ei⟩ := itm_kit ((hI x (List.mem_of_getElem? hx')).same s2)
      refine ⟨_, rfl, x, _, t, _, c1, rfl, .ty _, ty, k1, c1, rfl, ?_⟩
      cases c1 with
      | false =>
        refine iteT (iteT (bad _ s2 fun e => ?_))
        obtain ⟨k, rfl, _⟩ := least_at e hx'
        cases ei
      | true =>
        refine iteF ⟨_, rfl, x, _, t, _, c2, rfl, .ty _, ty, k2, c2, rfl, ?_⟩
        cases c2 with
        | true =>
          refine iteT (iteT (bad _ s2 fun e => ?_))
          obtain ⟨k, rfl, _⟩ := least_at e hx'
          cases ei
        | false =>
          obtain ⟨k, rfl⟩ : ∃ k, x = .int k := by
            cases x with
            | int k => exact ⟨k, rfl⟩
            | _ => cases ei
          refine iteF ⟨_, rfl, _, _, rfl, rfl, _, rfl, ?_⟩
          by_cases k0 : k < 0
          · refine iteP (by simp [k0]) (iteT (bad _ s2 fun e => ?_))
            obtain ⟨k', e', h0, _⟩ := least_at e hx'
            rw [← V.int.inj e'] at h0
            omega
          refine iteN (by simp [k0]) ⟨_, rfl, _, rfl, a, _, rfl, Same.sqA s2 hA, _, _, rfl, rfl, _, rfl, ?_⟩
          rw [lm]
          by_cases kl : (ns.length : Int) ≤ k
          · refine iteP (by simp [kl]) (iteT (bad _ s2 fun e => ?_))
            obtain ⟨k', e', _, h1, _⟩ := least_at e hx'
            rw [← V.int.inj e'] at h1
            omega
          refine iteN (by simp [kl]) ⟨_, rfl, _, _, rfl, rfl, _, rfl, ?_⟩
          have next : (∀ y ∈ is, y < k) → ys.take (i + 1) = (is ++ [k]).map V.int ∧ Idx ns.length (is ++ [k]) := fun z => by
            refine ⟨?_, idx_snoc hid (by omega) (by omega) z⟩
            rw [List.take_succ, hx', ht, List.map_append]
            rfl
          by_cases i0 : 0 < i
          · have hm : ∃ m : Int, is[i - 1]? = some m := ⟨is[i - 1], List.getElem?_eq_getElem (by omega)⟩
            obtain ⟨m, hm⟩ := hm
            have ym : ys[i - 1]? = some (V.int m) := by
              have : (ys.take i)[i - 1]? = some (V.int m) := by
                rw [ht, List.getElem?_map, hm]
                rfl
              rw [List.getElem?_take] at this
              rw [if_pos (by omega)] at this
              exact this
            refine iteP (by simpa using i0) ⟨_, rfl, _, rfl, _, rfl, _, _, rfl, rfl, b, _, _, _, rfl, rfl, Same.seqT s2 hB, atI_eq (by omega) ym, _, _, rfl, rfl, _, rfl, ?_⟩
            by_cases km : k ≤ m
            · refine iteP (by simp [km]) (bad _ s2 fun e => ?_)
              obtain ⟨k', e', _, _, h2⟩ := least_at e hx'
              have := h2 m i0 ym
              rw [← V.int.inj e'] at this
              omega
            · have nx := next fun y hy => by
                have := asc_last hid.asc (m := m) (by rw [isl]; exact hm) y hy
                omega
              exact iteN (by simp [km]) ⟨⟨_, _, _, rfl⟩, s2, _, nx.1, nx.2⟩
          · have is0 : is = [] := List.eq_nil_of_length_eq_zero (by omega)
            have nx := next fun y hy => by
              rw [is0] at hy
              simp at hy
            exact iteN (by simpa using i0) (iteF ⟨⟨_, _, _, rfl⟩, s2, _, nx.1, nx.2⟩)
    · rintro σ H1 ⟨⟨u, v, z, rfl⟩, s1, is, ht, hid⟩
      rw [List.take_length] at ht
      subst ht
      rw [List.length_map] at hl2
      rw [leastV_ints] at q
      have hB1 := Same.seqT s1 hB
      refine ⟨_, rfl, b, rfl, ⟨_, hB1⟩, fun D hD => lc_tup (xs := is.map V.int) (fun i H2 => Same H1 H2 ∧ H2 D = some (.lst ((pick ns (is.take i)).map V.int))) ⟨Same.new hD, upd_same⟩ (fun i H2 _ p => Same.seqT p.1 hB1) ?_ ?_⟩
      · rintro i x H2 hx ⟨p1, p2⟩
        obtain ⟨k, hk, rfl⟩ := map_at hx
        have kb := hid.lt k (List.mem_of_getElem? hk)
        refine ⟨rfl, _, rfl, _, rfl, at_sq (Same.sqA (s1.trans p1) hA) (show k = (k.toNat : Int) by omega) (get_at kb) ⟨_, p2, len_lt (by unfold pick; rw [List.length_map, List.length_map, List.length_take]; omega), Same.upd p1 hD, ?_⟩⟩
        rw [upd_same, take_at hk]
        unfold pick
        rw [List.map_append, List.map_append]
        rfl
      · rintro H2 ⟨p1, p2⟩
        rw [List.length_map, List.take_length] at p2
        refine ⟨D, pick ns is, rfl, .inl (SqL.of p2), by unfold pick; rw [List.length_map]; exact hl2, fun H3 s3 => ⟨_, rfl, ?_⟩⟩
        have s4 := (s1.trans p1).trans s3
        cases e3 : frcB (pick ns is) with
        | false =>
          have q := q _ s4
          have z : leastB ns is = false := by
            unfold leastB
            rw [e3, Bool.and_false]
            rfl
          rw [z] at q
          exact iteT q
        | true =>
          rw [leastB_eq2 hid e3] at q
          have hA4 := Same.sqA s4 hA
          have hB4 := Same.seqT s4 hB
          refine iteF ⟨_, rfl, b, rfl, ⟨_, hB4⟩, fun D2 hD2 => lc_tup (xs := is.map V.int) (fun i H5 => Same H3 H5 ∧ H5 D2 = some (.lst (((is.take i).filter fun k => frcB (pick ns (but is k))).map V.int))) ⟨Same.new hD2, upd_same⟩ (fun i H5 _ p => Same.seqT p.1 hB4) ?_ ?_⟩
          · rintro i y H5 hy ⟨r1, r2⟩
            obtain ⟨k, hk, rfl⟩ := map_at hy
            have hB5 := Same.seqT r1 hB4
            refine ⟨rfl, _, rfl, b, rfl, ⟨_, hB5⟩, fun D3 hD3 => lc_tup (xs := is.map V.int) (fun j H6 => Same H5 H6 ∧ H6 D3 = some (.lst ((pick ns (but (is.take j) k)).map V.int))) ⟨Same.new hD3, upd_same⟩ (fun j H6 _ p => Same.seqT p.1 hB5) ?_ ?_⟩
            · rintro j z H6 hz ⟨w1, w2⟩
              obtain ⟨l, hl6, rfl⟩ := map_at hz
              have lb := hid.lt l (List.mem_of_getElem? hl6)
              refine ⟨rfl, _, rfl, _, rfl, rfl, _, rfl, ?_⟩
              by_cases lk : l = k
              · refine iteN (by simp [lk]) ⟨w1, ?_⟩
                rw [but_at hl6, if_neg (by simp [lk]), List.append_nil]
                exact w2
              · refine iteP (by simp [lk]) ⟨_, rfl, _, rfl, at_sq (Same.sqA (r1.trans w1) hA4) (show l = (l.toNat : Int) by omega) (get_at lb) ⟨_, w2, len_lt ?_, Same.upd w1 hD3, ?_⟩⟩
                · have x := but_len (is.take j) k
                  have y := List.length_take_le' j is
                  unfold pick
                  rw [List.length_map, List.length_map]
                  omega
                · rw [upd_same, but_at hl6, if_pos lk]
                  unfold pick
                  rw [List.map_append, List.map_append]
                  rfl
            · rintro H6 ⟨w1, w2⟩
              rw [List.length_map, List.take_length] at w2
              have bl := but_len is k
              refine ⟨D3, _, rfl, .inl (SqL.of w2), by unfold pick; rw [List.length_map]; omega, fun H7 s7 => ⟨_, rfl, ?_⟩⟩
              have r7 := (w1.trans s7) _ _ r2
              have s8 := (r1.trans w1).trans s7
              cases e : frcB (pick ns (but is k)) with
              | true =>
                refine iteT ⟨_, rfl, _, r7, len_lt ?_, Same.upd s8 hD2, ?_⟩
                · have x := List.length_filter_le (fun k => frcB (pick ns (but is k))) (is.take i)
                  have y := List.length_take_le' i is
                  rw [List.length_map]
                  omega
                · rw [upd_same, filt_at hk, if_pos e, List.map_append]
                  rfl
              | false =>
                refine iteF ⟨s8, ?_⟩
                rw [filt_at hk, if_neg (by simp [e]), List.append_nil]
                exact r7
          · rintro H5 ⟨r1, r2⟩
            rw [List.length_map, List.take_length] at r2
            refine ⟨(by show 0 ≤ sizeLine; decide), fun E1 hE => eqL (ms := []) (SqL.of (by rw [upd_ne (ne_of_none r2 hE)]; exact r2)) (SqL.of upd_same) ?_⟩
            exact q _ ((s4.trans r1).trans (Same.new hE))

end
end KV

/-! what stands while the draws go on -/
namespace KV
open PySem PySem.Spec PyProof.Rows L2 KM
theorem tyx_kp {K : PySem.W.Frag} {d c : Addr} {H H' : Hp} (D : Dl H d c) (D' : Dl H' d c) (k : Kp d c H H') {x : V} {t : Value} (h : TyX K H x t) : TyX K H' x t := by
  obtain ⟨_, cs, b, h1, h2, _⟩ := D
  have ne : ∀ {a : Addr} {o : HO}, H a = some o → (∀ xs, o ≠ .lst xs) → H' a = some o := fun {a o} e z => k a o (fun y => z _ (by rw [y, h1] at e; exact (Option.some.inj e).symm)) (fun y => z _ (by rw [y, h2] at e; exact (Option.some.inj e).symm)) e
  cases h with
  | base b =>
    refine .base ?_
    cases b with
    | non => exact .non
    | bl y => exact .bl y
    | int i => exact .int i
    | str y => exact .str y
    | flt y => exact .flt y
    | @lst a xs e =>
      obtain ⟨_, cs', b', g1, g2, _⟩ := D'
      by_cases y : a = d
      · rw [y]
        exact .lst g1
      · by_cases y2 : a = c
        · rw [y2]
          exact .lst g2
        · exact .lst (k _ _ y y2 e)
    | frz e => exact .frz (ne e fun _ z => by cases z)
    | tup e => exact .tup (ne e fun _ z => by cases z)
    | dK e => exact .dK (ne e fun _ z => by cases z)
    | dT e => exact .dT (ne e fun _ z => by cases z)
    | ins e a b c d f => exact .ins (ne e fun _ z => by cases z) a b c d f
  | byt b => exact .byt b
  | set e => exact .set (ne e fun _ z => by cases z)
  | kList e c => exact .kList e c
  | kTuple e c => exact .kTuple e c
  | kDict e c => exact .kDict e c
  | fTuple e => exact .fTuple (ne e fun _ z => by cases z)
  | fDict e => exact .fDict (ne e fun _ z => by cases z)
theorem Itm.kp {K : PySem.W.Frag} {d c : Addr} {H H' : Hp} (D : Dl H d c) (D' : Dl H' d c) (k : Kp d c H H') {x : V} (h : Itm K H x) : Itm K H' x := by
  rcases h with z | ⟨z1, T, z2, z3⟩
  · exact .inl z
  · exact .inr ⟨z1, T, tyx_kp D D' k z2, z3⟩
theorem ValA.kp {K : PySem.W.Frag} {d c : Addr} {H H' : Hp} (D : Dl H d c) (D' : Dl H' d c) (k : Kp d c H H') {v : V} {ms : Option (List V)} (hn : ∀ b, v = .ref b → b ≠ d ∧ b ≠ c) (h : ValA K H v ms) : ValA K H' v ms := by
  cases ms with
  | none =>
    obtain ⟨T, h1, h2⟩ := h
    exact ⟨T, tyx_kp D D' k h1, h2⟩
  | some xs =>
    obtain ⟨a, h1, h2, ⟨T, h3, h3'⟩, h4, h5⟩ := h
    obtain ⟨n1, n2⟩ := hn a h1
    exact ⟨a, h1, k.sqA n1 n2 h2, ⟨T, tyx_kp D D' k h3, h3'⟩, fun x hx => (h4 x hx).kp D D' k, h5⟩
theorem map_int_inj : ∀ {a b : List Int}, a.map V.int = b.map V.int → a = b
  | [], [], _ => rfl
  | [], _ :: _, h => by simp at h
  | _ :: _, [], h => by simp at h
  | x :: a, y :: b, h => by
    have h1 := List.cons.inj h
    rw [V.int.inj h1.1, map_int_inj h1.2]
theorem isSq_O {H : Hp} {a : Addr} {ns : List Int} (h : IsSq H a ns) : ∃ b, H a = some (SqO b ns) := by
  rcases h with h | h
  · exact ⟨true, h⟩
  · exact ⟨false, h⟩
theorem O_isSq {H : Hp} {a : Addr} {b : Bool} {ns : List Int} (h : H a = some (SqO b ns)) : IsSq H a ns := by
  cases b with
  | true => exact .inl h
  | false => exact .inr h
theorem O_sqA {K : PySem.W.Frag} {H : Hp} {a : Addr} {b : Bool} {ns : List Int} (h : H a = some (SqO b ns)) : SqA K H a (ns.map V.int) := (O_isSq h).imp SqL.of SqT.of
theorem O_val {K : PySem.W.Frag} {H : Hp} {a : Addr} {b : Bool} {ns : List Int} (h : H a = some (SqO b ns)) (hl : ns.length ≤ 7) (hb : ∀ n ∈ ns, sm 105 n) : ValA K H (.ref a) (some (ns.map V.int)) := by
  refine ⟨a, rfl, O_sqA h, ?_, fun x hx => ?_, by rw [List.length_map]; omega⟩
  · rcases O_isSq h with h | h
    · exact ⟨_, .base (.lst h), .inl rfl⟩
    · exact ⟨_, .base (.tup h), .inr rfl⟩
  · obtain ⟨n, hn, rfl⟩ := List.mem_map.mp hx
    exact .inl ⟨n, rfl, sm_mono (hb n hn) (by decide)⟩
end KV

/-! the law: what is refused; the law's own def -/
namespace KV
open PySem PySem.Spec PyProof.Rows L2 KM
theorem Kp.ofUpd {d c l : Addr} {H H' : Hp} {o : HO} (k : Kp d c H H') (h : H l = none) : Kp d c H (upd H' l o) := k.updn h
theorem valA_tup {K : PySem.W.Frag} {H : Hp} {a : Addr} {ns : List Int} (h : H a = some (.tup (ns.map V.int))) (hl : ns.length ≤ 9) (hb : ∀ n ∈ ns, sm 120 n) : ValA K H (.ref a) (some (ns.map V.int)) := by
  refine ⟨a, rfl, .inr (SqT.of h), ⟨_, .base (.tup h), .inr rfl⟩, fun x hx => ?_, by rw [List.length_map]; exact hl⟩
  obtain ⟨n, hn, rfl⟩ := List.mem_map.mp hx
  exact .inl ⟨n, rfl, hb n hn⟩
/-- what least_forcing tells -/
def ToldL (d c : Addr) (H : Hp) (ns : List Int) (u : V) : Prop := (u = .non ∧ frcB ns = false) ∨ ∃ (t : Addr) (is : List Int), u = .ref t ∧ H t = some (.tup (is.map V.int)) ∧ Least ns is ∧ frcB ns = true ∧ is.length ≤ ns.length ∧ t ≠ d ∧ t ≠ c
structure LS (d c p : Addr) (b : Bool) (ns : List Int) (u : V) (H : Hp) : Prop where
  dl : Dl H d c
  hp : H p = some (SqO b ns)
  pd : p ≠ d ∧ p ≠ c
  told : ToldL d c H ns u
theorem LS.kp {d c p : Addr} {b : Bool} {ns : List Int} {u : V} {H H' : Hp} (h : LS d c p b ns u H) (D : Dl H' d c) (k : Kp d c H H') : LS d c p b ns u H' := by
  refine ⟨D, k _ _ h.pd.1 h.pd.2 h.hp, h.pd, ?_⟩
  rcases h.told with z | ⟨t, is, e, h1, h2, h3, h4, h5, h6⟩
  · exact .inl z
  · exact .inr ⟨t, is, e, k _ _ h5 h6 h1, h2, h3, h4, h5, h6⟩
theorem LS.same {d c p : Addr} {b : Bool} {ns : List Int} {u : V} {H H' : Hp} (h : LS d c p b ns u H) (s : Same H H') : LS d c p b ns u H' := h.kp (h.dl.same s) (Kp.of s)
theorem ToldL.i {d c : Addr} {H : Hp} {ns : List Int} {u : V} (h : ToldL d c H ns u) (hl : ns.length ≤ 7) : ToldI H u := by
  rcases h with ⟨z, _⟩ | ⟨t, is, e, h1, h2, h3, h4, h5, h6⟩
  · exact .inl z
  · exact .inr ⟨t, is, e, h1, by omega, fun i hi => by have := h2.idx.lt i hi; omega⟩
theorem told_val {K : PySem.W.Frag} {d c : Addr} {H : Hp} {ns : List Int} {u : V} (h : ToldL d c H ns u) (hl : ns.length ≤ 7) : ∃ xs, ValT K H u xs ∧ leastV ns xs = frcB ns := by
  rcases h with ⟨rfl, z⟩ | ⟨t, is, rfl, h1, h2, h3, h4, h5, h6⟩
  · exact ⟨none, ⟨_, .base .non, .inl rfl⟩, z.symm⟩
  · refine ⟨some (is.map V.int), valT_tup h1 (fun x hx => ?_) (by rw [List.length_map]; omega), ?_⟩
    · obtain ⟨i, hi, rfl⟩ := List.mem_map.mp hx
      have := h2.idx.lt i hi
      exact itm_int (by omega)
    · rw [leastV_ints, h3]
      exact leastB_of h2
theorem told_non {d c : Addr} {H : Hp} {ns : List Int} {u : V} (h : ToldL d c H ns u) : decide (u = .non) = !frcB ns := by
  rcases h with ⟨rfl, z⟩ | ⟨t, is, rfl, h1, h2, h3, _⟩
  · rw [z]
    rfl
  · rw [h3]
    rfl
theorem frc2 : frcB [2] = true := by decide +kernel
theorem frcm : frcB [-1] = true := by decide +kernel
theorem frc01 : frcB [0, 1] = false := by decide +kernel
theorem frc0 : frcB [] = false := by decide +kernel
section
variable {P : Program} {w : World} {K : PySem.W.Frag} {mg : Str → Option Value} {base : Heap} {C fI : Addr}
def spAsked (K : PySem.W.Frag) : Sp := fun vs H Q _ => ∃ (v : V) (ms : Option (List V)), vs = [v] ∧ ValA K H v ms ∧ isIs ms = false ∧
  ∀ (l : Addr) (H' : Hp), Same H H' → H l = none → H' l = some (.lst ([0, 0, 0].map V.int)) → Q (.ref l) H'
theorem sc35 : FnScope ["_law_counts", "_law_found", "e", "how", "what"] ["_law_counts"] (defScope (top 35)) := ⟨rfl, rfl, rfl, by decide +kernel, rfl, by decide +kernel, by decide +kernel⟩
theorem ok_asked {f : Addr} {fd : FuncData} (T : PySem.LowX.LowTxt K mg "InvalidQuestion" "InvalidQuestion.__init__" C fI) (CF : Cal P w K mg base (L2.CX P w) 4 "forces" ["counts"] (spFrc K C)) (CL : Cal P w K mg base (L2.CX P w) 6 "least_forcing" ["counts"] (spLeF K C)) (CI : Cal P w K mg base (L2.CX P w) 6 "is_least_forcing" ["counts", "value"] (spILF K C)) (F : Fun K "_law_asked" "_law_asked" (top 35) f fd) : FnOk P w K mg base CX0 7 f fd ["_law_counts"] (spAsked K) := by
  refine F.ok sc35 (fun vs H Q E h => ?_) (fun cdv A outer s H vs Q E hr h => ⟨_,
    (pss_cons (ps_set (i := 1) sc35.nd rfl (.inl rfl) (pe_lst pa_nil))
    (pss_cons (ps_try_as (i := 2) (Wout := fun _ _ _ _ => False) (ts := fun a cls d => tDrop (tBM K "list" rAppend (tVar 1) (tCons (tByLow C a cls d (tVar 2)) tNil))) rfl rfl sc35.nd rfl rfl ⟨rfl, by decide, Or.inl T.gC⟩ takes0
      (fun W pn xe tk _ => pss_one (ps_expr (pe_calS CF hr (by decide) (fun σ => passAt tk σ) (pa_cons (pv 0) pa_nil))))
      (fun a oe cls d pn hz hf => by exact (pss_one (ps_expr (pe_bm (X := L2.Cx.suite _ a ((a, oe) :: pn)) PySem.F.plainAttrs_list PySem.F.slot_list_append PySem.F.type_list_append mt_append (pv 1) (pa_cons (pe_byLow T hz hf (pv 2)) pa_nil))))))
    (pss_cons (ps_try_as (i := 3) (Wout := fun _ _ _ _ => False) (ts := fun a cls d => tDrop (tBM K "list" rAppend (tVar 1) (tCons (tByLow C a cls d (tVar 3)) tNil))) rfl rfl sc35.nd rfl rfl ⟨rfl, by decide, Or.inl T.gC⟩ takes0
      (fun W pn xe tk _ => pss_one (ps_expr (pe_calS CL hr (by decide) (fun σ => passAt tk σ) (pa_cons (pv 0) pa_nil))))
      (fun a oe cls d pn hz hf => by exact (pss_one (ps_expr (pe_bm (X := L2.Cx.suite _ a ((a, oe) :: pn)) PySem.F.plainAttrs_list PySem.F.slot_list_append PySem.F.type_list_append mt_append (pv 1) (pa_cons (pe_byLow T hz hf (pv 3)) pa_nil))))))
    (pss_cons (ps_try_as (i := 4) (Wout := fun _ _ _ _ => False) (ts := fun a cls d => tDrop (tBM K "list" rAppend (tVar 1) (tCons (tByLow C a cls d (tVar 4)) tNil))) rfl rfl sc35.nd rfl rfl ⟨rfl, by decide, Or.inl T.gC⟩ takes0
      (fun W pn xe tk _ => pss_one (ps_expr (pe_calS CI hr (by decide) (fun σ => passAt tk σ) (pa_cons (pv 0) (pa_cons (pe_tup (pa_cons pe_int pa_nil)) pa_nil)))))
      (fun a oe cls d pn hz hf => by exact (pss_one (ps_expr (pe_bm (X := L2.Cx.suite _ a ((a, oe) :: pn)) PySem.F.plainAttrs_list PySem.F.slot_list_append PySem.F.type_list_append mt_append (pv 1) (pa_cons (pe_byLow T hz hf (pv 4)) pa_nil))))))
    (pss_one (ps_ret (pv 1))))))), ?_⟩)
  · obtain ⟨v, ms, rfl, _⟩ := h
    rfl
  obtain ⟨v, ms, rfl, hv, hf, q⟩ := h
  refine ⟨(by show 0 ≤ sizeLine; decide), fun l hl => ?_⟩
  have f1 : upd H l (.lst []) l = some (.lst (([] : List Int).map V.int)) := upd_same
  have s1 : Same H (upd H l (.lst [])) := Same.new hl
  dsimp only [gName]
  generalize upd H l (.lst []) = H1 at f1 s1
  refine ⟨_, rfl, v, ms, rfl, hv.same s1, .inl ⟨hf, fun H2 d s2 hd => ⟨true, T.te, fun _ a ha => ?_, fun z => Bool.noConfusion z⟩⟩⟩
  have l2 : upd H2 d (.xd [(("at" : Str), .int 0)]) l = some (.lst (([] : List Int).map V.int)) := by
    rw [upd_ne (ne_of_none (s2 _ _ f1) hd)]
    exact s2 _ _ f1
  have s3 : Same H (upd H2 d (.xd [(("at" : Str), .int 0)])) := (s1.trans s2).trans (Same.new hd)
  have e2 : upd H2 d (.xd [(("at" : Str), V.int 0)]) d = some (.xd [(("at" : Str), V.int 0)]) := upd_same
  generalize upd H2 d (.xd [(("at" : Str), V.int 0)]) = H3 at l2 s3 e2
  refine ⟨_, rfl, .inl ⟨rfl, _, SqL.of l2⟩, _, rfl, rfl, rfl, d, _, rfl, e2, l, _, _, rfl, rfl, l2, len_lt (by simp), ?_⟩
  have l4 : upd H3 l (.lst (([] : List Int).map V.int ++ [V.int 0])) l = some (.lst (([0] : List Int).map V.int)) := upd_same
  have s4 : Same H (upd H3 l (.lst (([] : List Int).map V.int ++ [V.int 0]))) := Same.upd s3 hl
  generalize upd H3 l (.lst (([] : List Int).map V.int ++ [V.int 0])) = H4 at l4 s4
  refine ⟨_, rfl, v, ms, rfl, hv.same s4, .inl ⟨hf, fun H5 d2 s5 hd2 => ⟨true, T.te, fun _ a ha => ?_, fun z => Bool.noConfusion z⟩⟩⟩
  have l6 : upd H5 d2 (.xd [(("at" : Str), .int 0)]) l = some (.lst (([0] : List Int).map V.int)) := by
    rw [upd_ne (ne_of_none (s5 _ _ l4) hd2)]
    exact s5 _ _ l4
  have s6 : Same H (upd H5 d2 (.xd [(("at" : Str), .int 0)])) := (s4.trans s5).trans (Same.new hd2)
  have e6 : upd H5 d2 (.xd [(("at" : Str), V.int 0)]) d2 = some (.xd [(("at" : Str), V.int 0)]) := upd_same
  generalize upd H5 d2 (.xd [(("at" : Str), V.int 0)]) = H6 at l6 s6 e6
  refine ⟨_, rfl, .inl ⟨rfl, _, SqL.of l6⟩, _, rfl, rfl, rfl, d2, _, rfl, e6, l, _, _, rfl, rfl, l6, len_lt (by simp), ?_⟩
  have l7 : upd H6 l (.lst (([0] : List Int).map V.int ++ [V.int 0])) l = some (.lst (([0, 0] : List Int).map V.int)) := upd_same
  have s7 : Same H (upd H6 l (.lst (([0] : List Int).map V.int ++ [V.int 0]))) := Same.upd s6 hl
  generalize upd H6 l (.lst (([0] : List Int).map V.int ++ [V.int 0])) = H7 at l7 s7
  refine ⟨_, rfl, (by show 1 ≤ sizeLine; decide), fun t ht => ?_⟩
  have t8 : upd H7 t (.tup [V.int 0]) t = some (.tup [V.int 0]) := upd_same
  have l8 := Same.new (o := .tup [V.int 0]) ht _ _ l7
  have s8 : Same H (upd H7 t (.tup [V.int 0])) := s7.trans (Same.new ht)
  generalize upd H7 t (.tup [V.int 0]) = H8 at t8 l8 s8
  refine ⟨v, .ref t, ms, some [V.int 0], rfl, hv.same s8, valT_tup t8 (fun x hx => by rw [show x = .int 0 from by simpa using hx]; exact itm_int (by decide)) (by decide), .inl ⟨hf, fun H9 d3 s9 hd3 => ⟨true, T.te, fun _ a ha => ?_, fun z => Bool.noConfusion z⟩⟩⟩
  have l10 : upd H9 d3 (.xd [(("at" : Str), .int 0)]) l = some (.lst (([0, 0] : List Int).map V.int)) := by
    rw [upd_ne (ne_of_none (s9 _ _ l8) hd3)]
    exact s9 _ _ l8
  have s10 : Same H (upd H9 d3 (.xd [(("at" : Str), .int 0)])) := (s8.trans s9).trans (Same.new hd3)
  have e10 : upd H9 d3 (.xd [(("at" : Str), V.int 0)]) d3 = some (.xd [(("at" : Str), V.int 0)]) := upd_same
  generalize upd H9 d3 (.xd [(("at" : Str), V.int 0)]) = H10 at l10 s10 e10
  refine ⟨_, rfl, .inl ⟨rfl, _, SqL.of l10⟩, _, rfl, rfl, rfl, d3, _, rfl, e10, l, _, _, rfl, rfl, l10, len_lt (by simp), ?_⟩
  exact ⟨_, rfl, q l _ (Same.upd s10 hl) hl upd_same⟩
def spLaw (K : PySem.W.Frag) : Sp := fun vs H Q _ => ∃ (a : Addr) (ns : List Int), vs = [.ref a] ∧ SqL K H a (ns.map V.int) ∧ ∀ H', Q (.bl true) H'
theorem sc36 : FnScope ["_law_script", "_law_deal", "_law_turn", "_law_counts", "_law_due", "_law_held", "_law_told", "_law_found", "_law_again", "_law_value", "_law_n"] ["_law_script"] (defScope (top 36)) := ⟨rfl, rfl, rfl, by decide +kernel, rfl, by decide +kernel, by decide +kernel⟩
set_option maxHeartbeats 16000000 in
theorem ok_law {f : Addr} {fd : FuncData} (B : Bl mg) (CDr : Cal P w K mg base CX0 1 "_law_draw" ["_law_script", "_law_salt"] (spDraw K)) (CA : Cal P w K mg base CX0 1 "_law_any" ["_law_deal", "_law_bound"] spAny)
    (CSo : Cal P w K mg base CX0 3 "_law_some" ["_law_deal"] spSome) (CFL : Cal P w K mg base CX0 2 "_law_forces" ["_law_counts"] (spFrL K)) (CLe : Cal P w K mg base (L2.CX P w) 6 "least_forcing" ["counts"] (spLeF K C)) (CFr : Cal P w K mg base (L2.CX P w) 4 "forces" ["counts"] (spFrc K C))
    (CBP : Cal P w K mg base CX0 1 "_law_by_primes" ["_law_counts"] (spBP K)) (CIL : Cal P w K mg base CX0 3 "_law_is_least" ["_law_counts", "_law_value"] (spLIL K)) (CNe : Cal P w K mg base CX0 3 "_law_near" ["_law_deal", "_law_counts", "_law_told"] (spNear K))
    (CM : Cal P w K mg base CX0 2 "_law_mixed" ["_law_deal", "_law_some_here"] spMix) (CAs : Cal P w K mg base CX0 7 "_law_asked" ["_law_counts"] (spAsked K)) (CNo : Cal P w K mg base CX0 3 "_law_no_counts" ["_law_deal", "_law_counts"] (spNo K))
    (CFrK : CalK P w K mg base (L2.CX P w) 4 "forces" ["counts"] ["counts"] false (spFrc K C)) (CLeK : CalK P w K mg base (L2.CX P w) 6 "least_forcing" ["counts"] ["counts"] false (spLeF K C)) (CIFK : CalK P w K mg base (L2.CX P w) 6 "is_least_forcing" ["counts", "value"] ["value", "counts"] true (spILF K C))
    (F : Fun K "law" "law" (top 36) f fd) : FnOkG P w K mg base 8 f fd ["_law_script"] (spLaw K) := by
  obtain ⟨oc, od, kV, doc, pm, an, cdv, ct, osl, rfl, lk, hcd⟩ := F.ex
  refine fn_ofG lk hcd sc36 (fun vs H Q E h => ?_) (fun A outer s H vs Q E hr gd h => ⟨_,
    (pss_cons (ps_set (i := 1) sc36.nd rfl (.inl rfl) (by exact (pe_cal CDr hr (by decide) (pa_cons (pv 0) (pa_cons pe_int pa_nil)))))
    (pss_cons (ps_for (passes_of rfl) rfl (pi_range1 (by rfl) B.range (pa_cons pe_int pa_nil)) (pg_name (i := 2) sc36.nd rfl (.inl rfl)) (pss_cons (ps_set (i := 3) sc36.nd rfl (.inl rfl) (by exact (pe_cal CSo hr (by decide) (pa_cons (pv 1) pa_nil))))
    (pss_cons (ps_par3 (i := 4) (j := 5) (l := 6) rfl sc36.nd rfl rfl rfl (by decide) (by decide) (by decide) rfl rfl rfl (pa_cons (by exact (pe_cal CFL hr (by decide) (pa_cons (pv 3) pa_nil))) (pa_cons (pe_callB (call_reprA gd hr.units) (by rfl) B.repr (by decide +kernel) (pa_cons (pv 3) pa_nil)) (pa_cons (by exact (pe_calS CLe hr (by decide) (fun σ => passL σ) (pa_cons (pv 3) pa_nil))) pa_nil))) (by rfl))
    (pss_cons (ps_if (PW.pt (pw_or (pt_cmpR op_ne (pe_callB (call_reprA gd hr.units) (by rfl) B.repr (by decide +kernel) (pa_cons (by exact (pe_calS CFr hr (by decide) (fun σ => passL σ) (pa_cons (pv 3) pa_nil))) pa_nil)) (pe_callB (call_reprA gd hr.units) (by rfl) B.repr (by decide +kernel) (pa_cons (pv 4) pa_nil)) (nomark _)) (pw_or1 (pt_cmpR op_ne (pe_callB (call_reprA gd hr.units) (by rfl) B.repr (by decide +kernel) (pa_cons (by exact (pe_calSK CFrK hr (by decide) (fun σ => passL σ) (pk_cons (pe_callTy call_tuple_of (by rfl) B.tuple (by decide +kernel) (pa_cons (pv 3) pa_nil)) pk_nil))) pa_nil)) (pe_callB (call_reprA gd hr.units) (by rfl) B.repr (by decide +kernel) (pa_cons (pv 4) pa_nil)) (nomark _))))) (pss_one (ps_ret pe_bl)) pss_nil)
    (pss_cons (ps_if (PW.pt (pw_and (pt_cmpR (op_eqD hr.units) (pe_lc (own := [("_law_n", 10)]) (g := gName 10) rfl sc36.nd (pi_sq (pv 3)) (blkOk_by (N := ["_law_script", "_law_deal", "_law_turn", "_law_counts", "_law_due", "_law_held", "_law_told", "_law_found", "_law_again", "_law_value", "_law_n"]) (sc := defScope (top 36)) (by decide +kernel))
        (fun _ _ _ _ _ => (pg_name (i := 10) sc36.nd rfl (Or.inl rfl))) (fun _ _ _ _ _ => (pts_one (pt_cmpR op_gt (pe_callB call_abs (by rfl) B.abs (by decide +kernel) (pa_cons (pv 10) pa_nil)) pe_int (nomark _)))) (fun _ _ _ _ _ => (pv 10))) (pe_lst pa_nil) (nomark _)) (pw_and1 (pt_cmpR op_ne (pv 4) (by exact (pe_cal CBP hr (by decide) (pa_cons (pv 3) pa_nil))) (nomark _))))) (pss_one (ps_ret pe_bl)) pss_nil)
    (pss_cons (ps_for (passes_of rfl) rfl (pi_list (pe_lst (pa_cons (pv 6) (pa_cons (by exact (pe_calSK CLeK hr (by decide) (fun σ => passL σ) (pk_cons (pv 3) pk_nil))) pa_nil)))) (pg_name (i := 7) sc36.nd rfl (.inl rfl)) (pss_one (ps_if (PW.pt (pw_or (pt_cmpR op_eq (pe_cmpR op_isN (pv 7) pe_non (nomark _)) (pv 4) (nomark _)) (pw_or1 (PW.pt (pw_and (pt_val (pv 4)) (pw_and1 (pt_not (pt_val (by exact (pe_cal CIL hr (by decide) (pa_cons (pv 3) (pa_cons (pv 7) pa_nil)))))))))))) (pss_one (ps_ret pe_bl)) pss_nil)))
    (pss_cons (ps_for (passes_of rfl) rfl (pi_range1 (by rfl) B.range (pa_cons pe_int pa_nil)) (pg_name (i := 8) sc36.nd rfl (.inl rfl)) (pss_cons (ps_set (i := 9) sc36.nd rfl (.inl rfl) (by exact (pe_cal CNe hr (by decide) (pa_cons (pv 1) (pa_cons (pv 3) (pa_cons (pv 6) pa_nil))))))
    (pss_one (ps_if (pt_cmpR op_ne (pe_callB (call_reprA gd hr.units) (by rfl) B.repr (by decide +kernel) (pa_cons (by exact (pe_calSK CIFK hr (by decide) (fun σ => passL σ) (pk_cons (pv 9) (pk_cons (pv 3) pk_nil)))) pa_nil)) (pe_callB (call_reprA gd hr.units) (by rfl) B.repr (by decide +kernel) (pa_cons (by exact (pe_cal CIL hr (by decide) (pa_cons (pv 3) (pa_cons (pv 9) pa_nil)))) pa_nil)) (nomark _)) (pss_one (ps_ret pe_bl)) pss_nil))))
    (pss_cons (ps_if (PW.pt (pw_and (pt_val (pv 4)) (pw_and1 (pt_cmpR op_notBl (by exact (pe_calS CFr hr (by decide) (fun σ => passL σ) (pa_cons (by exact (pe_cal CM hr (by decide) (pa_cons (pv 1) (pa_cons (pe_op op_cat (pe_callTy call_list_of (by rfl) B.list (by decide +kernel) (pa_cons (pv 3) pa_nil)) (pe_lst (pa_cons (by exact (pe_cal CA hr (by decide) (pa_cons (pv 1) (pa_cons (pe_op op_pow pe_int pe_int) pa_nil)))) (pa_cons (pe_un un_neg pe_int) pa_nil)))) pa_nil)))) pa_nil))) pe_bl (nomark _))))) (pss_one (ps_ret pe_bl)) pss_nil)
    (pss_cons (ps_set (i := 10) sc36.nd rfl (.inl rfl) (pe_op op_sub (by exact (pe_cal CA hr (by decide) (pa_cons (pv 1) (pa_cons (pe_op op_pow pe_int pe_int) pa_nil)))) (pe_op op_pow pe_int pe_int)))
    (pss_cons (ps_if (PW.pt (pw_or (pt_cmpR op_ne (pe_callB (call_reprA gd hr.units) (by rfl) B.repr (by decide +kernel) (pa_cons (pv 3) pa_nil)) (pv 5) (nomark _)) (pw_or (pt_cmpR op_notBl (by exact (pe_calS CFr hr (by decide) (fun σ => passL σ) (pa_cons (pe_tup (pa_cons (pv 10) (pa_cons (pe_op op_add (pv 10) pe_int) (pa_cons (pe_op op_sub (pv 10) pe_int) pa_nil)))) pa_nil))) pe_bl (nomark _)) (pw_or1 (pt_cmpR op_ne (pe_callB (call_reprA gd hr.units) (by rfl) B.repr (by decide +kernel) (pa_cons (by exact (pe_calS CFr hr (by decide) (fun σ => passL σ) (pa_cons (pe_lst (pa_cons (pv 10) pa_nil)) pa_nil))) pa_nil)) (pe_callB (call_reprA gd hr.units) (by rfl) B.repr (by decide +kernel) (pa_cons (pe_or (pe_cmpR op_eq (pv 10) pe_int (nomark _)) (pe_one (pe_cmpR op_eq (pv 10) (pe_un un_neg pe_int) (nomark _)))) pa_nil)) (nomark _)))))) (pss_one (ps_ret pe_bl)) pss_nil)
    (pss_one (ps_if (pt_cmpR (op_neD hr.units) (by exact (pe_cal CAs hr (by decide) (pa_cons (by exact (pe_cal CNo hr (by decide) (pa_cons (pv 1) (pa_cons (pv 3) pa_nil)))) pa_nil))) (pe_lst (pa_cons pe_int (pa_cons pe_int (pa_cons pe_int pa_nil)))) (nomark _)) (pss_one (ps_ret pe_bl)) pss_nil))))))))))))
    (pss_one (ps_ret (pe_and (pe_cmpR op_isBl (by exact (pe_calS CFr hr (by decide) (fun σ => passL σ) (pa_cons (pe_tup (pa_cons pe_int pa_nil)) pa_nil))) pe_bl (nomark _)) (pe_and (pe_cmpR op_isBl (by exact (pe_calS CFr hr (by decide) (fun σ => passL σ) (pa_cons (pe_lst (pa_cons (pe_un un_neg pe_int) pa_nil)) pa_nil))) pe_bl (nomark _)) (pe_and (pe_cmpR op_isBl (by exact (pe_calS CFr hr (by decide) (fun σ => passL σ) (pa_cons (pe_lst (pa_cons pe_int (pa_cons pe_int pa_nil))) pa_nil))) pe_bl (nomark _)) (pe_one (pe_cmpR op_isBl (by exact (pe_calS CFr hr (by decide) (fun σ => passL σ) (pa_cons (pe_tup pa_nil) pa_nil))) pe_bl (nomark _)))))))))), ?_⟩)
  · obtain ⟨a, ns, rfl, _⟩ := h
    rfl
  obtain ⟨a, ns0, rfl, hS, q⟩ := h
  refine ⟨_, rfl, a, ns0, 21, rfl, hS, by decide, by decide, fun H0 d c s0 hd hc hD0 => ?_⟩
  dsimp only [gName]
  refine ⟨3, rfl, by decide, by decide, for_range (n := 3) (fun i σ H' => ∃ v2 v3 v4 v5 v6 v7 v8 v9 v10 : Option V, σ = [some (.ref a), some (.ref d), v2, v3, v4, v5, v6, v7, v8, v9, v10] ∧ Dl H' d c) ⟨none, none, none, none, none, none, none, none, none, rfl, hD0⟩ ?_ ?_⟩
  · rintro i σ G hi ⟨v2, v3, v4, v5, v6, v7, v8, v9, v10, rfl, hD⟩
    refine ⟨_, rfl, d, c, rfl, hD, fun p ns H1 p0 hp hl hb D1 k1 => ?_⟩
    dsimp only [gName]
    have pd := hD.ne p0
    obtain ⟨b, hp1⟩ := isSq_O hp
    have logs : ∀ n ∈ ns, n.natAbs.log2 < 1920 := fun n hn => log_sm (hb n hn) (by decide) (by decide)
    have hb2 : ∀ n ∈ ns, sm 120 n := fun n hn => sm_mono (hb n hn) (by decide)
    refine ⟨_, rfl, p, ns, rfl, O_sqA hp1, by omega, fun H2 s2 => ⟨_, rfl, .inr ⟨p, ns, b, rfl, s2 _ _ hp1, logs, by omega, _, rfl, .ref p, _, rfl, O_val (s2 _ _ hp1) hl hb, .inr ⟨ns, rfl, fun u H3 s3 hu => ⟨_, _, _, rfl, ?_⟩⟩⟩⟩⟩
    have D3 := (D1.same s2).same s3
    have S0 : LS d c p b ns u H3 := by
      refine ⟨D3, s3 _ _ (s2 _ _ hp1), pd, ?_⟩
      rcases hu with z | ⟨t, is, e, h1, h2, h3, h4, h5⟩
      · exact .inl z
      · have td := (D1.same s2).ne h4
        exact .inr ⟨t, is, e, h1, h2, h3, h5, td.1, td.2⟩
    clear hu s3 s2 hp1 hp p0 D1 k1 D3
    dsimp only [gName]
    obtain ⟨N, hNd⟩ : ∃ N : L2.St → Hp → Prop, N = fun σ H' => (∃ v7 v8 v9 v10 : Option V, σ = [some (.ref a), some (.ref d), some (.int (0 + (i : Int))), some (.ref p), some (.bl (frcB ns)), some (.str (SqD b ns).shown), some u, v7, v8, v9, v10]) ∧ LS d c p b ns u H' := ⟨_, rfl⟩
    refine sq_cut N (fun Z hZ => ?_) ?_
    · rw [hNd] at hZ
      refine ⟨_, rfl, .ref p, _, rfl, O_val S0.hp hl hb, .inr ⟨ns, rfl, fun H4 s4 => .inl ⟨_, rfl, _, rfl, .inl ⟨_, rfl, rfl, _, rfl, iteN (by simp) ?_⟩⟩⟩⟩
      have S4 := S0.same s4
      refine ⟨_, rfl, p, ns.map V.int, rfl, ?_⟩
      cases b with
      | true =>
        refine .inl ⟨SqL.of S4.hp, fun t ht => ?_⟩
        refine ⟨.ref t, _, rfl, valA_tup (ns := ns) upd_same (by omega) hb2, .inr ⟨ns, rfl, fun H5 s5 => .inl ⟨_, rfl, _, rfl, .inl ⟨_, rfl, rfl, _, rfl, iteN (by simp) (hZ _ _ ⟨⟨v7, v8, v9, v10, rfl⟩, (S4.same (Same.new ht)).same s5⟩)⟩⟩⟩⟩
      | false =>
        refine .inr ⟨SqT.of S4.hp, ?_⟩
        refine ⟨.ref p, _, rfl, O_val S4.hp hl hb, .inr ⟨ns, rfl, fun H5 s5 => .inl ⟨_, rfl, _, rfl, .inl ⟨_, rfl, rfl, _, rfl, iteN (by simp) (hZ _ _ ⟨⟨v7, v8, v9, v10, rfl⟩, S4.same s5⟩)⟩⟩⟩⟩
    rintro σ H4 h
    rw [hNd] at h
    obtain ⟨⟨v7, v8, v9, v10, rfl⟩, S4⟩ := h
    refine sq_cut N (fun Z hZ => ?_) ?_
    · rw [hNd] at hZ
      refine ⟨_, rfl, p, rfl, lc_sq (O_sqA S4.hp) (fun D j H' => Same H4 H' ∧ H' D = some (.lst (((ns.take j).filter fun n => decide (30 < (n.natAbs : Int))).map V.int))) (fun D hD => ⟨Same.new hD, upd_same⟩) (fun D j H' p => Ke.of p.1) ?_ ?_⟩
      · rintro D j y H5 hD hy ⟨t1, t2⟩
        obtain ⟨n, hn, rfl⟩ := map_at hy
        refine ⟨rfl, _, rfl, n, rfl, _, _, rfl, rfl, _, rfl, ?_⟩
        rw [abs_e]
        by_cases z : 30 < (n.natAbs : Int)
        · refine iteP (decide_eq_true z) ⟨_, rfl, _, t2, len_lt ?_, Same.upd t1 hD, ?_⟩
          · rw [List.length_map]
            have x := List.length_filter_le (fun n : Int => decide (30 < (n.natAbs : Int))) (ns.take j)
            have y := List.length_take_le' j ns
            omega
          · rw [upd_same, filt_at hn, if_pos (decide_eq_true z), List.map_append]
            rfl
        · refine iteN (by simpa using z) ⟨t1, ?_⟩
          rw [filt_at hn, if_neg (by simpa using z), List.append_nil]
          exact t2
      · rintro D H5 hD ⟨t1, t2⟩
        rw [List.length_map, List.take_length] at t2
        refine ⟨(by show 0 ≤ sizeLine; decide), fun E1 hE => eqL (ns := ns.filter fun n => decide (30 < (n.natAbs : Int))) (ms := []) (SqL.of (by rw [upd_ne (ne_of_none t2 hE)]; exact t2)) (SqL.of upd_same) ⟨_, rfl, ?_⟩⟩
        have S5 := S4.same (t1.trans (Same.new (o := .lst []) hE))
        generalize upd H5 E1 (.lst []) = H6 at S5
        by_cases z : decide ((ns.filter fun n => decide (30 < (n.natAbs : Int))) = []) = true
        · have sm30 : ∀ n ∈ ns, n.natAbs ≤ 30 := fun n hn => by
            have := filt_nil (of_decide_eq_true z) n hn
            have := of_decide_eq_false this
            omega
          refine iteP z ⟨_, rfl, _, rfl, p, ns, rfl, O_sqA S5.hp, by omega, sm30, fun H7 s7 => ⟨rfl, _, rfl, iteN (by simp) (hZ _ _ ⟨⟨v7, v8, v9, v10, rfl⟩, S5.same s7⟩)⟩⟩
        · exact iteN z (iteF (hZ _ _ ⟨⟨v7, v8, v9, v10, rfl⟩, S5⟩))
    rintro σ H5 h
    rw [hNd] at h
    obtain ⟨⟨v7, v8, v9, v10, rfl⟩, S5⟩ := h
    refine sq_cut N (fun Z hZ => ?_) ?_
    · rw [hNd] at hZ
      refine ⟨_, rfl, _, rfl, .ref p, _, rfl, O_val S5.hp hl hb, .inr ⟨ns, rfl, fun u2 H6 s6 hu2 => ⟨(by show 2 ≤ sizeLine; decide), fun w2 hw2 => ⟨w2, rfl, ⟨_, SqL.of upd_same⟩, ?_⟩⟩⟩⟩
      have S6 := S5.same s6
      have T2 : ToldL d c H6 ns u2 := by
        rcases hu2 with z | ⟨t, is, e, h1, h2, h3, h4, h5⟩
        · exact .inl z
        · have td := S5.dl.ne h4
          exact .inr ⟨t, is, e, h1, h2, h3, h5, td.1, td.2⟩
      have T2 : LS d c p b ns u2 H6 := ⟨S6.dl, S6.hp, S6.pd, T2⟩
      refine for_list (xs := [u, u2]) (fun k σ H' => (∃ v7 : Option V, σ = [some (.ref a), some (.ref d), some (.int (0 + (i : Int))), some (.ref p), some (.bl (frcB ns)), some (.str (SqD b ns).shown), some u, v7, v8, v9, v10]) ∧ LS d c p b ns u H' ∧ LS d c p b ns u2 H' ∧ H' w2 = some (.lst [u, u2])) ⟨⟨v7, rfl⟩, S6.same (Same.new hw2), T2.same (Same.new hw2), upd_same⟩ (fun k σ H' _ p => SqL.of p.2.2.2) ?_ ?_
      · rintro k x σ G6 hx ⟨⟨v7, rfl⟩, S7, T7, w6⟩
        have gx : LS d c p b ns x G6 := by
          have := List.mem_of_getElem? hx
          rcases List.mem_cons.mp this with rfl | this
          · exact S7
          · have : x = u2 := by simpa using this
            rw [this]
            exact T7
        clear hx
        dsimp only [gName]
        obtain ⟨xs, hx1, hx2⟩ := told_val (K := K) gx.told hl
        refine ⟨_, rfl, rfl, _, rfl, rfl, _, rfl, ?_⟩
        rw [told_non gx.told]
        refine iteN (by cases frcB ns <;> decide) ⟨_, rfl, _, rfl, ?_⟩
        cases e : frcB ns with
        | true =>
          refine iteT ⟨_, rfl, _, rfl, p, ns, x, xs, rfl, O_sqA S7.hp, by omega, hx1, fun G7 s7 => ⟨_, rfl, ?_⟩⟩
          rw [hx2, e]
          exact iteF ⟨⟨_, rfl⟩, S7.same s7, T7.same s7, s7 _ _ w6⟩
        | false => exact iteF (iteF ⟨⟨_, rfl⟩, S7, T7, w6⟩)
      · rintro σ G6 ⟨⟨v7, rfl⟩, S7, _, _⟩
        exact hZ _ _ ⟨⟨_, _, _, _, rfl⟩, S7⟩
    rintro σ H6 h
    rw [hNd] at h
    obtain ⟨⟨v7, v8, v9, v10, rfl⟩, S6⟩ := h
    refine sq_cut N (fun Z hZ => ?_) ?_
    · rw [hNd] at hZ
      refine ⟨4, rfl, by decide, by decide, for_range (n := 4) (fun k σ H' => (∃ v7 v8 v9 v10 : Option V, σ = [some (.ref a), some (.ref d), some (.int (0 + (i : Int))), some (.ref p), some (.bl (frcB ns)), some (.str (SqD b ns).shown), some u, v7, v8, v9, v10]) ∧ LS d c p b ns u H') ⟨⟨v7, v8, v9, v10, rfl⟩, S6⟩ ?_ ?_⟩
      · rintro k σ G7 hk ⟨⟨v7, v8, v9, v10, rfl⟩, S7⟩
        refine ⟨_, rfl, _, rfl, _, rfl, d, c, p, ns, u, rfl, S7.dl, pd.1, pd.2, O_isSq S7.hp, hl, S7.told.i hl, fun y xs G8 hy hne D8 k8 => ?_⟩
        have S8 := S7.kp D8 k8
        dsimp only [gName]
        refine ⟨_, rfl, _, rfl, .ref p, y, _, xs, rfl, O_val S8.hp hl hb, hy, .inr ⟨ns, rfl, fun G9 s9 => .inl ⟨_, rfl, ?_⟩⟩⟩
        have S9 := S8.same s9
        refine ⟨_, rfl, _, rfl, p, ns, y, xs, rfl, O_sqA S9.hp, by omega, hy.same s9, fun G10 s10 => .inl ⟨_, rfl, rfl, _, rfl, iteN (by simp) ?_⟩⟩
        exact ⟨⟨_, _, _, _, rfl⟩, S9.same s10⟩
      · rintro σ G7 ⟨⟨v7, v8, v9, v10, rfl⟩, S7⟩
        exact hZ _ _ ⟨⟨_, _, _, _, rfl⟩, S7⟩
    rintro σ H7 h
    rw [hNd] at h
    obtain ⟨⟨v7, v8, v9, v10, rfl⟩, S7⟩ := h
    refine sq_cut N (fun Z hZ => ?_) ?_
    · rw [hNd] at hZ
      refine ⟨_, rfl, _, rfl, ?_⟩
      cases e : frcB ns with
      | false =>
        rw [e] at hZ
        exact iteF (iteF (hZ _ _ ⟨⟨_, _, _, _, rfl⟩, S7⟩))
      | true =>
        rw [e] at hZ
        refine iteT ⟨_, rfl, _, rfl, p, _, rfl, (by rcases O_sqA (K := K) S7.hp with z | z; exact .inl z; exact .inr z), fun L hL => ?_⟩
        have Ld := S7.dl.ne hL
        have S8 := S7.same (Same.new (o := .lst (ns.map V.int)) hL)
        have L8 : upd H7 L (.lst (ns.map V.int)) L = some (.lst (ns.map V.int)) := upd_same
        generalize upd H7 L (.lst (ns.map V.int)) = H8 at S8 L8
        refine ⟨_, rfl, _, _, rfl, rfl, ⟨by decide, by decide, by decide⟩, d, c, _, rfl, S8.dl, by decide, by decide, fun r H9 r0 r1 D9 k9 => ⟨_, rfl, (by show 2 ≤ sizeLine; decide), fun L2 hL2 => ?_⟩⟩
        have rs : sm 100 r := sm_of r0 (Int.lt_of_lt_of_le r1 (by decide))
        have S9 := S8.kp D9 k9
        have L9 := k9 _ _ Ld.1 Ld.2 L8
        have S10 := S9.same (Same.new (o := .lst [V.int r, V.int (-3)]) hL2)
        have L10 : upd H9 L2 (.lst [V.int r, V.int (-3)]) L = some (.lst (ns.map V.int)) := Same.new hL2 _ _ L9
        have M10 : upd H9 L2 (.lst [V.int r, V.int (-3)]) L2 = some (.lst [V.int r, V.int (-3)]) := upd_same
        generalize upd H9 L2 (.lst [V.int r, V.int (-3)]) = H10 at S10 L10 M10
        refine ⟨L, L2, _, _, rfl, rfl, L10, M10, ?_, fun L3 hL3 => ?_⟩
        · rw [List.length_map]
          exact Nat.le_of_lt (len_lt (by simp only [List.length_cons, List.length_nil]; omega))
        have e11 : upd H10 L3 (.lst (ns.map V.int ++ [V.int r, V.int (-3)])) L3 = some (.lst ((ns ++ [r, -3]).map V.int)) := by
          rw [upd_same, List.map_append]
          rfl
        have S11 := S10.same (Same.new (o := .lst (ns.map V.int ++ [V.int r, V.int (-3)])) hL3)
        have n11 := S10.dl.ne hL3
        generalize upd H10 L3 (.lst (ns.map V.int ++ [V.int r, V.int (-3)])) = H11 at e11 S11
        refine ⟨d, c, L3, ns ++ [r, -3], rfl, S11.dl, e11, n11.1, n11.2, by rw [List.length_append]; show ns.length + 2 ≤ 16; omega, fun l ms H12 pe l0 l1 D12 k12 => ?_⟩
        have S12 := S11.kp D12 k12
        have ml : ms.length ≤ 9 := by
          rw [pe.length_eq, List.length_append]
          show ns.length + 2 ≤ 9
          omega
        have mb : ∀ m ∈ ms, sm 120 m := fun m hm => by
          rcases List.mem_append.mp (pe.mem_iff.mp hm) with z | z
          · exact hb2 m z
          · rcases List.mem_cons.mp z with rfl | z
            · exact sm_mono rs (by decide)
            · have : m = -3 := by simpa using z
              rw [this]
              show (-3 : Int).natAbs < 2 ^ 120
              decide
        have fm : frcB ms = true := frcB_iff.mpr ((frcB_iff.mp e).mono fun n hn => pe.mem_iff.mpr (List.mem_append_left _ hn))
        refine ⟨.ref l, _, rfl, valA_list l1 ml mb, .inr ⟨ms, rfl, fun H13 s13 => ⟨_, _, rfl, rfl, _, rfl, ?_⟩⟩⟩
        rw [fm]
        exact iteN (by decide) (hZ _ _ ⟨⟨_, _, _, _, rfl⟩, S12.same s13⟩)
    rintro σ H8 h
    rw [hNd] at h
    obtain ⟨⟨v7, v8, v9, v10, rfl⟩, S8⟩ := h
    refine ⟨_, rfl, _, _, rfl, rfl, ⟨by decide, by decide, by decide⟩, d, c, _, rfl, S8.dl, by decide, by decide, fun x H9 x0 x1 D9 k9 => ⟨_, _, rfl, rfl, ⟨by decide, by decide, by decide⟩, _, _, rfl, rfl, ?_⟩⟩
    have S9 := S8.kp D9 k9
    have xs : sm 100 (x - 10 ^ (11 : Int).toNat) := by
      have e : (10 : Int) ^ (11 : Int).toNat = 100000000000 := by decide
      have e2 : (10 : Int) ^ (12 : Int).toNat = 1000000000000 := by decide
      rw [e]
      rw [e2] at x1
      refine Nat.lt_of_le_of_lt (show (x - 100000000000).natAbs ≤ 1000000000000 by omega) (by decide)
    dsimp only [gName]
    generalize x - 10 ^ (11 : Int).toNat = n at xs ⊢
    have sB : ∀ m : Int, m = n ∨ m = n + 1 ∨ m = n - 1 → sm 120 m := fun m hm => by
      have h1 : n.natAbs < 2 ^ 100 := xs
      have h2 : (2 : Nat) ^ 100 + 1 < 2 ^ 120 := by decide
      show m.natAbs < 2 ^ 120
      generalize (2 : Nat) ^ 100 = t1 at h1 h2
      generalize (2 : Nat) ^ 120 = t2 at h2
      omega
    refine sq_cut (fun σ H' => (∃ v7 v8 v9 v10 : Option V, σ = [some (.ref a), some (.ref d), some (.int (0 + (i : Int))), some (.ref p), some (.bl (frcB ns)), some (.str (SqD b ns).shown), some u, v7, v8, v9, v10]) ∧ LS d c p b ns u H') (fun Z hZ => ?_) ?_
    · refine ⟨_, rfl, .inr ⟨p, ns, b, rfl, S9.hp, logs, by omega, _, rfl, rfl, _, rfl, iteN (by simp) ?_⟩⟩
      refine ⟨_, rfl, _, rfl, _, _, rfl, rfl, _, rfl, _, _, rfl, rfl, (by show 3 ≤ sizeLine; decide), fun t ht => ?_⟩
      have S10 := S9.same (Same.new (o := .tup [V.int n, V.int (n + 1), V.int (n - 1)]) ht)
      have t10 : upd H9 t (.tup [V.int n, V.int (n + 1), V.int (n - 1)]) t = some (.tup (([n, n + 1, n - 1] : List Int).map V.int)) := upd_same
      have v10' : ValA K (upd H9 t (.tup [V.int n, V.int (n + 1), V.int (n - 1)])) (.ref t) (some (([n, n + 1, n - 1] : List Int).map V.int)) := valA_tup t10 (by show 3 ≤ 9; decide) fun m hm => sB m (by simpa using hm)
      refine ⟨.ref t, _, rfl, v10', .inr ⟨[n, n + 1, n - 1], rfl, fun H11 s11 => ⟨_, _, rfl, rfl, _, rfl, ?_⟩⟩⟩
      rw [frcB_iff.mpr (frc_three n)]
      have S11 := S10.same s11
      refine iteN (by decide) ⟨_, rfl, (by show 1 ≤ sizeLine; decide), fun l hl' => ?_⟩
      have S12 := S11.same (Same.new (o := .lst [V.int n]) hl')
      have v12 : ValA K (upd H11 l (.lst [V.int n])) (.ref l) (some (([n] : List Int).map V.int)) := valA_list (ns := [n]) upd_same (by show 1 ≤ 9; decide) fun m hm => sB m (by simp at hm; exact .inl hm)
      refine ⟨.ref l, _, rfl, v12, .inr ⟨[n], rfl, fun H13 s13 => .inl ⟨_, rfl, ?_⟩⟩⟩
      have S13 := S12.same s13
      have fo := frc_one n
      have last : ∀ bv : Bool, bv = frcB [n] → decide (V.str (if frcB [n] = true then ("True" : String) else "False" : String) = V.str (if bv = true then ("True" : String) else "False" : String)) = true := fun bv e => by rw [e]; simp
      refine ⟨_, rfl, rfl, _, rfl, ?_⟩
      by_cases n2 : n = 2
      · have e : frcB [n] = true := frcB_iff.mpr (fo.mpr (.inl n2))
        refine iteP (by simp [n2]) (.inl ⟨_, rfl, rfl, _, rfl, ?_⟩)
        rw [e]
        exact iteN (by simp) (hZ _ _ ⟨⟨_, _, _, _, rfl⟩, S13⟩)
      · refine iteN (by simp [n2]) ⟨_, rfl, _, rfl, rfl, .inl ⟨_, rfl, rfl, _, rfl, ?_⟩⟩
        have e : decide (V.int n = V.int (-1)) = frcB [n] := by
          rw [Bool.eq_iff_iff, frcB_iff, fo, decide_eq_true_eq, V.int.injEq]
          omega
        rw [e]
        exact iteN (by simp) (hZ _ _ ⟨⟨_, _, _, _, rfl⟩, S13⟩)
    rintro σ H10 ⟨⟨v7, v8, v9, v10, rfl⟩, S10⟩
    refine ⟨_, rfl, _, rfl, d, c, p, ns, rfl, S10.dl, pd.1, pd.2, O_isSq S10.hp, hl, hb, fun v ms H11 hv hf hne D11 k11 => ?_⟩
    refine ⟨v, ms, rfl, hv, hf, fun l H12 s12 l0 l1 => ?_⟩
    refine ⟨(by show 3 ≤ sizeLine; decide), fun E1 hE => neL (ns := [0, 0, 0]) (ms := [0, 0, 0]) (SqL.of (by rw [upd_ne (ne_of_none l1 hE)]; exact l1)) (SqL.of upd_same) ⟨_, rfl, iteN (by simp) ?_⟩⟩
    exact ⟨_, _, _, _, _, _, _, _, _, rfl, (((S10.kp D11 k11).same s12).same (Same.new hE)).dl⟩
  · rintro σ G ⟨v2, v3, v4, v5, v6, v7, v8, v9, v10, rfl, hD⟩
    have q := q
    refine ⟨(by show 1 ≤ sizeLine; decide), fun t ht => ⟨.ref t, _, rfl, valA_tup (ns := [2]) upd_same (by show 1 ≤ 9; decide) (fun m hm => by rw [show m = 2 from by simpa using hm]; show (2 : Int).natAbs < 2 ^ 120; decide), .inr ⟨[2], rfl, fun H2 s2 => ⟨_, _, rfl, rfl, _, rfl, ?_⟩⟩⟩⟩
    rw [frc2]
    refine iteP (by decide) ⟨_, rfl, (by show 1 ≤ sizeLine; decide), fun l hl => ⟨.ref l, _, rfl, valA_list (ns := [-1]) upd_same (by show 1 ≤ 9; decide) (fun m hm => by rw [show m = -1 from by simpa using hm]; show (-1 : Int).natAbs < 2 ^ 120; decide), .inr ⟨[-1], rfl, fun H3 s3 => ⟨_, _, rfl, rfl, _, rfl, ?_⟩⟩⟩⟩
    rw [frcm]
    refine iteP (by decide) ⟨(by show 2 ≤ sizeLine; decide), fun l2 hl2 => ⟨.ref l2, _, rfl, valA_list (ns := [0, 1]) upd_same (by show 2 ≤ 9; decide) (fun m hm => by
      have : m = 0 ∨ m = 1 := by simpa using hm
      rcases this with rfl | rfl
      · show (0 : Int).natAbs < 2 ^ 120; decide
      · show (1 : Int).natAbs < 2 ^ 120; decide), .inr ⟨[0, 1], rfl, fun H4 s4 => ⟨_, _, rfl, rfl, _, rfl, ?_⟩⟩⟩⟩
    rw [frc01]
    refine iteP (by decide) ⟨(by show 0 ≤ sizeLine; decide), fun t2 ht2 => ⟨.ref t2, _, rfl, valA_tup (ns := []) upd_same (by show 0 ≤ 9; decide) (fun m hm => by simp at hm), .inr ⟨[], rfl, fun H5 s5 => ⟨_, _, rfl, rfl, ?_⟩⟩⟩⟩
    rw [frc0]
    exact q _
end
end KV

/-! the end -/
namespace KV
open PySem PySem.Spec PyProof.Rows L2 He KM
section
variable {P : Program} {w : World} {K : PySem.W.Frag} {mg : Str → Option Value} {base : Heap} {Z : CXT} {k : Nat} {x : Str} {st : Stmt} {f : Addr} {fd : FuncData} {ps ks : List Str} {sp : Sp}
theorem mkCal (F : Fun K x x st f fd) (ok : FnOk P w K mg base Z k f fd ps sp) (g : mg x = some (.ref f))
    (h : ∀ (kV doc pm : Value) (an : Option Addr) (cdv ct : Value) (us : List Value), us.length = ps.length → bindArgs (PySem.W.fnOf x x (defArgs st) (defBody st) (defScope st) .none kV doc pm an cdv ct) ⟨us, []⟩ = pure (ps.zip us)) :
    Cal P w K mg base Z k x ps sp := ⟨_, _, ok, g, F.kp, F.binds h⟩
theorem mkCalK {b : Bool} (F : Fun K x x st f fd) (ok : FnOk P w K mg base Z k f fd ps sp) (g : mg x = some (.ref f))
    (h : ∀ (kV doc pm : Value) (an : Option Addr) (cdv ct : Value) (us : List Value), us.length = ps.length → bindArgs (PySem.W.fnOf x x (defArgs st) (defBody st) (defScope st) .none kV doc pm an cdv ct) ⟨[], ks.zip us⟩ = pure (ps.zip (rv b us))) :
    CalK P w K mg base Z k x ps ks b sp := ⟨_, _, ok, g, F.kp, KB.mk F h⟩
end
def gN : List Str := (["is_integer", "is_below", "is_sequence", "is_ascending", "check_integers", "common_moduli", "lot_of", "_is_plain", "_lot_of_one", "forces", "least_forcing", "is_least_forcing"] : List Str) ++ (["_force_at", "_law_draw", "_law_any", "_law_of", "_law_mixed", "_law_divisor", "_law_inverse", "_law_fitting", "_law_no_counts", "_law_forces", "_law_by_primes", "_law_some"] : List Str) ++ (["_law_is_least", "_law_near", "_law_asked", "law", "InvalidQuestion"] : List Str)
def fN : List Str := ["isinstance", "int", "bool", "tuple", "list", "len", "range", "sorted", "all", "abs", "divmod", "repr", "min", "max", "enumerate", "any"]
def fa21 : List Fa := gN.map Fa.glo ++ fN.map Fa.free
def dI : FnD := ⟨("InvalidQuestion", some "__init__"), "__init__", "InvalidQuestion.__init__", PySem.LowX.iA ⟨7, 17, 7, 21⟩ ⟨7, 23, 7, 25⟩, PySem.LowX.iB ⟨8, 8, 8, 12⟩ ⟨8, 8, 8, 15⟩ ⟨8, 18, 8, 20⟩ ⟨8, 8, 8, 20⟩, PySem.LowX.iS⟩
def fn21 : List FnD := [dI, dTop "is_integer" (top 5), dTop "is_below" (top 6), dTop "is_sequence" (top 7), dTop "is_ascending" (top 8), dTop "check_integers" (top 9), dTop "common_moduli" (top 11), dTop "lot_of" (top 13), dTop "_is_plain" (top 14), dTop "_lot_of_one" (top 15), dTop "forces" (top 17), dTop "least_forcing" (top 18), dTop "is_least_forcing" (top 19), dTop "_force_at" (top 20), dTop "_law_draw" (top 22), dTop "_law_any" (top 23), dTop "_law_of" (top 24), dTop "_law_mixed" (top 25), dTop "_law_divisor" (top 26), dTop "_law_inverse" (top 27), dTop "_law_fitting" (top 28), dTop "_law_no_counts" (top 29), dTop "_law_forces" (top 30), dTop "_law_by_primes" (top 31), dTop "_law_some" (top 32), dTop "_law_is_least" (top 33), dTop "_law_near" (top 34), dTop "_law_asked" (top 35), dTop "law" (top 36)]
def ex21 (K : PySem.W.Frag) : Bool := lowB K "InvalidQuestion" && bltB K "gcd" "math.gcd"
theorem factG {K : PySem.W.Frag} (c : SaysE fa21 fn21 K) {f : Fa} (hf : f ∈ fa21) : f.ok K = true := by
  have c1 := (ba (show ((fa21.all fun f => f.ok K) && fn21.all fun d => (Fa.code d.at_ d.qual).ok K) = true from congrArg (fun z : Al => z.1) c)).1
  exact List.all_eq_true.mp c1 f hf
theorem mem_g {x : Str} (h : x ∈ gN) : Fa.glo x ∈ fa21 := List.mem_append_left _ (List.mem_map_of_mem h)
theorem mem_f {x : Str} (h : x ∈ fN) : Fa.free x ∈ fa21 := List.mem_append_right _ (List.mem_map_of_mem h)
theorem end21 {P : Program} {w : World} {K : PySem.W.Frag} {h : Heap} {mg : Str → Option Value} {f : Addr} (X : K.In h) (G : h.Ns mainGlobals mg) (hfa : mg ("law" : Str) = some (.ref f)) (c : SaysE fa21 fn21 K) (b : ex21 K = true) :
    ∃ fd : FuncData, (∀ (s : Shared) (u : Value), BindsTo s fd ⟨[u], []⟩ [("_law_script", u)]) ∧ ∀ base : Heap, K.In base → base.Ns mainGlobals mg → FnOkG P w K mg base 8 f fd ["_law_script"] (spLaw K) := by
  obtain ⟨b1, b2⟩ := ba b
  have g : ∀ x : Str, x ∈ gN → mg x = some (.ref (ga K x)) := fun x hx => glo_ok X G (factG c (mem_g hx))
  have fr : ∀ x : Str, x ∈ fN → mg x = none := fun x hx => free_ok X G (factG c (mem_f hx))
  have B : Bl mg := ⟨fr _ (by decide), fr _ (by decide), fr _ (by decide), fr _ (by decide), fr _ (by decide), fr _ (by decide), fr _ (by decide), fr _ (by decide), fr _ (by decide), fr _ (by decide), fr _ (by decide), fr _ (by decide), fr _ (by decide), fr _ (by decide), fr _ (by decide), fr _ (by decide), bltB_ok X G b2⟩
  have T : PySem.LowX.LowTxt K mg "InvalidQuestion" "InvalidQuestion.__init__" (ga K "InvalidQuestion") (ma K (ga K "InvalidQuestion") "__init__") := low_of X G (d := dI) rfl (saysFn c 0 rfl).1 (saysFn c 0 rfl).2 (factG c (mem_g (by decide))) b1
  obtain ⟨fd5, F5⟩ := saysFun c 1 rfl
  obtain ⟨fd6, F6⟩ := saysFun c 2 rfl
  obtain ⟨fd7, F7⟩ := saysFun c 3 rfl
  obtain ⟨fd8, F8⟩ := saysFun c 4 rfl
  obtain ⟨fd9, F9⟩ := saysFun c 5 rfl
  obtain ⟨fd11, F11⟩ := saysFun c 6 rfl
  obtain ⟨fd13, F13⟩ := saysFun c 7 rfl
  obtain ⟨fd14, F14⟩ := saysFun c 8 rfl
  obtain ⟨fd15, F15⟩ := saysFun c 9 rfl
  obtain ⟨fd17, F17⟩ := saysFun c 10 rfl
  obtain ⟨fd18, F18⟩ := saysFun c 11 rfl
  obtain ⟨fd19, F19⟩ := saysFun c 12 rfl
  obtain ⟨fd20, F20⟩ := saysFun c 13 rfl
  obtain ⟨fd22, F22⟩ := saysFun c 14 rfl
  obtain ⟨fd23, F23⟩ := saysFun c 15 rfl
  obtain ⟨fd24, F24⟩ := saysFun c 16 rfl
  obtain ⟨fd25, F25⟩ := saysFun c 17 rfl
  obtain ⟨fd26, F26⟩ := saysFun c 18 rfl
  obtain ⟨fd27, F27⟩ := saysFun c 19 rfl
  obtain ⟨fd28, F28⟩ := saysFun c 20 rfl
  obtain ⟨fd29, F29⟩ := saysFun c 21 rfl
  obtain ⟨fd30, F30⟩ := saysFun c 22 rfl
  obtain ⟨fd31, F31⟩ := saysFun c 23 rfl
  obtain ⟨fd32, F32⟩ := saysFun c 24 rfl
  obtain ⟨fd33, F33⟩ := saysFun c 25 rfl
  obtain ⟨fd34, F34⟩ := saysFun c 26 rfl
  obtain ⟨fd35, F35⟩ := saysFun c 27 rfl
  obtain ⟨fd36, F36⟩ := saysFun c 28 rfl
  have e := hfa.symm.trans (g "law" (by decide))
  cases e
  have bL : ∀ (s : Shared) (u : Value), BindsTo s fd36 ⟨[u], []⟩ [("_law_script", u)] := by
    obtain ⟨oc, od, kV, doc, pm, an, cdv, ct, osl, rfl, lk, hcd⟩ := F36.ex
    exact fun s u => .of_eq rfl
  refine ⟨fd36, bL, fun base _ _ => ?_⟩
  have o5 := ok_isI (P := P) (w := w) (mg := mg) (base := base) B F5
  have c5 := mkCal (P := P) (w := w) (base := base) F5 o5 (g _ (by decide)) fun _ _ _ _ _ _ us hl => match us, hl with | [_], _ => rfl
  have o6 := ok_bel (P := P) (w := w) (mg := mg) (base := base) c5 F6
  have c6 := mkCal (P := P) (w := w) (base := base) F6 o6 (g _ (by decide)) fun _ _ _ _ _ _ us hl => match us, hl with | [_, _], _ => rfl
  have o7 := ok_isSeq (P := P) (w := w) (mg := mg) (base := base) B F7
  have c7 := mkCal (P := P) (w := w) (base := base) F7 o7 (g _ (by decide)) fun _ _ _ _ _ _ us hl => match us, hl with | [_], _ => rfl
  have o8 := ok_asc (P := P) (w := w) (mg := mg) (base := base) B F8
  have c8 := mkCal (P := P) (w := w) (base := base) F8 o8 (g _ (by decide)) fun _ _ _ _ _ _ us hl => match us, hl with | [_], _ => rfl
  have o9 := ok_chk (P := P) (w := w) (mg := mg) (base := base) B T c5 c7 F9
  have c9 := mkCal (P := P) (w := w) (base := base) F9 o9 (g _ (by decide)) fun _ _ _ _ _ _ us hl => match us, hl with | [_, _], _ => rfl
  have o11 := ok_com (P := P) (w := w) (mg := mg) (base := base) B F11
  have c11 := mkCal (P := P) (w := w) (base := base) F11 o11 (g _ (by decide)) fun _ _ _ _ _ _ us hl => match us, hl with | [_, _], _ => rfl
  have o14 := ok_plain (P := P) (w := w) (mg := mg) (base := base) F14
  have c14 := mkCal (P := P) (w := w) (base := base) F14 o14 (g _ (by decide)) fun _ _ _ _ _ _ us hl => match us, hl with | [_], _ => rfl
  have o15 := ok_one (P := P) (w := w) (mg := mg) (base := base) B F15
  have c15 := mkCal (P := P) (w := w) (base := base) F15 o15 (g _ (by decide)) fun _ _ _ _ _ _ us hl => match us, hl with | [_], _ => rfl
  have o13 := ok_lotOf (P := P) (w := w) (mg := mg) (base := base) c9 c14 c15 c11 F13
  have c13 := mkCal (P := P) (w := w) (base := base) F13 o13 (g _ (by decide)) fun _ _ _ _ _ _ us hl => match us, hl with | [_], _ => rfl
  have o17 := ok_frc (P := P) (w := w) (mg := mg) (base := base) c13 F17
  have c17 := mkCal (P := P) (w := w) (base := base) F17 o17 (g _ (by decide)) fun _ _ _ _ _ _ us hl => match us, hl with | [_], _ => rfl
  have o20 := ok_fA (P := P) (w := w) (mg := mg) (base := base) c17 F20
  have c20 := mkCal (P := P) (w := w) (base := base) F20 o20 (g _ (by decide)) fun _ _ _ _ _ _ us hl => match us, hl with | [_, _], _ => rfl
  have o18 := ok_leF (P := P) (w := w) (mg := mg) (base := base) B c17 c20 F18
  have c18 := mkCal (P := P) (w := w) (base := base) F18 o18 (g _ (by decide)) fun _ _ _ _ _ _ us hl => match us, hl with | [_], _ => rfl
  have o19 := ok_ilf (P := P) (w := w) (mg := mg) (base := base) B c9 c6 c8 c20 F19
  have c19 := mkCal (P := P) (w := w) (base := base) F19 o19 (g _ (by decide)) fun _ _ _ _ _ _ us hl => match us, hl with | [_, _], _ => rfl
  have o22 := ok_draw (P := P) (w := w) (mg := mg) (base := base) B F22
  have c22 := mkCal (P := P) (w := w) (base := base) F22 o22 (g _ (by decide)) fun _ _ _ _ _ _ us hl => match us, hl with | [_, _], _ => rfl
  have o23 := ok_any (P := P) (w := w) (mg := mg) (base := base) B F23
  have c23 := mkCal (P := P) (w := w) (base := base) F23 o23 (g _ (by decide)) fun _ _ _ _ _ _ us hl => match us, hl with | [_, _], _ => rfl
  have o24 := ok_of (P := P) (w := w) (mg := mg) (base := base) B c23 F24
  have c24 := mkCal (P := P) (w := w) (base := base) F24 o24 (g _ (by decide)) fun _ _ _ _ _ _ us hl => match us, hl with | [_, _], _ => rfl
  have o25 := ok_mixed (P := P) (w := w) (mg := mg) (base := base) B c23 F25
  have c25 := mkCal (P := P) (w := w) (base := base) F25 o25 (g _ (by decide)) fun _ _ _ _ _ _ us hl => match us, hl with | [_, _], _ => rfl
  have o26 := ok_div (P := P) (w := w) (mg := mg) (base := base) B F26
  have c26 := mkCal (P := P) (w := w) (base := base) F26 o26 (g _ (by decide)) fun _ _ _ _ _ _ us hl => match us, hl with | [_, _], _ => rfl
  have o27 := ok_invL (P := P) (w := w) (mg := mg) (base := base) B F27
  have c27 := mkCal (P := P) (w := w) (base := base) F27 o27 (g _ (by decide)) fun _ _ _ _ _ _ us hl => match us, hl with | [_, _], _ => rfl
  have o28 := ok_fit (P := P) (w := w) (mg := mg) (base := base) B c23 c27 F28
  have c28 := mkCal (P := P) (w := w) (base := base) F28 o28 (g _ (by decide)) fun _ _ _ _ _ _ us hl => match us, hl with | [_, _], _ => rfl
  have o29 := ok_no (P := P) (w := w) (mg := mg) (base := base) B c24 F29
  have c29 := mkCal (P := P) (w := w) (base := base) F29 o29 (g _ (by decide)) fun _ _ _ _ _ _ us hl => match us, hl with | [_, _], _ => rfl
  have o30 := ok_frL (P := P) (w := w) (mg := mg) (base := base) B c26 F30
  have c30 := mkCal (P := P) (w := w) (base := base) F30 o30 (g _ (by decide)) fun _ _ _ _ _ _ us hl => match us, hl with | [_], _ => rfl
  have o31 := ok_bp (P := P) (w := w) (mg := mg) (base := base) B F31
  have c31 := mkCal (P := P) (w := w) (base := base) F31 o31 (g _ (by decide)) fun _ _ _ _ _ _ us hl => match us, hl with | [_], _ => rfl
  have o32 := ok_some (P := P) (w := w) (mg := mg) (base := base) B c23 c24 c28 F32
  have c32 := mkCal (P := P) (w := w) (base := base) F32 o32 (g _ (by decide)) fun _ _ _ _ _ _ us hl => match us, hl with | [_], _ => rfl
  have o33 := ok_lil (P := P) (w := w) (mg := mg) (base := base) B c30 F33
  have c33 := mkCal (P := P) (w := w) (base := base) F33 o33 (g _ (by decide)) fun _ _ _ _ _ _ us hl => match us, hl with | [_, _], _ => rfl
  have o34 := ok_near (P := P) (w := w) (mg := mg) (base := base) B c23 c24 F34
  have c34 := mkCal (P := P) (w := w) (base := base) F34 o34 (g _ (by decide)) fun _ _ _ _ _ _ us hl => match us, hl with | [_, _, _], _ => rfl
  have o35 := ok_asked (P := P) (w := w) (mg := mg) (base := base) T c17 c18 c19 F35
  have c35 := mkCal (P := P) (w := w) (base := base) F35 o35 (g _ (by decide)) fun _ _ _ _ _ _ us hl => match us, hl with | [_], _ => rfl
  have k17 := mkCalK (ks := ["counts"]) (b := false) F17 o17 (g _ (by decide)) fun _ _ _ _ _ _ us hl => match us, hl with | [_], _ => rfl
  have k18 := mkCalK (ks := ["counts"]) (b := false) F18 o18 (g _ (by decide)) fun _ _ _ _ _ _ us hl => match us, hl with | [_], _ => rfl
  have k19 := mkCalK (ks := ["value", "counts"]) (b := true) F19 o19 (g _ (by decide)) fun _ _ _ _ _ _ us hl => match us, hl with | [_, _], _ => rfl
  exact ok_law B c22 c23 c32 c30 c18 c17 c31 c33 c34 c25 c35 c29 k17 k18 k19 F36
abbrev R21 : PySem.W.OpenRow := PySem.W.OpenLaw.row PySem.Challenge.rw_batchnumbers_k21_whole_forcing_counts
abbrev hk21 : PySem.W.Hook := hookZ 5 fa21 fn21 ex21
def ob21 (s : PySem.W.SharedT) : Al × Bool := obsZ 5 fa21 fn21 ex21 (HandSHeadRun.getT s)
theorem ob21_eq (s : PySem.W.SharedT) : ob21 s = hk21.obs s.abs := obsZ_eq (HandSHeadRun.getT_eq s)
def loose21 : List Str := (["BatchError", "InvalidQuestion", "is_integer", "is_below", "is_sequence", "is_ascending", "check_integers", "common_moduli", "lot_of", "_is_plain", "_lot_of_one", "forces"] : List Str) ++ (["least_forcing", "is_least_forcing", "_force_at", "_law_draw", "_law_any", "_law_of", "_law_mixed", "_law_divisor", "_law_inverse", "_law_fitting", "_law_no_counts", "_law_forces"] : List Str) ++ (["_law_by_primes", "_law_some", "_law_is_least", "_law_near", "_law_asked"] : List Str)
theorem run21 (w : World) : HandSHeadRun.RunEqI R21 (PySem.W.view R21.prog [0, 36]) hk21 ob21 6000 loose21 w := by
  unfold HandSHeadRun.RunEqI
  kernel_rfl
end KV
open PySem PySem.W PySem.Calls PyProof.Rows
set_option maxRecDepth 100000 in
set_option maxHeartbeats 8000000 in
theorem PySem.Challenge.cw_batchnumbers_k21_whole_forcing_counts_holds : PySem.Challenge.rw_batchnumbers_k21_whole_forcing_counts.Holds := by
  w_on; o_law
  refine HandSHeadRun.head_imp (r := OpenLaw.row PySem.Challenge.rw_batchnumbers_k21_whole_forcing_counts) (q := view (OpenLaw.row PySem.Challenge.rw_batchnumbers_k21_whole_forcing_counts).prog [0, 36]) (H := KV.hk21) (ob := KV.ob21) (M := 6000) (loose := KV.loose21) (d := HandSHeadRun.topDef (OpenLaw.row PySem.Challenge.rw_batchnumbers_k21_whole_forcing_counts).prog 36) (kwd := []) KV.ob21_eq
    KV.run21 (by kernel_rfl) (by kernel_rfl) (by kernel_rfl) (by rfl) (by first | assumption | decide +kernel) (by decide +kernel) ⟨rfl, rfl, rfl, rfl, rfl, by decide +kernel⟩ ?hw ?hc
  case hw => w_witness2
  case hc =>
    refine KV.walk_ofGE (l := PySem.Challenge.rw_batchnumbers_k21_whole_forcing_counts) (n := 63) (k := 8) (x := "_law_script") rfl (by decide) (by kernel_rfl) ⟨rfl, by decide, by decide⟩ ?F
    intro w mg fa h Y G hmg0
    obtain ⟨K, KX, c, b⟩ := Y
    have hmg : mg ("law" : PySem.Str) = some (.ref fa) := by
      have e : (HandSHeadRun.topDef (OpenLaw.row PySem.Challenge.rw_batchnumbers_k21_whole_forcing_counts).prog 36).name = ("law" : PySem.Str) := by kernel_rfl
      rw [← e]
      exact hmg0
    obtain ⟨fd, hb, hF⟩ := KV.end21 (P := (PySem.Challenge.rw_batchnumbers_k21_whole_forcing_counts).prog) (w := w) KX G hmg c b
    exact ⟨K, fd, KV.spLaw K, KX, hb, fun H a ns _ hS => ⟨a, ns, rfl, hS, fun _ => rfl⟩, hF⟩
