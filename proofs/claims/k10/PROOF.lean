import PyProof.Rows.All
import Wide.All
import OpenK.AllK
import Wide.FinOn
import PyProof.EqAt
import PyProof.EqKinds
import PyProof.TupleCall
import PySem.Challenge.RW_batchnumbers_k10_whole_powers_with_one_c
import HandS.ForMost
import HandS.ForExc
import HandS.Wide
import HandS.WideMore
import HandS.WideBits
import HandS.Gcd
import HandS.IsInst
import HandS.SortInts
import HandS.Flow
import HandS.Style
import HandS.RaiseMore
import HandS.TupAny
import KE.GoesMore
import KE.GoesEnum
import KE.KMathGC
import HandS.OwnEq
import HandS.MakeKw
import HandS.MakeKwOnly
import PyProof.InstEq
import HandS.More
import HandS.Conv
import HandS.ExcOwn
import HandS.SetFor
import HandS.Zip
import HandS.TupMul
import HandS.Lambda
import HandS.HeadEnd
import HandS.HeadHook1
import HandS.HeadHook2
import HandS.Head0
import HandS.Head1
import HandS.Head2
import HandS.Head3
import HandS.HeadHook3
import HandS.HeadHook4
import HandS.TupSets
import HandS.DictTup
import HandS.TupLen
import HandS.Dict
import HandS.Small
import HandS.Walk
import HandS.NamedTupSort
import HandS.SortKw
import HandS.DictComp
import HandS.Deep
set_option Elab.async false
set_option linter.all false
set_option maxRecDepth 100000
set_option maxHeartbeats 4000000
/-! rules of our own over the hand layer -/
namespace KV
open PySem PySem.Spec PyProof.Rows L2
/-- a def of the module, by its name: it stands there and keeps a promise -/
def Cal (P : Program) (w : World) (K : PySem.W.Frag) (mg : Str → Option Value) (base : Heap) (Z : CXT) (k : Nat) (x : Str) (ps : List Str) (sp : Sp) : Prop :=
  ∃ (f : Addr) (fd : FuncData), FnOk P w K mg base Z k f fd ps sp ∧ mg x = some (.ref f) ∧ PySem.W.keepIn K (.ref f) = true ∧ Binds K fd ps []
section
variable {X : Cx} {k j : Nat} {x : Str} {ps : List Str} {sp : Sp} {p pos : Pos} {e : Expr} {es : List Expr} {t : TA}
theorem pe_cal (C : Cal X.prog X.w X.K X.mg X.base CX0 k x ps sp) (hr : Room j X.A) (hj : k ≤ j) (ha : PA X (e :: es) t)
    (hg : Gl X x := by rfl) (hdb : (x == ("__debug__" : Str)) = false := by decide)
    (he : starEach (e :: es) X.env = (false, eval e X.env) :: starEach es X.env := by rfl)
    (hpl : (backTo pos (starEach es X.env)).any (·.1) = false := by rfl) :
    PE X (.Call (.Name x p) (e :: es) [] pos) (tCall sp [] E0 t) := by
  obtain ⟨f, fd, F, h1, h2, h3⟩ := C
  exact pe_call F (hr.mono hj) hg h1 h2 h3 .nil pass0 ha hdb he hpl
end

/-- repr of a truth value, of an int, of a tuple of ints -/
def rRepr (K : PySem.W.Frag) : List V → Hp → VK → Prop := fun xs H Q =>
  (∃ b : Bool, xs = [.bl b] ∧ Q (.str (if b then "True" else "False")) H) ∨ (∃ i : Int, xs = [.int i] ∧ i.natAbs.log2 < 1920 ∧ Q (.str (toString i)) H) ∨
  ∃ (a : Addr) (ns : List Int), xs = [.ref a] ∧ SqT K H a (ns.map V.int) ∧ (∀ n ∈ ns, n.natAbs.log2 < 1920) ∧ (PyData.tuple (ns.map PyData.int)).shown.length ≤ sizeLine ∧ Q (.str (PyData.tuple (ns.map PyData.int)).shown) H
theorem dp_ints {K : PySem.W.Frag} {H : Hp} : ∀ ns : List Int, DpAll K H (ns.map V.int) (ns.map PyData.int)
  | [] => .nil
  | n :: r => .cons (.int n) (dp_ints r)
theorem showAll_ints : ∀ ns : List Int, (∀ n ∈ ns, n.natAbs.log2 < 1920) → PyData.showableAll (ns.map PyData.int) = true
  | [], _ => rfl
  | n :: r, h => by
    have h1 := h n (by simp)
    have h2 := showAll_ints r fun m hm => h m (by simp [hm])
    simp only [List.map_cons, PyData.showableAll, PyData.showable, h2, h1, decide_true, Bool.and_self]
theorem noDict_ints : ∀ ns : List Int, PyData.hasDictAll (ns.map PyData.int) = false
  | [] => rfl
  | n :: r => by simp only [List.map_cons, PyData.hasDictAll, PyData.hasDict, noDict_ints r, Bool.or_self]
theorem depth_ints : ∀ ns : List Int, PyData.depthAll (ns.map PyData.int) = 0
  | [] => rfl
  | n :: r => by simp only [List.map_cons, PyData.depthAll, PyData.depth, depth_ints r, Nat.max_self]
theorem call_repr {X : Cx} (hg : X.A.guards = some []) (hu : X.A.units + 64 < cLine) : CallR X (.builtin "repr") (rRepr X.K) := by
  intro pins s σ H xs us Q I r h
  rcases h with ⟨b, rfl, q⟩ | ⟨i, rfl, hz, q⟩ | ⟨a, ns, rfl, hs, hb, hz, q⟩
  · obtain ⟨u, rfl, r1⟩ := vals1 r
    cases r1
    exact PySem.P.repr_of_bool ⟨.str _, H, I.tok _, ⟨_, rfl⟩, q⟩
  · obtain ⟨u, rfl, t, rfl⟩ := vals1 r
    exact PySem.P.repr_of_int hz ⟨.str _, H, I.tok _, ⟨_, rfl⟩, q⟩
  · obtain ⟨u, rfl, r1⟩ := vals1 r
    have r2 : RelV (.ref a) u := r1
    obtain ⟨as, rd⟩ := Dp.reads I (.tuple (ns.map PyData.int)) (.ref a) u (.tup hs (dp_ints ns)) r2
    cases r1
    refine repr_of_reads' rd (by simp only [PyData.showable]; exact showAll_ints ns hb) (fun z => ?_) hg (by simp only [PyData.depth, depth_ints]; omega) (fun _ _ z => z) (fun h' u tk kk => ?_) hz
    · simp only [PyData.hasDict, noDict_ints] at z
      exact absurd z Bool.false_ne_true
    · exact ⟨.str _, H, I.kept kk, ⟨_, rfl⟩, q⟩
end KV

/-! a def that is called where no repr is under way (the law's own def): the rule for its body, and the end -/
namespace KV
open PySem PySem.Spec PyProof.Rows L2
structure FnOkG (P : Program) (w : World) (K : PySem.W.Frag) (mg : Str → Option Value) (base : Heap) (k : Nat) (f : Addr) (fd : FuncData) (ps : List Str) (sp : Sp) : Prop where
  size : ∀ xs G R Z, sp xs G R Z → xs.length = ps.length
  go : ∀ (B : Around) (out : List Env) (st : Shared) (G : Hp) (ar : Args) (ws : List Value) (xs : List V) (R : VK) (Z : XK), Room k B → B.guards = some [] → Env0 P w K mg base B out st G →
    BindsTo st fd ar (ps.zip ws) → Vals xs ws → sp xs G R Z → codeAny (model P w) B (.call (.ref f) ar) (CR CX0 out P w G st R Z) st
theorem fn_ofG {P : Program} {w : World} {K : PySem.W.Frag} {mg : Str → Option Value} {base : Heap} {k : Nat} {f : Addr} {nm ql : Str} {pa : Arguments} {bo : List Stmt} {sc : Scope} {dv kv dc pm cd ct oc : Value} {an od : Option Addr}
    {sl : Array (Option Value)} {N ps : List Str} {sp : Sp} (there : K.lookup f = some ⟨oc, od, .func (PySem.W.fnOf nm ql pa bo sc dv kv dc pm an cd ct), sl⟩) (code : PySem.W.codeIn K cd ql = true) (S : FnScope N ps sc)
    (size : ∀ xs G R Z, sp xs G R Z → xs.length = ps.length)
    (bodyOk : ∀ (B : Around) (out : List Env) (st : Shared) (G : Hp) (xs : List V) (R : VK) (Z : XK), Room k (B.deeper (envOfC ql sc st.heap.objs.size f cd)) → B.guards = some [] → sp xs G R Z →
      ∃ t, PSs (cxOf CX0 P w K mg base N ql sc f cd B out st G Z) bo t ∧ t { nx := fun _ G' => R .non G', rt := R } (start N xs) G) :
    FnOkG P w K mg base (k + 1) f (PySem.W.fnOf nm ql pa bo sc dv kv dc pm an cd ct) ps sp := by
  constructor
  · exact size
  intro B out st G ar ws xs R Z room gd e0 bnd rel want
  have len := size _ _ _ _ want
  have inK : K.In st.heap := e0.mod.kin.keeps fun b o q => (e0.bs b o q).1
  have noLim : st.heap.NoLimit := e0.mod.nolimit.keeps fun b o q => (e0.bs b o q).1
  have kinds : ∀ y ∈ ps.zip ws, sc.names.lookup y.1 = some .local ∨ (sc.names.lookup y.1 = some .cell ∧ ((cellsFrom (st.heap.objs.size + 1) sc.names []).lookup y.1).isSome = true) := by
    rintro ⟨n, v⟩ hy
    rcases S.par n (List.of_mem_zip hy).1 with q | q
    · exact .inl q
    · exact .inr ⟨q, PySem.W.cellsFrom_some _ _ _ (.inl q)⟩
  refine codeAny_call_function room.depth (inK _ _ there) rfl S.co S.gen rfl (PySem.W.codeRec_of inK code) (bnd _ _ _ _ ?_)
  refine wpAny_newFunctionEnv_cells S.kind kinds fun env henv s2 x => ?_
  subst henv
  refine ⟨noLim.keeps x.toInCall.keep, codeAny_func ?_⟩
  obtain ⟨t, ht, hq⟩ := bodyOk B out st G xs R Z (room.deeper _) gd want
  have J := inv_start (CX := CX0) (E := Z) S room.hd e0 len rel x
  refine wpAny_mono (ht.run [] s2 (start N xs) G _ J hq) (fun fl s3 hs => ?_) (fun _ _ z => z)
  cases fl with
  | brk => exact hs.elim fun _ ⟨_, _, z⟩ => z.elim
  | cont => exact hs.elim fun _ ⟨_, _, z⟩ => z.elim
  | ret u =>
    obtain ⟨v, σ3, G3, J3, rv, q⟩ := hs
    exact ⟨v, G3, J3.os, J3.bare, J3.base, J3.hok, rv, q⟩
  | next =>
    obtain ⟨σ3, G3, J3, q⟩ := hs
    exact ⟨V.non, G3, J3.os, J3.bare, J3.base, J3.hok, rfl, q⟩

/-- the law's call, behind the top -/
theorem law_callG {P : Program} {w : World} {K : PySem.W.Frag} {mg mb : Str → Option Value} {k : Nat} {fa a : Addr} {fd : FuncData} {x : Str} {sp : Sp} {st : Shared} {vs : List Value} {ns : List Int}
    (inK : K.In st.heap) (gl : st.heap.Ns mainGlobals mg) (bl : st.heap.Ns builtinsNs mb) (blb : ∀ y : Str, y ≠ "__name__" → mb y = bootBuiltins y) (noLim : st.heap.NoLimit) (gens : st.gens = #[])
    (scr : st.heap.get? a = some { cls := .type "list", data := .seq vs.toArray }) (isI : IntsAre vs ns) (few : ns.length ≤ sizeLine) (room : Room k callerA)
    (F : ∀ base : Heap, K.In base → base.Ns mainGlobals mg → FnOkG P w K mg base k fa fd [x] sp) (bnd : ∀ (s : Shared) (u : Value), BindsTo s fd ⟨[u], []⟩ [(x, u)])
    (want : ∀ G : Hp, SqL K G a (ns.map V.int) → sp [.ref a] G (fun v _ => v = .bl true) fun _ _ _ => False) :
    codeAny (model P w) callerA (.call (.ref fa) ⟨[.ref a], []⟩) (fun r s' => r = .ok (.ret (.bool true)) ∧ OldK st.heap s'.heap ∧ s'.os = st.os ∧ AllBare s'.gens) st := by
  have rel := vals_ints isI
  have lens := isI.length
  have core : ∀ G : Hp, Only G → SqL K G a (ns.map V.int) → HOk P w G st.heap → (∀ b, G b ≠ none → b = a) → (G a ≠ none → K.lookup a = none) →
      codeAny (model P w) callerA (.call (.ref fa) ⟨[.ref a], []⟩) (fun r s' => r = .ok (.ret (.bool true)) ∧ OldK st.heap s'.heap ∧ s'.os = st.os ∧ AllBare s'.gens) st := by
    intro G only sq ok one out
    have free : ∀ {b : Addr} {o : Obj} {es : Array DictEntry} {ep : Nat}, st.heap.get? b = some o → o.data = .dict es ep → G b = none := by
      intro b o es ep q d
      cases z : G b with
      | none => rfl
      | some u =>
        have : b = a := one b (by simp [z])
        subst this
        rw [scr] at q
        cases q
        cases (show Data.seq vs.toArray _ = Data.dict es ep from d)
    have ns2 : ∀ {b : Addr} {m : Str → Option Value}, st.heap.Ns b m → (hidT st.heap G).Ns b m := fun ⟨o, es, ep, q, d, r⟩ => ⟨o, es, ep, hidT_get q (free q d), d, r⟩
    have inB : K.In (hidT st.heap G) := by
      intro b o q
      refine hidT_get (inK b o q) ?_
      cases z : G b with
      | none => rfl
      | some u =>
        have : b = a := one b (by simp [z])
        subst this
        rw [out (by simp [z])] at q
        cases q
    have hm : Mod K mg (hidT st.heap G) := ⟨inB, ns2 gl, ⟨mb, ns2 bl, blb⟩, let ⟨mc, h1, h2⟩ := noLim; ⟨mc, ns2 h1, h2⟩⟩
    have e0 : Env0 P w K mg (hidT st.heap G) callerA [] st G :=
      ⟨rfl, hm, fun b o q => of_hidT q, Nat.le_of_eq (hidT_size _ _), trivial, fun b hb => absurd (show b ∈ ([] : List Addr) from hb) (by simp), ok, .of_eq gens⟩
    refine codeAny_mono ((F _ inB (ns2 gl)).go callerA [] st G ⟨[.ref a], []⟩ [.ref a] [.ref a] _ _ room rfl e0 (bnd st (.ref a)) (.cons rfl .nil) (want G sq)) fun r s' h => ?_
    cases r with
    | error e => exact False.elim h
    | ok fl =>
      cases fl with
      | next => exact False.elim h
      | brk => exact False.elim h
      | cont => exact False.elim h
      | ret u =>
        obtain ⟨v, G', os, bare, un, ok', r', q⟩ := h
        have q2 : v = .bl true := q
        subst q2
        have u2 : u = Value.bool true := r'
        subst u2
        refine ⟨rfl, OldK.of_keep fun b o e => ?_, os, bare⟩
        cases z : G b with
        | none => exact un.keep b o e z (by intro y; exact absurd (show b ∈ ([] : List Addr) from y) (by simp)) (by simp)
        | some u =>
          rcases only b with y | ⟨ob, xs, y⟩
          · rw [z] at y
            cases y
          · have y2 := un.frzs b ob _ y
            have f1 := (ok b _ y).1
            have f2 := (ok' b _ y2).1
            rw [e] at f1
            cases f1
            exact f2
  cases hk : K.lookup a with
  | none =>
    refine core (fun b => if b = a then some (.frz { cls := .type "list", data := .seq vs.toArray } (.lst (ns.map V.int))) else none) (fun b => ?_)
      (.inl (.inr ⟨{ cls := .type "list", data := .seq vs.toArray }, if_pos rfl⟩)) (fun b u z => ?_) (fun b z => ?_) (fun _ => hk)
    · by_cases hb : b = a
      · exact .inr ⟨_, _, if_pos hb⟩
      · exact .inl (if_neg hb)
    · by_cases hb : b = a
      · have z2 := (if_pos hb).symm.trans z
        cases z2
        subst hb
        exact ⟨scr, by rw [List.length_map]; exact few, vs, _, rel, scr⟩
      · have z2 := (if_neg hb).symm.trans z
        cases z2
    · by_cases hb : b = a
      · exact hb
      · exact absurd (if_neg hb) z
  | some o =>
    have e := inK a o hk
    rw [scr] at e
    cases e
    refine core (fun _ => none) (fun _ => .inl rfl) (.inr ⟨_, vs.toArray, _, hk, rfl, rfl, rfl, ?_, by simpa using rel⟩) (fun b u z => ?_) (fun b z => absurd rfl z) (fun z => absurd rfl z)
    · rw [List.size_toArray, lens]
      exact few
    · cases (show (none : Option HO) = some u from z)
/-- what k_head leaves, from the law's promise -/
theorem walk_ofG {l : PySem.W.OpenLaw} {n k : Nat} {q : Program} {loose : List Str} {XP : (Str → Option Value) → Heap → Prop} {YP : World → Heap → Prop} {d : DefRec} {K : Params → PySem.W.Frag} {sp : World → Sp} {x : Str}
    (most : l.most = some n) (fits : n ≤ sizeLine) (plain : d.params.defaults = []) (room : Room k callerA) (hY : ∀ (w : World) (h : Heap), YP w h → (K w.params).In h)
    (F : ∀ (w : World) (mg : Str → Option Value) (fa : Addr) (h : Heap), (K w.params).In h → h.Ns mainGlobals mg → mg d.name = some (.ref fa) →
      ∃ fd : FuncData, (∀ (s : Shared) (u : Value), BindsTo s fd ⟨[u], []⟩ [(x, u)]) ∧ ∀ base : Heap, (K w.params).In base → base.Ns mainGlobals mg → FnOkG l.prog w (K w.params) mg base k fa fd [x] (sp w))
    (want : ∀ (w : World) (G : Hp) (a : Addr) (ns : List Int), ns.length ≤ n → SqL (K w.params) G a (ns.map V.int) → sp w [.ref a] G (fun v _ => v = .bl true) fun _ _ _ => False) :
    PySem.W.WalkO q loose XP YP l.row.toRowW d [] (fun f vs => PySem.call f vs) := by
  refine Att.attach_call most plain fun w s0 s1 mg mb fa o pm cd doc a vs ns G Y ho hd hcd hmg hobj hints hlen hg => ?_
  obtain ⟨fd, hb, hF⟩ := F w mg fa _ (hY w _ Y) G.T.g hmg
  exact law_callG (hY w _ Y) G.T.g G.T.b G.T.builtins G.T.nolimit hg hobj hints (Nat.le_trans hlen fits) room hF hb fun H hS => want w H a ns hlen hS
end KV

namespace PySem
namespace LowX
open PySem.W PySem.Calls PyProof.Rows PySem.HandSPX
/-! ### the text of __init__ -/
def iA (p1 p2 : Pos) : Arguments := { posonlyargs := [], args := [{ arg := "self", annotation := none, pos := p1 }, { arg := "at", annotation := none, pos := p2 }], vararg := none, kwonlyargs := [], kw_defaults := [], kwarg := none, defaults := [] }
def iB (q1 q2 q3 q4 : Pos) : List Stmt := [.Assign [.Attribute (.Name "self" q1) "at" q2] (.Name "at" q3) q4]
def iS : Scope := { kind := .function, names := [(PySem.Str.ofString "self", .local), (PySem.Str.ofString "at", .local)], isGenerator := false, isCoroutine := false, more := [] }
/-- what the written part says of Low, at C, and of its __init__, at fI -/
structure LowTxt (K : Frag) (mg : Str → Option Value) (nm ql : Str) (C fI : Addr) : Prop where
  gC : mg nm = some (.ref C)
  nd : (nm == ("__debug__" : Str)) = false
  cls : ∃ nm q N bs bm sn sub ab col dd k0 k1 k2 k3 k5, K.lookup C = some (excClassObj nm q C N bs bm true sn sub ab col dd k0 k1 k2 k3 k5 "ValueError.__new__") ∧ refsVE bm = true
  sa : findIn K (.ref C) "__setattr__" = some (some (.builtin "object.__setattr__"))
  ga : findIn K (.ref C) "__getattribute__" = some (some (.builtin "BaseException.__getattribute__"))
  gg : findIn K (.ref C) "__getattr__" = some none
  noN : findIn K (.ref C) "at" = some none
  iC : findIn K (.ref C) "__init__" = some (some (.ref fI))
  tC : typeIn K (.ref fI) = some (.type "function")
  kC : keepIn K (.ref C) = true
  exC : subIn K (.ref C) (.type "BaseException") = some true
  tyC : typeIn K (.ref C) = some (.type "type")
  hdC : hasDictIn K C = true
  te : exmOne K (.ref C) (.ref C) = some true
  fn : ∃ (oc : Value) (od : Option Addr) (doc pm : Value) (an : Option Addr) (cdv ct : Value) (osl : Array (Option Value)) (p1 p2 q1 q2 q3 q4 : Pos),
    K.lookup fI = some ⟨oc, od, .func (fnOf "__init__" ql (iA p1 p2) (iB q1 q2 q3 q4) iS .none .none doc pm an cdv ct), osl⟩ ∧ codeIn K cdv ql = true
theorem one_size (v : Value) : [v].length ≤ sizeLine := by
  rw [sizeLine_eq]
  exact (by decide : 1 ≤ 16777216)
theorem kept_but {K : Frag} {h h' : Heap} {x : Addr} (X : K.In h) (hx : K.lookup x = none) (k : ∀ b o, b ≠ x → h.get? b = some o → h'.get? b = some o) : K.In h' := fun a o e =>
  k a o (fun z => by rw [z, hx] at e; cases e) (X a o e)
theorem ldC {M : Model} {s : Shared} {name : Str} {scope : Scope} {L a : Addr} {cd : Value} {m : Str → Option Value} {x : Str} {pos : Pos} {v : Value} {Q : Value → Shared → Prop} {A : Around} {E : Value → Shared → Prop} (hn : s.heap.Ns L m) (hv : m x = some v) (h : Q v s)
    (hk : scope.kind = .function := by rfl) (hl : (envOfC name scope L a cd).kindOf x = some .local := by rfl) (hd : (x == ("__debug__" : Str)) = false := by decide) :
    wpAny M A (eval (.Name x pos) (envOfC name scope L a cd)) Q E s := wpAny_Name (wpAny_loadName_local hk hl hn hv h) hd
/-- what __init__ leaves of a fresh exception at x -/
structure InitEnd (h h' : Heap) (x C dx t1 : Addr) (v : Value) : Prop where
  keep : ∀ b o, b ≠ x → h.get? b = some o → h'.get? b = some o
  obj : h'.get? x = some { cls := .ref C, dict := some dx, data := .fields #[.ref t1, .none, .none, .none, .bool false, .none] }
  dbig : h.objs.size ≤ dx
  dne : dx ≠ x
  ns : h'.Ns1 dx (fun y => if y = "at" then some v else none)
/-- a made Low -/
structure OwnMade (h h' : Heap) (e C d : Addr) (v : Value) : Prop where
  keep : ∀ b o, h.get? b = some o → h'.get? b = some o
  new : h.objs.size ≤ e
  obj : ∃ oe vs, h'.get? e = some oe ∧ oe.cls = .ref C ∧ oe.dict = some d ∧ oe.data = .fields vs ∧ vs[1]? = some .none
  dbig : h.objs.size ≤ d
  dne : d ≠ e
  ns : h'.Ns1 d (fun y => if y = "at" then some v else none)
section
variable {prog : Program} {w : World} {A : Around} {E : Value → Shared → Prop} {R : Result → Shared → Prop} {s : Shared} {K : Frag} {mg : Str → Option Value} {nm ql : Str} {C fI : Addr}
theorem low_init (T : LowTxt K mg nm ql C fI) {x t0 : Addr} {v : Value} (X : K.In s.heap) (hlim : s.heap.NoLimit) (hx : s.heap.get? x = some (excO C t0)) (hnx : K.lookup x = none) (hroom : A.depth < recursionLimit)
    (hq : ∀ h' tk dx, InitEnd s.heap h' x C dx t0 v → R (.ok (.ret .none)) { s with heap := h', toks := tk }) :
    codeAny (model prog w) A (.call (.ref fI) ⟨[.ref x, v], []⟩) R s := by
  obtain ⟨oc, od, doc, pm, an, cdv, ct, osl, p1, p2, q1, q2, q3, q4, ho, hcd⟩ := T.fn
  obtain ⟨nm, q, N, bs, bm, sn, sub, ab, col, dd, k0, k1, k2, k3, k5, hC, hbm⟩ := T.cls
  have hcl : clsIn K C = some { name := nm, bases := bs, mro := .ref C :: bm, ns := N, qualname := q, hasDict := true, slotNames := sn, subclasses := sub, abstract := ab, collection := col, hasDel := false } := by unfold clsIn; rw [hC] <;> rfl
  refine Att.call_fn (binds := [("self", .ref x), ("at", v)]) X hlim ho hcd hroom (BindsTo.of_eq (by first | rfl | with_unfolding_all rfl)) (by first | rfl | decide | with_unfolding_all rfl) (fun s₁ IC => ?_) rfl rfl rfl
  obtain ⟨h₁, tk₁, rfl⟩ := IC.toInCall.same
  have k : ∀ b o, s.heap.get? b = some o → h₁.get? b = some o := IC.toInCall.keep
  have hn := IC.toInCall.ns
  have hxL : s.heap.objs.size ≠ x := Nat.ne_of_gt (Heap.lt_size hx)
  have X₁ : K.In h₁ := X.keeps k
  have hx₁ := k _ _ hx
  -- self.by = by
  show wpAny _ _ (execs _ _) _ _ _
  refine wpAny_execs_cons (plainObj_wpAny_Assign_Attribute ?_)
  refine ldC (v := v) hn (by first | rfl | with_unfolding_all rfl | kernel_rfl) (ldC (v := .ref x) hn (by first | rfl | with_unfolding_all rfl | kernel_rfl) ?_)
  refine set_plain X₁ (ox := excO C t0) (od := none) ⟨hx₁, rfl, rfl, trivial⟩ T.sa ?_
  refine exc_osa X₁ hx₁ hcl (show refsVE (.ref C :: bm) = true from hbm) rfl T.noN (fun h₃ tk₃ dx k₃ dn dne hx₃ hn₃ => ?_)
  show wpAny _ _ (execs _ _) _ _ _
  have z : s.heap.objs.size < h₁.objs.size := hn.lt
  exact wpAny_execs_nil (hq h₃ tk₃ dx ⟨fun b o hb e => k₃ b o hb (k b o e), hx₃, Nat.le_of_lt (Nat.lt_of_lt_of_le z dn), dne, hn₃⟩)
theorem low_made (T : LowTxt K mg nm ql C fI) {v : Value} (X : K.In s.heap) (hlim : s.heap.NoLimit) (hroom : A.depth + 1 < recursionLimit)
    (hq : ∀ h' tk e d, OwnMade s.heap h' e C d v → R (.ok (.ret (.ref e))) { s with heap := h', toks := tk }) :
    codeAny (model prog w) A (.call (.ref C) ⟨[v], []⟩) R s := by
  obtain ⟨nm, q, N, bs, bm, sn, sub, ab, col, dd, k0, k1, k2, k3, k5, hC, hbm⟩ := T.cls
  obtain ⟨hp, g, dr, tk, os⟩ := s
  have k : ∀ b o, hp.get? b = some o → ((hp.push (kdv_tup [v])).push (excO C hp.objs.size)).get? b = some o := fun b o e => Heap.get?_push_of_some _ (Heap.get?_push_of_some _ e)
  have hget : ((hp.push (kdv_tup [v])).push (excO C hp.objs.size)).get? (hp.objs.size + 1) = some (excO C hp.objs.size) := by heap_get
  have hnx : K.lookup (hp.objs.size + 1) = none := by
    cases e : K.lookup (hp.objs.size + 1) with
    | none => rfl
    | some o =>
      have z : hp.get? (hp.objs.size + 1) = some o := X _ _ e
      exact absurd (Nat.lt_of_succ_lt (Heap.lt_size z)) (Nat.lt_irrefl _)
  refine call_own F.excBase_ValueError (fun X => refsVE_contains X bm hbm) (X _ _ hC) (looks_findIn X T.iC) (fun self => bind_fn X self T.tC) (one_size v) ?_
  refine low_init (s := ⟨(hp.push (kdv_tup [v])).push (excO C hp.objs.size), g, dr, tk, os⟩) T (X.keeps k) (hlim.keeps k) hget hnx ?_ fun h' tk' dx ⟨k', hx, dn, dne, hns⟩ => ?_
  · show A.depth + 1 < recursionLimit
    exact hroom
  · have old : ∀ b o, hp.get? b = some o → h'.get? b = some o := fun b o e => k' b o (Nat.ne_of_lt (Nat.lt_succ_of_lt (Heap.lt_size e))) (k b o e)
    have z : hp.objs.size + 1 + 1 ≤ dx := by
      first
        | (simpa only [Heap.size_push] using dn)
        | exact dn
        | (have q := dn; rw [Heap.size_push, Heap.size_push] at q; exact q)
    exact ⟨rfl, hq h' tk' (hp.objs.size + 1) dx ⟨old, Nat.le_succ _, ⟨_, _, hx, rfl, rfl, rfl, rfl⟩, Nat.le_trans (Nat.le_trans (Nat.le_succ _) (Nat.le_succ _)) z, dne, hns⟩⟩
end
end LowX
end PySem
namespace L2
open PySem PySem.Spec PyProof.Rows
theorem relO_low {v : V} {v' : Value} (r : RelV v v') (f : Str) : RelO (List.lookup f [(("at" : Str), v)]) (if f = "at" then some v' else none) := by
  by_cases hw : f = "at"
  · subst hw
    rw [if_pos rfl]
    have q : List.lookup ("at" : Str) [(("at" : Str), v)] = some v := by simp [List.lookup]
    rw [q]
    exact r
  · rw [if_neg hw]
    have qw : (f == ("at" : Str)) = false := by simpa using hw
    have q2 : List.lookup f [(("at" : Str), v)] = none := by simp [List.lookup, qw]
    rw [q2]
    trivial
section
variable {X : Cx} {nm ql : Str} {C fI : Addr}
/-- Low(e) -/
def tMkLow (C : Addr) (ta : TA) : St → Hp → XK → Prop := fun σ H Q => ta σ H fun vs H1 => ∃ v, vs = [v] ∧ ∀ d, H1 d = none → Q (.ref C) (some d) (upd H1 d (.xd [(("at" : Str), v)]))
theorem pmk_low {a : Expr} {ta : TA} {p pos : Pos} {k : Nat} (T : PySem.LowX.LowTxt X.K X.mg nm ql C fI) (hr : Room k X.A) (ha : PA X [a] ta) (hg : Gl X nm := by rfl)
    (he : starEach (a :: []) X.env = (false, eval a X.env) :: starEach [] X.env := by rfl) (hpl : (backTo pos (starEach [] X.env)).any (·.1) = false := by rfl) :
    PMk X (.Call (.Name nm p) [a] [] pos) (tMkLow C ta) := by
  intro pins s σ H Q I h
  refine wpAny_Call_Name_kw (ld_glob I hg T.gC ?_ T.nd)
  refine PySem.W.callWith_K (h₀ := X.base) I.ok.mod.kin T.kC (thn (ha.run pos pins s σ H _ I h) fun us s1 hh => ?_) he hpl
  obtain ⟨vs, H1, I1, r1, v, ev, q1⟩ := hh
  subst ev
  refine ⟨I1.kIn, ?_⟩
  cases r1 with
  | cons rv rn =>
    rename_i v' us'
    cases rn
    show wpAny _ _ (call (.ref C) [v']) _ _ _
    have hlim := I1.nolimit
    obtain ⟨hp, g, dr, tk, os⟩ := s1
    refine wpAny_call (PySem.LowX.low_made T I1.kIn hlim (by have := hr.dp; omega) fun h' tk' e d M => ?_)
    show MkP X pins σ Q (.ref e) ⟨h', g, dr, tk', os⟩
    obtain ⟨oe, fv, hoe, hc, hd, hdat, h1⟩ := M.obj
    have hns := M.ns
    obtain ⟨G', g1, g2⟩ := restrict h' fun b => decide (b ≠ e)
    have gk : ∀ b, b ≠ e → G'.get? b = h'.get? b := fun b hb => g1 b (decide_eq_true hb)
    have ge : G'.get? e = none := g2 e (by simp)
    have old : ∀ b o, hp.get? b = some o → G'.get? b = some o := fun b o q => (gk b (Nat.ne_of_lt (Nat.lt_of_lt_of_le (Heap.lt_size q) M.new))).trans (M.keep b o q)
    have ob : ObjOk X.prog X.w (upd H1 d (.xd [(("at" : Str), v)])) G' d (.xd [(("at" : Str), v)]) :=
      ⟨_, hns.at (fun o q => (gk d M.dne).trans q), fun f => relO_low rv f⟩
    have J : Inv X pins σ (upd H1 d (.xd [(("at" : Str), v)])) ⟨G', g, dr, tk', os⟩ := I1.laid (t' := tk') old M.dbig ob
    refine ⟨e, oe, fv, ⟨G', g, dr, tk', os⟩, _, .ref C, some d, rfl, J, fun b o q => ?_, ge, hoe, ⟨hc, hd⟩, hdat, h1, ?_, rfl, I1.bare, raises_own T.exC T.tyC, q1 d (I1.hok.fresh M.dbig)⟩
    · by_cases hb : b = e
      · have q' : G'.get? b = some o := q
        rw [hb, ge] at q'; cases q'
      · exact (gk b hb).symm.trans q
    · rw [upd_ne (Ne.symm M.dne)]
      exact I1.hok.fresh M.new
/-- raise Low(e) -/
def tRaiseLow (C : Addr) (W : WX) (ta : TA) : TS := fun _ σ H => tMkLow C ta σ H fun cls d H' => W cls d σ H'
theorem ps_raiseLow {a : Expr} {ta : TA} {W : WX} {p pos pos2 : Pos} {k : Nat} (hc : X.calm = true) (T : PySem.LowX.LowTxt X.K X.mg nm ql C fI) (hr : Room k X.A) (tk : Takes X W) (ha : PA X [a] ta) (hg : Gl X nm := by rfl)
    (he : starEach (a :: []) X.env = (false, eval a X.env) :: starEach [] X.env := by rfl) (hpl : (backTo pos (starEach [] X.env)).any (·.1) = false := by rfl) :
    PS X (.Raise (some (.Call (.Name nm p) [a] [] pos)) none pos2) (tRaiseLow C W ta) := ps_raise hc tk (pmk_low T hr ha hg he hpl)
/-- low.by, low the exception that the suite holds (at a; its class cls, its dict d) -/
def tByLow (C : Addr) (a : Addr) (cls : Value) (d : Option Addr) (te : TE) : TE := fun σ H Q => te σ H fun x H1 => x = .ref a ∧ cls = .ref C ∧ ∃ (dd : Addr) (v : V), d = some dd ∧ H1 dd = some (.xd [(("at" : Str), v)]) ∧ Q v H1
theorem pe_byLow {a : Addr} {oe : Obj} {cls : Value} {d : Option Addr} {pn : List (Addr × Obj)} {e : Expr} {te : TE} {pos : Pos} (T : PySem.LowX.LowTxt X.K X.mg nm ql C fI) (hz : Zc cls d oe) (hf : ∃ vs, oe.data = .fields vs) (he : PE (X.suite a ((a, oe) :: pn)) e te)
    (hb : attributeBase e "at" X.env (eval e X.env) = eval e X.env := by rfl) :
    PE (X.suite a ((a, oe) :: pn)) (.Attribute e "at" pos) (tByLow C a cls d te) := by
  refine ⟨fun pins s σ H Q I h => ?_⟩
  refine attr_of hb (thn (he.run pins s σ H _ I h) fun u s1 hh => ?_)
  obtain ⟨x, H1, I1, rx, ex, ec, dd, v, ed, ea, q⟩ := hh
  subst ex
  obtain rfl : u = Value.ref a := rx
  subst ec
  subst ed
  obtain ⟨ha, _⟩ := I1.pin (a, oe) (List.mem_append_left _ List.mem_cons_self)
  obtain ⟨vs, hd⟩ := hf
  have hx : ObjOk X.prog X.w H1 s1.heap dd (.xd [(("at" : Str), v)]) := I1.hok dd _ ea
  obtain ⟨mA, hns, hr⟩ := hx
  obtain ⟨od, ho, hl⟩ := lookIn_ns hns
  have l : List.lookup ("at" : Str) [(("at" : Str), v)] = some v := by simp [List.lookup]
  obtain ⟨u, hu, ru⟩ := RelO.some_of (v := v) (o := mA "at") (by rw [← l]; exact hr "at")
  have J : PySem.W.InstAt s1.heap a oe C (some od) := ⟨ha, hz.1, by unfold PySem.W.notCls; rw [hd] <;> rfl, by rw [hz.2]; exact ho⟩
  exact HandSPX.exc_get I1.kIn J T.ga T.gg T.exC (PySem.W.findObj_own T.hdC T.noN rfl (by rw [hl, hu])) (handed_of ru) ⟨v, H1, I1.tok _, ru, q⟩
end
end L2

/-! the head: what the top leaves, looked at once -/
namespace KV
open PySem PySem.Spec PyProof.Rows L2 He
/-- a global that is a built-in -/
def bltB (K : PySem.W.Frag) (x : Str) (id : String) : Bool := match PySem.W.nsIn K mainGlobals x with
  | some (some (.builtin i)) => decide (i = id)
  | _ => false
theorem bltB_ok {K : PySem.W.Frag} {h : Heap} {mg : Str → Option Value} (X : K.In h) (G : h.Ns mainGlobals mg) {x : Str} {id : String} (c : bltB K x id = true) : mg x = some (.builtin id) := by
  unfold bltB at c
  split at c
  · rename_i i e
    rw [← of_decide_eq_true c]
    exact PySem.W.mg_of X G e
  · cases c
/-- an error's class over ValueError -/
def errB (K : PySem.W.Frag) (C : Addr) : Bool := match K.lookup C with
  | some ⟨.type "type", _, .cls cd, sl⟩ => (match cd.mro, sl.toList with
    | .ref C' :: bm, [_, _, _, _, some (.builtin n), _] => C' == C && n == "ValueError.__new__" && !cd.hasDel && cd.hasDict && PySem.HandSPX.refsVE bm
    | _, _ => false)
  | _ => false
theorem errB_ok {K : PySem.W.Frag} {C : Addr} (c : errB K C = true) :
    ∃ nm q N bs bm sn sub ab col dd k0 k1 k2 k3 k5, K.lookup C = some (excClassObj nm q C N bs bm true sn sub ab col dd k0 k1 k2 k3 k5 "ValueError.__new__") ∧ PySem.HandSPX.refsVE bm = true := by
  unfold errB at c
  split at c
  · rename_i dd cd sl ho
    split at c
    · rename_i C' bm k0 k1 k2 k3 n k5 hm hs
      simp only [Bool.and_eq_true, beq_iff_eq, Bool.not_eq_true'] at c
      obtain ⟨⟨⟨⟨rfl, rfl⟩, hdel⟩, hdi⟩, hok⟩ := c
      obtain ⟨nm, bs, mro, ns, qn, hd, sn, sub, ab, col, del⟩ := cd
      dsimp only at hm hdel hdi
      subst hm hdel hdi
      have hsl : sl = #[k0, k1, k2, k3, some (.builtin "ValueError.__new__"), k5] := by
        obtain ⟨l⟩ := sl
        simp only at hs
        rw [hs]
      subst hsl
      exact ⟨nm, qn, ns, bs, bm, sn, sub, ab, col, dd, k0, k1, k2, k3, k5, ho, hok⟩
    · cases c
  · cases c
def kwNo (K : PySem.W.Frag) (f : Addr) : Bool := match K.lookup f with
  | some ⟨_, _, .func fd, _⟩ => (match fd.kwdefaults with
    | .none => true
    | _ => false)
  | _ => false
/-- all that is asked of an error's class x with the field at -/
def lowB (K : PySem.W.Frag) (x : Str) : Bool :=
  errB K (ga K x) && (eqO (PySem.W.findIn K (.ref (ga K x)) "__setattr__") (some (some (.builtin "object.__setattr__"))) && (eqO (PySem.W.findIn K (.ref (ga K x)) "__getattribute__") (some (some (.builtin "BaseException.__getattribute__"))) &&
  (eqO (PySem.W.findIn K (.ref (ga K x)) "__getattr__") (some none) && (eqO (PySem.W.findIn K (.ref (ga K x)) "at") (some none) && (eqO (PySem.W.findIn K (.ref (ga K x)) "__init__") (some (some (.ref (ma K (ga K x) "__init__")))) &&
  (decide (PySem.W.typeIn K (.ref (ma K (ga K x) "__init__")) = some (.type "function")) && (PySem.W.keepIn K (.ref (ga K x)) && (decide (PySem.W.subIn K (.ref (ga K x)) (.type "BaseException") = some true) && (decide (PySem.W.typeIn K (.ref (ga K x)) = some (.type "type")) &&
  (PySem.W.hasDictIn K (ga K x) && (decide (PySem.W.exmOne K (.ref (ga K x)) (.ref (ga K x)) = some true) && kwNo K (ma K (ga K x) "__init__"))))))))))))
theorem low_of {K : PySem.W.Frag} {h : Heap} {mg : Str → Option Value} (X : K.In h) (G : h.Ns mainGlobals mg) {x ql : Str} {p1 p2 q1 q2 q3 q4 : Pos} {d : FnD} (hd : d = ⟨(x, some "__init__"), "__init__", ql, PySem.LowX.iA p1 p2, PySem.LowX.iB q1 q2 q3 q4, PySem.LowX.iS⟩)
    (e : fnObs K d.at_ = d.val) (c : (Fa.code d.at_ d.qual).ok K = true) (g : (Fa.glo x).ok K = true) (b : lowB K x = true) (nd : (x == ("__debug__" : Str)) = false := by decide) : PySem.LowX.LowTxt K mg x ql (ga K x) (ma K (ga K x) "__init__") := by
  subst hd
  obtain ⟨b1, b⟩ := ba b
  obtain ⟨b2, b⟩ := ba b
  obtain ⟨b3, b⟩ := ba b
  obtain ⟨b4, b⟩ := ba b
  obtain ⟨b5, b⟩ := ba b
  obtain ⟨b6, b⟩ := ba b
  obtain ⟨b7, b⟩ := ba b
  obtain ⟨b8, b⟩ := ba b
  obtain ⟨b9, b⟩ := ba b
  obtain ⟨b10, b⟩ := ba b
  obtain ⟨b11, b⟩ := ba b
  obtain ⟨b12, b13⟩ := ba b
  obtain ⟨oc, od, osl, kV, doc, pm, an, cdv, ct, lk, hc⟩ := fn_ok e c
  have lk' : K.lookup (ma K (ga K x) "__init__") = some ⟨oc, od, .func (PySem.W.fnOf "__init__" ql (PySem.LowX.iA p1 p2) (PySem.LowX.iB q1 q2 q3 q4) PySem.LowX.iS .none kV doc pm an cdv ct), osl⟩ := lk
  have kn : kV = .none := by
    unfold kwNo at b13
    rw [lk'] at b13
    cases kV <;> first | rfl | exact Bool.noConfusion (show (false : Bool) = true from b13)
  subst kn
  exact { gC := glo_ok X G g, nd := nd, cls := errB_ok b1, sa := eqO_ok b2, ga := eqO_ok b3, gg := eqO_ok b4, noN := eqO_ok b5, iC := eqO_ok b6, tC := of_decide_eq_true b7, kC := b8, exC := of_decide_eq_true b9, tyC := of_decide_eq_true b10, hdC := b11, te := of_decide_eq_true b12,
          fn := ⟨_, _, _, _, _, _, _, _, _, _, _, _, _, _, lk', hc⟩ }
/-! the Hook: the facts fa, the defs fn, and one more look ex -/
def obsZ (n : Nat) (fa : List Fa) (fn : List FnD) (ex : PySem.W.Frag → Bool) (g : Addr → Option Obj) : Al × Bool := (obsE fa fn (frG g (asG g n)), ex (frG g (asG g n)))
def hookZ (n : Nat) (fa : List Fa) (fn : List FnD) (ex : PySem.W.Frag → Bool) : PySem.W.Hook where
  α := Al × Bool
  obs := fun s => obsZ n fa fn ex s.heap.get?
  val := fun _ => (valE fn, true)
  says := fun _ h => ∃ K : PySem.W.Frag, K.In h ∧ SaysE fa fn K ∧ ex K = true
  of := fun _ _ e => ⟨_, frG_in, congrArg (fun z : Al × Bool => z.1) e, congrArg (fun z : Al × Bool => z.2) e⟩
  keeps := fun _ _ _ ⟨K, hK, c, d⟩ k => ⟨K, PySem.W.Frag.In.keeps hK k, c, d⟩
theorem obsZ_eq {n : Nat} {fa : List Fa} {fn : List FnD} {ex : PySem.W.Frag → Bool} {g : Addr → Option Obj} {s : Shared} (h : ∀ a, g a = s.heap.get? a) : obsZ n fa fn ex g = (hookZ n fa fn ex).obs s := by
  have e : g = s.heap.get? := funext h
  rw [e] <;> rfl
/-- a def of the text, by a path -/
theorem saysFn {fa : List Fa} {fn : List FnD} {K : PySem.W.Frag} (c : SaysE fa fn K) (i : Nat) {d : FnD} (h : fn[i]? = some d := by rfl) : fnObs K d.at_ = d.val ∧ (Fa.code d.at_ d.qual).ok K = true := by
  have c2 := (ba (show ((fa.all fun f => f.ok K) && fn.all fun d => (Fa.code d.at_ d.qual).ok K) = true from congrArg (fun z : Al => z.1) c)).2
  have e : fn.map (fun d => fnObs K d.at_) = fn.map FnD.val := congrArg (fun z : Al => z.2) c
  have e2 : (fn.map fun d => fnObs K d.at_)[i]? = (fn.map FnD.val)[i]? := by rw [e]
  rw [List.getElem?_map, List.getElem?_map, h] at e2
  exact ⟨Option.some.inj e2, List.all_eq_true.mp c2 d (List.mem_of_getElem? h)⟩
/-- a def of the top: its name, its statement -/
def dTop (x : Str) (st : Stmt) : FnD := ⟨(x, none), x, x, defArgs st, defBody st, defScope st⟩
theorem keep_fn {K : PySem.W.Frag} {f : Addr} {oc : Value} {od : Option Addr} {fd : FuncData} {osl : Array (Option Value)} (h : K.lookup f = some ⟨oc, od, .func fd, osl⟩) : PySem.W.keepIn K (.ref f) = true := by
  simp only [PySem.W.keepIn, h]
theorem saysFun {fa : List Fa} {fn : List FnD} {K : PySem.W.Frag} (c : SaysE fa fn K) (i : Nat) {x : Str} {st : Stmt} (h : fn[i]? = some (dTop x st) := by rfl) : ∃ fd, Fun K x x st (ga K x) fd := by
  obtain ⟨e, k⟩ := saysFn c i h
  obtain ⟨oc, od, osl, kV, doc, pm, an, cdv, ct, lk, hc⟩ := fn_ok e k
  exact ⟨_, fun_mk lk hc (keep_fn lk)⟩
/-- a law's end, over a head by facts -/
theorem walk_ofGE {l : PySem.W.OpenLaw} {n k : Nat} {q : Program} {loose : List Str} {XP : (Str → Option Value) → Heap → Prop} {YP : World → Heap → Prop} {d : DefRec} {x : Str}
    (most : l.most = some n) (fits : n ≤ sizeLine) (plain : d.params.defaults = []) (room : Room k callerA)
    (F : ∀ (w : World) (mg : Str → Option Value) (fa : Addr) (h : Heap), YP w h → h.Ns mainGlobals mg → mg d.name = some (.ref fa) →
      ∃ (K : PySem.W.Frag) (fd : FuncData) (sp : Sp), K.In h ∧ (∀ (s : Shared) (u : Value), BindsTo s fd ⟨[u], []⟩ [(x, u)]) ∧
        (∀ (G : Hp) (a : Addr) (ns : List Int), ns.length ≤ n → SqL K G a (ns.map V.int) → sp [.ref a] G (fun v _ => v = .bl true) fun _ _ _ => False) ∧
        ∀ base : Heap, K.In base → base.Ns mainGlobals mg → FnOkG l.prog w K mg base k fa fd [x] sp) :
    PySem.W.WalkO q loose XP YP l.row.toRowW d [] (fun f vs => PySem.call f vs) := by
  refine Att.attach_call most plain fun w s0 s1 mg mb fa o pm cd doc a vs ns G Y ho hd hcd hmg hobj hints hlen hg => ?_
  obtain ⟨K, fd, sp, KX, hb, hsp, hF⟩ := F w mg fa _ Y G.T.g hmg
  exact law_callG KX G.T.g G.T.b G.T.builtins G.T.nolimit hg hobj hints (Nat.le_trans hlen fits) room hF hb fun H hS => hsp H a ns hlen hS
end KV

/-! the text -/
namespace KV
open PySem PySem.Spec PyProof.Rows L2
def top (i : Nat) : Stmt := PySem.Challenge.pw_batchnumbers_k10_whole_powers_with_one_c.main.body.getD i (.Pass ⟨0, 0, 0, 0⟩)
/-- the built-in names that no global hides -/
structure Bl (mg : Str → Option Value) : Prop where
  isi : mg "isinstance" = none
  int : mg "int" = none
  bool : mg "bool" = none
  tuple : mg "tuple" = none
  list : mg "list" = none
  set : mg "set" = none
  len : mg "len" = none
  sorted : mg "sorted" = none
  range : mg "range" = none
  all : mg "all" = none
  abs : mg "abs" = none
  repr : mg "repr" = none
  zip : mg "zip" = none
  enumerate : mg "enumerate" = none
end KV

/-! sizes, small words -/
namespace KV
open PySem PySem.Spec PyProof.Rows L2
abbrev sm (k : Nat) (n : Int) : Prop := n.natAbs < 2 ^ k
theorem sm_mono {j k : Nat} {n : Int} (h : sm j n) (hk : j ≤ k) : sm k n := Nat.lt_of_lt_of_le h (Nat.pow_le_pow_right (by decide) hk)
theorem sm_of {k : Nat} {n : Int} (h0 : 0 ≤ n) (h1 : n < 2 ^ k) : sm k n := by
  have e : ((2 ^ k : Nat) : Int) = (2 : Int) ^ k := by simp
  show n.natAbs < 2 ^ k
  omega
theorem sm_le {k : Nat} {n m : Int} (h0 : 0 ≤ n) (h1 : n ≤ m) (h : sm k m) : sm k n := Nat.lt_of_le_of_lt (by omega) h
theorem sm_abs {k : Nat} {n m : Int} (h1 : (n.natAbs : Int) ≤ m) (h : sm k m) : sm k n := Nat.lt_of_le_of_lt (by omega) h
theorem sm_add {k : Nat} {n m : Int} (h1 : sm k n) (h2 : sm k m) : sm (k + 1) (n + m) := by
  have a := Int.natAbs_add_le n m
  have e : 2 ^ (k + 1) = 2 ^ k * 2 := Nat.pow_succ ..
  have h1' : n.natAbs < 2 ^ k := h1
  have h2' : m.natAbs < 2 ^ k := h2
  show (n + m).natAbs < 2 ^ (k + 1)
  omega
theorem sm_neg {k : Nat} {n : Int} (h : sm k n) : sm k (-n) := by
  show (-n).natAbs < 2 ^ k
  rw [Int.natAbs_neg]
  exact h
theorem sm_sub {k : Nat} {n m : Int} (h1 : sm k n) (h2 : sm k m) : sm (k + 1) (n - m) := by
  rw [Int.sub_eq_add_neg]
  exact sm_add h1 (sm_neg h2)
theorem sm_mul {j k : Nat} {n m : Int} (h1 : sm j n) (h2 : sm k m) : sm (j + k) (n * m) := wide_lt h1 h2
theorem mulW {j k : Nat} {n m : Int} (h1 : sm j n) (h2 : sm k m) (hj : 0 < j) (hk : 0 < k) (h : j + k ≤ 1000000) : CMulW n m := wide_mul h1 h2 hj hk h
theorem divW {k : Nat} {n m : Int} (h0 : 0 < m) (h : sm k m) (hk : 0 < k) (h9 : k ≤ 9000) : CDivW n m := wide_div h0 h hk h9
theorem iop_mulW {X : Cx} : OpR X (inplaceOp .Mult) (rI CMulW fun i j => .int (i * j)) := opI fun _ _ _ _ _ _ _ hc q => imul_int q hc.ok
theorem map_at {f : Int → V} {ns : List Int} {i : Nat} {x : V} (h : (ns.map f)[i]? = some x) : ∃ n, ns[i]? = some n ∧ x = f n := by
  rw [List.getElem?_map] at h
  cases e : ns[i]? with
  | none => rw [e] at h; cases h
  | some n => rw [e] at h; exact ⟨n, rfl, (Option.some.inj h).symm⟩
theorem Same.seqT {K : PySem.W.Frag} {H H' : Hp} {a : Addr} {xs : List V} (e : Same H H') (h : SqT K H a xs) : SqT K H' a xs := by
  rcases h with (h | ⟨o, h⟩) | h
  · exact .inl (.inl (e _ _ h))
  · exact .inl (.inr ⟨o, e _ _ h⟩)
  · exact .inr h
theorem Same.upd {H H' : Hp} {a : Addr} {o : HO} (e : Same H H') (h : H a = none) : Same H (upd H' a o) := fun b u q => by
  rw [upd_ne (ne_of_none q h)]
  exact e b u q
theorem Same.new {H : Hp} {a : Addr} {o : HO} (h : H a = none) : Same H (L2.upd H a o) := Same.upd (Same.refl H) h
end KV

/-! the mathematics of changes -/
namespace KC
/-- where m rounds of the change lead -/
def it (c : List Nat) : Nat → Nat → Nat
  | 0, i => i
  | m + 1, i => c.getD (it c m i) 0
structure Chg (n : Nat) (c : List Nat) : Prop where
  len : c.length = n
  lt : ∀ x ∈ c, x < n
  nd : c.Nodup
def tab (n : Nat) (f : Nat → Nat) : List Nat := (List.range n).map f
def comp (c e : List Nat) : List Nat := c.map fun x => e.getD x 0
def fac : Nat → Nat
  | 0 => 1
  | n + 1 => (n + 1) * fac n
theorem fac_pos : ∀ n, 0 < fac n
  | 0 => by decide
  | n + 1 => Nat.mul_pos (Nat.succ_pos n) (fac_pos n)
theorem dvd_fac : ∀ {n L : Nat}, 0 < L → L ≤ n → L ∣ fac n
  | 0, L, h, g => by omega
  | n + 1, L, h, g => by
    rcases Nat.lt_or_ge L (n + 1) with k | k
    · exact Nat.dvd_trans (dvd_fac h (by omega)) (Nat.dvd_mul_left _ _)
    · have : L = n + 1 := by omega
      rw [this]
      exact Nat.dvd_mul_right _ _
theorem tab_len {n : Nat} {f : Nat → Nat} : (tab n f).length = n := by simp [tab]
theorem tab_get {n i : Nat} {f : Nat → Nat} (h : i < n) : (tab n f)[i]? = some (f i) := by
  unfold tab
  rw [List.getElem?_map, List.getElem?_range h]
  rfl
theorem tab_getD {n i : Nat} {f : Nat → Nat} (h : i < n) : (tab n f).getD i 0 = f i := by
  rw [List.getD_eq_getElem?_getD, tab_get h]
  rfl
theorem getD_at {c : List Nat} {i x : Nat} (h : c[i]? = some x) : c.getD i 0 = x := by
  rw [List.getD_eq_getElem?_getD, h]
  rfl
theorem at_getD {c : List Nat} {i : Nat} (h : i < c.length) : c[i]? = some (c.getD i 0) := by
  rw [List.getD_eq_getElem?_getD, List.getElem?_eq_getElem h]
  rfl
theorem eq_tab {n : Nat} {c : List Nat} (h : c.length = n) : c = tab n fun i => c.getD i 0 := by
  refine List.ext_getElem? fun i => ?_
  by_cases k : i < n
  · rw [tab_get k]
    exact at_getD (by omega)
  · rw [List.getElem?_eq_none (by omega), List.getElem?_eq_none (by rw [tab_len]; omega)]
theorem tab_congr {n : Nat} {f g : Nat → Nat} (h : ∀ i < n, f i = g i) : tab n f = tab n g := List.map_congr_left fun i hi => h i (List.mem_range.mp hi)
theorem tab_inj {n : Nat} {f g : Nat → Nat} (h : tab n f = tab n g) : ∀ i < n, f i = g i := fun i hi => by
  have e := tab_get (f := f) hi
  rw [h, tab_get hi] at e
  exact (Option.some.inj e).symm
theorem comp_tab {n : Nat} {f g : Nat → Nat} (h : ∀ i < n, f i < n) : comp (tab n f) (tab n g) = tab n fun i => g (f i) := by
  unfold comp
  show ((List.range n).map f).map _ = (List.range n).map _
  rw [List.map_map]
  exact List.map_congr_left fun i hi => tab_getD (h i (List.mem_range.mp hi))
section
variable {n : Nat} {c : List Nat}
theorem Chg.at_lt (h : Chg n c) {i : Nat} (hi : i < n) : c.getD i 0 < n := h.lt _ (List.mem_of_getElem? (at_getD (by rw [h.len]; exact hi)))
theorem Chg.at_inj (h : Chg n c) {i j : Nat} (hi : i < n) (hj : j < n) (e : c.getD i 0 = c.getD j 0) : i = j := by
  have hi' : i < c.length := by rw [h.len]; exact hi
  have hj' : j < c.length := by rw [h.len]; exact hj
  have a := at_getD hi'
  have b := at_getD hj'
  rw [List.getElem?_eq_getElem hi'] at a
  rw [List.getElem?_eq_getElem hj'] at b
  have e2 : c[i] = c[j] := by rw [Option.some.inj a, Option.some.inj b, e]
  exact (List.getElem_inj h.nd).mp e2
theorem it_lt (h : Chg n c) {i : Nat} (hi : i < n) : ∀ m, it c m i < n
  | 0 => hi
  | m + 1 => h.at_lt (it_lt h hi m)
theorem it_add (a b i : Nat) : it c (a + b) i = it c a (it c b i) := by
  induction a with
  | zero => rw [Nat.zero_add]; rfl
  | succ a ih =>
    rw [Nat.succ_add]
    show c.getD (it c (a + b) i) 0 = c.getD (it c a (it c b i)) 0
    rw [ih]
theorem it_inj (h : Chg n c) {i j : Nat} (hi : i < n) (hj : j < n) : ∀ m, it c m i = it c m j → i = j
  | 0, e => e
  | m + 1, e => it_inj h hi hj m (h.at_inj (it_lt h hi m) (it_lt h hj m) e)
theorem it_back (h : Chg n c) {i a b : Nat} (hi : i < n) (hab : a ≤ b) (e : it c a i = it c b i) : it c (b - a) i = i := by
  have e2 : it c b i = it c a (it c (b - a) i) := by rw [← it_add]; congr 1; omega
  rw [e2] at e
  exact (it_inj h hi (it_lt h hi _) a e).symm
/-- each state comes back -/
theorem per (h : Chg n c) {i : Nat} (hi : i < n) : ∃ L, 0 < L ∧ L ≤ n ∧ it c L i = i := by
  apply Classical.byContradiction
  intro no
  have nd : ((List.range (n + 1)).map fun m => it c m i).Nodup := by
    unfold List.Nodup
    rw [List.pairwise_map]
    refine List.Pairwise.imp_of_mem (fun {a b} ha hb hlt e => ?_) List.pairwise_lt_range
    have hb := List.mem_range.mp hb
    exact no ⟨b - a, by omega, by omega, it_back h hi (by omega) e⟩
  have z := List.Nodup.length_le_of_subset (l₂ := List.range n) nd fun x hx => by
    obtain ⟨m, _, rfl⟩ := List.mem_map.mp hx
    exact List.mem_range.mpr (it_lt h hi m)
  rw [List.length_map, List.length_range, List.length_range] at z
  omega
theorem it_mul {i L : Nat} (e : it c L i = i) : ∀ k, it c (L * k) i = i
  | 0 => rfl
  | k + 1 => by rw [Nat.mul_succ, it_add, e, it_mul e k]
theorem it_mod {i L : Nat} (e : it c L i = i) (m : Nat) : it c (m % L) i = it c m i := by
  have z : it c m i = it c (m % L + L * (m / L)) i := by rw [Nat.mod_add_div]
  rw [z, it_add, it_mul e]
theorem it_fac (h : Chg n c) {i : Nat} (hi : i < n) : it c (fac n) i = i := by
  obtain ⟨L, l0, l1, e⟩ := per h hi
  obtain ⟨k, ek⟩ := dvd_fac l0 l1
  rw [ek]
  exact it_mul e k
theorem chg_tab {f : Nat → Nat} (h : ∀ i < n, f i < n) (g : ∀ i < n, ∀ j < n, f i = f j → i = j) : Chg n (tab n f) := by
  refine ⟨tab_len, fun x hx => ?_, ?_⟩
  · obtain ⟨i, hi, rfl⟩ := List.mem_map.mp hx
    exact h i (List.mem_range.mp hi)
  · unfold List.Nodup tab
    rw [List.pairwise_map]
    refine List.Pairwise.imp_of_mem (fun {a b} ha hb hlt e => ?_) List.pairwise_lt_range
    have := g a (List.mem_range.mp ha) b (List.mem_range.mp hb) e
    omega
theorem chg_it (h : Chg n c) (m : Nat) : Chg n (tab n (it c m)) := chg_tab (fun i hi => it_lt h hi m) fun i hi j hj e => it_inj h hi hj m e
theorem chg_comp {e : List Nat} (h : Chg n c) (g : Chg n e) : Chg n (comp c e) := by
  rw [eq_tab h.len, eq_tab g.len, comp_tab (fun i hi => h.at_lt hi)]
  exact chg_tab (fun i hi => g.at_lt (h.at_lt hi)) fun i hi j hj e => h.at_inj hi hj (g.at_inj (h.at_lt hi) (h.at_lt hj) e)
/-- the power with a count -/
def pw (n : Nat) (c : List Nat) (k : Int) : List Nat := tab n (it c (k % (fac n : Int)).toNat)
theorem pw_chg (h : Chg n c) (k : Int) : Chg n (pw n c k) := chg_it h _
theorem pw_nat (h : Chg n c) (m : Nat) : pw n c (m : Int) = tab n (it c m) := by
  refine tab_congr fun i hi => ?_
  have e : (((m : Nat) : Int) % (fac n : Int)).toNat = m % fac n := by
    rw [← Int.natCast_emod]
    rfl
  rw [e, it_mod (it_fac h hi)]
theorem pw_add (h : Chg n c) (a b : Int) : comp (pw n c a) (pw n c b) = pw n c (a + b) := by
  unfold pw
  rw [comp_tab (fun i hi => it_lt h hi _)]
  refine tab_congr fun i hi => ?_
  have f0 : (0 : Int) < fac n := by exact_mod_cast fac_pos n
  rw [← it_add, ← it_mod (it_fac h hi) ((b % (fac n : Int)).toNat + (a % (fac n : Int)).toNat)]
  congr 1
  have a0 := Int.emod_nonneg a (by omega : (fac n : Int) ≠ 0)
  have b0 := Int.emod_nonneg b (by omega : (fac n : Int) ≠ 0)
  have e : ((((b % (fac n : Int)).toNat + (a % (fac n : Int)).toNat) % fac n : Nat) : Int) = (a + b) % (fac n : Int) := by
    rw [Int.natCast_emod, Int.natCast_add, Int.toNat_of_nonneg a0, Int.toNat_of_nonneg b0, ← Int.add_emod, Int.add_comm]
  rw [← e]
  rfl
/-- a cycle: it starts at st -/
structure Cyc (n : Nat) (c : List Nat) (cy : List Nat) : Prop where
  ex : ∃ st L, 0 < L ∧ st < n ∧ it c L st = st ∧ cy = tab L fun j => it c j st
  nd : cy.Nodup
theorem Cyc.pos {cy : List Nat} (h : Cyc n c cy) : 0 < cy.length := by
  obtain ⟨st, L, l0, _, _, rfl⟩ := h.ex
  rw [tab_len]
  exact l0
theorem Cyc.le (h : Chg n c) {cy : List Nat} (k : Cyc n c cy) : cy.length ≤ n := by
  obtain ⟨st, L, l0, hs, _, rfl⟩ := k.ex
  have z := List.Nodup.length_le_of_subset (l₂ := List.range n) k.nd fun x hx => by
    obtain ⟨m, _, rfl⟩ := List.mem_map.mp hx
    exact List.mem_range.mpr (it_lt h hs m)
  rw [List.length_range] at z
  exact z
theorem Cyc.dvd (h : Chg n c) {cy : List Nat} (k : Cyc n c cy) : cy.length ∣ fac n := dvd_fac k.pos (k.le h)
/-- the states of a cycle come back just by its length -/
theorem Cyc.back (h : Chg n c) {cy : List Nat} (k : Cyc n c cy) {x m : Nat} (hx : x ∈ cy) : it c m x = x ↔ cy.length ∣ m := by
  obtain ⟨st, L, l0, hs, e, rfl⟩ := k.ex
  have nd := k.nd
  obtain ⟨j, hj, rfl⟩ := List.mem_map.mp hx
  have hj := List.mem_range.mp hj
  rw [tab_len]
  have lb : it c L (it c j st) = it c j st := by rw [← it_add, Nat.add_comm, it_add, e]
  constructor
  · intro hm
    have z : it c (m % L) (it c j st) = it c j st := by rw [it_mod lb, hm]
    have z1 : it c (m % L) st = st := by
      rw [← it_add, Nat.add_comm, it_add] at z
      exact it_inj h (it_lt h hs _) hs j z
    by_cases z2 : m % L = 0
    · exact Nat.dvd_of_mod_eq_zero z2
    · have lt := Nat.mod_lt m l0
      have a := tab_get (f := fun j => it c j st) lt
      have b := tab_get (f := fun j => it c j st) l0
      have hl1 : m % L < (tab L fun j => it c j st).length := by rw [tab_len]; exact lt
      have hl2 : 0 < (tab L fun j => it c j st).length := by rw [tab_len]; exact l0
      rw [List.getElem?_eq_getElem hl1] at a
      rw [List.getElem?_eq_getElem hl2] at b
      have e2 : (tab L fun j => it c j st)[m % L] = (tab L fun j => it c j st)[0] := by
        rw [Option.some.inj a, Option.some.inj b]
        exact z1
      exact absurd ((List.getElem_inj nd).mp e2) z2
  · rintro ⟨q, rfl⟩
    exact it_mul lb q
theorem Cyc.lt (h : Chg n c) {cy : List Nat} (k : Cyc n c cy) {x : Nat} (hx : x ∈ cy) : x < n := by
  obtain ⟨st, L, l0, hs, e, rfl⟩ := k.ex
  obtain ⟨j, _, rfl⟩ := List.mem_map.mp hx
  exact it_lt h hs j
/-- the cycle turned by what the count leaves: each state's power -/
theorem Cyc.turn (h : Chg n c) {cy : List Nat} (k : Cyc n c cy) (cnt : Int) {j x : Nat} (hx : cy[j]? = some x) :
    (cy.drop (cnt % (cy.length : Int)).toNat ++ cy.take (cnt % (cy.length : Int)).toNat)[j]? = some (it c (cnt % (fac n : Int)).toNat x) := by
  have hdv := k.dvd h
  have hb := k.back h (x := x) (m := cy.length) (List.mem_of_getElem? hx)
  have hp := k.pos
  have hj := (List.getElem?_eq_some_iff.mp hx).1
  obtain ⟨st, L, l0, hs, e, rfl⟩ := k.ex
  rw [tab_len] at hb hp hj hdv ⊢
  have s0 := Int.emod_nonneg cnt (by omega : (L : Int) ≠ 0)
  have s1 := Int.emod_lt_of_pos cnt (by omega : (0 : Int) < (L : Int))
  have es : ((cnt % (fac n : Int)).toNat) % L = (cnt % (L : Int)).toNat := by
    have f0 : (0 : Int) < fac n := by exact_mod_cast fac_pos n
    have a0 := Int.emod_nonneg cnt (by omega : (fac n : Int) ≠ 0)
    have z : ((((cnt % (fac n : Int)).toNat) % L : Nat) : Int) = cnt % (L : Int) := by
      rw [Int.natCast_emod, Int.toNat_of_nonneg a0]
      exact Int.emod_emod_of_dvd _ (by exact_mod_cast hdv)
    rw [← z]
    rfl
  rw [← it_mod (hb.mpr (Nat.dvd_refl _)), es]
  rw [tab_get hj] at hx
  have hx := Option.some.inj hx
  generalize (cnt % (L : Int)).toNat = s at es s0 s1
  have sL : s < L ∨ L ≤ s := Nat.lt_or_ge s L
  have sl : s < L := by
    rw [← es]
    exact Nat.mod_lt _ l0
  have key : ∀ m, it c m x = it c (j + m) st := fun m => by rw [← hx, ← it_add, Nat.add_comm]
  rw [key]
  by_cases w : j < L - s
  · rw [List.getElem?_append_left (by rw [List.length_drop, tab_len]; exact w), List.getElem?_drop, tab_get (by omega), Nat.add_comm]
  · have e1 : j - (L - s) < L := by omega
    rw [List.getElem?_append_right (by rw [List.length_drop, tab_len]; omega), List.length_drop, tab_len, List.getElem?_take_of_lt (by omega), tab_get e1]
    have e2 : j + s = (j - (L - s)) + L := by omega
    rw [e2, it_add, e]
end
end KC

/-! more of changes: every state is reached, cycles closed backwards, a walk to its end -/
namespace KC
section
variable {n : Nat} {c : List Nat}
theorem Chg.mem (h : Chg n c) {x : Nat} (hx : x < n) : ∃ i, i < n ∧ c.getD i 0 = x := by
  apply Classical.byContradiction
  intro no
  have nm : x ∉ c := fun hm => by
    obtain ⟨i, hi⟩ := List.mem_iff_getElem?.mp hm
    have lt := (List.getElem?_eq_some_iff.mp hi).1
    exact no ⟨i, by rw [← h.len]; exact lt, getD_at hi⟩
  have z := List.Nodup.length_le_of_subset (l₁ := x :: c) (l₂ := List.range n) (List.nodup_cons.mpr ⟨nm, h.nd⟩) fun y hy => by
    rcases List.mem_cons.mp hy with rfl | hy
    · exact List.mem_range.mpr hx
    · exact List.mem_range.mpr (h.lt y hy)
  rw [List.length_cons, h.len, List.length_range] at z
  omega
theorem tab_succ {L : Nat} {f : Nat → Nat} : tab (L + 1) f = tab L f ++ [f L] := by
  unfold tab
  rw [List.range_succ, List.map_append]
  rfl
theorem mem_tab {L x : Nat} {f : Nat → Nat} : x ∈ tab L f ↔ ∃ j, j < L ∧ f j = x := by
  unfold tab
  rw [List.mem_map]
  exact ⟨fun ⟨j, h, e⟩ => ⟨j, List.mem_range.mp h, e⟩, fun ⟨j, h, e⟩ => ⟨j, List.mem_range.mpr h, e⟩⟩
theorem Cyc.pred (h : Chg n c) {cy : List Nat} (k : Cyc n c cy) {x : Nat} (hx : x < n) (hm : c.getD x 0 ∈ cy) : x ∈ cy := by
  obtain ⟨st, L, l0, hs, e, rfl⟩ := k.ex
  obtain ⟨j, hj, ej⟩ := mem_tab.mp hm
  have go : ∀ i, c.getD (it c i st) 0 = c.getD x 0 → i < L → x ∈ tab L fun j => it c j st := fun i ei hi => mem_tab.mpr ⟨i, hi, h.at_inj (it_lt h hs i) hx ei⟩
  cases j with
  | succ i => exact go i ej (by omega)
  | zero =>
    have e2 : c.getD (it c (L - 1) st) 0 = it c (L - 1 + 1) st := rfl
    rw [show L - 1 + 1 = L by omega, e] at e2
    exact go (L - 1) (by rw [e2]; exact ej) (by omega)
/-- a walk from st, none of it in the cycles before, that meets what was met: nothing new, or a whole cycle -/
theorem walk_end (h : Chg n c) {st L : Nat} {U : Nat → Prop} (hs : st < n) (up : ∀ x < n, U (c.getD x 0) → U x) (nd : (tab L fun j => it c j st).Nodup) (nu : ∀ x ∈ tab L (fun j => it c j st), ¬ U x)
    (met : U (it c L st) ∨ it c L st ∈ tab L fun j => it c j st) : (L = 0 ∧ U st) ∨ (0 < L ∧ Cyc n c (tab L fun j => it c j st)) := by
  cases L with
  | zero =>
    rcases met with u | m
    · exact .inl ⟨rfl, u⟩
    · obtain ⟨j, hj, _⟩ := mem_tab.mp m
      omega
  | succ l =>
    refine .inr ⟨by omega, ⟨st, l + 1, by omega, hs, ?_, rfl⟩, nd⟩
    rcases met with u | m
    · exact absurd (up _ (it_lt h hs l) u) (nu _ (mem_tab.mpr ⟨l, by omega, rfl⟩))
    · obtain ⟨j, hj, ej⟩ := mem_tab.mp m
      have bk := it_back h hs (show j ≤ l + 1 by omega) ej
      cases j with
      | zero => simpa using bk
      | succ i =>
        exfalso
        have l1 : l + 1 - (i + 1) < (tab (l + 1) fun j => it c j st).length := by rw [tab_len]; omega
        have l0 : 0 < (tab (l + 1) fun j => it c j st).length := by rw [tab_len]; omega
        have a := tab_get (f := fun j => it c j st) (show l + 1 - (i + 1) < l + 1 by omega)
        have b := tab_get (f := fun j => it c j st) (show 0 < l + 1 by omega)
        rw [List.getElem?_eq_getElem l1] at a
        rw [List.getElem?_eq_getElem l0] at b
        have e2 : (tab (l + 1) fun j => it c j st)[l + 1 - (i + 1)] = (tab (l + 1) fun j => it c j st)[0] := by
          rw [Option.some.inj a, Option.some.inj b]
          exact bk
        have := (List.getElem_inj nd).mp e2
        omega
theorem walk_le (h : Chg n c) {st L : Nat} (hs : st < n) (nd : (tab L fun j => it c j st).Nodup) : L ≤ n := by
  have z := List.Nodup.length_le_of_subset (l₂ := List.range n) nd fun x hx => by
    obtain ⟨m, _, rfl⟩ := mem_tab.mp hx
    exact List.mem_range.mpr (it_lt h hs m)
  rw [tab_len, List.length_range] at z
  exact z
/-- what undoes the change -/
def Und (n : Nat) (c e : List Nat) : Prop := e.length = n ∧ ∀ i, i < n → e[c.getD i 0]? = some i
theorem Und.uniq (h : Chg n c) {e e' : List Nat} (a : Und n c e) (b : Und n c e') : e = e' := by
  refine List.ext_getElem? fun x => ?_
  by_cases hx : x < n
  · obtain ⟨i, hi, rfl⟩ := h.mem hx
    rw [a.2 i hi, b.2 i hi]
  · rw [List.getElem?_eq_none (by have := a.1; omega), List.getElem?_eq_none (by have := b.1; omega)]
theorem Und.at (h : Chg n c) {e : List Nat} (a : Und n c e) {i : Nat} (hi : i < n) : e.getD (c.getD i 0) 0 = i := getD_at (a.2 i hi)
theorem Und.chg (h : Chg n c) {e : List Nat} (a : Und n c e) : Chg n e := by
  have lt : ∀ x, x < n → e.getD x 0 < n := fun x hx => by
    obtain ⟨i, hi, rfl⟩ := h.mem hx
    rw [a.at h hi]
    exact hi
  rw [eq_tab a.1]
  refine chg_tab lt fun x hx y hy exy => ?_
  obtain ⟨i, hi, rfl⟩ := h.mem hx
  obtain ⟨j, hj, rfl⟩ := h.mem hy
  rw [a.at h hi, a.at h hj] at exy
  rw [exy]
theorem set_walk {i n : Nat} {c es : List Nat} (h : Chg n c) (hi : i < n) (l : es.length = n) (w : ∀ j, j < i → es[c.getD j 0]? = some j) : ∀ j, j < i + 1 → (es.set (c.getD i 0) i)[c.getD j 0]? = some j := by
  intro j hj
  by_cases e : j = i
  · subst e
    rw [List.getElem?_set_self (by rw [l]; exact h.at_lt hi)]
  · rw [List.getElem?_set_ne (fun z => e (h.at_inj hi (by omega) z).symm)]
    exact w j (by omega)
end
end KC

/-! whether a value is a change -/
namespace KV
open PySem PySem.Spec PyProof.Rows L2 KC
theorem iteP {c : Prop} [Decidable c] {A B : Prop} (h : c) (x : A) : if c then A else B := by rw [if_pos h]; exact x
theorem iteN {c : Prop} [Decidable c] {A B : Prop} (h : ¬ c) (x : B) : if c then A else B := by rw [if_neg h]; exact x
theorem sq_cut {a b : TS} {D : Ends} {σ : L2.St} {H : Hp} (N : L2.St → Hp → Prop) (hs : ∀ Z : L2.St → Hp → Prop, (∀ σ' H', N σ' H' → Z σ' H') → a { nx := Z, rt := D.rt, bk := D.bk, ct := D.ct } σ H) (ht : ∀ σ' H', N σ' H' → b D σ' H') : tSeq a b D σ H := hs _ ht
theorem len_lt {n : Nat} (h : n ≤ 1000) : n < sizeLine := small1000 h
/-- a list of numbers as values -/
abbrev vi (c : List Nat) : List V := c.map fun (n : Nat) => V.int (n : Int)
theorem vi_at {c : List Nat} {i : Nat} {x : V} (h : (vi c)[i]? = some x) : ∃ n, c[i]? = some n ∧ x = .int (n : Int) := by
  rw [List.getElem?_map] at h
  cases e : c[i]? with
  | none => rw [e] at h; cases h
  | some n => rw [e] at h; exact ⟨n, rfl, (Option.some.inj h).symm⟩
theorem vi_get {c : List Nat} {i n : Nat} (h : c[i]? = some n) : (vi c)[i]? = some (V.int (n : Int)) := by
  rw [List.getElem?_map, h]
  rfl
/-! the number of different ints in a tuple -/
def tLenSetT (K : PySem.W.Frag) (ta : TE) : TE := fun σ H Q => ta σ H fun x H1 => ∃ (l : Addr) (ns : List Int), x = .ref l ∧ SqT K H1 l (ns.map V.int) ∧ ns.length ≤ 1000 ∧ ∀ L : List Int, L.Nodup → (∀ k, k ∈ L ↔ k ∈ ns) → Q (.int (L.length : Nat)) H1
theorem pe_lenSetT {X : Cx} {a : Expr} {ta : TE} {p p2 q pos : Pos} (gl : Gl X "len") (ml : X.mg "len" = none) (gs : Gl X "set") (ms : X.mg "set" = none) (ha : PE X a ta) (hc : X.calm = true := by rfl)
    (na : starEach [a] X.env = (false, eval a X.env) :: starEach [] X.env := by rfl) : PE X (.Call (.Name "len" p) [.Call (.Name "set" p2) [a] [] q] [] pos) (tLenSetT X.K ta) := by
  constructor
  intro pins s σ H Q I h
  refine Call_ (ld_blt I gl ml boot_len ?_)
  refine PyProof.Rows.callWith_builtin1 (PyProof.Rows.args_cons ?_ rfl) rfl rfl
  refine Call_ (ld_blt I gs ms PyProof.Rows.boot_set ?_)
  refine PyProof.Rows.callWith_type1 (PyProof.Rows.args_cons (thn (ha.run pins s σ H _ I h) fun v s1 ⟨x, H1, I1, r1, q1⟩ => PyProof.Rows.args_nil ?_) na) na rfl
  obtain ⟨l, ns, ex, hq, small, q1⟩ := q1
  subst ex
  cases r1
  obtain ⟨its, r, pt, _⟩ := I1.tuple hq
  have ia : IntsAre its.toArray.toList ns := ints_of_vals r
  refine call_set_tupI ns (I1.ok.hd hc) (show s1.heap.IsTuple l its.toArray from pt) ia (by unfold scanBound; omega) fun h' tk c R1 hcn k => ?_
  refine PyProof.Rows.args_nil ?_
  obtain ⟨o, es, ep, t, ho, hex, hdt, _, nd, mem, _, hf, hn, _, _⟩ := R1
  have I2 : Inv X pins σ H1 { s1 with heap := h', toks := tk } := I1.kept k
  have le : (es.toList.map keyOf).length = es.size := by rw [List.length_map, Array.length_toList]
  refine call_len_set ho hex hdt hf (by rw [hn] <;> omega) ⟨.int _, H1, I2.tok _, ⟨_, rfl⟩, ?_⟩
  have z := q1 (es.toList.map keyOf) nd fun j => by rw [← mem j, decide_eq_true_eq]
  rw [le] at z
  exact z
/-! values -/
theorem tyx_same {K : PySem.W.Frag} {H H' : Hp} (s : Same H H') {x : V} {t : Value} (h : TyX K H x t) : TyX K H' x t := by
  cases h with
  | base b =>
    refine .base ?_
    cases b with
    | non => exact .non
    | bl y => exact .bl y
    | int i => exact .int i
    | str y => exact .str y
    | flt y => exact .flt y
    | lst e => exact .lst (s _ _ e)
    | frz e => exact .frz (s _ _ e)
    | tup e => exact .tup (s _ _ e)
    | dK e => exact .dK (s _ _ e)
    | dT e => exact .dT (s _ _ e)
    | ins e a b c d f => exact .ins (s _ _ e) a b c d f
  | byt b => exact .byt b
  | set e => exact .set (s _ _ e)
  | kList e c => exact .kList e c
  | kTuple e c => exact .kTuple e c
  | kDict e c => exact .kDict e c
  | fTuple e => exact .fTuple (s _ _ e)
  | fDict e => exact .fDict (s _ _ e)
def isI : V → Bool
  | .int _ => true
  | _ => false
/-- an item: an int, a bool, None -/
def Itm (x : V) : Prop := (∃ i : Int, x = .int i) ∨ (∃ b : Bool, x = .bl b) ∨ x = .non
theorem itm_kit {K : PySem.W.Frag} {H : Hp} {x : V} (h : Itm x) : ∃ (t : Value) (b c : Bool), TyX K H x t ∧ PySem.W.kitOne K t (.type "int") = some b ∧ PySem.W.kitOne K t (.type "bool") = some c ∧ (b && !c) = isI x := by
  rcases h with ⟨i, rfl⟩ | ⟨b, rfl⟩ | rfl
  · exact ⟨.type "int", true, false, .base (.int i), kit_ty (by decide +kernel), kit_ty (by decide +kernel), rfl⟩
  · exact ⟨.type "bool", true, true, .base (.bl b), kit_ty (by decide +kernel), kit_ty (by decide +kernel), rfl⟩
  · exact ⟨.type "NoneType", false, false, .base .non, kit_ty (by decide +kernel), kit_ty (by decide +kernel), rfl⟩
/-- a value: a tuple of items (some), or of another kind (none) -/
def ValT (K : PySem.W.Frag) (H : Hp) (v : V) : Option (List V) → Prop
  | some xs => ∃ a : Addr, v = .ref a ∧ H a = some (.tup xs) ∧ (∀ x ∈ xs, Itm x) ∧ xs.length ≤ 16
  | none => ∃ T : String, TyX K H v (.type T) ∧ (T = "list" ∨ T = "NoneType" ∨ T = "int" ∨ T = "str")
theorem ValT.same {K : PySem.W.Frag} {H H' : Hp} (s : Same H H') {v : V} {ms : Option (List V)} (h : ValT K H v ms) : ValT K H' v ms := by
  cases ms with
  | none =>
    obtain ⟨T, h1, h2⟩ := h
    exact ⟨T, tyx_same s h1, h2⟩
  | some xs =>
    obtain ⟨a, h1, h2, h3, h4⟩ := h
    exact ⟨a, h1, s _ _ h2, h3, h4⟩
theorem val_kit {K : PySem.W.Frag} {H : Hp} {v : V} {ms : Option (List V)} (h : ValT K H v ms) : ∃ t : Value, TyX K H v t ∧ PySem.W.kitOne K t (.type "tuple") = some ms.isSome := by
  cases ms with
  | some xs =>
    obtain ⟨a, rfl, ht, _⟩ := h
    exact ⟨_, .base (.tup ht), (kit_ty (by decide +kernel) : PySem.W.kitOne K (.type "tuple") (.type "tuple") = some true)⟩
  | none =>
    obtain ⟨T, ty, hT⟩ := h
    rcases hT with rfl | rfl | rfl | rfl
    · exact ⟨_, ty, (kit_ty (by decide +kernel) : PySem.W.kitOne K (.type "list") (.type "tuple") = some false)⟩
    · exact ⟨_, ty, (kit_ty (by decide +kernel) : PySem.W.kitOne K (.type "NoneType") (.type "tuple") = some false)⟩
    · exact ⟨_, ty, (kit_ty (by decide +kernel) : PySem.W.kitOne K (.type "int") (.type "tuple") = some false)⟩
    · exact ⟨_, ty, (kit_ty (by decide +kernel) : PySem.W.kitOne K (.type "str") (.type "tuple") = some false)⟩
def belB (b : Int) : V → Bool
  | .int i => decide (0 ≤ i) && decide (i < b)
  | _ => false
def chB (xs : List V) : Bool := decide (1 ≤ xs.length) && (xs.all (belB (xs.length : Int)) && decide xs.Nodup)
def isCh (s : Int) : Option (List V) → Bool
  | none => false
  | some xs => decide ((xs.length : Int) = s) && chB xs
theorem ints_bel {b : Int} : ∀ {xs : List V}, xs.all (belB b) = true → ∃ ns : List Int, xs = ns.map V.int
  | [], _ => ⟨[], rfl⟩
  | x :: r, h => by
    simp only [List.all_cons, Bool.and_eq_true] at h
    obtain ⟨ns, rfl⟩ := ints_bel h.2
    cases x with
    | int i => exact ⟨i :: ns, rfl⟩
    | _ => exact absurd h.1 (by simp [belB])
theorem nodup_ints {ns : List Int} : (ns.map V.int).Nodup ↔ ns.Nodup := by
  unfold List.Nodup
  rw [List.pairwise_map]
  constructor
  · exact fun h => h.imp fun z e => z (by rw [e])
  · exact fun h => h.imp fun z e => z (V.int.inj e)
theorem len_nodup {L ns : List Int} (h : L.Nodup) (m : ∀ k, k ∈ L ↔ k ∈ ns) : L.length = ns.length ↔ ns.Nodup := by
  constructor
  · intro e
    apply Classical.byContradiction
    intro no
    have key : ∀ ns : List Int, ¬ ns.Nodup → ∃ ms : List Int, ms.length < ns.length ∧ ∀ k ∈ ns, k ∈ ms := by
      intro ns
      induction ns with
      | nil => exact fun z => absurd List.nodup_nil z
      | cons a r ih =>
        intro z
        by_cases ha : a ∈ r
        · exact ⟨r, by simp, fun k hk => by rcases List.mem_cons.mp hk with rfl | hk <;> assumption⟩
        · have : ¬ r.Nodup := fun y => z (List.nodup_cons.mpr ⟨ha, y⟩)
          obtain ⟨ms, l, hm⟩ := ih this
          exact ⟨a :: ms, by simp only [List.length_cons]; omega, fun k hk => by
            rcases List.mem_cons.mp hk with rfl | hk
            · simp
            · exact List.mem_cons_of_mem _ (hm k hk)⟩
    obtain ⟨ms, l, hm⟩ := key ns no
    have := h.length_le_of_subset (l₂ := ms) fun k hk => hm k ((m k).mp hk)
    omega
  · intro nd
    exact ((List.perm_ext_iff_of_nodup h nd).mpr m).length_eq
section
variable {P : Program} {w : World} {K : PySem.W.Frag} {mg : Str → Option Value} {base : Heap}
def spIsInt : Sp := fun vs H Q _ => ∃ v : V, vs = [v] ∧ Itm v ∧ Q (.bl (isI v)) H
theorem sk5 : FnScope ["value"] ["value"] (defScope (top 7)) := ⟨rfl, rfl, rfl, by decide +kernel, rfl, by decide +kernel, by decide +kernel⟩
theorem ok_isInt {f : Addr} {fd : FuncData} (B : Bl mg) (F : Fun K "is_integer" "is_integer" (top 7) f fd) : FnOk P w K mg base CX0 1 f fd ["value"] spIsInt := by
  refine F.ok sk5 (fun vs H Q E h => ?_) (fun cdv A outer s H vs Q E hr h => ⟨_,
    pss_one (ps_ret (pe_and (pe_callB call_isi (by rfl) B.isi (by decide +kernel) (pa_cons (pv 0) (pa_cons (pe_bltn (v := .ty "int") (by rfl) B.int PyProof.Rows.boot_int rfl) pa_nil)))
      (pe_one (pe_not (pe_callB call_isi (by rfl) B.isi (by decide +kernel) (pa_cons (pv 0) (pa_cons (pe_bltn (v := .ty "bool") (by rfl) B.bool (by decide +kernel) rfl) pa_nil))))))), ?_⟩)
  · obtain ⟨v, rfl, _⟩ := h
    rfl
  obtain ⟨v, rfl, hv, q⟩ := h
  obtain ⟨t, b, c, ty, h1, h2, e⟩ := itm_kit (K := K) (H := H) hv
  rw [← e] at q
  refine ⟨_, rfl, v, _, t, _, b, rfl, .ty _, ty, h1, b, rfl, ?_⟩
  cases b with
  | false => exact q
  | true => exact ⟨_, rfl, v, _, t, _, c, rfl, .ty _, ty, h2, c, rfl, q⟩
def spBelow : Sp := fun vs H Q _ => ∃ (v : V) (b : Int), vs = [v, .int b] ∧ Itm v ∧ Q (.bl (belB b v)) H
theorem sk6 : FnScope ["value", "bound"] ["value", "bound"] (defScope (top 8)) := ⟨rfl, rfl, rfl, by decide +kernel, rfl, by decide +kernel, by decide +kernel⟩
theorem ok_below {f : Addr} {fd : FuncData} (C : Cal P w K mg base CX0 1 "is_integer" ["value"] spIsInt) (F : Fun K "is_below" "is_below" (top 8) f fd) : FnOk P w K mg base CX0 2 f fd ["value", "bound"] spBelow := by
  refine F.ok sk6 (fun vs H Q E h => ?_) (fun cdv A outer s H vs Q E hr h => ⟨_,
    pss_one (ps_ret (pe_and (pe_cal (X := L2.Cx.nox _) C hr (by decide) (pa_cons (pv 0) pa_nil)) (pe_one (pe_chain op_le op_lt pe_int (pv 0) (pv 1))))), ?_⟩)
  · obtain ⟨v, b, rfl, _⟩ := h
    rfl
  obtain ⟨v, b, rfl, hv, q⟩ := h
  refine ⟨_, rfl, v, rfl, hv, _, rfl, ?_⟩
  rcases hv with ⟨i, rfl⟩ | ⟨x, rfl⟩ | rfl
  · refine iteT ⟨_, rfl, _, _, rfl, rfl, _, rfl, ?_⟩
    have e : belB b (.int i) = (decide (0 ≤ i) && decide (i < b)) := rfl
    rw [e] at q
    cases z : decide (0 ≤ i) with
    | true =>
      rw [z] at q
      exact iteT ⟨_, rfl, _, _, rfl, rfl, q⟩
    | false =>
      rw [z] at q
      exact iteF q
  · exact iteF q
  · exact iteF q
end
end KV

/-! is_change and what refuses by it -/
namespace KV
open PySem PySem.Spec PyProof.Rows L2 KC
section
variable {X : Cx} {k j : Nat} {x : Str} {ps : List Str} {sp : Sp} {p pos : Pos} {e : Expr} {es : List Expr} {t : TA}
/-- a call of a def that may raise, from one that may -/
theorem pe_calX {W : WX} {E : XK} (C : Cal X.prog X.w X.K X.mg X.base (L2.CX X.prog X.w) k x ps sp) (hr : Room j X.A) (hj : k ≤ j) (tk : Takes X W) (hW : ∀ cls d σ H, E cls d H → W cls d σ H) (ha : PA X (e :: es) t)
    (hg : Gl X x := by rfl) (hdb : (x == ("__debug__" : Str)) = false := by decide)
    (he : starEach (e :: es) X.env = (false, eval e X.env) :: starEach es X.env := by rfl)
    (hpl : (backTo pos (starEach es X.env)).any (·.1) = false := by rfl) :
    PE X (.Call (.Name x p) (e :: es) [] pos) (tCall sp [] E t) := by
  obtain ⟨f, fd, F, h1, h2, h3⟩ := C
  exact pe_call F (hr.mono hj) hg h1 h2 h3 .nil (passes_call tk hW) ha hdb he hpl
end
theorem Same.mk1 {H : Hp} {a : Addr} {o : HO} (h : H a = none) : Same H (L2.upd H a o) := Same.new h
/-- the error InvalidChange(0) -/
def Bad (C : Addr) (H : Hp) (E : XK) : Prop := ∀ (H' : Hp) (d : Addr), Same H H' → H' d = none → E (.ref C) (some d) (L2.upd H' d (.xd [(("at" : Str), .int 0)]))
theorem Bad.same {C : Addr} {H H' : Hp} {E : XK} (s : Same H H') (b : Bad C H E) : Bad C H' E := fun H2 d t => b H2 d (s.trans t)
section
variable {P : Program} {w : World} {K : PySem.W.Frag} {mg : Str → Option Value} {base : Heap} {C fI : Addr}
def spIsCh (K : PySem.W.Frag) : Sp := fun vs H Q _ => ∃ (s : Int) (v : V) (ms : Option (List V)), vs = [.int s, v] ∧ ValT K H v ms ∧ ∀ H', Same H H' → Q (.bl (isCh s ms)) H'
/-- checked_change(states, value) -/
def spChk (K : PySem.W.Frag) (C : Addr) : Sp := fun vs H Q E => ∃ (s : Int) (v : V) (ms : Option (List V)), vs = [.int s, v] ∧ ValT K H v ms ∧ (isCh s ms = true → ∀ H', Same H H' → Q v H') ∧ (isCh s ms = false → Bad C H E)
/-- whether it is a change of its own number of states -/
def isC : Option (List V) → Bool
  | none => false
  | some xs => chB xs
/-- _check_alone(value) -/
def spAlone (K : PySem.W.Frag) (C : Addr) : Sp := fun vs H Q E => ∃ (v : V) (ms : Option (List V)), vs = [v] ∧ ValT K H v ms ∧ (isC ms = true → ∀ H', Same H H' → Q .non H') ∧ (isC ms = false → Bad C H E)
/-- _check_two(one, other) -/
def spTwo (K : PySem.W.Frag) (C : Addr) : Sp := fun vs H Q E => ∃ (v u : V) (ms us : Option (List V)), vs = [v, u] ∧ ValT K H v ms ∧ ValT K H u us ∧
  ((isC ms = false ∧ Bad C H E) ∨ ∃ xs, ms = some xs ∧ isC ms = true ∧ (isCh ((xs.length : Nat) : Int) us = true → ∀ H', Same H H' → Q .non H') ∧ (isCh ((xs.length : Nat) : Int) us = false → Bad C H E))
end
end KV

/-! enumerate(tuple) in a for -/
namespace KV
open PySem PySem.Spec PyProof.Rows L2
open AutoSeq1 (wpAny_loadPart')
/-- what stands behind enumerate(t) -/
def enumHeap (hp : Heap) (a : Addr) : Heap :=
  (hp.push { cls := .type "tuple_iterator", data := .fields #[.ref a, .int 0 0] }).push { cls := .type "enumerate", data := .fields #[.none, .bool false, .ref hp.objs.size, rawInt 0, .none, .none] }
theorem enum_newT (a : Addr) (xs : Array Value) (k : Nat) (dd : Option Addr) (sl : Array (Option Value)) :
    Meets (Builtin.«enumerate.__new__» ⟨[.type "enumerate", .ref a], []⟩) (fun _ R st => st.heap.get? a = some { cls := .type "tuple", dict := dd, data := .seq xs k, slots := sl } ∧
      R (.ok (.ret (.ref (st.heap.push { cls := .type "tuple_iterator", data := .fields #[.ref a, .int 0 0] }).objs.size))) { st with heap := enumHeap st.heap a }) :=
  .of_wp fun P w B R st z => by
    obtain ⟨hp, gn, dr, tk, os⟩ := st; obtain ⟨ho, z⟩ := z
    have hsub := sub_enumerate
    have hT : Heap.IsTuple (Shared.heap ⟨hp, gn, dr, tk, os⟩) a xs := ⟨_, ho, rfl, k, rfl⟩
    wp_walk using wpAny_loadPart' ho
    refine wpAny_stack_any fun stk => wpAny_pure ?_
    split
    · rename_i c _ _ _ _ _
      cases (c == Value.type "enumerate")
      · wp_walk using wpAny_loadPart' ho, wpAny_pyIter_tuple hT
        exact ⟨_, rfl, z⟩
      · wp_walk using wpAny_loadPart' ho, wpAny_pyIter_tuple hT
        exact ⟨_, rfl, z⟩
    · wp_walk using wpAny_loadPart' ho, wpAny_pyIter_tuple hT
      exact ⟨_, rfl, z⟩
theorem call_enumT {P : Program} {w : World} {B : Around} {E : Value → Shared → Prop} {st : Shared} {a : Addr} {xs : Array Value} {Q : Value → Shared → Prop} (hT : IsTup st.heap a xs)
    (z : IsEnum (enumHeap st.heap a) (st.heap.objs.size + 1) st.heap.objs.size 0 .none → (enumHeap st.heap a).IsTupleIter st.heap.objs.size a 0 →
      (∀ b o, st.heap.get? b = some o → (enumHeap st.heap a).get? b = some o) → Q (.ref (st.heap.objs.size + 1)) { st with heap := enumHeap st.heap a }) :
    wpAny (model P w) B (call (.type "enumerate") [.ref a]) Q E st := by
  obtain ⟨⟨c, dd, dt, sl⟩, ho, hc, k, hd⟩ := hT
  have hc2 : c = .type "tuple" := hc
  have hd2 : dt = .seq xs k := hd
  subst hc2 hd2
  refine callType_new F.called_enumerate (by decide) (F.typeCall_enumerate_1 _) (F.newCall_enumerate_1 _) (fun obj => F.args_object_init_2 obj _) F.entry_enumerate_new (enum_newT a xs k dd sl) ⟨ho, ?_⟩
  have one : (st.heap.push { cls := .type "tuple_iterator", data := .fields #[.ref a, .int 0 0] }).objs.size = st.heap.objs.size + 1 := Heap.size_push ..
  show _ ∧ _
  rw [one]
  have en : IsEnum (enumHeap st.heap a) (st.heap.objs.size + 1) st.heap.objs.size 0 .none := by
    have q := Heap.get?_push_size (st.heap.push { cls := .type "tuple_iterator", data := .fields #[.ref a, .int 0 0] })
      (o := { cls := .type "enumerate", data := .fields #[.none, .bool false, .ref st.heap.objs.size, rawInt 0, .none, .none] }) rfl
    rw [one] at q
    exact q
  exact ⟨⟨_, en, rfl⟩, z en ⟨_, Heap.get?_push_of_some _ (Heap.get?_push_size _ rfl), rfl, rfl⟩ fun b o x => Heap.get?_push_of_some _ (Heap.get?_push_of_some _ x)⟩
/-- each item of the tuple at a, in a new pair -/
def Iet (K : PySem.W.Frag) (a : Addr) : It :=
  ⟨fun i H => ∃ (xs : List V) (x : V), SqT K H a xs ∧ xs[i]? = some x,
   fun i H v H' => ∃ T x, v = .ref T ∧ H T = none ∧ H' = upd H T (.tup [.int (i : Nat), x]) ∧ ∀ xs, SqT K H a xs → xs[i]? = some x,
   fun i H => ∃ xs : List V, SqT K H a xs ∧ xs.length ≤ i⟩
theorem turn_enumT {P : Program} {w : World} {K : PySem.W.Frag} {elts : List Expr} {kk : Nat} {tpos : Pos} (a e it : Addr) (hai : a ≠ it) (hea : e ≠ a) :
    Turn P w K (.Tuple elts kk tpos) (Iet K a) [e, it] e (fun i h => (∃ old, IsEnum h e it ((i : Nat) : Int) old) ∧ h.IsTupleIter it a i ∧ e ≠ it) where
  mem := by simp
  self := fun B i st Q E q z => let ⟨⟨_, he⟩, _⟩ := q; wpAny_pyIter_enum he z
  obj := fun i h q b hb => by
    obtain ⟨⟨old, he⟩, ⟨o, ho, hc, hd⟩, _⟩ := q
    rcases (show b = e ∨ b = it by simpa using hb) with z | z
    · rw [z]
      exact ⟨_, he, fun v y => nomatch y⟩
    · rw [z]
      exact ⟨o, ho, fun v y => by rw [hd] at y; cases y⟩
  keep := fun i h h' q k => let ⟨⟨old, he⟩, hi, hne⟩ := q; ⟨⟨old, k e (by simp) _ he⟩, hi.at fun o y => k it (by simp) o y, hne⟩
  item := by
    intro X hP hw hK hc i pins st σ H E I hf q hg
    subst hP hw hK
    obtain ⟨⟨old, he⟩, hit, hne⟩ := q
    obtain ⟨xs, x, hq, hx⟩ := hg
    obtain ⟨its, rv, p, hz⟩ := I.tuple hq
    obtain ⟨u, hu, ru⟩ := rv.get hx
    have el : e < st.heap.objs.size := Heap.lt_size he
    have il : it < st.heap.objs.size := by obtain ⟨_, y, _⟩ := hit; exact Heap.lt_size y
    have D := Draws.tuple (prog := X.prog) (w := X.w) (A := X.A.in1) (by exact I.ok.hd hc) it a hai its.toArray
    have hlt : i < its.toArray.size := by
      obtain ⟨y, _⟩ := List.getElem?_eq_some_iff.mp hu
      simpa using y
    refine wpAny_pyNext_enum_itemD D he ⟨hit, p⟩ hlt hne (by simp; exact ⟨hne, hea⟩) fun v h' tk hv ho hst hT hsz hk => ?_
    have huv : v = u := by
      have y : its.toArray[i]? = some v := hv
      have y2 : its.toArray[i]? = some u := by simpa using hu
      rw [y2] at y
      exact (Option.some.inj y).symm
    subst huv
    refine ⟨_, rfl, wpAny_letOwnedTupleGo_enum (s := { st with heap := h', toks := tk + 1 }) ho fun h2 he2 sb => ?_⟩
    have hT2 : h2.get? st.heap.objs.size = some { cls := .type "tuple", data := .seq #[.int i tk, v] } := (sb.2 _ (Nat.ne_of_gt el)).trans hT
    have new : ObjOk X.prog X.w (upd H st.heap.objs.size (.tup [.int (i : Nat), x])) h2 st.heap.objs.size (.tup [.int (i : Nat), x]) :=
      ⟨by show 2 ≤ sizeLine; decide, [.int i tk, v], .cons ⟨_, rfl⟩ (.cons ru .nil), ⟨_, hT2, rfl, _, rfl⟩⟩
    have I2 : Inv X pins σ (upd H st.heap.objs.size (.tup [.int (i : Nat), x])) { st with heap := h2, toks := tk + 1 } :=
      I.turnedNew (ch := [e, it]) (fun b ob hb y => (sb.2 b (fun z => hb (by simp [z]))).trans (hk b ob (fun z => hb (by simp [z])) (fun z => hb (by simp [z])) y)) hf (Nat.le_refl _) new
    refine ⟨.ref st.heap.objs.size, _, I2, rfl, ⟨_, x, rfl, I.hok.fresh (Nat.le_refl _), rfl, fun ys hy => by rw [I.tuple_inj hy hq]; exact hx⟩, ⟨⟨v, ?_⟩, hst.1.at fun o y => (sb.2 it (Ne.symm hne)).trans y, hne⟩, fun b hb => ?_⟩
    · have e1 : ((i + 1 : Nat) : Int) = (i : Int) + 1 := by omega
      rw [e1]
      exact he2
    · have lt : b < st.heap.objs.size := by
        rcases (show b = e ∨ b = it by simpa using hb) with z | z
        · rw [z]
          exact el
        · rw [z]
          exact il
      rw [upd_ne (Nat.ne_of_lt lt)]
      exact (hf b hb).1
  done := by
    intro X hP hw hK hc i pins st σ H E I hf q hg
    subst hP hw hK
    obtain ⟨⟨old, he⟩, hit, hne⟩ := q
    obtain ⟨xs, hq, hx⟩ := hg
    obtain ⟨its, rv, p, hz⟩ := I.tuple hq
    obtain ⟨f0, f1, f2, f3, f4, f5⟩ := hf it (by simp)
    have hl := rv.length
    unfold pyNext
    have hT : st.TypeIs (.ref e) "enumerate" := ⟨_, he, rfl⟩
    refine wpAny_bind (wpAny_attempt (wpAny_callSpecial?_slot (name := Str.ofString "__next__") hT F.slot_enumerate_next
      (wpAny_call_entry F.slot_enumerate_next hT F.entry_enumerate_next ?_ (F.args_enumerate_next_1 _))))
    show wpAny _ _ (field (.ref e) 2 >>= _) _ _ _
    refine wpAny_bind (wpAny_field he rfl (x := .ref it) rfl ?_)
    refine wpAny_bind (wpAny_nextOf_tuple_end (I.ok.hd hc) hit (show st.heap.IsTuple a its.toArray from p) (by simp; omega) fun h' x he' hx' => ?_)
    obtain ⟨o, ho, hc'⟩ := hx'
    refine wpAny_bind (wpAny_isInstance (T := "StopIteration") (b := true) ⟨o, ho, hc'⟩ isSubtype_stop ?_)
    exact wpAny_pure ⟨rfl, I.turned (t' := st.toks) (fun b o hb y => he' b o hb y) f0 f1 f3 f4 f5⟩
def iEnumT (K : PySem.W.Frag) (ta : TA) : TI := fun σ H R => ta σ H fun vs H1 => ∃ a xs, vs = [.ref a] ∧ SqT K H1 a xs ∧ R (Iet K a) H1
theorem pi_enumT {X : Cx} {e : Expr} {ta : TA} {p pos tpos : Pos} {elts : List Expr} {kk : Nat} (hg : Gl X "enumerate") (hm : X.mg "enumerate" = none) (ha : PA X [e] ta) (hs : starEach [e] X.env = [(false, eval e X.env)] := by rfl) :
    PI X (.Tuple elts kk tpos) (.Call (.Name "enumerate" p) [e] [] pos) (iEnumT X.K ta) := by
  constructor
  intro pins st σ H R I h
  refine Call_ (ld_blt I hg hm boot_enumerate (PyProof.Rows.callWith_type1 (thn (ha.run pos pins st σ H _ I h) fun us s1 ⟨vs, H1, I1, r1, q1⟩ => ?_) hs rfl))
  obtain ⟨a, xs, ex, hq, q⟩ := q1
  subst ex
  cases r1 with
  | cons r rr =>
    cases rr
    cases r
    obtain ⟨its, rv, p', hz⟩ := I1.tuple hq
    refine call_enumT p' fun en hit hk => wpAny_pyIter_enum en ?_
    have al : a < s1.heap.objs.size := p'.lt
    refine ⟨s1.heap.objs.size + 1, [s1.heap.objs.size + 1, s1.heap.objs.size], _, _, H1, rfl, I1.kept (t' := s1.toks) hk, turn_enumT a (s1.heap.objs.size + 1) s1.heap.objs.size (Nat.ne_of_lt al) (Nat.ne_of_gt (Nat.lt_succ_of_lt al)), ⟨⟨.none, en⟩, hit, Nat.succ_ne_self _⟩, fun b hb => ?_, q⟩
    have le : s1.heap.objs.size ≤ b := by
      rcases (show b = s1.heap.objs.size + 1 ∨ b = s1.heap.objs.size by simpa using hb) with z | z
      · rw [z]
        exact Nat.le_succ _
      · rw [z]
        exact Nat.le_refl _
    exact I1.fpOk le (I1.hok.fresh le)
/-- the loop -/
theorem for_enumT {K : PySem.W.Frag} {a : Addr} {xs : List V} {g : TG} {tb : TS} {D : Ends} {σ : L2.St} {H : Hp} (Pv : Nat → L2.St → Hp → Prop) (h0 : Pv 0 σ H) (hl : ∀ i σ H, i ≤ xs.length → Pv i σ H → SqT K H a xs)
    (hs : ∀ i x σ H T, xs[i]? = some x → Pv i σ H → H T = none → g (.ref T) σ (upd H T (.tup [.int (i : Nat), x])) fun σ2 H2 => tb { D with nx := Pv (i + 1), ct := Pv (i + 1), bk := D.nx } σ2 H2) (hd : ∀ σ H, Pv xs.length σ H → D.nx σ H) :
    ∃ W : Nat → Nat → L2.St → Hp → Prop, (∃ m, W 0 m σ H) ∧ ∀ i m σ H, W i m σ H → ((Iet K a).stop i H ∧ D.nx σ H) ∨ ((Iet K a).go i H ∧ ∃ N : L2.St → Hp → Prop, (∀ σ' H', N σ' H' → ∃ m', m' < m ∧ W (i + 1) m' σ' H') ∧
      ∀ x H', (Iet K a).yld i H x H' → g x σ H' fun σ2 H2 => tb { D with nx := N, ct := N, bk := D.nx } σ2 H2) := by
  refine ⟨fun i m σ H => m = xs.length - i ∧ i ≤ xs.length ∧ Pv i σ H, ⟨xs.length, by simp, Nat.zero_le _, h0⟩, ?_⟩
  intro i m σ H w
  obtain ⟨em, hi, p⟩ := w
  subst em
  have q := hl i σ H hi p
  by_cases lt : i < xs.length
  · refine .inr ⟨⟨xs, xs[i], q, by simp [lt]⟩, Pv (i + 1), fun σ' H' p' => ⟨xs.length - (i + 1), by omega, rfl, lt, p'⟩, fun x H' y => ?_⟩
    obtain ⟨T, y1, rfl, hT, rfl, y2⟩ := y
    exact hs i y1 σ H T (y2 xs q) p hT
  · have e : i = xs.length := by omega
    subst e
    exact .inl ⟨⟨xs, q, Nat.le_refl _⟩, hd σ H p⟩
end KV

/-! changes made -/
namespace KV
open PySem PySem.Spec PyProof.Rows L2 KC
section
variable {P : Program} {w : World} {K : PySem.W.Frag} {mg : Str → Option Value} {base : Heap} {C fI : Addr}
/-- composed(one, other) -/
def spComp : Sp := fun vs H Q _ => ∃ (a b : Addr) (c e : List Nat), vs = [.ref a, .ref b] ∧ H a = some (.tup (vi c)) ∧ H b = some (.tup (vi e)) ∧ (∀ x ∈ c, x < e.length) ∧ c.length ≤ 16 ∧
  ∀ t H', Same H H' → H t = none → H' t = some (.tup (vi (comp c e))) → Q (.ref t) H'
/-- undone(change) -/
def spUnd : Sp := fun vs H Q _ => ∃ (a : Addr) (n : Nat) (c : List Nat), vs = [.ref a] ∧ H a = some (.tup (vi c)) ∧ Chg n c ∧ n ≤ 16 ∧ ∀ t H' e, Same H H' → H t = none → H' t = some (.tup (vi e)) → Und n c e → Q (.ref t) H'
theorem rep_int (n : Nat) (i : Int) : (List.replicate n [V.int i]).flatten = List.replicate n (V.int i) := by
  induction n with
  | zero => rfl
  | succ n ih => rw [List.replicate_succ, List.flatten_cons, ih, List.replicate_succ]; rfl
theorem rep_v (n : Nat) (v : V) : (List.replicate n [v]).flatten = List.replicate n v := by
  induction n with
  | zero => rfl
  | succ n ih => rw [List.replicate_succ, List.flatten_cons, ih, List.replicate_succ]; rfl
theorem vi_rep (n : Nat) : vi (List.replicate n 0) = List.replicate n (V.int 0) := by
  unfold vi
  rw [List.map_replicate]
  rfl
theorem ix_ok {α : Type} {xs : List α} {i : Nat} (h : i < xs.length) : ixN xs.length ((i : Nat) : Int) = some i := by
  unfold L2.ixN
  rw [if_pos (by omega), if_pos (by omega)]
  simp
end
end KV

/-! orders, loops, and the defs that check first -/
namespace KV
open PySem PySem.Spec PyProof.Rows L2 KC
theorem canLay_ints : ∀ ns : List Int, PyData.canLayAll0 (ns.map PyData.int) = true
  | [] => rfl
  | n :: r => by simp only [List.map_cons, PyData.canLayAll0, PyData.canLay0, canLay_ints r, Bool.and_self]
theorem shaped_intsT (ns : List Int) : SeqAt.shaped (.tuple (ns.map PyData.int)) = true := by
  unfold SeqAt.shaped
  simp only [PyData.canLay0, canLay_ints, PyData.depth, depth_ints]
  decide
theorem eqv_ints : ∀ ns ms : List Int, PyData.eqvAll (ns.map PyData.int) (ms.map PyData.int) = decide (ns = ms)
  | [], [] => rfl
  | [], _ :: _ => rfl
  | _ :: _, [] => rfl
  | n :: r, m :: s => by
    show (PyData.eqv (.int n) (.int m) && PyData.eqvAll (r.map PyData.int) (s.map PyData.int)) = _
    rw [eqv_ints r s]
    have e : PyData.eqv (.int n) (.int m) = decide (n = m) := by
      show (n == m) = _
      by_cases z : n = m <;> simp [z]
    rw [e]
    by_cases z : n = m <;> by_cases y : r = s <;> simp [z, y]
def zi (c : List Nat) : List Int := c.map fun (n : Nat) => (n : Int)
theorem vi_zi (c : List Nat) : vi c = (zi c).map V.int := by
  unfold zi
  rw [List.map_map]
  rfl
theorem zi_inj : ∀ {c e : List Nat}, zi c = zi e ↔ c = e
  | [], [] => by simp [zi]
  | [], _ :: _ => by simp [zi]
  | _ :: _, [] => by simp [zi]
  | a :: c, b :: e => by
    have ih := zi_inj (c := c) (e := e)
    unfold zi at ih ⊢
    simp only [List.map_cons, List.cons.injEq, Int.natCast_inj, ih]
theorem dpT {K : PySem.W.Frag} {H : Hp} {a : Addr} {c : List Nat} (h : H a = some (.tup (vi c))) : Dp K H (.ref a) (.tuple ((zi c).map PyData.int)) := .tup (SqT.of h) (by rw [vi_zi]; exact dp_ints (zi c))
theorem eqT {K : PySem.W.Frag} {H : Hp} {a b : Addr} {c e : List Nat} {Q : VK} (h1 : H a = some (.tup (vi c))) (h2 : H b = some (.tup (vi e))) (q : Q (.bl (decide (c = e))) H) : rEqD K (.ref a) (.ref b) H Q :=
  ⟨_, _, dpT h1, dpT h2, shaped_intsT _, shaped_intsT _, by
    have z : PyData.eqv (.tuple ((zi c).map PyData.int)) (.tuple ((zi e).map PyData.int)) = decide (c = e) := by
      show PyData.eqvAll _ _ = _
      rw [eqv_ints, decide_eq_decide]
      exact zi_inj
    rw [z]
    exact q⟩
theorem neT {K : PySem.W.Frag} {H : Hp} {a b : Addr} {c e : List Nat} {Q : VK} (h1 : H a = some (.tup (vi c))) (h2 : H b = some (.tup (vi e))) (q : Q (.bl (!decide (c = e))) H) : rNeD K (.ref a) (.ref b) H Q :=
  ⟨_, _, dpT h1, dpT h2, shaped_intsT _, shaped_intsT _, by
    have z : PyData.eqv (.tuple ((zi c).map PyData.int)) (.tuple ((zi e).map PyData.int)) = decide (c = e) := by
      show PyData.eqvAll _ _ = _
      rw [eqv_ints, decide_eq_decide]
      exact zi_inj
    rw [z]
    exact q⟩
end KV

/-! the law's draws -/
namespace KV
open PySem PySem.Spec PyProof.Rows L2 KC
theorem shaped_ints (ns : List Int) : SeqAt.shaped (.list (ns.map PyData.int)) = true := by
  unfold SeqAt.shaped
  simp only [PyData.canLay0, canLay_ints, PyData.depth, depth_ints]
  decide
theorem dpL {K : PySem.W.Frag} {H : Hp} {a : Addr} {ns : List Int} (h : SqL K H a (ns.map V.int)) : Dp K H (.ref a) (.list (ns.map PyData.int)) := .lst h (dp_ints ns)
/-- xs != ys, xs == ys of lists of ints: the answer -/
theorem neL {K : PySem.W.Frag} {H : Hp} {a b : Addr} {ns ms : List Int} {Q : VK} (h1 : SqL K H a (ns.map V.int)) (h2 : SqL K H b (ms.map V.int)) (q : Q (.bl (!decide (ns = ms))) H) : rNeD K (.ref a) (.ref b) H Q :=
  ⟨_, _, dpL h1, dpL h2, shaped_ints ns, shaped_ints ms, by
    have e : PyData.eqv (.list (ns.map PyData.int)) (.list (ms.map PyData.int)) = decide (ns = ms) := eqv_ints ns ms
    rw [e]
    exact q⟩
theorem eqL {K : PySem.W.Frag} {H : Hp} {a b : Addr} {ns ms : List Int} {Q : VK} (h1 : SqL K H a (ns.map V.int)) (h2 : SqL K H b (ms.map V.int)) (q : Q (.bl (decide (ns = ms))) H) : rEqD K (.ref a) (.ref b) H Q :=
  ⟨_, _, dpL h1, dpL h2, shaped_ints ns, shaped_ints ms, by
    have e : PyData.eqv (.list (ns.map PyData.int)) (.list (ms.map PyData.int)) = decide (ns = ms) := eqv_ints ns ms
    rw [e]
    exact q⟩
/-- the source of draws at d, its cells at c -/
def Dl (H : Hp) (d c : Addr) : Prop := d ≠ c ∧ ∃ (cs : List Int) (b : Int), H d = some (.lst [.ref c, .int b]) ∧ H c = some (.lst (cs.map V.int)) ∧ (∀ x ∈ cs, 0 ≤ x) ∧ cs.length ≤ 64 ∧ 0 ≤ b ∧ b < 2147483648
/-- all else stands -/
def Kp (d c : Addr) (H H' : Hp) : Prop := ∀ b o, b ≠ d → b ≠ c → H b = some o → H' b = some o
theorem Kp.refl {d c : Addr} {H : Hp} : Kp d c H H := fun _ _ _ _ h => h
theorem Kp.trans {d c : Addr} {H H1 H2 : Hp} (a : Kp d c H H1) (b : Kp d c H1 H2) : Kp d c H H2 := fun x o h1 h2 h => b x o h1 h2 (a x o h1 h2 h)
theorem Kp.of {d c : Addr} {H H' : Hp} (s : Same H H') : Kp d c H H' := fun b o _ _ h => s b o h
theorem Kp.upd_d {d c : Addr} {H H' : Hp} {o : HO} (k : Kp d c H H') : Kp d c H (upd H' d o) := fun b u h1 h2 h => by
  rw [upd_ne h1]
  exact k b u h1 h2 h
theorem Kp.upd_c {d c : Addr} {H H' : Hp} {o : HO} (k : Kp d c H H') : Kp d c H (upd H' c o) := fun b u h1 h2 h => by
  rw [upd_ne h2]
  exact k b u h1 h2 h
theorem Kp.new {d c p : Addr} {H H' : Hp} {o : HO} (k : Kp d c H H') (hp : H' p = none) : Kp d c H (upd H' p o) := k.trans (Kp.of (Same.new hp))
theorem Kp.free {d c p : Addr} {H H' : Hp} (k : Kp d c H H') (hd : p ≠ d) (hc : p ≠ c) (hp : H' p = none) : H p = none := by
  cases e : H p with
  | none => rfl
  | some o =>
    rw [k p o hd hc e] at hp
    cases hp
theorem Dl.same {H H' : Hp} {d c : Addr} (h : Dl H d c) (s : Same H H') : Dl H' d c := by
  obtain ⟨n, cs, b, h1, h2, r⟩ := h
  exact ⟨n, cs, b, s _ _ h1, s _ _ h2, r⟩
theorem Dl.ne {H : Hp} {d c p : Addr} (h : Dl H d c) (hp : H p = none) : p ≠ d ∧ p ≠ c := by
  obtain ⟨_, cs, b, h1, h2, _⟩ := h
  exact ⟨fun e => (by rw [e, h1] at hp; cases hp), fun e => (by rw [e, h2] at hp; cases hp)⟩
theorem Dl.neT {H : Hp} {d c p : Addr} {xs : List V} (h : Dl H d c) (hp : H p = some (.tup xs)) : p ≠ d ∧ p ≠ c := by
  obtain ⟨_, cs, b, h1, h2, _⟩ := h
  exact ⟨fun e => (by rw [e, h1] at hp; cases hp), fun e => (by rw [e, h2] at hp; cases hp)⟩
section
variable {P : Program} {w : World} {K : PySem.W.Frag} {mg : Str → Option Value} {base : Heap}
def spDraw (K : PySem.W.Frag) : Sp := fun vs H Q _ => ∃ (a : Addr) (ns : List Int) (sa : Int), vs = [.ref a, .int sa] ∧ SqL K H a (ns.map V.int) ∧ 0 ≤ sa ∧ sa < 1000 ∧ ∀ H' d c, Same H H' → H d = none → H c = none → Dl H' d c → Q (.ref d) H'
theorem sk17 : FnScope ["_law_script", "_law_salt", "_law_cell", "_law_cells", "_law_blend"] ["_law_script", "_law_salt"] (defScope (top 45)) := ⟨rfl, rfl, rfl, by decide +kernel, rfl, by decide +kernel, by decide +kernel⟩
theorem ok_draw {f : Addr} {fd : FuncData} (B : Bl mg) (F : Fun K "_law_draw" "_law_draw" (top 45) f fd) : FnOk P w K mg base CX0 1 f fd ["_law_script", "_law_salt"] (spDraw K) := by
  refine F.ok sk17 (fun vs H Q E h => ?_) (fun cdv A outer s H vs Q E hr h => ⟨_,
    pss_cons (ps_setLc (i := 3) (own := [("_law_cell", 2)]) (g := gName 2) (tt := tYes) rfl sk17.nd rfl rfl (sw_true rfl rfl rfl (by decide +kernel)) (pi_list (pe_slice sl_list (pv 0) po_none (po_some pe_int)))
      (blkOk_by (N := ["_law_script", "_law_salt", "_law_cell", "_law_cells", "_law_blend"]) (sc := defScope (top 45)) (by decide +kernel)) (fun _ _ _ _ _ => pg_name (i := 2) sk17.nd rfl (Or.inl rfl)) (fun _ _ _ _ _ => pts_nil)
      (fun _ _ _ _ _ => pe_callB call_abs (by rfl) B.abs (by decide +kernel) (pa_cons (pe_callTy call_int1 (by rfl) B.int PyProof.Rows.boot_int (pa_cons (pv 2) pa_nil)) pa_nil)))
    (pss_cons (ps_set (i := 4) sk17.nd rfl (.inl rfl) (pe_op op_add pe_int (pe_op op_mul pe_int (pv 1))))
    (pss_cons (ps_for PassesOwn.never rfl (pi_list (pv 3)) (pg_name (i := 2) sk17.nd rfl (.inl rfl))
      (pss_one (ps_set (i := 4) sk17.nd rfl (.inl rfl) (pe_op op_mod (pe_callTy call_int1 (by rfl) B.int PyProof.Rows.boot_int (pa_cons (pe_op op_add (pe_op op_add (pe_op op_mul (pv 4) pe_int) (pe_op op_mod (pv 2) pe_int)) pe_int) pa_nil)) pe_int))))
    (pss_one (ps_ret (pe_lst (pa_cons (pe_revL
      (pe_lc (own := [("_law_cell", 2)]) (g := gName 2) rfl sk17.nd (pi_list (pv 3)) (blkOk_by (N := ["_law_script", "_law_salt", "_law_cell", "_law_cells", "_law_blend"]) (sc := defScope (top 45)) (by decide +kernel))
        (fun _ _ _ _ _ => pg_name (i := 2) sk17.nd rfl (Or.inl rfl)) (fun _ _ _ _ _ => pts_one (pt_cmpR op_ge (pv 2) (pe_op op_pow pe_int pe_int) (nomark _))) (fun _ _ _ _ _ => pv 2))) (pa_cons (pv 4) pa_nil))))))), ?_⟩)
  · obtain ⟨a, ns, sa, rfl, _⟩ := h
    rfl
  obtain ⟨a, ns, sa, rfl, hS, s0, s1, q⟩ := h
  refine ⟨_, rfl, _, rfl, a, _, rfl, hS, fun p hp => ?_⟩
  have ecut : cutV (ns.map V.int) none (some 48) = (ns.take 48).map V.int := by
    unfold cutV
    have e1 : HT.sIx (ns.map V.int).length 0 none = 0 := rfl
    have e2 : HT.sIx (ns.map V.int).length (ns.map V.int).length (some 48) = min 48 (ns.map V.int).length := HT.sIx_nat _ _ 48
    rw [e1, e2, List.drop_zero, Nat.sub_zero, List.length_map, List.map_take]
    rw [← List.length_map (f := V.int) (as := ns)]
    exact List.take_eq_take_min.symm
  have sp : Same H (upd H p (.lst (cutV (ns.map V.int) none (some 48)))) := Same.new hp
  have hpS : SqL K (upd H p (.lst (cutV (ns.map V.int) none (some 48)))) p ((ns.take 48).map V.int) := SqL.of (by rw [upd_same, ecut])
  generalize upd H p (.lst (cutV (ns.map V.int) none (some 48))) = H1 at sp hpS
  have l48 : (ns.take 48).length ≤ 48 := by rw [List.length_take]; omega
  generalize ns.take 48 = ms at hpS l48
  refine ⟨p, rfl, ⟨_, hpS⟩, fun D hD => lc_list (xs := ms.map V.int) (fun i H' => Same H1 H' ∧ ∃ cs : List Int, cs.length = i ∧ (∀ x ∈ cs, 0 ≤ x) ∧ H' D = some (.lst (cs.map V.int))) ⟨Same.new hD, [], rfl, fun _ z => by simp at z, upd_same⟩
    (fun i H' _ z => z.1.seq hpS) ?_ ?_⟩
  · rintro i x H' hx ⟨p1, cs, cl, c0, p2⟩
    obtain ⟨m, hm, rfl⟩ := map_at hx
    have hi := (List.getElem?_eq_some_iff.mp hm).1
    refine ⟨rfl, _, rfl, .inl ⟨m, rfl, m, rfl, cs.map V.int, p2, len_lt (by rw [List.length_map]; omega), Same.upd p1 hD, cs ++ [if m < 0 then -m else m], by simp [cl], fun y hy => ?_, ?_⟩⟩
    · rcases List.mem_append.mp hy with hy | hy
      · exact c0 y hy
      · have : y = if m < 0 then -m else m := by simpa using hy
        rw [this]
        split <;> omega
    · rw [upd_same, List.map_append]
      rfl
  · rintro H' ⟨p1, cs, cl, c0, p2⟩
    rw [List.length_map] at cl
    refine ⟨_, rfl, _, _, rfl, rfl, .inl ⟨by decide, by omega⟩, _, _, rfl, rfl, ?_⟩
    refine ⟨_, rfl, D, rfl, ⟨_, SqL.of p2⟩, for_list (xs := cs.map V.int) (fun i σ H2 => (∃ (u : Option V) (b : Int), 0 ≤ b ∧ b < 2147483648 ∧ σ = [some (.ref a), some (.int sa), u, some (.ref D), some (.int b)]) ∧ H2 = H')
      ⟨⟨none, _, ?_, ?_, rfl⟩, rfl⟩ ?_ ?_ ?_⟩
    · show 0 ≤ 7919 + 104729 * sa
      omega
    · show 7919 + 104729 * sa < 2147483648
      omega
    · rintro i σ H2 _ ⟨_, rfl⟩
      exact SqL.of p2
    · rintro i x σ H2 hx ⟨⟨u, b, b0, b1, rfl⟩, rfl⟩
      obtain ⟨m, hm, rfl⟩ := map_at hx
      refine ⟨_, rfl, _, _, rfl, rfl, .inl ⟨by omega, by omega⟩, _, rfl, _, _, rfl, rfl, (by show (0 : Int) < 2147483549; decide), _, _, rfl, rfl, _, _, rfl, rfl, .inl ⟨_, rfl, _, _, rfl, rfl, (by show (0 : Int) < 2147483647; decide), ⟨some (.int m), _, ?_, ?_, rfl⟩, rfl⟩⟩
      · exact Int.emod_nonneg _ (by decide)
      · have := Int.emod_lt_of_pos (b * 48271 + m % 2147483549 + 11) (show (0 : Int) < 2147483647 by decide)
        omega
    · rintro σ H2 ⟨⟨u, b, b0, b1, rfl⟩, rfl⟩
      refine ⟨_, rfl, D, rfl, ⟨_, SqL.of p2⟩, fun D2 hD2 => lc_list (xs := cs.map V.int) (fun i H3 => Same H2 H3 ∧ ∃ es : List Int, es.length ≤ i ∧ (∀ x ∈ es, 0 ≤ x) ∧ H3 D2 = some (.lst (es.map V.int))) ⟨Same.new hD2, [], Nat.le_refl _, fun _ z => by simp at z, upd_same⟩
        (fun i H3 _ z => z.1.seq (SqL.of p2)) ?_ ?_⟩
      · rintro i x H3 hx ⟨q1, es, el, e0, q2⟩
        obtain ⟨m, hm, rfl⟩ := map_at hx
        have hi := (List.getElem?_eq_some_iff.mp hm).1
        refine ⟨rfl, _, rfl, _, _, rfl, rfl, ⟨by decide, by decide, by decide⟩, _, _, rfl, rfl, _, rfl, ?_⟩
        cases decide ((10 : Int) ^ (18 : Int).toNat ≤ m) with
        | true =>
          refine iteT ⟨_, rfl, es.map V.int, q2, len_lt (by rw [List.length_map]; omega), Same.upd q1 hD2, es ++ [m], by simp; omega, fun y hy => ?_, ?_⟩
          · rcases List.mem_append.mp hy with hy | hy
            · exact e0 y hy
            · have : y = m := by simpa using hy
              rw [this]
              exact c0 m (List.mem_of_getElem? hm)
          · rw [upd_same, List.map_append]
            rfl
        | false => exact iteF ⟨q1, es, by omega, e0, q2⟩
      · rintro H3 ⟨q1, es, el, e0, q2⟩
        rw [List.length_map] at el
        refine ⟨D2, _, rfl, SqL.of q2, fun c hc => ⟨_, rfl, (by show 2 ≤ sizeLine; decide), fun d hd => ?_⟩⟩
        have t1 : Same H H3 := (sp.trans p1).trans q1
        have t2 : Same H (upd H3 c (.lst (es.map V.int).reverse)) := Same.upd t1 (t1.free hc)
        have dc : d ≠ c := fun e => by
          rw [e, upd_same] at hd
          cases hd
        refine q _ d c (Same.upd t2 (t2.free hd)) (t2.free hd) (t1.free hc) ⟨dc, es.reverse, b, upd_same, ?_, fun x hx => e0 x (by simpa using hx), by rw [List.length_reverse]; omega, b0, b1⟩
        rw [upd_ne (Ne.symm dc), upd_same, List.map_reverse]
end
end KV

/-! any, of, divisor -/
namespace KV
open PySem PySem.Spec PyProof.Rows L2 KC
section
variable {P : Program} {w : World} {K : PySem.W.Frag} {mg : Str → Option Value} {base : Heap}
def spAny : Sp := fun vs H Q _ => ∃ (d c : Addr) (m : Int), vs = [.ref d, .int m] ∧ Dl H d c ∧ 0 < m ∧ sm 200 m ∧ ∀ r H', 0 ≤ r → r < m → Dl H' d c → Kp d c H H' → Q (.int r) H'
theorem sk18 : FnScope ["_law_deal", "_law_bound", "_law_rest"] ["_law_deal", "_law_bound"] (defScope (top 46)) := ⟨rfl, rfl, rfl, by decide +kernel, rfl, by decide +kernel, by decide +kernel⟩
theorem at0 {x y : V} : atI [x, y] 0 = some x := rfl
theorem at1 {x y : V} : atI [x, y] 1 = some y := rfl
theorem at_last {es : List Int} {e : Int} : atI ((es ++ [e]).map V.int) (-1) = some (.int e) := by
  have hl : ((es ++ [e]).map V.int).length = es.length + 1 := by simp
  unfold atI L2.ixN
  rw [hl, if_neg (by decide), if_pos (by omega)]
  have e1 : (-1 + ((es.length + 1 : Nat) : Int)).toNat = es.length := by omega
  show ((es ++ [e]).map V.int)[(-1 + ((es.length + 1 : Nat) : Int)).toNat]? = _
  rw [e1, List.map_append, List.getElem?_append_right (by simp)]
  simp
theorem last_at {es : List Int} {e : Int} : ((es ++ [e]).map V.int)[((es ++ [e]).map V.int).length - 1]? = some (V.int e) := by
  rw [List.map_append, List.getElem?_append_right (by simp)]
  simp
theorem last_drop {es : List Int} {e : Int} : ((es ++ [e]).map V.int).dropLast = es.map V.int := by
  rw [List.map_append]
  exact List.dropLast_concat
def AnyW (d c : Addr) (m b : Int) (H : Hp) (k : Nat) (σ : L2.St) (H' : Hp) : Prop := σ = [some (.ref d), some (.int m), none] ∧ Kp d c H H' ∧ ∃ es : List Int, k = es.length ∧ (∀ x ∈ es, 0 ≤ x) ∧ es.length ≤ 64 ∧ H' d = some (.lst [.ref c, .int b]) ∧ H' c = some (.lst (es.map V.int))
theorem ok_any {f : Addr} {fd : FuncData} (B : Bl mg) (F : Fun K "_law_any" "_law_any" (top 46) f fd) : FnOk P w K mg base CX0 1 f fd ["_law_deal", "_law_bound"] spAny := by
  refine F.ok sk18 (fun vs H Q E h => ?_) (fun cdv A outer s H vs Q E hr h => ⟨_,
    pss_cons (ps_while PassesOwn.never (PW.pt (pw_and (pt_cmpR (op_neD hr.units) (pe_ix ix_list (pv 0) pe_int (fun _ _ => rfl)) (pe_lst pa_nil) (nomark _))
        (pw_and1 (pt_cmpR op_eq (pe_ix ix_list (pe_ix ix_list (pv 0) pe_int (fun _ _ => rfl)) (pe_un un_neg pe_int) (fun _ _ => rfl)) pe_int (nomark _)))))
      (pss_one (ps_expr (pe_bm0 PySem.F.plainAttrs_list PySem.F.slot_list_pop PySem.F.type_list_pop mt_pop (pe_ix ix_list (pv 0) pe_int (fun _ _ => rfl))))))
    (pss_cons (ps_if (pt_cmpR (op_neD hr.units) (pe_ix ix_list (pv 0) pe_int (fun _ _ => rfl)) (pe_lst pa_nil) (nomark _))
      (pss_cons (ps_set (i := 2) sk18.nd rfl (.inl rfl) (pe_callTy call_int1 (by rfl) B.int PyProof.Rows.boot_int (pa_cons (pe_bm0 PySem.F.plainAttrs_list PySem.F.slot_list_pop PySem.F.type_list_pop mt_pop (pe_ix ix_list (pv 0) pe_int (fun _ _ => rfl))) pa_nil)))
      (pss_cons (ps_expr (pe_bm PySem.F.plainAttrs_list PySem.F.slot_list_append PySem.F.type_list_append mt_append (pe_ix ix_list (pv 0) pe_int (fun _ _ => rfl)) (pa_cons (pe_op op_fdivW (pv 2) (pv 1)) pa_nil)))
      (pss_one (ps_ret (pe_op op_mod (pv 2) (pv 1)))))) pss_nil)
    (pss_cons (ps_asg (pe_op op_mod (pe_callTy call_int1 (by rfl) B.int PyProof.Rows.boot_int (pa_cons (pe_op op_add (pe_op op_mul (pe_ix ix_list (pv 0) pe_int (fun _ _ => rfl)) pe_int) pe_int) pa_nil)) pe_int) (pg_sub (pv 0) pe_int set_list))
    (pss_one (ps_ret (pe_op op_mod (pe_callTy call_int1 (by rfl) B.int PyProof.Rows.boot_int (pa_cons (pe_op op_fdiv (pe_ix ix_list (pv 0) pe_int (fun _ _ => rfl)) pe_int) pa_nil)) (pv 1)))))), ?_⟩)
  · obtain ⟨d, c, m, rfl, _⟩ := h
    rfl
  obtain ⟨d, c, m, rfl, hD, m0, ms, q⟩ := h
  obtain ⟨dc, cs, b, h1, h2, c0, cl, b0, b1⟩ := hD
  refine sq_cut (fun σ H' => σ = [some (.ref d), some (.int m), none] ∧ Kp d c H H' ∧ ∃ es : List Int, (∀ x ∈ es, 0 ≤ x) ∧ es.length ≤ 64 ∧ H' d = some (.lst [.ref c, .int b]) ∧ H' c = some (.lst (es.map V.int))) (fun Z hZ => ?_) ?_
  · refine ⟨AnyW d c m b H,
      ⟨_, rfl, Kp.refl, cs, rfl, c0, cl, h1, h2⟩, ?_⟩
    rintro k σ H' ⟨rfl, hk, es, rfl, e0, el, g1, g2⟩
    refine ⟨_, rfl, d, _, _, _, rfl, rfl, SqL.of g1, at0, (by show 0 ≤ sizeLine; decide), fun p hp => ?_⟩
    have hpc : p ≠ c := fun e => by rw [e, g2] at hp; cases hp
    have hpd : p ≠ d := fun e => by rw [e, g1] at hp; cases hp
    have u1 : upd H' p (.lst []) d = some (.lst [.ref c, .int b]) := by rw [upd_ne (Ne.symm hpd)]; exact g1
    have u2 : upd H' p (.lst []) c = some (.lst (es.map V.int)) := by rw [upd_ne (Ne.symm hpc)]; exact g2
    have uk : Kp d c H (upd H' p (.lst [])) := hk.new hp
    have u3 : upd H' p (.lst []) p = some (.lst []) := upd_same
    generalize upd H' p (.lst []) = H1 at u1 u2 u3 uk
    refine neL (ns := es) (ms := []) (SqL.of u2) (SqL.of u3) ⟨_, rfl, ?_⟩
    rcases List.eq_nil_or_concat es with rfl | ⟨es', e, ee⟩
    · exact iteN (by simp) (iteF (hZ _ _ ⟨rfl, uk, [], fun _ z => by simp at z, by simp, u1, u2⟩))
    · rw [List.concat_eq_append] at ee
      subst ee
      refine iteP (by simp) ⟨_, rfl, d, _, _, _, rfl, rfl, SqL.of u1, at0, ?_⟩
      refine ⟨_, rfl, c, _, _, _, rfl, rfl, SqL.of u2, at_last, rfl, _, rfl, ?_⟩
      by_cases e1 : e = 0
      · refine iteP (by simp [e1]) ⟨fun σ H' => ∃ m', m' < (es' ++ [e]).length ∧ AnyW d c m b H m' σ H', fun _ _ z => z, _, rfl, d, _, _, _, rfl, rfl, SqL.of u1, at0, .inl ⟨rfl, _, SqL.of u2⟩, c, _, _, rfl, rfl, u2, last_at, ?_⟩
        rw [last_drop]
        refine ⟨es'.length, by simp, rfl, uk.upd_c, es', rfl, fun x hx => e0 x (by simp [hx]), by simp at el; omega, ?_, upd_same⟩
        rw [upd_ne dc]
        exact u1
      · exact iteN (by simp [e1]) (hZ _ _ ⟨rfl, uk, _, e0, el, u1, u2⟩)
  · rintro σ H' ⟨rfl, hk, es, e0, el, g1, g2⟩
    refine ⟨_, rfl, d, _, _, _, rfl, rfl, SqL.of g1, at0, (by show 0 ≤ sizeLine; decide), fun p hp => ?_⟩
    have hpc : p ≠ c := fun e => by rw [e, g2] at hp; cases hp
    have hpd : p ≠ d := fun e => by rw [e, g1] at hp; cases hp
    have u1 : upd H' p (.lst []) d = some (.lst [.ref c, .int b]) := by rw [upd_ne (Ne.symm hpd)]; exact g1
    have u2 : upd H' p (.lst []) c = some (.lst (es.map V.int)) := by rw [upd_ne (Ne.symm hpc)]; exact g2
    have uk : Kp d c H (upd H' p (.lst [])) := hk.new hp
    have u3 : upd H' p (.lst []) p = some (.lst []) := upd_same
    generalize upd H' p (.lst []) = H1 at u1 u2 u3 uk
    refine neL (ns := es) (ms := []) (SqL.of u2) (SqL.of u3) ⟨_, rfl, ?_⟩
    rcases List.eq_nil_or_concat es with rfl | ⟨es', e, ee⟩
    · refine iteN (by simp) ⟨_, rfl, d, _, _, _, rfl, rfl, SqL.of u1, at1, _, _, rfl, rfl, .inl ⟨by omega, by omega⟩, _, _, rfl, rfl, .inl ⟨_, rfl, _, _, rfl, rfl, (by show (0 : Int) < 2147483647; decide), _, rfl, d, _, _, _, rfl, rfl, u1, rfl, ?_⟩⟩
      have f0 := Int.emod_nonneg (b * 40693 + 71) (show (2147483647 : Int) ≠ 0 by decide)
      have f1 := Int.emod_lt_of_pos (b * 40693 + 71) (show (0 : Int) < 2147483647 by decide)
      obtain ⟨b', eb⟩ : ∃ b', b' = (b * 40693 + 71) % 2147483647 := ⟨_, rfl⟩
      rw [← eb] at f0 f1
      have e8 : [V.ref c, V.int b].set (Int.toNat 1) ((fun i j : Int => V.int (i % j)) (b * 40693 + 71) 2147483647) = [V.ref c, V.int b'] := by
        show [V.ref c, V.int ((b * 40693 + 71) % 2147483647)] = _
        rw [← eb]
      rw [e8]
      have w1 : upd H1 d (.lst [.ref c, .int b']) d = some (.lst [.ref c, .int b']) := upd_same
      have w2 : upd H1 d (.lst [.ref c, .int b']) c = some (.lst (([] : List Int).map V.int)) := by
        rw [upd_ne (Ne.symm dc)]
        exact u2
      have wk : Kp d c H (upd H1 d (.lst [.ref c, .int b'])) := uk.upd_d
      refine ⟨_, rfl, d, _, _, _, rfl, rfl, SqL.of w1, at1, _, _, rfl, rfl, ⟨by decide, by decide⟩, .inl ⟨_, rfl, _, rfl, _, _, rfl, rfl, m0, ?_⟩⟩
      exact q _ _ (Int.emod_nonneg _ (by omega)) (Int.emod_lt_of_pos _ m0) ⟨dc, [], b', w1, w2, fun _ z => by simp at z, by simp, f0, by omega⟩ wk
    · rw [List.concat_eq_append] at ee
      subst ee
      refine iteP (by simp) ⟨_, rfl, d, _, _, _, rfl, rfl, SqL.of u1, at0, .inl ⟨rfl, _, SqL.of u2⟩, c, _, _, rfl, rfl, u2, last_at, ?_⟩
      rw [last_drop]
      have w2 : upd H1 c (.lst (es'.map V.int)) c = some (.lst (es'.map V.int)) := upd_same
      have w1 : upd H1 c (.lst (es'.map V.int)) d = some (.lst [.ref c, .int b]) := by
        rw [upd_ne dc]
        exact u1
      have wk : Kp d c H (upd H1 c (.lst (es'.map V.int))) := uk.upd_c
      generalize upd H1 c (.lst (es'.map V.int)) = H3 at w1 w2 wk
      have el' : es'.length + 1 ≤ 64 := by simpa using el
      refine .inl ⟨e, rfl, _, rfl, d, _, _, _, rfl, rfl, SqL.of w1, at0, .inl ⟨rfl, _, SqL.of w2⟩, _, rfl, _, rfl, _, _, rfl, rfl, divW m0 ms (by decide) (by decide), c, _, _, rfl, rfl, w2, len_lt (by simp; omega), ?_⟩
      have x2 : upd H3 c (.lst (es'.map V.int ++ [V.int (e / m)])) c = some (.lst ((es' ++ [e / m]).map V.int)) := by rw [upd_same, List.map_append]; rfl
      have x1 : upd H3 c (.lst (es'.map V.int ++ [V.int (e / m)])) d = some (.lst [.ref c, .int b]) := by
        rw [upd_ne dc]
        exact w1
      have xk : Kp d c H (upd H3 c (.lst (es'.map V.int ++ [V.int (e / m)]))) := wk.upd_c
      generalize upd H3 c (.lst (es'.map V.int ++ [V.int (e / m)])) = H4 at x1 x2 xk
      refine ⟨_, rfl, _, rfl, _, _, rfl, rfl, m0, ?_⟩
      have e1 := e0 e (by simp)
      exact q _ _ (Int.emod_nonneg _ (by omega)) (Int.emod_lt_of_pos _ m0) ⟨dc, es' ++ [e / m], b, x1, x2, fun x hx => by
        rcases List.mem_append.mp hx with hx | hx
        · exact e0 x (by simp [hx])
        · have : x = e / m := by simpa using hx
          rw [this]
          exact Int.ediv_nonneg e1 (by omega), by simp; omega, b0, b1⟩ xk
end
end KV

/-! of, divisor -/
namespace KV
open PySem PySem.Spec PyProof.Rows L2 KC
theorem Kp.seqL {K : PySem.W.Frag} {d c : Addr} {H H' : Hp} {a : Addr} {xs : List V} (k : Kp d c H H') (hd : a ≠ d) (hc : a ≠ c) (h : SqL K H a xs) : SqL K H' a xs := by
  rcases h with (h | ⟨o, h⟩) | h
  · exact .inl (.inl (k _ _ hd hc h))
  · exact .inl (.inr ⟨o, k _ _ hd hc h⟩)
  · exact .inr h
theorem Kp.seqT {K : PySem.W.Frag} {d c : Addr} {H H' : Hp} {a : Addr} {xs : List V} (k : Kp d c H H') (hd : a ≠ d) (hc : a ≠ c) (h : SqT K H a xs) : SqT K H' a xs := by
  rcases h with (h | ⟨o, h⟩) | h
  · exact .inl (.inl (k _ _ hd hc h))
  · exact .inl (.inr ⟨o, k _ _ hd hc h⟩)
  · exact .inr h
section
variable {P : Program} {w : World} {K : PySem.W.Frag} {mg : Str → Option Value} {base : Heap}
def spOf (K : PySem.W.Frag) : Sp := fun vs H Q _ => ∃ (d c a : Addr) (xs : List V), vs = [.ref d, .ref a] ∧ Dl H d c ∧ a ≠ d ∧ a ≠ c ∧ SqL K H a xs ∧ 0 < xs.length ∧ xs.length ≤ 1000 ∧ ∀ (j : Nat) x H', xs[j]? = some x → Dl H' d c → Kp d c H H' → Q x H'
theorem sk19 : FnScope ["_law_deal", "_law_some"] ["_law_deal", "_law_some"] (defScope (top 47)) := ⟨rfl, rfl, rfl, by decide +kernel, rfl, by decide +kernel, by decide +kernel⟩
theorem ok_of {f : Addr} {fd : FuncData} (B : Bl mg) (CA : Cal P w K mg base CX0 1 "_law_any" ["_law_deal", "_law_bound"] spAny) (F : Fun K "_law_of" "_law_of" (top 47) f fd) : FnOk P w K mg base CX0 2 f fd ["_law_deal", "_law_some"] (spOf K) := by
  refine F.ok sk19 (fun vs H Q E h => ?_) (fun cdv A outer s H vs Q E hr h => ⟨_,
    pss_one (ps_ret (pe_ix ix_list (pv 1) (pe_cal (X := L2.Cx.nox _) CA hr (by decide) (pa_cons (pv 0) (pa_cons (pe_callB call_len_seq (by rfl) B.len PySem.boot_len (pa_cons (pv 1) pa_nil)) pa_nil))) (fun _ _ => rfl))), ?_⟩)
  · obtain ⟨d, c, a, xs, rfl, _⟩ := h
    rfl
  obtain ⟨d, c, a, xs, rfl, hD, ad, ac, hS, l0, l1, q⟩ := h
  refine ⟨_, rfl, _, rfl, _, rfl, a, xs, rfl, .inl hS, d, c, _, rfl, hD, by omega, ?_, fun r H' r0 r1 hD' hk => ?_⟩
  · exact sm_of (by omega) (Int.lt_of_le_of_lt (show (xs.length : Int) ≤ 1000 by omega) (by decide))
  · have hj : r.toNat < xs.length := by omega
    have e1 : atI xs r = some xs[r.toNat] := by
      unfold atI L2.ixN
      rw [if_pos r0, if_pos r1]
      exact List.getElem?_eq_getElem hj
    exact ⟨a, xs, r, _, rfl, rfl, hk.seqL ad ac hS, e1, q r.toNat _ _ (List.getElem?_eq_getElem hj) hD' hk⟩
end
end KV

/-! the law's own steps: one change and another, back, another order, a count -/
namespace KV
open PySem PySem.Spec PyProof.Rows L2 KC
theorem Dl.upd {H : Hp} {d c p : Addr} {o : HO} (h : Dl H d c) (hd : p ≠ d) (hc : p ≠ c) : Dl (L2.upd H p o) d c := by
  obtain ⟨n, cs, b, h1, h2, r⟩ := h
  exact ⟨n, cs, b, by rw [upd_ne (Ne.symm hd)]; exact h1, by rw [upd_ne (Ne.symm hc)]; exact h2, r⟩
theorem vi_erase (ls : List Nat) (k : Nat) : (vi ls).eraseIdx k = vi (ls.eraseIdx k) := by
  induction ls generalizing k with
  | nil => rfl
  | cons x ls ih =>
    cases k with
    | zero => rfl
    | succ k =>
      show V.int x :: (vi ls).eraseIdx k = V.int x :: vi (ls.eraseIdx k)
      rw [ih]
theorem perm_erase : ∀ (ls : List Nat) (k : Nat) (h : k < ls.length), (ls[k] :: ls.eraseIdx k).Perm ls
  | x :: ls, 0, _ => List.Perm.refl _
  | x :: ls, k + 1, h => by
    have h' : k < ls.length := by simpa using h
    have z := perm_erase ls k h'
    show (ls[k] :: x :: ls.eraseIdx k).Perm (x :: ls)
    exact (List.Perm.swap x _ _).trans (z.cons x)
theorem Kp.updn {d c p : Addr} {H H' : Hp} {o : HO} (k : Kp d c H H') (hp : H p = none) : Kp d c H (L2.upd H' p o) := fun b u h1 h2 h => by
  rw [upd_ne (ne_of_none h hp)]
  exact k b u h1 h2 h
section
variable {P : Program} {w : World} {K : PySem.W.Frag} {mg : Str → Option Value} {base : Heap}
theorem sk21 : FnScope ["_law_one", "_law_other", "_law_state"] ["_law_one", "_law_other"] (defScope (top 49)) := ⟨rfl, rfl, rfl, by decide +kernel, rfl, by decide +kernel, by decide +kernel⟩
theorem ok_then {f : Addr} {fd : FuncData} (B : Bl mg) (F : Fun K "_law_then" "_law_then" (top 49) f fd) : FnOk P w K mg base CX0 1 f fd ["_law_one", "_law_other"] spComp := by
  refine F.ok sk21 (fun vs H Q E h => ?_) (fun cdv A outer s H vs Q E hr h => ⟨_,
    pss_one (ps_ret (pe_callTy call_tuple_of (by rfl) B.tuple (by decide +kernel) (pa_cons
      (pe_lc (own := [("_law_state", 2)]) (g := gName 2) (tt := tYes) rfl sk21.nd (pi_tup (pv 0)) (blkOk_by (N := ["_law_one", "_law_other", "_law_state"]) (sc := defScope (top 49)) (by decide +kernel)) (fun _ _ _ _ _ => pg_name (i := 2) sk21.nd rfl (Or.inl rfl)) (fun _ _ _ _ _ => pts_nil)
        (fun _ _ _ _ _ => pe_ix (r := rIxT K) ix_tup (pv 1) (pv 2) (fun _ _ => rfl))) pa_nil))), ?_⟩)
  · obtain ⟨a, b, c, e, rfl, _⟩ := h
    rfl
  obtain ⟨a, b, c, e, rfl, ha, hb, hlt, hl, q⟩ := h
  refine ⟨_, rfl, a, rfl, ⟨_, SqT.of ha⟩, fun D hD => lc_tup (xs := vi c) (fun i H' => Same H H' ∧ H' D = some (.lst (vi (comp (c.take i) e)))) ⟨Same.mk1 hD, upd_same⟩ (fun i H' _ p => SqT.of (p.1 _ _ ha)) ?_ ?_⟩
  · rintro i x H' hx ⟨p1, p2⟩
    obtain ⟨m, hm, rfl⟩ := vi_at hx
    have lt := hlt m (List.mem_of_getElem? hm)
    refine ⟨rfl, _, rfl, _, rfl, b, _, _, _, rfl, rfl, SqT.of (p1 _ _ hb), atI_nat (vi_get (at_getD lt)), _, p2, len_lt (by simp only [vi, comp, List.length_map, List.length_take]; omega), Same.upd p1 hD, ?_⟩
    rw [upd_same, List.take_succ, hm]
    show some (HO.lst (vi (comp (c.take i) e) ++ [V.int ((e.getD m 0 : Nat) : Int)])) = some (HO.lst (vi (comp (c.take i ++ [m]) e)))
    simp only [vi, comp, List.map_append, List.map_cons, List.map_nil]
  · rintro H' ⟨p1, p2⟩
    have p2 : H' D = some (.lst (vi (comp c e))) := by
      have z := p2
      rw [show (vi c).length = c.length from List.length_map .., List.take_length] at z
      exact z
    exact ⟨D, _, rfl, .inl ⟨SqL.of p2, fun t ht => q t _ (p1.trans (Same.mk1 ht)) (p1.free ht) upd_same⟩⟩
/-- the things in another order -/
def spMix : Sp := fun vs H Q _ => ∃ (d c a : Addr) (ns : List Nat), vs = [.ref d, .ref a] ∧ Dl H d c ∧ H a = some (.lst (vi ns)) ∧ a ≠ d ∧ a ≠ c ∧ ns.length ≤ 16 ∧ ∀ l ms H', ms.Perm ns → H l = none → H' l = some (.lst (vi ms)) → Dl H' d c → Kp d c H H' → Q (.ref l) H'
theorem sk20 : FnScope ["_law_deal", "_law_some", "_law_left", "_law_found"] ["_law_deal", "_law_some"] (defScope (top 48)) := ⟨rfl, rfl, rfl, by decide +kernel, rfl, by decide +kernel, by decide +kernel⟩
def MixW (d c a l f : Addr) (ns : List Nat) (H : Hp) (k : Nat) (σ : L2.St) (H' : Hp) : Prop := σ = [some (.ref d), some (.ref a), some (.ref l), some (.ref f)] ∧ ∃ ls fs : List Nat, k = ls.length ∧ (fs ++ ls).Perm ns ∧ H' l = some (.lst (vi ls)) ∧ H' f = some (.lst (vi fs)) ∧ Dl H' d c ∧ Kp d c H H'
theorem ok_mixed {f : Addr} {fd : FuncData} (B : Bl mg) (CA : Cal P w K mg base CX0 1 "_law_any" ["_law_deal", "_law_bound"] spAny) (F : Fun K "_law_mixed" "_law_mixed" (top 48) f fd) : FnOk P w K mg base CX0 2 f fd ["_law_deal", "_law_some"] spMix := by
  refine F.ok sk20 (fun vs H Q E h => ?_) (fun cdv A outer s H vs Q E hr h => ⟨_,
    pss_cons (ps_par (i := 2) (j := 3) rfl sk20.nd rfl rfl (by decide) rfl rfl (pa_cons (pe_callTy call_list_of (by rfl) B.list (by decide +kernel) (pa_cons (pv 1) pa_nil)) (pa_cons (pe_lst pa_nil) pa_nil)) (by rfl))
    (pss_cons (ps_while PassesOwn.never (pt_cmpR (op_neD hr.units) (pv 2) (pe_lst pa_nil) (nomark _))
      (pss_one (ps_expr (pe_bm PySem.F.plainAttrs_list PySem.F.slot_list_append PySem.F.type_list_append mt_append (pv 3) (pa_cons (pe_bm PySem.F.plainAttrs_list PySem.F.slot_list_pop PySem.F.type_list_pop mt_popAt (pv 2) (pa_cons (by exact (pe_cal (X := L2.Cx.nox _) CA hr (by decide) (pa_cons (pv 0) (pa_cons (pe_callB call_len_seq (by rfl) B.len PySem.boot_len (pa_cons (pv 2) pa_nil)) pa_nil)))) pa_nil)) pa_nil)))))
    (pss_one (ps_ret (pv 3)))), ?_⟩)
  · obtain ⟨d, c, a, ns, rfl, _⟩ := h
    rfl
  obtain ⟨d, c, a, ns, rfl, hD, ha, ad, ac, hn, q⟩ := h
  refine ⟨_, rfl, a, _, rfl, .inl (SqL.of ha), fun l hl => ⟨(by show 0 ≤ sizeLine; decide), fun f hf => ⟨_, _, rfl, ?_⟩⟩⟩
  have ld := hD.ne hl
  have fd' := (hD.same (Same.new hl)).ne hf
  have lf : l ≠ f := fun e => by rw [← e, upd_same] at hf; cases hf
  have hfn : H f = none := (Same.new hl).free hf
  have h0 : MixW d c a l f ns H ns.length [some (.ref d), some (.ref a), some (.ref l), some (.ref f)] (upd (upd H l (.lst (vi ns))) f (.lst [])) :=
    ⟨rfl, ns, [], rfl, List.Perm.refl _, by rw [upd_ne lf, upd_same], upd_same, (hD.same (Same.new hl)).same (Same.new hf), (Kp.refl.new hl).new hf⟩
  generalize upd (upd H l (.lst (vi ns))) f (.lst []) = H1 at h0
  dsimp only
  refine sq_cut (MixW d c a l f ns H 0) (fun Z hZ => ⟨MixW d c a l f ns H, ⟨_, h0⟩, ?_⟩) ?_
  · rintro k σ H2 ⟨rfl, ls, fs, rfl, pe, h1, h2, hD2, k2⟩
    have le : ls.length ≤ 16 := by
      have := pe.length_eq
      rw [List.length_append] at this
      omega
    refine ⟨_, rfl, (by show 0 ≤ sizeLine; decide), fun p hp => ?_⟩
    have sp : Same H2 (upd H2 p (.lst [])) := Same.new hp
    have h1 := sp _ _ h1
    have h2 := sp _ _ h2
    have hD2 := hD2.same sp
    have k2 := k2.trans (Kp.of sp)
    have hpp : upd H2 p (.lst []) p = some (.lst (([] : List Int).map V.int)) := upd_same
    generalize upd H2 p (.lst []) = H3 at h1 h2 hD2 k2 hpp
    rw [vi_zi] at h1
    refine neL (ns := zi ls) (ms := []) (SqL.of h1) (SqL.of hpp) ⟨_, rfl, ?_⟩
    rw [← vi_zi] at h1
    by_cases e : ls = []
    · subst e
      exact iteN (by simp [zi]) (hZ _ _ ⟨rfl, [], fs, rfl, pe, h1, h2, hD2, k2⟩)
    · have l0 : 0 < ls.length := List.length_pos_iff.mpr e
      have lv : (vi ls).length = ls.length := List.length_map ..
      refine iteP (by simp [zi, e]) ⟨fun σ H' => ∃ m', m' < ls.length ∧ MixW d c a l f ns H m' σ H', fun _ _ z => z, ?_⟩
      refine ⟨_, rfl, .inl ⟨rfl, _, SqL.of h2⟩, _, rfl, .inl ⟨rfl, _, SqL.of h1⟩, _, rfl, _, rfl, l, _, rfl, .inl (SqL.of h1), d, c, _, rfl, hD2, by omega, sm_of (by omega) (Int.lt_of_le_of_lt (show ((vi ls).length : Int) ≤ 1000 by omega) (by decide)), fun r H4 r0 r1 hD4 k4 => ?_⟩
      have hr1 : r.toNat < ls.length := by omega
      have g1 := k4 _ _ ld.1 ld.2 h1
      have g2 := k4 _ _ fd'.1 fd'.2 h2
      have hsx : seqIndex? r (vi ls).length = some r.toNat := by
        rw [lv]
        unfold seqIndex?
        have e1 : ¬ r < 0 := by omega
        simp only [e1, if_false]
        rw [if_pos (by simp only [Bool.and_eq_true, decide_eq_true_eq]; omega)]
      refine ⟨l, _, r, r.toNat, _, rfl, rfl, g1, by omega, by omega, hsx, vi_get (List.getElem?_eq_getElem hr1), f, vi fs, _, rfl, rfl, by rw [upd_ne (Ne.symm lf)]; exact g2, len_lt (by rw [show (vi fs).length = fs.length from List.length_map ..]; have z := pe.length_eq; rw [List.length_append] at z; omega), ?_⟩
      have ee : (vi ls).eraseIdx r.toNat = vi (ls.eraseIdx r.toNat) := vi_erase _ _
      rw [ee]
      refine ⟨(ls.eraseIdx r.toNat).length, ?_, rfl, ls.eraseIdx r.toNat, fs ++ [ls[r.toNat]], rfl, ?_, ?_, ?_, ?_, ?_⟩
      · rw [List.length_eraseIdx_of_lt hr1]
        omega
      · have z : (ls[r.toNat] :: ls.eraseIdx r.toNat).Perm ls := perm_erase ls _ hr1
        rw [List.append_assoc]
        exact (List.Perm.append_left fs z).trans pe
      · rw [upd_ne lf, upd_same]
      · rw [upd_same]
        show some (HO.lst (vi fs ++ [V.int ((ls[r.toNat] : Nat) : Int)])) = some (HO.lst (vi (fs ++ [ls[r.toNat]])))
        simp only [vi, List.map_append, List.map_cons, List.map_nil]
      · exact (hD4.upd ld.1 ld.2).upd fd'.1 fd'.2
      · exact ((k2.trans k4).updn hl).updn hfn
  · rintro σ H2 ⟨rfl, ls, fs, e0, pe, h1, h2, hD2, k2⟩
    have e : ls = [] := List.eq_nil_of_length_eq_zero e0.symm
    subst e
    rw [List.append_nil] at pe
    exact ⟨_, rfl, q f fs H2 pe hfn h2 hD2 k2⟩
/-- a count -/
def spCount : Sp := fun vs H Q _ => ∃ (d c : Addr), vs = [.ref d] ∧ Dl H d c ∧ ∀ n H', sm 100 n → Dl H' d c → Kp d c H H' → Q (.int n) H'
end
end KV

/-! sorted of a dict whose keys are tuples of ints, fewer than 64: some list of the keys -/
namespace KV
open PySem PySem.Spec PyProof.Rows L2
def rSortDT : List V → Hp → VK → Prop := fun xs H Q => ∃ (a : Addr) (kvs : List (List L2.Key × V)) (d : Nat) (B : Int), xs = [.ref a] ∧ H a = some (.dT kvs) ∧ kvs.length < 64 ∧ 1 ≤ d ∧
  (∀ p ∈ kvs, ∃ ns : List Int, p.1.map L2.kV = ns.map V.int ∧ ns.length = d ∧ TS.Bd B ns) ∧
  ∀ (bs cs : List Addr) (p : Addr), L2.IsKeys H kvs bs → cs.Perm bs → H p = none → Q (.ref p) (L2.upd H p (.lst (cs.map V.ref)))
theorem keys_mem {H : Hp} {kvs : List (List L2.Key × V)} {bs : List Addr} (h : L2.IsKeys H kvs bs) : ∀ b ∈ bs, ∃ p ∈ kvs, H b = some (.tup (p.1.map L2.kV)) := by
  unfold L2.IsKeys at h
  induction h with
  | nil => exact fun b hb => nomatch hb
  | @cons p q ps qs hq t ih =>
    intro b hb
    rcases List.mem_cons.mp hb with e | hb
    · subst e
      exact ⟨p, by simp, hq⟩
    · obtain ⟨r, hr, e⟩ := ih b hb
      exact ⟨r, List.mem_cons_of_mem _ hr, e⟩
theorem cr_sortedDT {X : Cx} (hc : X.calm = true) : CallR X (.builtin "sorted") rSortDT := by
  intro pins s σ H xs us Q I r h
  obtain ⟨d, kvs, dn, B, rfl, hd, h64, hd1, hk, q⟩ := h
  obtain ⟨u, rfl, rx⟩ := r.one
  cases rx
  obtain ⟨z, hs, ks, pr, o, es, ep, ho, hx, hdt, he, hn⟩ := (show ObjOk X.prog X.w H s.heap d (.dT kvs) from I.hok d _ hd)
  have l1 : es.size = ks.length := size_of_entries he
  have l2 : kvs.length = ks.length := Paired.length pr
  refine Calls.call_function_entry PyProof.Rows.kind_sorted PyProof.Rows.plain_sorted PyProof.Rows.entry_sorted (PyProof.Rows.args_sorted1 _) ?_
  unfold Builtin.«sorted»
  refine wpAny_bind (m := checkCount "sorted" 1 1 _) (wpAny_pure ?_)
  refine wpAny_bind (PySem.W.kdu_collect (A := X.A.in1) (kdl_raw hs hx hdt) (I.ok.hd hc) ho (by rw [l1, sizeLine_eq]; omega) fun h' tk acc hk2 it => ?_)
  have ea : acc.toList = (ks.map fun x => x.2.1).map Value.ref := by
    rw [List.map_map]
    have hl : acc.toList.length = ks.length := by rw [Array.length_toList, it.1]; exact l1
    apply List.ext_getElem?
    intro j
    rw [List.getElem?_map]
    cases hj : acc.toList[j]? with
    | none =>
      have h1 := List.getElem?_eq_none_iff.mp hj
      rw [List.getElem?_eq_none (by omega)]
      all_goals rfl
    | some v =>
      obtain ⟨en, hen, hv⟩ := it.2 j v (by rw [← Array.getElem?_toList]; exact hj)
      have qe := entry_at he j
      rw [hen] at qe
      cases hb : ks[j]? with
      | none =>
        rw [hb] at qe
        exact nomatch (show some en = none from qe)
      | some b =>
        rw [hb] at qe
        have e2 : en = entryOfKey (tupleKind (mixKind X.prog X.w)) b := Option.some.inj qe
        rw [hv, e2]
        all_goals rfl
  have ik := isKeys_of pr
  have I1 : Inv X pins σ H { s with heap := h', toks := tk } := I.kept hk2
  have hal : acc.toList.length = ks.length := by rw [ea, List.length_map, List.length_map]
  refine wpAny_bind (wpAny_newList ?_ (by rw [hal, sizeLine_eq]; omega))
  have hoL : (h'.push (seqObj "list" acc.toList.toArray 0)).get? h'.objs.size = some (seqObj "list" acc.toList.toArray 0) := Heap.get?_push_size _ rfl
  show wpAny _ _ _ _ _ { s with heap := h'.push (seqObj "list" acc.toList.toArray 0), toks := tk }
  have tok : TS.TupsOk h' dn B acc.toList := fun v hv => by
    rw [ea] at hv
    obtain ⟨b, hb, rfl⟩ := List.mem_map.mp hv
    obtain ⟨p, hp, e⟩ := keys_mem ik b hb
    obtain ⟨ns, e1, e2, e3⟩ := hk p hp
    rw [e1] at e
    exact ⟨ns, tupI_raw I1 (SqT.of e), e2, e3⟩
  have keep : ∀ b o, h'.get? b = some o → o.cls = .type "tuple" → (h'.push (seqObj "list" acc.toList.toArray 0)).get? b = some o := fun b o e _ => Heap.get?_push_of_some _ e
  refine wpAny_bind (wpAny_holding (wpAny_call_entry PyProof.Rows.slot_list_sort ⟨_, hoL, rfl⟩ PyProof.Rows.entry_list_sort
    (TS.sort_tups (s := { s with heap := h'.push (seqObj "list" acc.toList.toArray 0), toks := tk }) hoL (by rw [hal]; omega) hd1 (tok.keeps keep) (fun v => TS.code B (TS.intsOf h' v)) (fun v hv ns t => ?_) fun out g1 g2 => ⟨_, rfl, ?_⟩) (PyProof.Rows.args_list_sort _)))
  · obtain ⟨ns0, t0, _⟩ := tok v hv
    have e : ns = ns0 := t.ints.symm.trans (t0.keeps keep).ints
    rw [e]
    show TS.code B (TS.intsOf h' v) = TS.code B ns0
    rw [t0.ints]
  obtain ⟨e', he'⟩ := PyProof.Rows.sortedHeap_at (vs := acc.toList) (out := out) hoL
  obtain ⟨cs, hcs, hpc⟩ : ∃ cs : List Addr, out.toList = cs.map Value.ref ∧ cs.Perm (ks.map fun x => x.2.1) := by
    rw [ea] at g1
    refine ⟨out.toList.filterMap (fun v => match v with | .ref a => some a | _ => none), ?_, ?_⟩
    · have all : ∀ v ∈ out.toList, ∃ a, v = Value.ref a := fun v hv => by
        obtain ⟨b, _, e⟩ := List.mem_map.mp (g1.mem_iff.mp hv)
        exact ⟨b, e.symm⟩
      generalize out.toList = l at all
      induction l with
      | nil => rfl
      | cons v r ih =>
        obtain ⟨a, rfl⟩ := all v (by simp)
        show Value.ref a :: r = Value.ref a :: _
        rw [← ih fun v hv => all v (List.mem_cons_of_mem _ hv)]
    · have z := g1.filterMap (fun v : Value => match v with | .ref a => some a | _ => none)
      have e : ∀ l : List Addr, (l.map Value.ref).filterMap (fun v : Value => match v with | .ref a => some a | _ => none) = l := fun l => by
        induction l with
        | nil => rfl
        | cons a r ih =>
          show a :: _ = a :: r
          exact congrArg (a :: ·) ih
      rw [e] at z
      exact z
  have hlen : (cs.map V.ref).length ≤ sizeLine := by
    rw [List.length_map, hpc.length_eq, List.length_map, sizeLine_eq]
    omega
  refine wpAny_pure ⟨_, rfl, .ref h'.objs.size, L2.upd H h'.objs.size (.lst (cs.map V.ref)), I1.laid (t' := tk) (fun b u e => ?_) (Nat.le_refl _)
    (show ObjOk X.prog X.w _ _ _ (.lst (cs.map V.ref)) from ⟨hlen, out.toList, e', by rw [hcs]; exact vals_refs cs, by rw [Array.toArray_toList]; exact he'⟩), rfl, q _ cs _ ik hpc (I1.hok.fresh (Nat.le_refl _))⟩
  have hb : b < h'.objs.size := Heap.lt_size e
  rw [PyProof.Rows.sortedHeap_old (Nat.ne_of_lt hb) (by rw [size_push']; exact Nat.lt_succ_of_lt hb)]
  exact Heap.get?_push_of_some _ e
end KV

/-! lists of ints and of tuples of ints: held against [], put in another order -/
namespace KV
open PySem PySem.Spec PyProof.Rows L2 KC
def Ent (H : Hp) (x : V) : Prop := (∃ i : Int, x = .int i) ∨ ∃ (t : Addr) (ns : List Int), x = .ref t ∧ H t = some (.tup (ns.map V.int))
theorem Ent.same {H H' : Hp} {x : V} (s : Same H H') (h : Ent H x) : Ent H' x := by
  rcases h with h | ⟨t, ns, e, h⟩
  · exact .inl h
  · exact .inr ⟨t, ns, e, s _ _ h⟩
theorem Dl.kT {d c p : Addr} {H H' : Hp} {xs : List V} (D : Dl H d c) (k : Kp d c H H') (h : H p = some (.tup xs)) : H' p = some (.tup xs) := k _ _ (D.neT h).1 (D.neT h).2 h
theorem Ent.kp {d c : Addr} {H H' : Hp} {x : V} (D : Dl H d c) (k : Kp d c H H') (h : Ent H x) : Ent H' x := by
  rcases h with h | ⟨t, ns, e, h⟩
  · exact .inl h
  · exact .inr ⟨t, ns, e, D.kT k h⟩
theorem ents_data {K : PySem.W.Frag} {H : Hp} : ∀ {xs : List V}, (∀ x ∈ xs, Ent H x) → ∃ ds, DpAll K H xs ds ∧ PyData.canLayAll0 ds = true ∧ PyData.depthAll ds ≤ 5 ∧ (xs = [] ↔ ds = [])
  | [], _ => ⟨[], .nil, rfl, by decide, by simp⟩
  | x :: r, h => by
    obtain ⟨ds, h1, h2, h3, h4⟩ := ents_data (K := K) (xs := r) fun y hy => h y (List.mem_cons_of_mem _ hy)
    rcases h x (by simp) with ⟨i, rfl⟩ | ⟨t, ns, rfl, ht⟩
    · refine ⟨.int i :: ds, .cons (.int i) h1, ?_, ?_, by simp⟩
      · simp only [PyData.canLayAll0, PyData.canLay0, h2, Bool.and_self]
      · simp only [PyData.depthAll, PyData.depth]
        omega
    · refine ⟨.tuple (ns.map PyData.int) :: ds, .cons (.tup (SqT.of ht) (dp_ints ns)) h1, ?_, ?_, by simp⟩
      · simp only [PyData.canLayAll0, PyData.canLay0, canLay_ints, h2, Bool.and_self]
      · simp only [PyData.depthAll, PyData.depth, depth_ints]
        omega
theorem ent_ne {K : PySem.W.Frag} {H : Hp} {a b : Addr} {xs : List V} {Q : VK} (h1 : SqL K H a xs) (he : ∀ x ∈ xs, Ent H x) (h2 : SqL K H b []) (q : Q (.bl (!decide (xs = []))) H) : rNeD K (.ref a) (.ref b) H Q := by
  obtain ⟨ds, d1, d2, d3, d4⟩ := ents_data (K := K) he
  refine ⟨_, _, .lst h1 d1, .lst h2 .nil, ?_, by decide +kernel, ?_⟩
  · unfold SeqAt.shaped
    rw [Bool.and_eq_true]
    refine ⟨?_, decide_eq_true ?_⟩
    · simp only [PyData.canLay0, d2]
    · simp only [PyData.depth]
      omega
  · have e : PyData.eqv (.list ds) (.list []) = decide (xs = []) := by
      cases ds with
      | nil => rw [d4.mpr rfl]; rfl
      | cons y r =>
        have : xs ≠ [] := fun z => by have := d4.mp z; cases this
        rw [decide_eq_false this]
        rfl
    rw [e]
    exact q
theorem perm_eraseV : ∀ (ls : List V) (k : Nat) (h : k < ls.length), (ls[k] :: ls.eraseIdx k).Perm ls
  | x :: ls, 0, _ => List.Perm.refl _
  | x :: ls, k + 1, h => by
    have h' : k < ls.length := by simpa using h
    have z := perm_eraseV ls k h'
    show (ls[k] :: x :: ls.eraseIdx k).Perm (x :: ls)
    exact (List.Perm.swap x _ _).trans (z.cons x)
section
variable {P : Program} {w : World} {K : PySem.W.Frag} {mg : Str → Option Value} {base : Heap}
def spMixV : Sp := fun vs H Q _ => ∃ (d c a : Addr) (xs : List V), vs = [.ref d, .ref a] ∧ Dl H d c ∧ H a = some (.lst xs) ∧ a ≠ d ∧ a ≠ c ∧ xs.length ≤ 64 ∧ (∀ x ∈ xs, Ent H x) ∧ ∀ l ys H', ys.Perm xs → H l = none → H' l = some (.lst ys) → Dl H' d c → Kp d c H H' → Q (.ref l) H'
def MixV (d c a l f : Addr) (xs : List V) (H : Hp) (k : Nat) (σ : L2.St) (H' : Hp) : Prop := σ = [some (.ref d), some (.ref a), some (.ref l), some (.ref f)] ∧ ∃ ls fs : List V, k = ls.length ∧ (fs ++ ls).Perm xs ∧ H' l = some (.lst ls) ∧ H' f = some (.lst fs) ∧ Dl H' d c ∧ Kp d c H H'
theorem ok_mixV {f : Addr} {fd : FuncData} (B : Bl mg) (CA : Cal P w K mg base CX0 1 "_law_any" ["_law_deal", "_law_bound"] spAny) (F : Fun K "_law_mixed" "_law_mixed" (top 48) f fd) : FnOk P w K mg base CX0 2 f fd ["_law_deal", "_law_some"] spMixV := by
  refine F.ok sk20 (fun vs H Q E h => ?_) (fun cdv A outer s H vs Q E hr h => ⟨_,
    pss_cons (ps_par (i := 2) (j := 3) rfl sk20.nd rfl rfl (by decide) rfl rfl (pa_cons (pe_callTy call_list_of (by rfl) B.list (by decide +kernel) (pa_cons (pv 1) pa_nil)) (pa_cons (pe_lst pa_nil) pa_nil)) (by rfl))
    (pss_cons (ps_while PassesOwn.never (pt_cmpR (op_neD hr.units) (pv 2) (pe_lst pa_nil) (nomark _))
      (pss_one (ps_expr (pe_bm PySem.F.plainAttrs_list PySem.F.slot_list_append PySem.F.type_list_append mt_append (pv 3) (pa_cons (pe_bm PySem.F.plainAttrs_list PySem.F.slot_list_pop PySem.F.type_list_pop mt_popAt (pv 2) (pa_cons (by exact (pe_cal (X := L2.Cx.nox _) CA hr (by decide) (pa_cons (pv 0) (pa_cons (pe_callB call_len_seq (by rfl) B.len PySem.boot_len (pa_cons (pv 2) pa_nil)) pa_nil)))) pa_nil)) pa_nil)))))
    (pss_one (ps_ret (pv 3)))), ?_⟩)
  · obtain ⟨d, c, a, ns, rfl, _⟩ := h
    rfl
  obtain ⟨d, c, a, xs, rfl, hD, ha, ad, ac, hn, hE, q⟩ := h
  refine ⟨_, rfl, a, _, rfl, .inl (SqL.of ha), fun l hl => ⟨(by show 0 ≤ sizeLine; decide), fun f hf => ⟨_, _, rfl, ?_⟩⟩⟩
  have ld := hD.ne hl
  have fd' := (hD.same (Same.new hl)).ne hf
  have lf : l ≠ f := fun e => by rw [← e, upd_same] at hf; cases hf
  have hfn : H f = none := (Same.new hl).free hf
  have h0 : MixV d c a l f xs H xs.length [some (.ref d), some (.ref a), some (.ref l), some (.ref f)] (upd (upd H l (.lst xs)) f (.lst [])) :=
    ⟨rfl, xs, [], rfl, List.Perm.refl _, by rw [upd_ne lf, upd_same], upd_same, (hD.same (Same.new hl)).same (Same.new hf), (Kp.refl.new hl).new hf⟩
  generalize upd (upd H l (.lst xs)) f (.lst []) = H1 at h0
  dsimp only
  refine sq_cut (MixV d c a l f xs H 0) (fun Z hZ => ⟨MixV d c a l f xs H, ⟨_, h0⟩, ?_⟩) ?_
  · rintro k σ H2 ⟨rfl, ls, fs, rfl, pe, h1, h2, hD2, k2⟩
    have hz : (fs ++ ls).length ≤ 64 := by rw [pe.length_eq]; exact hn
    rw [List.length_append] at hz
    have hE2 : ∀ x ∈ ls, Ent H2 x := fun x hx => (hE x (pe.mem_iff.mp (List.mem_append_right _ hx))).kp hD k2
    refine ⟨_, rfl, (by show 0 ≤ sizeLine; decide), fun p hp => ?_⟩
    have sp : Same H2 (upd H2 p (.lst [])) := Same.new hp
    have h1 := sp _ _ h1
    have h2 := sp _ _ h2
    have hD2 := hD2.same sp
    have k2 := k2.trans (Kp.of sp)
    have hE2 : ∀ x ∈ ls, Ent (upd H2 p (.lst [])) x := fun x hx => (hE2 x hx).same sp
    have hpp : upd H2 p (.lst []) p = some (.lst []) := upd_same
    generalize upd H2 p (.lst []) = H3 at h1 h2 hD2 k2 hpp hE2
    refine ent_ne (xs := ls) (SqL.of h1) hE2 (SqL.of hpp) ⟨_, rfl, ?_⟩
    by_cases e : ls = []
    · subst e
      exact iteN (by simp) (hZ _ _ ⟨rfl, [], fs, rfl, pe, h1, h2, hD2, k2⟩)
    · have l0 : 0 < ls.length := List.length_pos_iff.mpr e
      refine iteP (by simp [e]) ⟨fun σ H' => ∃ m', m' < ls.length ∧ MixV d c a l f xs H m' σ H', fun _ _ z => z, ?_⟩
      refine ⟨_, rfl, .inl ⟨rfl, _, SqL.of h2⟩, _, rfl, .inl ⟨rfl, _, SqL.of h1⟩, _, rfl, _, rfl, l, _, rfl, .inl (SqL.of h1), d, c, _, rfl, hD2, by omega, sm_of (by omega) (Int.lt_of_le_of_lt (show (ls.length : Int) ≤ 1000 by omega) (by decide)), fun r H4 r0 r1 hD4 k4 => ?_⟩
      have hr1 : r.toNat < ls.length := by omega
      have g1 := k4 _ _ ld.1 ld.2 h1
      have g2 := k4 _ _ fd'.1 fd'.2 h2
      have hsx : seqIndex? r ls.length = some r.toNat := by
        unfold seqIndex?
        have e1 : ¬ r < 0 := by omega
        simp only [e1, if_false]
        rw [if_pos (by simp only [Bool.and_eq_true, decide_eq_true_eq]; omega)]
      refine ⟨l, _, r, r.toNat, _, rfl, rfl, g1, by omega, by omega, hsx, List.getElem?_eq_getElem hr1, f, fs, _, rfl, rfl, by rw [upd_ne (Ne.symm lf)]; exact g2, len_lt (by omega), ?_⟩
      refine ⟨(ls.eraseIdx r.toNat).length, ?_, rfl, ls.eraseIdx r.toNat, fs ++ [ls[r.toNat]], rfl, ?_, ?_, ?_, ?_, ?_⟩
      · rw [List.length_eraseIdx_of_lt hr1]
        omega
      · have z : (ls[r.toNat] :: ls.eraseIdx r.toNat).Perm ls := perm_eraseV ls _ hr1
        rw [List.append_assoc]
        exact (List.Perm.append_left fs z).trans pe
      · rw [upd_ne lf, upd_same]
      · rw [upd_same]
      · exact (hD4.upd ld.1 ld.2).upd fd'.1 fd'.2
      · exact ((k2.trans k4).updn hl).updn hfn
  · rintro σ H2 ⟨rfl, ls, fs, e0, pe, h1, h2, hD2, k2⟩
    have e : ls = [] := List.eq_nil_of_length_eq_zero e0.symm
    subst e
    rw [List.append_nil] at pe
    exact ⟨_, rfl, q f fs H2 pe hfn h2 hD2 k2⟩
end
end KV

/-! the law's machines: a small piece -/
namespace KV
open PySem PySem.Spec PyProof.Rows L2 KC
theorem chg_dec {n : Nat} {c : List Nat} (h : (decide (c.length = n) && c.all (fun x => decide (x < n)) && decide c.Nodup) = true) : Chg n c := by
  rw [Bool.and_eq_true, Bool.and_eq_true, decide_eq_true_eq, decide_eq_true_eq, List.all_eq_true] at h
  exact ⟨h.1.1, fun x hx => of_decide_eq_true (h.1.2 x hx), h.2⟩
/-- a list of changes of n states -/
structure Gens (H : Hp) (l : Addr) (n : Nat) (bs : List Addr) (cs : List (List Nat)) : Prop where
  lst : H l = some (.lst (bs.map V.ref))
  tups : Paired (fun b c => H b = some (.tup (vi c))) bs cs
  chg : ∀ c ∈ cs, Chg n c
  n0 : 0 < n
  c0 : 0 < cs.length
theorem tups_keep {H H' : Hp} (k : ∀ b xs, H b = some (.tup xs) → H' b = some (.tup xs)) {bs : List Addr} {cs : List (List Nat)} (h : Paired (fun b c => H b = some (.tup (vi c))) bs cs) : Paired (fun b c => H' b = some (.tup (vi c))) bs cs := by
  induction h with
  | nil => exact .nil
  | cons h t ih => exact .cons (k _ _ h) ih
theorem Gens.same {H H' : Hp} {l : Addr} {n : Nat} {bs : List Addr} {cs : List (List Nat)} (h : Gens H l n bs cs) (s : Same H H') : Gens H' l n bs cs := ⟨s _ _ h.lst, tups_keep (fun b xs e => s _ _ e) h.tups, h.chg, h.n0, h.c0⟩
theorem Gens.kp {H H' : Hp} {d c l : Addr} {n : Nat} {bs : List Addr} {cs : List (List Nat)} (h : Gens H l n bs cs) (D : Dl H d c) (k : Kp d c H H') (ld : l ≠ d ∧ l ≠ c) : Gens H' l n bs cs := ⟨k _ _ ld.1 ld.2 h.lst, tups_keep (fun b xs e => D.kT k e) h.tups, h.chg, h.n0, h.c0⟩
theorem g_one {H : Hp} {l t : Addr} {n : Nat} {c : List Nat} (hl : H l = some (.lst [V.ref t])) (ht : H t = some (.tup (vi c))) (h : Chg n c) (n0 : 0 < n) : Gens H l n [t] [c] := ⟨hl, .cons ht .nil, fun x hx => by rw [show x = c from by simpa using hx]; exact h, n0, (by show 0 < 1; decide)⟩
theorem g_two {H : Hp} {l t u : Addr} {n : Nat} {c e : List Nat} (hl : H l = some (.lst [V.ref t, V.ref u])) (ht : H t = some (.tup (vi c))) (hu : H u = some (.tup (vi e))) (h : Chg n c) (h2 : Chg n e) (n0 : 0 < n) : Gens H l n [t, u] [c, e] :=
  ⟨hl, .cons ht (.cons hu .nil), fun x hx => by
    have : x = c ∨ x = e := by simpa using hx
    rcases this with rfl | rfl
    · exact h
    · exact h2, n0, (by show 0 < 2; decide)⟩
section
variable {P : Program} {w : World} {K : PySem.W.Frag} {mg : Str → Option Value} {base : Heap}
def spPiece : Sp := fun vs H Q _ => ∃ fm : Int, vs = [.int fm] ∧ 0 ≤ fm ∧ fm < 12 ∧ ∀ l n bs cs H', Same H H' → H l = none → Gens H' l n bs cs → n ≤ 9 → cs.length ≤ 2 → (fm = 3 → n = 3 ∧ cs = [[1, 2, 0], [0, 2, 1]]) → Q (.ref l) H'
theorem sk22 : FnScope ["_law_form", "_law_many", "_law_state", "_law_s"] ["_law_form"] (defScope (top 52)) := ⟨rfl, rfl, rfl, by decide +kernel, rfl, by decide +kernel, by decide +kernel⟩
theorem ok_piece {f : Addr} {fd : FuncData} (B : Bl mg) (F : Fun K "_law_piece" "_law_piece" (top 52) f fd) : FnOk P w K mg base CX0 1 f fd ["_law_form"] spPiece := by
  refine F.ok sk22 (fun vs H Q E h => ?_) (fun cdv A outer s H vs Q E hr h => ⟨_,
    (pss_cons (ps_if (pt_cmpR op_lt (pv 0) pe_int (nomark _)) (pss_one (ps_ret (pe_ifExp (pt_cmpR op_eq (pv 0) pe_int (nomark _)) (pe_lst (pa_cons (pe_tup (pa_cons pe_int pa_nil)) pa_nil)) (pe_ifExp (pt_cmpR op_eq (pv 0) pe_int (nomark _)) (pe_lst (pa_cons (pe_tup (pa_cons pe_int (pa_cons pe_int pa_nil))) pa_nil)) (pe_lst (pa_cons (pe_tup (pa_cons pe_int (pa_cons pe_int (pa_cons pe_int pa_nil)))) pa_nil)))))) pss_nil)
    (pss_cons (ps_if (pt_cmpR op_lt (pv 0) pe_int (nomark _)) (pss_cons (ps_set (i := 1) sk22.nd rfl (.inr rfl) (pe_ifExp (pt_cmpR op_lt (pv 0) pe_int (nomark _)) (pv 0) pe_int))
    (pss_one (ps_ret (pe_lst (pa_cons (pe_callTy call_tuple_of (by rfl) B.tuple (by decide +kernel) (pa_cons (pe_lc (own := [("_law_state", 2)]) (g := gName 2) (tt := tYes) rfl sk22.nd (pi_range1 (by rfl) B.range (pa_cons (pv 1) pa_nil)) (blkOk_by (N := ["_law_form", "_law_many", "_law_state", "_law_s"]) (sc := defScope (top 52)) (by decide +kernel))
        (fun _ _ _ _ _ => (pg_name (i := 2) sk22.nd rfl (Or.inl rfl))) (fun _ _ _ _ _ => pts_nil) (fun _ _ _ _ _ => (pe_op op_mod (pe_callTy call_int1 (by rfl) B.int PyProof.Rows.boot_int (pa_cons (pe_op op_add (pv 2) pe_int) pa_nil)) (pv 1)))) pa_nil)) (pa_cons (pe_callTy call_tuple_of (by rfl) B.tuple (by decide +kernel) (pa_cons (pe_lc (own := [("_law_state", 2)]) (g := gName 2) (tt := tYes) rfl sk22.nd (pi_range1 (by rfl) B.range (pa_cons (pv 1) pa_nil)) (blkOk_by (N := ["_law_form", "_law_many", "_law_state", "_law_s"]) (sc := defScope (top 52)) (by decide +kernel))
        (fun _ _ _ _ _ => (pg_name (i := 2) sk22.nd rfl (Or.inl rfl))) (fun _ _ _ _ _ => pts_nil) (fun _ _ _ _ _ => (pe_op op_mod (pe_callTy call_int1 (by rfl) B.int PyProof.Rows.boot_int (pa_cons (pe_op op_sub pe_int (pv 2)) pa_nil)) (pv 1)))) pa_nil)) pa_nil)))))) pss_nil)
    (pss_cons (ps_if (pt_cmpR op_eq (pv 0) pe_int (nomark _)) (pss_one (ps_ret (pe_lst (pa_cons (pe_tup (pa_cons pe_int (pa_cons pe_int (pa_cons pe_int (pa_cons pe_int pa_nil))))) (pa_cons (pe_tup (pa_cons pe_int (pa_cons pe_int (pa_cons pe_int (pa_cons pe_int pa_nil))))) pa_nil))))) pss_nil)
    (pss_cons (ps_if (pt_cmpR op_eq (pv 0) pe_int (nomark _)) (pss_one (ps_ret (pe_lst (pa_cons (pe_callTy call_tuple_of (by rfl) B.tuple (by decide +kernel) (pa_cons (pe_lc (own := [("_law_state", 2)]) (g := gName 2) (tt := tYes) rfl sk22.nd (pi_range1 (by rfl) B.range (pa_cons pe_int pa_nil)) (blkOk_by (N := ["_law_form", "_law_many", "_law_state", "_law_s"]) (sc := defScope (top 52)) (by decide +kernel))
        (fun _ _ _ _ _ => (pg_name (i := 2) sk22.nd rfl (Or.inl rfl))) (fun _ _ _ _ _ => pts_nil) (fun _ _ _ _ _ => (pe_op op_mod (pe_callTy call_int1 (by rfl) B.int PyProof.Rows.boot_int (pa_cons (pe_op op_add (pv 2) pe_int) pa_nil)) pe_int))) pa_nil)) (pa_cons (pe_callTy call_tuple_of (by rfl) B.tuple (by decide +kernel) (pa_cons (pe_lc (own := [("_law_state", 2)]) (g := gName 2) (tt := tYes) rfl sk22.nd (pi_range1 (by rfl) B.range (pa_cons pe_int pa_nil)) (blkOk_by (N := ["_law_form", "_law_many", "_law_state", "_law_s"]) (sc := defScope (top 52)) (by decide +kernel))
        (fun _ _ _ _ _ => (pg_name (i := 2) sk22.nd rfl (Or.inl rfl))) (fun _ _ _ _ _ => pts_nil) (fun _ _ _ _ _ => (pe_op op_mod (pe_callTy call_int1 (by rfl) B.int PyProof.Rows.boot_int (pa_cons (pe_op op_mulW pe_int (pv 2)) pa_nil)) pe_int))) pa_nil)) pa_nil))))) pss_nil)
    (pss_cons (ps_if (pt_cmpR op_eq (pv 0) pe_int (nomark _)) (pss_one (ps_ret (pe_lst (pa_cons (pe_callTy call_tuple_of (by rfl) B.tuple (by decide +kernel) (pa_cons (pe_lc (own := [("_law_s", 3)]) (g := gName 3) (tt := tYes) rfl sk22.nd (pi_range1 (by rfl) B.range (pa_cons pe_int pa_nil)) (blkOk_by (N := ["_law_form", "_law_many", "_law_state", "_law_s"]) (sc := defScope (top 52)) (by decide +kernel))
        (fun _ _ _ _ _ => (pg_name (i := 3) sk22.nd rfl (Or.inl rfl))) (fun _ _ _ _ _ => pts_nil) (fun _ _ _ _ _ => (pe_op op_add (pe_op op_mulW pe_int (pe_op op_mod (pe_callTy call_int1 (by rfl) B.int PyProof.Rows.boot_int (pa_cons (pe_op op_add (pe_op op_fdivW (pv 3) pe_int) pe_int) pa_nil)) pe_int)) (pe_op op_mod (pv 3) pe_int)))) pa_nil)) (pa_cons (pe_callTy call_tuple_of (by rfl) B.tuple (by decide +kernel) (pa_cons (pe_lc (own := [("_law_s", 3)]) (g := gName 3) (tt := tYes) rfl sk22.nd (pi_range1 (by rfl) B.range (pa_cons pe_int pa_nil)) (blkOk_by (N := ["_law_form", "_law_many", "_law_state", "_law_s"]) (sc := defScope (top 52)) (by decide +kernel))
        (fun _ _ _ _ _ => (pg_name (i := 3) sk22.nd rfl (Or.inl rfl))) (fun _ _ _ _ _ => pts_nil) (fun _ _ _ _ _ => (pe_op op_add (pe_op op_mulW pe_int (pe_op op_fdivW (pv 3) pe_int)) (pe_op op_mod (pe_callTy call_int1 (by rfl) B.int PyProof.Rows.boot_int (pa_cons (pe_op op_add (pe_op op_mod (pv 3) pe_int) (pe_op op_fdivW (pv 3) pe_int)) pa_nil)) pe_int)))) pa_nil)) pa_nil))))) pss_nil)
    (pss_cons (ps_if (pt_cmpR op_eq (pv 0) pe_int (nomark _)) (pss_one (ps_ret (pe_lst (pa_cons (pe_tup (pa_cons pe_int (pa_cons pe_int (pa_cons pe_int (pa_cons pe_int pa_nil))))) (pa_cons (pe_tup (pa_cons pe_int (pa_cons pe_int (pa_cons pe_int (pa_cons pe_int pa_nil))))) pa_nil))))) pss_nil)
    (pss_cons (ps_if (pt_cmpR op_eq (pv 0) pe_int (nomark _)) (pss_one (ps_ret (pe_lst (pa_cons (pe_tup (pa_cons pe_int (pa_cons pe_int (pa_cons pe_int (pa_cons pe_int pa_nil))))) pa_nil)))) pss_nil)
    (pss_one (ps_ret (pe_lst (pa_cons (pe_tup (pa_cons pe_int (pa_cons pe_int (pa_cons pe_int (pa_cons pe_int (pa_cons pe_int (pa_cons pe_int (pa_cons pe_int (pa_cons pe_int pa_nil))))))))) (pa_cons (pe_tup (pa_cons pe_int (pa_cons pe_int (pa_cons pe_int (pa_cons pe_int (pa_cons pe_int (pa_cons pe_int (pa_cons pe_int (pa_cons pe_int pa_nil))))))))) pa_nil)))))))))))), ?_⟩)
  · obtain ⟨fm, rfl, _⟩ := h
    rfl
  obtain ⟨fm, rfl, f0, f1, q⟩ := h
  refine ⟨_, rfl, _, _, rfl, rfl, _, rfl, ?_⟩
  by_cases z3 : fm < 3
  · refine iteP (by simp [z3]) ?_
    have : fm = 0 ∨ fm = 1 ∨ fm = 2 := by omega
    rcases this with rfl | rfl | rfl
    · refine ⟨_, rfl, rfl, _, rfl, iteT ?_⟩
      refine ⟨(by show 1 ≤ sizeLine; decide), fun t0 h0 => ⟨(by show 1 ≤ sizeLine; decide), fun l hl => ?_⟩⟩
      have s0 : Same H (upd H t0 (.tup [V.int 0])) := Same.new h0
      exact q l 1 [t0] [[0]] _ (s0.trans (Same.new hl)) (s0.free hl) (g_one upd_same (Same.new hl _ _ upd_same) (chg_dec (by decide)) (by decide)) (by decide) (by decide) (fun z => by first | exact ⟨rfl, by decide⟩ | (exfalso; omega))
    · refine ⟨_, rfl, rfl, _, rfl, iteF ⟨_, rfl, rfl, _, rfl, iteT ?_⟩⟩
      refine ⟨(by show 2 ≤ sizeLine; decide), fun t0 h0 => ⟨(by show 1 ≤ sizeLine; decide), fun l hl => ?_⟩⟩
      have s0 : Same H (upd H t0 (.tup [V.int 1, V.int 0])) := Same.new h0
      exact q l 2 [t0] [[1, 0]] _ (s0.trans (Same.new hl)) (s0.free hl) (g_one upd_same (Same.new hl _ _ upd_same) (chg_dec (by decide)) (by decide)) (by decide) (by decide) (fun z => by first | exact ⟨rfl, by decide⟩ | (exfalso; omega))
    · refine ⟨_, rfl, rfl, _, rfl, iteF ⟨_, rfl, rfl, _, rfl, iteF ?_⟩⟩
      refine ⟨(by show 3 ≤ sizeLine; decide), fun t0 h0 => ⟨(by show 1 ≤ sizeLine; decide), fun l hl => ?_⟩⟩
      have s0 : Same H (upd H t0 (.tup [V.int 1, V.int 2, V.int 0])) := Same.new h0
      exact q l 3 [t0] [[1, 2, 0]] _ (s0.trans (Same.new hl)) (s0.free hl) (g_one upd_same (Same.new hl _ _ upd_same) (chg_dec (by decide)) (by decide)) (by decide) (by decide) (fun z => by first | exact ⟨rfl, by decide⟩ | (exfalso; omega))
  refine iteN (by simp [z3]) ⟨_, rfl, _, _, rfl, rfl, _, rfl, ?_⟩
  by_cases z6 : fm < 6
  · refine iteP (by simp [z6]) ?_
    have : fm = 3 ∨ fm = 4 ∨ fm = 5 := by omega
    rcases this with rfl | rfl | rfl
    · refine ⟨_, rfl, _, _, rfl, rfl, _, rfl, ?_⟩
      refine iteT ⟨_, rfl, ?_⟩
      dsimp only [gName]
      refine ⟨_, rfl, 3, rfl, by decide, by decide, fun D0 hD0 => lc_range (n := 3) (fun i H' => Same H H' ∧ H' D0 = some (.lst (vi ((List.range i).map fun i => (i + 1) % 3)))) ⟨Same.new hD0, upd_same⟩ ?_ ?_⟩
      · rintro i H2 hi ⟨p1, p2⟩
        refine ⟨rfl, _, rfl, _, _, rfl, rfl, .inl ⟨_, rfl, _, rfl, _, _, rfl, rfl, (by show (0 : Int) < 3; decide), _, p2, len_lt (by simp only [vi, List.length_map, List.length_range]; omega), Same.upd p1 hD0, ?_⟩⟩
        rw [upd_same, List.range_succ, List.map_append, vi, vi, List.map_append]
        refine congrArg (fun z => some (HO.lst (_ ++ [V.int z]))) ?_
        dsimp only
        omega
      rintro G0 ⟨p1, p2⟩
      refine ⟨D0, _, rfl, .inl ⟨SqL.of p2, fun t0 ht0 => ?_⟩⟩
      have s0 := p1.trans (Same.new (o := .tup (vi ((List.range 3).map fun i => (i + 1) % 3))) ht0)
      have e0 : upd G0 t0 (.tup (vi ((List.range 3).map fun i => (i + 1) % 3))) t0 = some (.tup (vi ((List.range 3).map fun i => (i + 1) % 3))) := upd_same
      generalize upd G0 t0 (.tup (vi ((List.range 3).map fun i => (i + 1) % 3))) = J0 at s0 e0
      clear p1 p2
      refine ⟨_, rfl, 3, rfl, by decide, by decide, fun D1 hD1 => lc_range (n := 3) (fun i H' => Same J0 H' ∧ H' D1 = some (.lst (vi ((List.range i).map fun i => (3 - i) % 3)))) ⟨Same.new hD1, upd_same⟩ ?_ ?_⟩
      · rintro i H2 hi ⟨p1, p2⟩
        refine ⟨rfl, _, rfl, _, _, rfl, rfl, .inl ⟨_, rfl, _, rfl, _, _, rfl, rfl, (by show (0 : Int) < 3; decide), _, p2, len_lt (by simp only [vi, List.length_map, List.length_range]; omega), Same.upd p1 hD1, ?_⟩⟩
        rw [upd_same, List.range_succ, List.map_append, vi, vi, List.map_append]
        refine congrArg (fun z => some (HO.lst (_ ++ [V.int z]))) ?_
        dsimp only
        omega
      rintro G1 ⟨p1, p2⟩
      refine ⟨D1, _, rfl, .inl ⟨SqL.of p2, fun t1 ht1 => ?_⟩⟩
      have s1 := p1.trans (Same.new (o := .tup (vi ((List.range 3).map fun i => (3 - i) % 3))) ht1)
      have e1 : upd G1 t1 (.tup (vi ((List.range 3).map fun i => (3 - i) % 3))) t1 = some (.tup (vi ((List.range 3).map fun i => (3 - i) % 3))) := upd_same
      generalize upd G1 t1 (.tup (vi ((List.range 3).map fun i => (3 - i) % 3))) = J1 at s1 e1
      clear p1 p2
      refine ⟨(by show 2 ≤ sizeLine; decide), fun l hl => ?_⟩
      exact q l 3 [t0, t1] [(List.range 3).map fun i => (i + 1) % 3, (List.range 3).map fun i => (3 - i) % 3] _ ((s0.trans s1).trans (Same.new hl)) ((s0.trans s1).free hl) (g_two upd_same (Same.new hl _ _ (s1 _ _ e0)) (Same.new hl _ _ e1) (chg_dec (by decide)) (chg_dec (by decide)) (by decide)) (by decide) (by decide) (fun z => by first | exact ⟨rfl, by decide⟩ | (exfalso; omega))
    · refine ⟨_, rfl, _, _, rfl, rfl, _, rfl, ?_⟩
      refine iteT ⟨_, rfl, ?_⟩
      dsimp only [gName]
      refine ⟨_, rfl, 4, rfl, by decide, by decide, fun D0 hD0 => lc_range (n := 4) (fun i H' => Same H H' ∧ H' D0 = some (.lst (vi ((List.range i).map fun i => (i + 1) % 4)))) ⟨Same.new hD0, upd_same⟩ ?_ ?_⟩
      · rintro i H2 hi ⟨p1, p2⟩
        refine ⟨rfl, _, rfl, _, _, rfl, rfl, .inl ⟨_, rfl, _, rfl, _, _, rfl, rfl, (by show (0 : Int) < 4; decide), _, p2, len_lt (by simp only [vi, List.length_map, List.length_range]; omega), Same.upd p1 hD0, ?_⟩⟩
        rw [upd_same, List.range_succ, List.map_append, vi, vi, List.map_append]
        refine congrArg (fun z => some (HO.lst (_ ++ [V.int z]))) ?_
        dsimp only
        omega
      rintro G0 ⟨p1, p2⟩
      refine ⟨D0, _, rfl, .inl ⟨SqL.of p2, fun t0 ht0 => ?_⟩⟩
      have s0 := p1.trans (Same.new (o := .tup (vi ((List.range 4).map fun i => (i + 1) % 4))) ht0)
      have e0 : upd G0 t0 (.tup (vi ((List.range 4).map fun i => (i + 1) % 4))) t0 = some (.tup (vi ((List.range 4).map fun i => (i + 1) % 4))) := upd_same
      generalize upd G0 t0 (.tup (vi ((List.range 4).map fun i => (i + 1) % 4))) = J0 at s0 e0
      clear p1 p2
      refine ⟨_, rfl, 4, rfl, by decide, by decide, fun D1 hD1 => lc_range (n := 4) (fun i H' => Same J0 H' ∧ H' D1 = some (.lst (vi ((List.range i).map fun i => (4 - i) % 4)))) ⟨Same.new hD1, upd_same⟩ ?_ ?_⟩
      · rintro i H2 hi ⟨p1, p2⟩
        refine ⟨rfl, _, rfl, _, _, rfl, rfl, .inl ⟨_, rfl, _, rfl, _, _, rfl, rfl, (by show (0 : Int) < 4; decide), _, p2, len_lt (by simp only [vi, List.length_map, List.length_range]; omega), Same.upd p1 hD1, ?_⟩⟩
        rw [upd_same, List.range_succ, List.map_append, vi, vi, List.map_append]
        refine congrArg (fun z => some (HO.lst (_ ++ [V.int z]))) ?_
        dsimp only
        omega
      rintro G1 ⟨p1, p2⟩
      refine ⟨D1, _, rfl, .inl ⟨SqL.of p2, fun t1 ht1 => ?_⟩⟩
      have s1 := p1.trans (Same.new (o := .tup (vi ((List.range 4).map fun i => (4 - i) % 4))) ht1)
      have e1 : upd G1 t1 (.tup (vi ((List.range 4).map fun i => (4 - i) % 4))) t1 = some (.tup (vi ((List.range 4).map fun i => (4 - i) % 4))) := upd_same
      generalize upd G1 t1 (.tup (vi ((List.range 4).map fun i => (4 - i) % 4))) = J1 at s1 e1
      clear p1 p2
      refine ⟨(by show 2 ≤ sizeLine; decide), fun l hl => ?_⟩
      exact q l 4 [t0, t1] [(List.range 4).map fun i => (i + 1) % 4, (List.range 4).map fun i => (4 - i) % 4] _ ((s0.trans s1).trans (Same.new hl)) ((s0.trans s1).free hl) (g_two upd_same (Same.new hl _ _ (s1 _ _ e0)) (Same.new hl _ _ e1) (chg_dec (by decide)) (chg_dec (by decide)) (by decide)) (by decide) (by decide) (fun z => by first | exact ⟨rfl, by decide⟩ | (exfalso; omega))
    · refine ⟨_, rfl, _, _, rfl, rfl, _, rfl, ?_⟩
      refine iteF ?_
      dsimp only [gName]
      refine ⟨_, rfl, 5, rfl, by decide, by decide, fun D0 hD0 => lc_range (n := 5) (fun i H' => Same H H' ∧ H' D0 = some (.lst (vi ((List.range i).map fun i => (i + 1) % 5)))) ⟨Same.new hD0, upd_same⟩ ?_ ?_⟩
      · rintro i H2 hi ⟨p1, p2⟩
        refine ⟨rfl, _, rfl, _, _, rfl, rfl, .inl ⟨_, rfl, _, rfl, _, _, rfl, rfl, (by show (0 : Int) < 5; decide), _, p2, len_lt (by simp only [vi, List.length_map, List.length_range]; omega), Same.upd p1 hD0, ?_⟩⟩
        rw [upd_same, List.range_succ, List.map_append, vi, vi, List.map_append]
        refine congrArg (fun z => some (HO.lst (_ ++ [V.int z]))) ?_
        dsimp only
        omega
      rintro G0 ⟨p1, p2⟩
      refine ⟨D0, _, rfl, .inl ⟨SqL.of p2, fun t0 ht0 => ?_⟩⟩
      have s0 := p1.trans (Same.new (o := .tup (vi ((List.range 5).map fun i => (i + 1) % 5))) ht0)
      have e0 : upd G0 t0 (.tup (vi ((List.range 5).map fun i => (i + 1) % 5))) t0 = some (.tup (vi ((List.range 5).map fun i => (i + 1) % 5))) := upd_same
      generalize upd G0 t0 (.tup (vi ((List.range 5).map fun i => (i + 1) % 5))) = J0 at s0 e0
      clear p1 p2
      refine ⟨_, rfl, 5, rfl, by decide, by decide, fun D1 hD1 => lc_range (n := 5) (fun i H' => Same J0 H' ∧ H' D1 = some (.lst (vi ((List.range i).map fun i => (5 - i) % 5)))) ⟨Same.new hD1, upd_same⟩ ?_ ?_⟩
      · rintro i H2 hi ⟨p1, p2⟩
        refine ⟨rfl, _, rfl, _, _, rfl, rfl, .inl ⟨_, rfl, _, rfl, _, _, rfl, rfl, (by show (0 : Int) < 5; decide), _, p2, len_lt (by simp only [vi, List.length_map, List.length_range]; omega), Same.upd p1 hD1, ?_⟩⟩
        rw [upd_same, List.range_succ, List.map_append, vi, vi, List.map_append]
        refine congrArg (fun z => some (HO.lst (_ ++ [V.int z]))) ?_
        dsimp only
        omega
      rintro G1 ⟨p1, p2⟩
      refine ⟨D1, _, rfl, .inl ⟨SqL.of p2, fun t1 ht1 => ?_⟩⟩
      have s1 := p1.trans (Same.new (o := .tup (vi ((List.range 5).map fun i => (5 - i) % 5))) ht1)
      have e1 : upd G1 t1 (.tup (vi ((List.range 5).map fun i => (5 - i) % 5))) t1 = some (.tup (vi ((List.range 5).map fun i => (5 - i) % 5))) := upd_same
      generalize upd G1 t1 (.tup (vi ((List.range 5).map fun i => (5 - i) % 5))) = J1 at s1 e1
      clear p1 p2
      refine ⟨(by show 2 ≤ sizeLine; decide), fun l hl => ?_⟩
      exact q l 5 [t0, t1] [(List.range 5).map fun i => (i + 1) % 5, (List.range 5).map fun i => (5 - i) % 5] _ ((s0.trans s1).trans (Same.new hl)) ((s0.trans s1).free hl) (g_two upd_same (Same.new hl _ _ (s1 _ _ e0)) (Same.new hl _ _ e1) (chg_dec (by decide)) (chg_dec (by decide)) (by decide)) (by decide) (by decide) (fun z => by first | exact ⟨rfl, by decide⟩ | (exfalso; omega))
  refine iteN (by simp [z6]) ?_
  have : fm = 6 ∨ fm = 7 ∨ fm = 8 ∨ fm = 9 ∨ fm = 10 ∨ fm = 11 := by omega
  rcases this with rfl | rfl | rfl | rfl | rfl | rfl
  · refine ⟨_, rfl, rfl, _, rfl, iteT ?_⟩
    refine ⟨(by show 4 ≤ sizeLine; decide), fun t0 h0 => ⟨(by show 4 ≤ sizeLine; decide), fun t1 h1 => ⟨(by show 2 ≤ sizeLine; decide), fun l hl => ?_⟩⟩⟩
    have s0 : Same H (upd H t0 (.tup [V.int 1, V.int 2, V.int 0, V.int 3])) := Same.new h0
    have s1 : Same (upd H t0 (.tup [V.int 1, V.int 2, V.int 0, V.int 3])) (upd (upd H t0 (.tup [V.int 1, V.int 2, V.int 0, V.int 3])) t1 (.tup [V.int 1, V.int 0, V.int 3, V.int 2])) := Same.new h1
    exact q l 4 [t0, t1] [[1, 2, 0, 3], [1, 0, 3, 2]] _ ((s0.trans s1).trans (Same.new hl)) ((s0.trans s1).free hl) (g_two upd_same (Same.new hl _ _ (s1 _ _ upd_same)) (Same.new hl _ _ upd_same) (chg_dec (by decide)) (chg_dec (by decide)) (by decide)) (by decide) (by decide) (fun z => by first | exact ⟨rfl, by decide⟩ | (exfalso; omega))
  · refine ⟨_, rfl, rfl, _, rfl, iteF ⟨_, rfl, rfl, _, rfl, iteT ?_⟩⟩
    refine ⟨7, rfl, by decide, by decide, fun D0 hD0 => lc_range (n := 7) (fun i H' => Same H H' ∧ H' D0 = some (.lst (vi ((List.range i).map fun i => (i + 1) % 7)))) ⟨Same.new hD0, upd_same⟩ ?_ ?_⟩
    · rintro i H2 hi ⟨p1, p2⟩
      refine ⟨rfl, _, rfl, _, _, rfl, rfl, .inl ⟨_, rfl, _, _, rfl, rfl, (by show (0 : Int) < 7; decide), _, p2, len_lt (by simp only [vi, List.length_map, List.length_range]; omega), Same.upd p1 hD0, ?_⟩⟩
      rw [upd_same, List.range_succ, List.map_append, vi, vi, List.map_append]
      refine congrArg (fun z => some (HO.lst (_ ++ [V.int z]))) ?_
      dsimp only
      omega
    rintro G0 ⟨p1, p2⟩
    refine ⟨D0, _, rfl, .inl ⟨SqL.of p2, fun t0 ht0 => ?_⟩⟩
    have s0 := p1.trans (Same.new (o := .tup (vi ((List.range 7).map fun i => (i + 1) % 7))) ht0)
    have e0 : upd G0 t0 (.tup (vi ((List.range 7).map fun i => (i + 1) % 7))) t0 = some (.tup (vi ((List.range 7).map fun i => (i + 1) % 7))) := upd_same
    generalize upd G0 t0 (.tup (vi ((List.range 7).map fun i => (i + 1) % 7))) = J0 at s0 e0
    clear p1 p2
    refine ⟨7, rfl, by decide, by decide, fun D1 hD1 => lc_range (n := 7) (fun i H' => Same J0 H' ∧ H' D1 = some (.lst (vi ((List.range i).map fun i => (2 * i) % 7)))) ⟨Same.new hD1, upd_same⟩ ?_ ?_⟩
    · rintro i H2 hi ⟨p1, p2⟩
      refine ⟨rfl, _, rfl, _, _, rfl, rfl, mulW (j := 10) (k := 10) (by decide) (sm_of (by omega) (Int.lt_of_lt_of_le (show (0 : Int) + (i : Int) < 9 by omega) (by decide))) (by decide) (by decide) (by decide), .inl ⟨_, rfl, _, _, rfl, rfl, (by show (0 : Int) < 7; decide), _, p2, len_lt (by simp only [vi, List.length_map, List.length_range]; omega), Same.upd p1 hD1, ?_⟩⟩
      rw [upd_same, List.range_succ, List.map_append, vi, vi, List.map_append]
      refine congrArg (fun z => some (HO.lst (_ ++ [V.int z]))) ?_
      dsimp only
      omega
    rintro G1 ⟨p1, p2⟩
    refine ⟨D1, _, rfl, .inl ⟨SqL.of p2, fun t1 ht1 => ?_⟩⟩
    have s1 := p1.trans (Same.new (o := .tup (vi ((List.range 7).map fun i => (2 * i) % 7))) ht1)
    have e1 : upd G1 t1 (.tup (vi ((List.range 7).map fun i => (2 * i) % 7))) t1 = some (.tup (vi ((List.range 7).map fun i => (2 * i) % 7))) := upd_same
    generalize upd G1 t1 (.tup (vi ((List.range 7).map fun i => (2 * i) % 7))) = J1 at s1 e1
    clear p1 p2
    refine ⟨(by show 2 ≤ sizeLine; decide), fun l hl => ?_⟩
    exact q l 7 [t0, t1] [(List.range 7).map fun i => (i + 1) % 7, (List.range 7).map fun i => (2 * i) % 7] _ ((s0.trans s1).trans (Same.new hl)) ((s0.trans s1).free hl) (g_two upd_same (Same.new hl _ _ (s1 _ _ e0)) (Same.new hl _ _ e1) (chg_dec (by decide)) (chg_dec (by decide)) (by decide)) (by decide) (by decide) (fun z => by first | exact ⟨rfl, by decide⟩ | (exfalso; omega))
  · refine ⟨_, rfl, rfl, _, rfl, iteF ⟨_, rfl, rfl, _, rfl, iteF ⟨_, rfl, rfl, _, rfl, iteT ?_⟩⟩⟩
    refine ⟨9, rfl, by decide, by decide, fun D0 hD0 => lc_range (n := 9) (fun i H' => Same H H' ∧ H' D0 = some (.lst (vi ((List.range i).map fun i => 3 * ((i / 3 + 1) % 3) + i % 3)))) ⟨Same.new hD0, upd_same⟩ ?_ ?_⟩
    · rintro i H2 hi ⟨p1, p2⟩
      refine ⟨rfl, _, rfl, _, _, rfl, rfl, divW (by decide) (show sm 10 3 by decide) (by decide) (by decide), _, _, rfl, rfl, .inl ⟨_, rfl, _, _, rfl, rfl, (by show (0 : Int) < 3; decide), _, _, rfl, rfl, mulW (j := 10) (k := 10) (by decide) (sm_of (by omega) (Int.lt_of_lt_of_le (show _ < (9 : Int) by omega) (by decide))) (by decide) (by decide) (by decide), _, rfl, _, _, rfl, rfl, (by show (0 : Int) < 3; decide), _, _, rfl, rfl, _, p2, len_lt (by simp only [vi, List.length_map, List.length_range]; omega), Same.upd p1 hD0, ?_⟩⟩
      rw [upd_same, List.range_succ, List.map_append, vi, vi, List.map_append]
      refine congrArg (fun z => some (HO.lst (_ ++ [V.int z]))) ?_
      dsimp only
      omega
    rintro G0 ⟨p1, p2⟩
    refine ⟨D0, _, rfl, .inl ⟨SqL.of p2, fun t0 ht0 => ?_⟩⟩
    have s0 := p1.trans (Same.new (o := .tup (vi ((List.range 9).map fun i => 3 * ((i / 3 + 1) % 3) + i % 3))) ht0)
    have e0 : upd G0 t0 (.tup (vi ((List.range 9).map fun i => 3 * ((i / 3 + 1) % 3) + i % 3))) t0 = some (.tup (vi ((List.range 9).map fun i => 3 * ((i / 3 + 1) % 3) + i % 3))) := upd_same
    generalize upd G0 t0 (.tup (vi ((List.range 9).map fun i => 3 * ((i / 3 + 1) % 3) + i % 3))) = J0 at s0 e0
    clear p1 p2
    refine ⟨9, rfl, by decide, by decide, fun D1 hD1 => lc_range (n := 9) (fun i H' => Same J0 H' ∧ H' D1 = some (.lst (vi ((List.range i).map fun i => 3 * (i / 3) + (i % 3 + i / 3) % 3)))) ⟨Same.new hD1, upd_same⟩ ?_ ?_⟩
    · rintro i H2 hi ⟨p1, p2⟩
      refine ⟨rfl, _, rfl, _, _, rfl, rfl, divW (by decide) (show sm 10 3 by decide) (by decide) (by decide), _, _, rfl, rfl, mulW (j := 10) (k := 10) (by decide) (sm_of (by omega) (Int.lt_of_lt_of_le (show _ < (9 : Int) by omega) (by decide))) (by decide) (by decide) (by decide), _, rfl, _, _, rfl, rfl, (by show (0 : Int) < 3; decide), _, rfl, _, _, rfl, rfl, divW (by decide) (show sm 10 3 by decide) (by decide) (by decide), _, _, rfl, rfl, .inl ⟨_, rfl, _, _, rfl, rfl, (by show (0 : Int) < 3; decide), _, _, rfl, rfl, _, p2, len_lt (by simp only [vi, List.length_map, List.length_range]; omega), Same.upd p1 hD1, ?_⟩⟩
      rw [upd_same, List.range_succ, List.map_append, vi, vi, List.map_append]
      refine congrArg (fun z => some (HO.lst (_ ++ [V.int z]))) ?_
      dsimp only
      omega
    rintro G1 ⟨p1, p2⟩
    refine ⟨D1, _, rfl, .inl ⟨SqL.of p2, fun t1 ht1 => ?_⟩⟩
    have s1 := p1.trans (Same.new (o := .tup (vi ((List.range 9).map fun i => 3 * (i / 3) + (i % 3 + i / 3) % 3))) ht1)
    have e1 : upd G1 t1 (.tup (vi ((List.range 9).map fun i => 3 * (i / 3) + (i % 3 + i / 3) % 3))) t1 = some (.tup (vi ((List.range 9).map fun i => 3 * (i / 3) + (i % 3 + i / 3) % 3))) := upd_same
    generalize upd G1 t1 (.tup (vi ((List.range 9).map fun i => 3 * (i / 3) + (i % 3 + i / 3) % 3))) = J1 at s1 e1
    clear p1 p2
    refine ⟨(by show 2 ≤ sizeLine; decide), fun l hl => ?_⟩
    exact q l 9 [t0, t1] [(List.range 9).map fun i => 3 * ((i / 3 + 1) % 3) + i % 3, (List.range 9).map fun i => 3 * (i / 3) + (i % 3 + i / 3) % 3] _ ((s0.trans s1).trans (Same.new hl)) ((s0.trans s1).free hl) (g_two upd_same (Same.new hl _ _ (s1 _ _ e0)) (Same.new hl _ _ e1) (chg_dec (by decide)) (chg_dec (by decide)) (by decide)) (by decide) (by decide) (fun z => by first | exact ⟨rfl, by decide⟩ | (exfalso; omega))
  · refine ⟨_, rfl, rfl, _, rfl, iteF ⟨_, rfl, rfl, _, rfl, iteF ⟨_, rfl, rfl, _, rfl, iteF ⟨_, rfl, rfl, _, rfl, iteT ?_⟩⟩⟩⟩
    refine ⟨(by show 4 ≤ sizeLine; decide), fun t0 h0 => ⟨(by show 4 ≤ sizeLine; decide), fun t1 h1 => ⟨(by show 2 ≤ sizeLine; decide), fun l hl => ?_⟩⟩⟩
    have s0 : Same H (upd H t0 (.tup [V.int 1, V.int 2, V.int 3, V.int 0])) := Same.new h0
    have s1 : Same (upd H t0 (.tup [V.int 1, V.int 2, V.int 3, V.int 0])) (upd (upd H t0 (.tup [V.int 1, V.int 2, V.int 3, V.int 0])) t1 (.tup [V.int 1, V.int 0, V.int 2, V.int 3])) := Same.new h1
    exact q l 4 [t0, t1] [[1, 2, 3, 0], [1, 0, 2, 3]] _ ((s0.trans s1).trans (Same.new hl)) ((s0.trans s1).free hl) (g_two upd_same (Same.new hl _ _ (s1 _ _ upd_same)) (Same.new hl _ _ upd_same) (chg_dec (by decide)) (chg_dec (by decide)) (by decide)) (by decide) (by decide) (fun z => by first | exact ⟨rfl, by decide⟩ | (exfalso; omega))
  · refine ⟨_, rfl, rfl, _, rfl, iteF ⟨_, rfl, rfl, _, rfl, iteF ⟨_, rfl, rfl, _, rfl, iteF ⟨_, rfl, rfl, _, rfl, iteF ⟨_, rfl, rfl, _, rfl, iteT ?_⟩⟩⟩⟩⟩
    refine ⟨(by show 4 ≤ sizeLine; decide), fun t0 h0 => ⟨(by show 1 ≤ sizeLine; decide), fun l hl => ?_⟩⟩
    have s0 : Same H (upd H t0 (.tup [V.int 1, V.int 2, V.int 3, V.int 0])) := Same.new h0
    exact q l 4 [t0] [[1, 2, 3, 0]] _ (s0.trans (Same.new hl)) (s0.free hl) (g_one upd_same (Same.new hl _ _ upd_same) (chg_dec (by decide)) (by decide)) (by decide) (by decide) (fun z => by first | exact ⟨rfl, by decide⟩ | (exfalso; omega))
  · refine ⟨_, rfl, rfl, _, rfl, iteF ⟨_, rfl, rfl, _, rfl, iteF ⟨_, rfl, rfl, _, rfl, iteF ⟨_, rfl, rfl, _, rfl, iteF ⟨_, rfl, rfl, _, rfl, iteF ?_⟩⟩⟩⟩⟩
    refine ⟨(by show 8 ≤ sizeLine; decide), fun t0 h0 => ⟨(by show 8 ≤ sizeLine; decide), fun t1 h1 => ⟨(by show 2 ≤ sizeLine; decide), fun l hl => ?_⟩⟩⟩
    have s0 : Same H (upd H t0 (.tup [V.int 1, V.int 2, V.int 3, V.int 0, V.int 5, V.int 6, V.int 7, V.int 4])) := Same.new h0
    have s1 : Same (upd H t0 (.tup [V.int 1, V.int 2, V.int 3, V.int 0, V.int 5, V.int 6, V.int 7, V.int 4])) (upd (upd H t0 (.tup [V.int 1, V.int 2, V.int 3, V.int 0, V.int 5, V.int 6, V.int 7, V.int 4])) t1 (.tup [V.int 4, V.int 7, V.int 6, V.int 5, V.int 2, V.int 1, V.int 0, V.int 3])) := Same.new h1
    exact q l 8 [t0, t1] [[1, 2, 3, 0, 5, 6, 7, 4], [4, 7, 6, 5, 2, 1, 0, 3]] _ ((s0.trans s1).trans (Same.new hl)) ((s0.trans s1).free hl) (g_two upd_same (Same.new hl _ _ (s1 _ _ upd_same)) (Same.new hl _ _ upd_same) (chg_dec (by decide)) (chg_dec (by decide)) (by decide)) (by decide) (by decide) (fun z => by first | exact ⟨rfl, by decide⟩ | (exfalso; omega))

end
end KV

/-! {key: value} with one key, a tuple of ints or texts -/
namespace L2
open PySem PySem.Spec PyProof.Rows
def rDisp1 (p : Addr) (Q : VK) : List (V × V) → Hp → Prop := fun ps H2 => ∃ (x y : V) (k : List Key) (b : Addr), ps = [(x, y)] ∧ x = .ref b ∧ H2 p = some (.dT []) ∧ H2 b = some (.tup (k.map kV)) ∧ Q (.ref p) (upd H2 p (.dT (putK [] k y)))
def tDisp1 (tk tv : TE) : TE := fun σ H Q => ∀ p, H p = none → tPairs [(tk, tv)] σ (upd H p (.dT [])) (rDisp1 p Q)
theorem pe_disp1 {X : Cx} {pos : Pos} {ke ve : Expr} {tk tv : TE} (hu : X.A.units + 1 < cLine) (hk : PE X ke tk) (hv : PE X ve tv) : PE X (.Dict [some ke] [ve] pos) (tDisp1 tk tv) := by
  refine ⟨fun pins s σ H Q I q => ?_⟩
  have hn := I.hok.fresh (Nat.le_refl s.heap.objs.size)
  have I1 := I.laid (a := s.heap.objs.size) (o := .dT []) (h' := s.heap.push { cls := .type "dict", data := .dict #[] }) (t' := s.toks) (fun _ _ q => Heap.get?_push_of_some _ q) (Nat.le_refl _) (dt_empty s.heap I.big)
  refine wpAny_Dict_any rfl rfl (by simp) (by show 1 ≤ 15; decide) (thn ((pps_cons (pos := pos) hk hv pps_nil).run pins _ σ _ (rDisp1 s.heap.objs.size Q) I1 (q _ hn)) fun ws s2 ⟨ps, H2, I2, rel, x, y, k, b, e0, ex, e, eb, q2⟩ => ?_)
  subst e0 ex
  cases rel with
  | @cons p1 q1 l1 l2 h t =>
    cases t
    obtain ⟨u, r⟩ := q1
    obtain ⟨ru, rr⟩ := h
    cases (show u = Value.ref b from ru)
    obtain ⟨z, hd, xs, rl, dd⟩ := dt_of I2.hok e
    have hz : xs.length ≤ sizeLine := by rw [← Paired.length rl]; exact z
    unfold storeAll
    rw [List.forIn_cons]
    refine wpAny_bind (wpAny_bind (wpAny_dictSet_heap (hsz := hz) (show (tupleKind (mixKind X.prog X.w)).room X.A from (by show X.A.units < cLine; omega)) (key_of I2.hok eb) dd fun h' dd' hs => wpAny_pure ?_))
    show wpAny _ _ (pure PUnit.unit) _ _ _
    refine wpAny_pure ?_
    obtain ⟨q, es, ep, hq, h2, h3, h4, _, h5⟩ := dd'
    have hl : (putK ([] : List (List Key × V)) k y).length ≤ sizeLine := by
      have := length_putK ([] : List (List Key × V)) k y
      rw [sizeLine_eq]
      simp only [List.length_nil] at this
      omega
    refine ⟨.ref s.heap.objs.size, upd H2 s.heap.objs.size (.dT (putK [] k y)), d_write I2 (by rw [e]; exact True.intro) hs ⟨q, hq⟩ ⟨hl, hd, _, (rl.put k eb rr).keeps fun c ys ec => ?_, q, es, ep, hq, h2, h3, h4, h5⟩, rfl, q2⟩
    rw [upd_ne (ne_of ec e (fun z => nomatch z))]
    exact ec
end L2

/-! sorted of a list of tuples of ints of any lengths, none of them empty but perhaps the first; however many -/
namespace KV
open PySem PySem.Spec L2 PyProof.Rows
/-- a tuple of these ints stands there -/
def TpAt (g : Heap) (v : Value) (ns : List Int) : Prop := ∃ (p : Addr) (its : Array Value), v = .ref p ∧ IsTup g p its ∧ IntsAre its.toList ns
theorem TpAt.stay {g g' : Heap} {v : Value} {ns : List Int} (x : TpAt g v ns) (k : ∀ b o, g.get? b = some o → o.cls = .type "tuple" → g'.get? b = some o) : TpAt g' v ns := by
  obtain ⟨p, its, rfl, ⟨ob, h1, h2, m, h3⟩, h4⟩ := x
  exact ⟨p, its, rfl, ⟨ob, k _ _ h1 h2, h2, m, h3⟩, h4⟩
section
variable {prog : Program} {w : World} {A : Around} {s : Shared} {E : Value → Shared → Prop}
/-- one item behind the other, the shorter first where one ends -/
theorem lex_any {c fin : Bool} {Q : Bool → Shared → Prop} : ∀ {xs ys : List Value} {ns ms : List Int} (i : Nat), IntsAre xs ns → IntsAre ys ms → fin = decide (ns.length < ms.length) → Q (HT.lexLt ns ms) s → PySem.W.KatLex prog w A c fin Q (xs.zip ys) i s
  | [], _, _, _, _, .nil, .nil, hf, h => by
    subst hf
    exact PySem.W.kat_nil h
  | [], _, _, _, _, .nil, .cons n t r, hf, h => by
    subst hf
    exact PySem.W.kat_nil (by rw [show decide (([] : List Int).length < (n :: _ : List Int).length) = true from decide_eq_true (by simp)]; exact h)
  | _, [], _, _, _, .cons n t r, .nil, hf, h => by
    subst hf
    rw [List.zip_nil_right]
    exact PySem.W.kat_nil (by rw [show decide ((n :: _ : List Int).length < ([] : List Int).length) = false from decide_eq_false (by simp)]; exact h)
  | _ :: xs, _ :: ys, _, _, i, .cons n t r, .cons m u r', hf, h => by
    rw [List.zip_cons_cons]
    refine PySem.W.kat_cons (wpAny_eqBool_int ?_)
    by_cases z : n = m
    · subst z
      rw [beq_self_eq_true]
      refine PySem.W.kat_yes (lex_any (i + 1) r r' (by rw [hf]; simp) ?_)
      rw [HT.lexLt_cons, if_pos rfl] at h
      exact h
    · rw [show (n == m) = false from beq_eq_false_iff_ne.mpr z]
      refine PySem.W.kat_no (TS.oneLt_ints _ ?_)
      rw [HT.lexLt_cons, if_neg z] at h
      exact h
theorem tp_lt1 {b : Bool} {v u : Value} {ns ms : List Int} {Q : Bool → Shared → Prop} (hv : TpAt s.heap v ns) (hu : TpAt s.heap u ms) (h : Q (HT.lexLt ns ms) s) : wpAny (model prog w) A (keyLt' (tuples' b) v u) Q E s := by
  obtain ⟨p, xs, rfl, ⟨o1, a1, a2, m1, a3⟩, a4⟩ := hv
  obtain ⟨q, ys, rfl, ⟨o2, b1, b2, m2, b3⟩, b4⟩ := hu
  refine PySem.W.kat_lt a1 a3 b1 b3 (lex_any 0 a4 b4 ?_ h)
  rw [← a4.length, ← b4.length, Array.length_toList, Array.length_toList]
theorem tp_type {M : Model} {v : Value} {ns : List Int} (hv : TpAt s.heap v ns) : PySem.W.Looks M s.heap (typeOf v) (.type "tuple") := by
  obtain ⟨p, xs, rfl, ⟨o1, a1, a2, m1, a3⟩, a4⟩ := hv
  rw [← a2]
  exact (PySem.W.Looks.ld a1).andThen .now
theorem tp_lt0 {v u : Value} {ns ms : List Int} {Q : Bool → Shared → Prop} (hc : A.units < cLine) (hv : TpAt s.heap v ns) (hu : TpAt s.heap u ms) (h : Q (HT.lexLt ns ms) s) : wpAny (model prog w) A (keyLt' oneType' v u) Q E s := by
  have tv : PySem.W.Looks (model prog w) s.heap (typeOf v) (.type "tuple") := tp_type hv
  have sp : PySem.W.Looks (model prog w) s.heap (specialOf v "__lt__") (some (.builtin "tuple.__lt__")) := tv.andThen (PySem.W.Looks.of_pure PySem.F.slot_tuple_lt.lookup)
  have iv : PySem.W.Looks (model prog w) s.heap (isInstance v (.type "tuple")) true := tv.andThen (PySem.W.Looks.of_pure AutoSeq1.sub_tuple_tuple)
  obtain ⟨p, xs, rfl, ⟨⟨cls, dd, data, sl⟩, a1, a2, m1, a3⟩, a4⟩ := hv
  obtain ⟨q, ys, rfl, ⟨⟨cls2, dd2, data2, sl2⟩, b1, b2, m2, b3⟩, b4⟩ := hu
  simp only at a2 a3 b2 b3
  subst a2 a3 b2 b3
  rw [keyLt'_oneType, oneLt'_eq]
  simp only [if_true]
  refine wpAny_bind (wpAny_cRoomFor hc (wpAny_bind (NtL.csib (E := E) sp (PySem.F.slot_tuple_lt.bind _) ?_)))
  exact call_meets PySem.F.slot_tuple_lt ⟨_, a1, rfl⟩ PySem.F.entry_tuple_lt (PySem.F.args_tuple_lt_2 _ _) (HT.tuple_lt_ints p q xs ys m1 m2 dd dd2 sl sl2 ns ms a4 b4) ⟨a1, b1, wpAny_truthy_bool h⟩
/-- the first items that are told, None for an empty tuple -/
theorem tp_firsts {M : Model} : ∀ {vs : List Value} {k : Value → List Int} {R : List (Option Value) → Shared → Prop}, (∀ v ∈ vs, TpAt s.heap v (k v)) → (∀ fs : List (Option Value), fs.length = vs.length → (∀ (i : Nat) (v : Value), vs[i]? = some v → k v = [] → fs[i]? = some none) → R fs s) → wpAny M A (vs.mapM firstOfTuple') R E s
  | [], _, _, _, h => by
    rw [List.mapM_nil]
    exact wpAny_pure (h [] rfl fun i v e _ => by simp at e)
  | v :: vs, k, R, hv, h => by
    rw [List.mapM_cons]
    refine wpAny_bind ?_
    have hx := hv v List.mem_cons_self
    have tv : PySem.W.Looks M s.heap (typeOf v) (.type "tuple") := tp_type hx
    obtain ⟨p, xs, rfl, ⟨ob, a1, a2, m1, a3⟩, a4⟩ := hx
    rw [PySem.W.kas_first_eq]
    refine wpAny_bind (tv.here ?_)
    rw [if_neg (by first | decide | simp)]
    refine wpAny_bind (listItems_at a1 a3 (wpAny_pure ?_))
    refine wpAny_bind (tp_firsts (vs := vs) (k := k) (fun u hu => hv u (List.mem_cons_of_mem _ hu)) fun fs e1 e2 => wpAny_pure (h _ (by simp [e1]) fun i u hi hk => ?_))
    cases i with
    | zero =>
      have eu : Value.ref p = u := Option.some.inj hi
      rw [← eu] at hk
      rw [hk] at a4
      have z := a4.length
      rw [Array.length_toList] at z
      have e0 : xs[0]? = none := Array.getElem?_eq_none (by rw [z]; exact Nat.le_refl _)
      show some (xs[0]?) = some none
      rw [e0]
    | succ i => exact e2 i u hi hk
theorem tp_kind0 {M : Model} {vs : List Value} {k : Value → List Int} {Q : SortKind → Shared → Prop} (h2 : 2 ≤ vs.length) (hv : ∀ v ∈ vs, TpAt s.heap v (k v)) (h0 : ∀ v, vs[0]? = some v → k v = []) (h : Q oneType' s) : wpAny M A (keyKind' vs.toArray) Q E s := by
  obtain ⟨v0, rest, rfl⟩ : ∃ v0 rest, vs = v0 :: rest := by
    match vs, h2 with
    | v :: r, _ => exact ⟨v, r, rfl⟩
  rw [keyKind'_eq, List.mapM_toArray, map_eq_pure_bind]
  refine wpAny_bind (wpAny_bind (tp_firsts hv fun fs e1 e2 => wpAny_pure ?_))
  obtain ⟨fr, rfl⟩ : ∃ fr, fs = none :: fr := by
    have z := e2 0 v0 rfl (h0 v0 rfl)
    match fs, z with
    | f :: fr, z => exact ⟨fr, by rw [show f = none from Option.some.inj z]⟩
  rw [if_neg (by simp), if_neg (by simp)]
  rw [oneTypeOnly'_eq, List.mapM_toArray, map_eq_pure_bind]
  refine wpAny_bind (wpAny_bind (wpAny_bind (PySem.W.kas_mapM (r := Value.type "tuple") _ (fun v hm Q' hq => (tp_type (hv v hm)).here hq) (wpAny_pure ?_))))
  have ha : ((List.map (fun _ => Value.type "tuple") (v0 :: rest)).toArray.all fun x => x == Value.type "tuple") = true := by
    simp only [List.all_toArray, List.all_map, List.all_eq_true]
    exact fun _ _ => rfl
  have hb : (List.map (fun _ => Value.type "tuple") (v0 :: rest)).toArray[0]? = some (Value.type "tuple") := by simp
  rw [hb]
  simp only [ha, if_true]
  exact wpAny_pure (wpAny_pure h)
theorem tp_tups {g : Heap} {k : Value → List Int} : ∀ {vs : List Value}, (∀ v ∈ vs, TpAt g v (k v) ∧ k v ≠ []) → ∃ fs, PySem.W.KatTups g vs fs ∧ fs.length = vs.length ∧ ∀ f ∈ fs, ∃ n t, f = Value.int n t
  | [], _ => ⟨[], PySem.W.KatTups.nil, rfl, fun f hf => by simp at hf⟩
  | v :: vs, hv => by
    obtain ⟨fs, h1, h2, h3⟩ := tp_tups fun u hu => hv u (List.mem_cons_of_mem _ hu)
    obtain ⟨⟨p, xs, rfl, ⟨ob, a1, a2, m1, a3⟩, a4⟩, ne⟩ := hv v List.mem_cons_self
    obtain ⟨y, ys, e⟩ : ∃ y ys, xs.toList = y :: ys := by
      cases z : xs.toList with
      | nil =>
        rw [z] at a4
        have l := a4.length
        exact absurd (List.length_eq_zero_iff.mp l.symm) ne
      | cons y ys => exact ⟨y, ys, rfl⟩
    obtain ⟨n, t, hy⟩ := a4.all y (by rw [e]; exact List.mem_cons_self ..)
    refine ⟨y :: fs, PySem.W.KatTups.cons a1 a2 a3 ?_ h1, by simp [h2], fun f hf => ?_⟩
    · have z := congrArg (fun l : List Value => l[0]?) e
      simpa using z
    · rcases List.mem_cons.mp hf with rfl | hf
      · exact ⟨n, t, hy⟩
      · exact h3 f hf
theorem tp_sortable {a : Addr} {vs : List Value} {k : Value → List Int} (hc : A.units < cLine) (h2 : 2 ≤ vs.length) (hv : ∀ v ∈ vs, TpAt s.heap v (k v)) (hn : (∀ v ∈ vs, k v ≠ []) ∨ ∀ v, vs[0]? = some v → k v = []) (ha : ∀ o, s.heap.get? a = some o → o.cls ≠ .type "tuple") :
    SrtO.SortableO prog w A s a vs fun v u => HT.lexLt (k v) (k u) := by
  intro g keep
  have hv' : ∀ v ∈ vs, TpAt g v (k v) := fun v hm => (hv v hm).stay fun b o e c => keep b o (fun z => by subst z; exact ha o e c) e
  rcases hn with hn | hn
  · obtain ⟨fs, f1, f2, f3⟩ := tp_tups fun v hm => ⟨hv' v hm, hn v hm⟩
    refine ⟨tuples' true, fun Q E hq => ?_, fun p q hp hq => tp_lt1 (hv' p.1 hp) (hv' q.1 hq) ⟨rfl, rfl⟩⟩
    refine PySem.W.kat_kind (T := .type "int") f1 (by omega) (fun f hm => ?_) (by rfl) ?_
    · obtain ⟨n, t, rfl⟩ := f3 f hm
      exact PySem.W.Looks.now
    · rw [show (Value.type "int" != Value.type "tuple") = true by first | decide +kernel | rfl | decide]
      exact hq
  · exact ⟨oneType', fun Q E hq => tp_kind0 (s := { s with heap := g }) h2 hv' hn hq, fun p q hp hq => tp_lt0 (s := { s with heap := g }) hc (hv' p.1 hp) (hv' q.1 hq) ⟨rfl, rfl⟩⟩
end
/-- sorted(xs), xs a list of tuples of ints -/
def rSortedTL (K : PySem.W.Frag) : List V → Hp → VK → Prop := fun vs H Q => ∃ (a : Addr) (ts : List Addr) (k : Addr → List Int), vs = [.ref a] ∧ SqL K H a (ts.map V.ref) ∧ (∀ t ∈ ts, H t = some (.tup ((k t).map V.int))) ∧ ((∀ t ∈ ts, k t ≠ []) ∨ ∀ t, ts[0]? = some t → k t = []) ∧
  ∀ (ts' : List Addr) (p : Addr), ts'.Perm ts → ts'.Pairwise (fun p q => HT.lexLt (k q) (k p) = false) → H p = none → Q (.ref p) (upd H p (.lst (ts'.map V.ref)))
theorem cr_sortedTL {X : Cx} (hu : X.A.units + 64 < cLine) : CallR X (.builtin "sorted") (rSortedTL X.K) := by
  intro pins s σ H vs us Q I r h
  obtain ⟨a, ts, k, rfl, hs, ht, hn, q⟩ := h
  obtain ⟨its, rv, hl, hz⟩ := I.list hs
  rw [Vals.ref1 r]
  have ei := nts_of rv
  have hv : ∀ u ∈ its, TpAt s.heap u (k (adO u)) := fun u hm => by
    rw [ei] at hm
    obtain ⟨t, hmt, rfl⟩ := List.mem_map.mp hm
    obtain ⟨_, its2, r2, o, ho, hc, n, hd⟩ := I.hok _ _ (ht t hmt)
    exact ⟨t, _, rfl, ⟨o, ho, hc, n, hd⟩, ints_of_vals r2⟩
  have hn' : (∀ v ∈ its, k (adO v) ≠ []) ∨ ∀ v, its[0]? = some v → k (adO v) = [] := by
    rw [ei]
    rcases hn with hn | hn
    · refine .inl fun v hm => ?_
      obtain ⟨t, hmt, rfl⟩ := List.mem_map.mp hm
      exact hn t hmt
    · refine .inr fun v hm => ?_
      rw [List.getElem?_map] at hm
      cases e : ts[0]? with
      | none =>
        rw [e] at hm
        cases hm
      | some t =>
        rw [e] at hm
        rw [← Option.some.inj hm]
        exact hn t e
  refine SrtO.sorted_ord (NtL.swo_lexL fun u => k (adO u)) hl.isList (by rw [← rv.length]; exact hz) (fun h2 g c hg kk => ?_) fun out h1 h2 => ?_
  · refine tp_sortable (s := { s with heap := g }) (by show X.A.units + 1 + 1 < cLine; omega) h2 (fun v hm => (hv v hm).stay fun b o e _ => (kk b o e).2) hn' fun o e => ?_
    have e' : some o = some (seqObj "list" its.toArray 0) := e.symm.trans hg
    cases e'
    intro z
    exact absurd (Value.type.inj z) (by decide)
  · have eo : out = (out.map adO).map Value.ref := ref_map fun u hm => by
      have hm' : u ∈ its := h2.perm.mem_iff.mp hm
      rw [ei] at hm'
      obtain ⟨t, _, e⟩ := List.mem_map.mp hm'
      exact ⟨t, e.symm⟩
    have hp : (out.map adO).Perm ts := by
      have p1 := h2.perm.map adO
      rw [ei, ad_map] at p1
      exact p1
    have hs2 : (out.map adO).Pairwise (fun p q => HT.lexLt (k q) (k p) = false) := List.pairwise_map.mpr (h1.imp fun {x y} z => z)
    obtain ⟨ep, he'⟩ := PyProof.Rows.sortedAll_at s.heap its out.toArray
    have hlen : ((out.map adO).map V.ref).length ≤ sizeLine := by
      rw [List.length_map, hp.length_eq]
      rw [List.length_map] at hz
      exact hz
    have rvo : Vals ((out.map adO).map V.ref) out := by
      have z := of_nts (out.map adO)
      rw [← eo] at z
      exact z
    exact ⟨.ref _, upd H (s.heap.objs.size + 1) (.lst ((out.map adO).map V.ref)), I.laid (t' := s.toks) (fun _ _ => PyProof.Rows.sortedAll_old) (Nat.le_succ _) ⟨hlen, out, ep, rvo, he'⟩, rfl, q _ _ hp hs2 (I.hok.fresh (Nat.le_succ _))⟩
end KV

/-! sorted of a dict whose keys are tuples of ints, of one length, however many: some list of the keys -/
namespace KV
open PySem PySem.Spec PyProof.Rows L2
theorem tp_of {g : Heap} {v : Value} {ns : List Int} (h : TS.TupInts g v ns) : TpAt g v ns := h
def rSortDN : List V → Hp → VK → Prop := fun xs H Q => ∃ (a : Addr) (kvs : List (List L2.Key × V)) (d : Nat) (B : Int), xs = [.ref a] ∧ H a = some (.dT kvs) ∧ kvs.length ≤ 1000 ∧ 1 ≤ d ∧
  (∀ p ∈ kvs, ∃ ns : List Int, p.1.map L2.kV = ns.map V.int ∧ ns.length = d ∧ TS.Bd B ns) ∧
  ∀ (bs cs : List Addr) (p : Addr), L2.IsKeys H kvs bs → cs.Perm bs → H p = none → Q (.ref p) (L2.upd H p (.lst (cs.map V.ref)))
theorem cr_sortedDN {X : Cx} (hc : X.calm = true) (hu : X.A.units + 64 < cLine) : CallR X (.builtin "sorted") rSortDN := by
  intro pins s σ H xs us Q I r h
  obtain ⟨d, kvs, dn, B, rfl, hd, h64, hd1, hk, q⟩ := h
  obtain ⟨u, rfl, rx⟩ := r.one
  cases rx
  obtain ⟨z, hs, ks, pr, o, es, ep, ho, hx, hdt, he, hn⟩ := (show ObjOk X.prog X.w H s.heap d (.dT kvs) from I.hok d _ hd)
  have l1 : es.size = ks.length := size_of_entries he
  have l2 : kvs.length = ks.length := Paired.length pr
  refine Calls.call_function_entry PyProof.Rows.kind_sorted PyProof.Rows.plain_sorted PyProof.Rows.entry_sorted (PyProof.Rows.args_sorted1 _) ?_
  unfold Builtin.«sorted»
  refine wpAny_bind (m := checkCount "sorted" 1 1 _) (wpAny_pure ?_)
  refine wpAny_bind (PySem.W.kdu_collect (A := X.A.in1) (kdl_raw hs hx hdt) (I.ok.hd hc) ho (by rw [l1, sizeLine_eq]; omega) fun h' tk acc hk2 it => ?_)
  have ea : acc.toList = (ks.map fun x => x.2.1).map Value.ref := by
    rw [List.map_map]
    have hl : acc.toList.length = ks.length := by rw [Array.length_toList, it.1]; exact l1
    apply List.ext_getElem?
    intro j
    rw [List.getElem?_map]
    cases hj : acc.toList[j]? with
    | none =>
      have h1 := List.getElem?_eq_none_iff.mp hj
      rw [List.getElem?_eq_none (by omega)]
      all_goals rfl
    | some v =>
      obtain ⟨en, hen, hv⟩ := it.2 j v (by rw [← Array.getElem?_toList]; exact hj)
      have qe := entry_at he j
      rw [hen] at qe
      cases hb : ks[j]? with
      | none =>
        rw [hb] at qe
        exact nomatch (show some en = none from qe)
      | some b =>
        rw [hb] at qe
        have e2 : en = entryOfKey (tupleKind (mixKind X.prog X.w)) b := Option.some.inj qe
        rw [hv, e2]
        all_goals rfl
  have ik := isKeys_of pr
  have I1 : Inv X pins σ H { s with heap := h', toks := tk } := I.kept hk2
  have hal : acc.toList.length = ks.length := by rw [ea, List.length_map, List.length_map]
  refine wpAny_bind (wpAny_newList ?_ (by rw [hal, sizeLine_eq]; omega))
  have hoL : (h'.push (seqObj "list" acc.toList.toArray 0)).get? h'.objs.size = some (seqObj "list" acc.toList.toArray 0) := Heap.get?_push_size _ rfl
  show wpAny _ _ _ _ _ { s with heap := h'.push (seqObj "list" acc.toList.toArray 0), toks := tk }
  have tok : TS.TupsOk h' dn B acc.toList := fun v hv => by
    rw [ea] at hv
    obtain ⟨b, hb, rfl⟩ := List.mem_map.mp hv
    obtain ⟨p, hp, e⟩ := keys_mem ik b hb
    obtain ⟨ns, e1, e2, e3⟩ := hk p hp
    rw [e1] at e
    exact ⟨ns, tupI_raw I1 (SqT.of e), e2, e3⟩
  have keep : ∀ b o, h'.get? b = some o → o.cls = .type "tuple" → (h'.push (seqObj "list" acc.toList.toArray 0)).get? b = some o := fun b o e _ => Heap.get?_push_of_some _ e
  refine wpAny_bind (wpAny_holding (wpAny_call_entry PyProof.Rows.slot_list_sort ⟨_, hoL, rfl⟩ PyProof.Rows.entry_list_sort
    (SrtO.list_sort_ord (s := { s with heap := h'.push (seqObj "list" acc.toList.toArray 0), toks := tk }) (NtL.swo_lexL fun v => TS.intsOf h' v) hoL (by rw [hal, sizeLine_eq]; omega) (fun h2 => ?_) fun out g0 g2 => ⟨_, rfl, ?_⟩) (PyProof.Rows.args_list_sort _)))
  · refine tp_sortable (s := { s with heap := h'.push (seqObj "list" acc.toList.toArray 0), toks := tk }) (by show X.A.units + 1 + 1 < cLine; omega) h2 (fun v hv => ?_) (.inl fun v hv => ?_) fun o e => ?_
    · obtain ⟨ns0, t0, _⟩ := tok v hv
      rw [t0.ints]
      exact tp_of (t0.keeps keep)
    · obtain ⟨ns0, t0, l0, _⟩ := tok v hv
      rw [t0.ints]
      intro z
      rw [z] at l0
      have : ([] : List Int).length = dn := l0
      simp at this
      omega
    · have e' : some o = some (seqObj "list" acc.toList.toArray 0) := e.symm.trans hoL
      cases e'
      intro z
      exact absurd (Value.type.inj z) (by decide)
  have g1 := g2.perm
  obtain ⟨e', he'⟩ := PyProof.Rows.sortedHeap_at (vs := acc.toList) (out := out.toArray) hoL
  obtain ⟨cs, hcs, hpc⟩ : ∃ cs : List Addr, out = cs.map Value.ref ∧ cs.Perm (ks.map fun x => x.2.1) := by
    rw [ea] at g1
    refine ⟨out.filterMap (fun v => match v with | .ref a => some a | _ => none), ?_, ?_⟩
    · have all : ∀ v ∈ out, ∃ a, v = Value.ref a := fun v hv => by
        obtain ⟨b, _, e⟩ := List.mem_map.mp (g1.mem_iff.mp hv)
        exact ⟨b, e.symm⟩
      generalize out = l at all
      induction l with
      | nil => rfl
      | cons v r ih =>
        obtain ⟨a, rfl⟩ := all v (by simp)
        show Value.ref a :: r = Value.ref a :: _
        rw [← ih fun v hv => all v (List.mem_cons_of_mem _ hv)]
    · have z := g1.filterMap (fun v : Value => match v with | .ref a => some a | _ => none)
      have e : ∀ l : List Addr, (l.map Value.ref).filterMap (fun v : Value => match v with | .ref a => some a | _ => none) = l := fun l => by
        induction l with
        | nil => rfl
        | cons a r ih =>
          show a :: _ = a :: r
          exact congrArg (a :: ·) ih
      rw [e] at z
      exact z
  have hlen : (cs.map V.ref).length ≤ sizeLine := by
    rw [List.length_map, hpc.length_eq, List.length_map, sizeLine_eq]
    omega
  refine wpAny_pure ⟨_, rfl, .ref h'.objs.size, L2.upd H h'.objs.size (.lst (cs.map V.ref)), I1.laid (t' := tk) (fun b u e => ?_) (Nat.le_refl _)
    (show ObjOk X.prog X.w _ _ _ (.lst (cs.map V.ref)) from ⟨hlen, out, e', by rw [hcs]; exact vals_refs cs, he'⟩), rfl, q _ cs _ ik hpc (I1.hok.fresh (Nat.le_refl _))⟩
  have hb : b < h'.objs.size := Heap.lt_size e
  rw [PyProof.Rows.sortedHeap_old (Nat.ne_of_lt hb) (by rw [size_push']; exact Nat.lt_succ_of_lt hb)]
  exact Heap.get?_push_of_some _ e
end KV

/-! the same, and in order -/
namespace KV
open PySem PySem.Spec PyProof.Rows L2
def rSortDS : List V → Hp → VK → Prop := fun xs H Q => ∃ (a : Addr) (kvs : List (List L2.Key × V)) (d : Nat) (B : Int), xs = [.ref a] ∧ H a = some (.dT kvs) ∧ kvs.length ≤ 4000 ∧ 1 ≤ d ∧
  (∀ p ∈ kvs, ∃ ns : List Int, p.1.map L2.kV = ns.map V.int ∧ ns.length = d ∧ TS.Bd B ns) ∧
  ∀ (bs cs : List Addr) (p : Addr), L2.IsKeys H kvs bs → cs.Perm bs → cs.Pairwise (fun p q => ∀ ns ms : List Int, H p = some (.tup (ns.map V.int)) → H q = some (.tup (ms.map V.int)) → HT.lexLt ms ns = false) → H p = none → Q (.ref p) (L2.upd H p (.lst (cs.map V.ref)))
theorem cr_sortedDS {X : Cx} (hc : X.calm = true) (hu : X.A.units + 64 < cLine) : CallR X (.builtin "sorted") rSortDS := by
  intro pins s σ H xs us Q I r h
  obtain ⟨d, kvs, dn, B, rfl, hd, h64, hd1, hk, q⟩ := h
  obtain ⟨u, rfl, rx⟩ := r.one
  cases rx
  obtain ⟨z, hs, ks, pr, o, es, ep, ho, hx, hdt, he, hn⟩ := (show ObjOk X.prog X.w H s.heap d (.dT kvs) from I.hok d _ hd)
  have l1 : es.size = ks.length := size_of_entries he
  have l2 : kvs.length = ks.length := Paired.length pr
  refine Calls.call_function_entry PyProof.Rows.kind_sorted PyProof.Rows.plain_sorted PyProof.Rows.entry_sorted (PyProof.Rows.args_sorted1 _) ?_
  unfold Builtin.«sorted»
  refine wpAny_bind (m := checkCount "sorted" 1 1 _) (wpAny_pure ?_)
  refine wpAny_bind (PySem.W.kdu_collect (A := X.A.in1) (kdl_raw hs hx hdt) (I.ok.hd hc) ho (by rw [l1, sizeLine_eq]; omega) fun h' tk acc hk2 it => ?_)
  have ea : acc.toList = (ks.map fun x => x.2.1).map Value.ref := by
    rw [List.map_map]
    have hl : acc.toList.length = ks.length := by rw [Array.length_toList, it.1]; exact l1
    apply List.ext_getElem?
    intro j
    rw [List.getElem?_map]
    cases hj : acc.toList[j]? with
    | none =>
      have h1 := List.getElem?_eq_none_iff.mp hj
      rw [List.getElem?_eq_none (by omega)]
      all_goals rfl
    | some v =>
      obtain ⟨en, hen, hv⟩ := it.2 j v (by rw [← Array.getElem?_toList]; exact hj)
      have qe := entry_at he j
      rw [hen] at qe
      cases hb : ks[j]? with
      | none =>
        rw [hb] at qe
        exact nomatch (show some en = none from qe)
      | some b =>
        rw [hb] at qe
        have e2 : en = entryOfKey (tupleKind (mixKind X.prog X.w)) b := Option.some.inj qe
        rw [hv, e2]
        all_goals rfl
  have ik := isKeys_of pr
  have I1 : Inv X pins σ H { s with heap := h', toks := tk } := I.kept hk2
  have hal : acc.toList.length = ks.length := by rw [ea, List.length_map, List.length_map]
  refine wpAny_bind (wpAny_newList ?_ (by rw [hal, sizeLine_eq]; omega))
  have hoL : (h'.push (seqObj "list" acc.toList.toArray 0)).get? h'.objs.size = some (seqObj "list" acc.toList.toArray 0) := Heap.get?_push_size _ rfl
  show wpAny _ _ _ _ _ { s with heap := h'.push (seqObj "list" acc.toList.toArray 0), toks := tk }
  have tok : TS.TupsOk h' dn B acc.toList := fun v hv => by
    rw [ea] at hv
    obtain ⟨b, hb, rfl⟩ := List.mem_map.mp hv
    obtain ⟨p, hp, e⟩ := keys_mem ik b hb
    obtain ⟨ns, e1, e2, e3⟩ := hk p hp
    rw [e1] at e
    exact ⟨ns, tupI_raw I1 (SqT.of e), e2, e3⟩
  have keep : ∀ b o, h'.get? b = some o → o.cls = .type "tuple" → (h'.push (seqObj "list" acc.toList.toArray 0)).get? b = some o := fun b o e _ => Heap.get?_push_of_some _ e
  refine wpAny_bind (wpAny_holding (wpAny_call_entry PyProof.Rows.slot_list_sort ⟨_, hoL, rfl⟩ PyProof.Rows.entry_list_sort
    (SrtO.list_sort_ord (s := { s with heap := h'.push (seqObj "list" acc.toList.toArray 0), toks := tk }) (NtL.swo_lexL fun v => TS.intsOf h' v) hoL (by rw [hal, sizeLine_eq]; omega) (fun h2 => ?_) fun out g0 g2 => ⟨_, rfl, ?_⟩) (PyProof.Rows.args_list_sort _)))
  · refine tp_sortable (s := { s with heap := h'.push (seqObj "list" acc.toList.toArray 0), toks := tk }) (by show X.A.units + 1 + 1 < cLine; omega) h2 (fun v hv => ?_) (.inl fun v hv => ?_) fun o e => ?_
    · obtain ⟨ns0, t0, _⟩ := tok v hv
      rw [t0.ints]
      exact tp_of (t0.keeps keep)
    · obtain ⟨ns0, t0, l0, _⟩ := tok v hv
      rw [t0.ints]
      intro z
      rw [z] at l0
      have : ([] : List Int).length = dn := l0
      simp at this
      omega
    · have e' : some o = some (seqObj "list" acc.toList.toArray 0) := e.symm.trans hoL
      cases e'
      intro z
      exact absurd (Value.type.inj z) (by decide)
  have g1 := g2.perm
  obtain ⟨e', he'⟩ := PyProof.Rows.sortedHeap_at (vs := acc.toList) (out := out.toArray) hoL
  obtain ⟨cs, hcs, hpc⟩ : ∃ cs : List Addr, out = cs.map Value.ref ∧ cs.Perm (ks.map fun x => x.2.1) := by
    rw [ea] at g1
    refine ⟨out.filterMap (fun v => match v with | .ref a => some a | _ => none), ?_, ?_⟩
    · have all : ∀ v ∈ out, ∃ a, v = Value.ref a := fun v hv => by
        obtain ⟨b, _, e⟩ := List.mem_map.mp (g1.mem_iff.mp hv)
        exact ⟨b, e.symm⟩
      generalize out = l at all
      induction l with
      | nil => rfl
      | cons v r ih =>
        obtain ⟨a, rfl⟩ := all v (by simp)
        show Value.ref a :: r = Value.ref a :: _
        rw [← ih fun v hv => all v (List.mem_cons_of_mem _ hv)]
    · have z := g1.filterMap (fun v : Value => match v with | .ref a => some a | _ => none)
      have e : ∀ l : List Addr, (l.map Value.ref).filterMap (fun v : Value => match v with | .ref a => some a | _ => none) = l := fun l => by
        induction l with
        | nil => rfl
        | cons a r ih =>
          show a :: _ = a :: r
          exact congrArg (a :: ·) ih
      rw [e] at z
      exact z
  have hpw : cs.Pairwise (fun p q => ∀ ns ms : List Int, H p = some (.tup (ns.map V.int)) → H q = some (.tup (ms.map V.int)) → HT.lexLt ms ns = false) := by
    have z : (cs.map Value.ref).Pairwise (fun v u => HT.lexLt (TS.intsOf h' u) (TS.intsOf h' v) = false) := by
      rw [← hcs]
      exact g0.imp fun {x y} z => z
    rw [List.pairwise_map] at z
    refine z.imp fun {p q} y ns ms e1 e2 => ?_
    have t1 : TS.TupInts h' (.ref p) ns := tupI_raw I1 (SqT.of e1)
    have t2 : TS.TupInts h' (.ref q) ms := tupI_raw I1 (SqT.of e2)
    rw [t1.ints, t2.ints] at y
    exact y
  have hlen : (cs.map V.ref).length ≤ sizeLine := by
    rw [List.length_map, hpc.length_eq, List.length_map, sizeLine_eq]
    omega
  refine wpAny_pure ⟨_, rfl, .ref h'.objs.size, L2.upd H h'.objs.size (.lst (cs.map V.ref)), I1.laid (t' := tk) (fun b u e => ?_) (Nat.le_refl _)
    (show ObjOk X.prog X.w _ _ _ (.lst (cs.map V.ref)) from ⟨hlen, out, e', by rw [hcs]; exact vals_refs cs, he'⟩), rfl, q _ cs _ ik hpc hpw (I1.hok.fresh (Nat.le_refl _))⟩
  have hb : b < h'.objs.size := Heap.lt_size e
  rw [PyProof.Rows.sortedHeap_old (Nat.ne_of_lt hb) (by rw [size_push']; exact Nat.lt_succ_of_lt hb)]
  exact Heap.get?_push_of_some _ e
end KV

/-! where rows lead -/
namespace KV
open PySem PySem.Spec PyProof.Rows L2 KC
/-- where a row leads a state -/
def ends (cs : List (List Nat)) (rw_ : List Nat) (s : Nat) : Nat := rw_.foldl (fun s k => (cs.getD k []).getD s 0) s
theorem ends_lt {n : Nat} {cs : List (List Nat)} (hc : ∀ c ∈ cs, Chg n c) : ∀ (rw_ : List Nat) (s : Nat), (∀ k ∈ rw_, k < cs.length) → s < n → ends cs rw_ s < n
  | [], s, _, h => h
  | k :: r, s, hk, h => by
    have kl := hk k (by simp)
    have e : cs.getD k [] = cs[k] := by rw [List.getD_eq_getElem?_getD, List.getElem?_eq_getElem kl]; rfl
    refine ends_lt hc r _ (fun j hj => hk j (List.mem_cons_of_mem _ hj)) ?_
    show (cs.getD k []).getD s 0 < n
    rw [e]
    exact (hc _ (List.getElem_mem kl)).at_lt h
theorem Chg.range (n : Nat) : Chg n (List.range n) := ⟨List.length_range, fun x hx => List.mem_range.mp hx, List.nodup_range⟩
/-- the row's change, one command more -/
theorem ends_comp {n : Nat} {cs : List (List Nat)} {rw_ : List Nat} {k : Nat} : comp ((List.range n).map (ends cs rw_)) (cs.getD k []) = (List.range n).map (ends cs (rw_ ++ [k])) := by
  unfold comp
  rw [List.map_map]
  refine List.map_congr_left fun s _ => ?_
  show _ = ends cs (rw_ ++ [k]) s
  unfold ends
  rw [List.foldl_append]
  rfl
theorem ends_nil {n : Nat} {cs : List (List Nat)} : (List.range n).map (ends cs []) = List.range n := List.map_id _
end KV

/-! all changes of a machine, in the order in which they are found: mathematics -/
namespace KV
open PySem PySem.Spec PyProof.Rows L2 KC
theorem snoc_ind {P : List Nat → Prop} (h0 : P []) (h1 : ∀ r k, P r → P (r ++ [k])) (r : List Nat) : P r := by
  rw [← List.reverse_reverse r]
  induction r.reverse with
  | nil => exact h0
  | cons k t ih => rw [List.reverse_cons]; exact h1 _ _ ih
def act (n : Nat) (cs : List (List Nat)) (r : List Nat) : List Nat := (List.range n).map (ends cs r)
def Vld (m : Nat) (r : List Nat) : Prop := ∀ k ∈ r, k < m
def Rch (n : Nat) (cs : List (List Nat)) (g : List Nat) : Prop := ∃ r, Vld cs.length r ∧ g = act n cs r
abbrev Fs := List (List Nat × List Nat)
def keysF (fs : Fs) : List (List Nat) := fs.map (·.1)
def addF (fs : Fs) (g r : List Nat) : Fs := if g ∈ keysF fs then fs else fs ++ [(g, r)]
/-- the first j makers after (g, r) -/
def exF (cs : List (List Nat)) (g r : List Nat) : Nat → Fs → Fs
  | 0, fs => fs
  | j + 1, fs => addF (exF cs g r j fs) (comp g (cs.getD j [])) (r ++ [j])
def grow (n : Nat) (cs : List (List Nat)) : Nat → Fs
  | 0 => [(List.range n, [])]
  | k + 1 => match (grow n cs k)[k]? with
    | some p => exF cs p.1 p.2 cs.length (grow n cs k)
    | none => grow n cs k
theorem act_nil {n : Nat} {cs : List (List Nat)} : act n cs [] = List.range n := ends_nil
theorem act_snoc {n : Nat} {cs : List (List Nat)} {r : List Nat} {k : Nat} : act n cs (r ++ [k]) = comp (act n cs r) (cs.getD k []) := ends_comp.symm
theorem Vld.snoc {m k : Nat} {r : List Nat} (h : Vld m r) (hk : k < m) : Vld m (r ++ [k]) := fun x hx => by
  rcases List.mem_append.mp hx with z | z
  · exact h x z
  · rw [show x = k from by simpa using z]
    exact hk
theorem Vld.of_snoc {m k : Nat} {r : List Nat} (h : Vld m (r ++ [k])) : Vld m r ∧ k < m := ⟨fun x hx => h x (List.mem_append_left _ hx), h k (by simp)⟩
theorem Vld.nil {m : Nat} : Vld m [] := fun _ h => by cases h
theorem cs_at {cs : List (List Nat)} {k : Nat} (h : k < cs.length) : cs.getD k [] = cs[k] := by rw [List.getD_eq_getElem?_getD, List.getElem?_eq_getElem h]; rfl
theorem act_chg {n : Nat} {cs : List (List Nat)} (hc : ∀ c ∈ cs, Chg n c) {r : List Nat} (h : Vld cs.length r) : Chg n (act n cs r) := by
  revert h
  refine snoc_ind (P := fun r => Vld cs.length r → Chg n (act n cs r)) (fun _ => by rw [act_nil]; exact Chg.range n) (fun r k ih h => ?_) r
  rw [act_snoc, cs_at h.of_snoc.2]
  exact chg_comp (ih h.of_snoc.1) (hc _ (List.getElem_mem _))
theorem Rch.chg {n : Nat} {cs : List (List Nat)} (hc : ∀ c ∈ cs, Chg n c) {g : List Nat} (h : Rch n cs g) : Chg n g := by
  obtain ⟨r, h1, rfl⟩ := h
  exact act_chg hc h1
theorem Rch.one {n : Nat} {cs : List (List Nat)} : Rch n cs (List.range n) := ⟨[], Vld.nil, act_nil.symm⟩
theorem Rch.step {n : Nat} {cs : List (List Nat)} {g : List Nat} {k : Nat} (h : Rch n cs g) (hk : k < cs.length) : Rch n cs (comp g (cs.getD k [])) := by
  obtain ⟨r, h1, rfl⟩ := h
  exact ⟨r ++ [k], h1.snoc hk, act_snoc.symm⟩
/-- a set that holds the idle change and goes on holds all -/
theorem Rch.all {n : Nat} {cs : List (List Nat)} {S : List Nat → Prop} (h0 : S (List.range n)) (h1 : ∀ g k, S g → k < cs.length → S (comp g (cs.getD k []))) {g : List Nat} (h : Rch n cs g) : S g := by
  obtain ⟨r, hv, rfl⟩ := h
  revert hv
  refine snoc_ind (P := fun r => Vld cs.length r → S (act n cs r)) (fun _ => by rw [act_nil]; exact h0) (fun r k ih hv => ?_) r
  rw [act_snoc]
  exact h1 _ _ (ih hv.of_snoc.1) hv.of_snoc.2
theorem addF_mem {fs : Fs} {g r : List Nat} : g ∈ keysF (addF fs g r) := by
  unfold addF
  split
  · assumption
  · simp [keysF]
theorem addF_pre {fs : Fs} {g r : List Nat} : fs <+: addF fs g r := by
  unfold addF
  split
  · exact List.prefix_refl _
  · exact List.prefix_append _ _
theorem exF_pre {cs : List (List Nat)} {g r : List Nat} {fs : Fs} : ∀ j, fs <+: exF cs g r j fs
  | 0 => List.prefix_refl _
  | j + 1 => (exF_pre j).trans addF_pre
theorem exF_mono {cs : List (List Nat)} {g r : List Nat} {fs : Fs} {i : Nat} : ∀ j, i ≤ j → exF cs g r i fs <+: exF cs g r j fs
  | 0, h => by rw [Nat.le_zero.mp h]; exact List.prefix_refl _
  | j + 1, h => by
    rcases Nat.lt_or_eq_of_le h with z | z
    · exact (exF_mono j (by omega)).trans addF_pre
    · rw [z]; exact List.prefix_refl _
theorem keys_pre {fs gs : Fs} (h : fs <+: gs) {g : List Nat} (m : g ∈ keysF fs) : g ∈ keysF gs := by
  obtain ⟨p, hp, rfl⟩ := List.mem_map.mp m
  exact List.mem_map.mpr ⟨p, h.subset hp, rfl⟩
theorem exF_has {cs : List (List Nat)} {g r : List Nat} {fs : Fs} {i j : Nat} (h : i < j) : comp g (cs.getD i []) ∈ keysF (exF cs g r j fs) := keys_pre (exF_mono (i := i + 1) j h) addF_mem
theorem grow_succ {n : Nat} {cs : List (List Nat)} {k : Nat} : grow n cs k <+: grow n cs (k + 1) := by
  show _ <+: (match (grow n cs k)[k]? with | some p => exF cs p.1 p.2 cs.length (grow n cs k) | none => grow n cs k)
  split
  · exact exF_pre _
  · exact List.prefix_refl _
theorem grow_pre {n : Nat} {cs : List (List Nat)} {i : Nat} : ∀ j, i ≤ j → grow n cs i <+: grow n cs j
  | 0, h => by rw [Nat.le_zero.mp h]; exact List.prefix_refl _
  | j + 1, h => by
    rcases Nat.lt_or_eq_of_le h with z | z
    · exact (grow_pre j (by omega)).trans grow_succ
    · rw [z]; exact List.prefix_refl _
theorem grow_at {n : Nat} {cs : List (List Nat)} {k : Nat} {p : List Nat × List Nat} (h : (grow n cs k)[k]? = some p) : grow n cs (k + 1) = exF cs p.1 p.2 cs.length (grow n cs k) := by
  show (match (grow n cs k)[k]? with | some p => exF cs p.1 p.2 cs.length (grow n cs k) | none => grow n cs k) = _
  rw [h]
theorem pre_at {fs gs : Fs} (h : fs <+: gs) {i : Nat} {p : List Nat × List Nat} (e : fs[i]? = some p) : gs[i]? = some p := by
  obtain ⟨t, rfl⟩ := h
  rw [List.getElem?_append_left (List.getElem?_eq_some_iff.mp e).1]
  exact e
/-- what each of them is -/
structure Gd (n : Nat) (cs : List (List Nat)) (fs : Fs) : Prop where
  nd : (keysF fs).Nodup
  rw_ : ∀ p ∈ fs, Vld cs.length p.2 ∧ p.1 = act n cs p.2
theorem Gd.add {n : Nat} {cs : List (List Nat)} {fs : Fs} {r : List Nat} {k : Nat} (h : Gd n cs fs) (hr : Vld cs.length r) (hk : k < cs.length) : Gd n cs (addF fs (comp (act n cs r) (cs.getD k [])) (r ++ [k])) := by
  unfold addF
  split
  · exact h
  · rename_i z
    refine ⟨?_, fun p hp => ?_⟩
    · unfold keysF at z ⊢
      rw [List.map_append, List.nodup_append]
      refine ⟨h.nd, by simp, fun a ha b hb e => z ?_⟩
      have : b = comp (act n cs r) (cs.getD k []) := by simpa using hb
      rw [← this, ← e]
      exact ha
    · rcases List.mem_append.mp hp with y | y
      · exact h.rw_ p y
      · rw [show p = _ from by simpa using y]
        exact ⟨hr.snoc hk, act_snoc.symm⟩
theorem Gd.ex {n : Nat} {cs : List (List Nat)} {fs : Fs} {r : List Nat} (h : Gd n cs fs) (hr : Vld cs.length r) : ∀ j, j ≤ cs.length → Gd n cs (exF cs (act n cs r) r j fs)
  | 0, _ => h
  | j + 1, hj => (Gd.ex h hr j (by omega)).add hr (by omega)
theorem grow_gd {n : Nat} {cs : List (List Nat)} : ∀ k, Gd n cs (grow n cs k)
  | 0 => ⟨by simp [grow, keysF], fun p hp => by rw [show p = _ from by simpa [grow] using hp]; exact ⟨Vld.nil, act_nil.symm⟩⟩
  | k + 1 => by
    have ih := grow_gd (n := n) (cs := cs) k
    show Gd n cs (match (grow n cs k)[k]? with | some p => exF cs p.1 p.2 cs.length (grow n cs k) | none => grow n cs k)
    split
    · rename_i p e
      obtain ⟨h1, h2⟩ := ih.rw_ p (List.mem_of_getElem? e)
      rw [h2]
      exact ih.ex h1 _ (Nat.le_refl _)
    · exact ih
theorem grow_reach {n : Nat} {cs : List (List Nat)} {k : Nat} {g : List Nat} (h : g ∈ keysF (grow n cs k)) : Rch n cs g := by
  obtain ⟨p, hp, rfl⟩ := List.mem_map.mp h
  obtain ⟨h1, h2⟩ := (grow_gd k).rw_ p hp
  exact ⟨p.2, h1, h2⟩
/-- the makers of those that were looked at are there -/
theorem grow_closed {n : Nat} {cs : List (List Nat)} {i k j : Nat} {p : List Nat × List Nat} (h : (grow n cs k)[i]? = some p) (hi : i < k) (hj : j < cs.length) : comp p.1 (cs.getD j []) ∈ keysF (grow n cs k) := by
  have hl : i < (grow n cs i).length ∨ (grow n cs i).length ≤ i := Nat.lt_or_ge _ _
  rcases hl with z | z
  · have e : (grow n cs i)[i]? = some (grow n cs i)[i] := List.getElem?_eq_getElem z
    have e2 := pre_at (grow_pre k (by omega)) e
    rw [h] at e2
    cases e2
    refine keys_pre (grow_pre k (show i + 1 ≤ k by omega)) ?_
    rw [grow_at e]
    exact exF_has hj
  · exfalso
    have st : ∀ m, i ≤ m → grow n cs m = grow n cs i := fun m hm => by
      induction m with
      | zero => rw [show i = 0 by omega]
      | succ m ih =>
        rcases Nat.lt_or_eq_of_le hm with y | y
        · have := ih (by omega)
          show (match (grow n cs m)[m]? with | some p => exF cs p.1 p.2 cs.length (grow n cs m) | none => grow n cs m) = _
          rw [this, List.getElem?_eq_none (by omega)]
        · rw [y]
    rw [st k (by omega), List.getElem?_eq_none z] at h
    cases h
/-- at the end all are there -/
theorem grow_all {n : Nat} {cs : List (List Nat)} {k : Nat} (h : (grow n cs k).length ≤ k) {g : List Nat} (hg : Rch n cs g) : g ∈ keysF (grow n cs k) := by
  refine Rch.all (S := fun g => g ∈ keysF (grow n cs k)) ?_ (fun g j hg hj => ?_) hg
  · exact keys_pre (grow_pre k (Nat.zero_le k)) (by simp [grow, keysF])
  · obtain ⟨p, hp, rfl⟩ := List.mem_map.mp hg
    obtain ⟨i, hi⟩ := List.mem_iff_getElem?.mp hp
    exact grow_closed hi (Nat.lt_of_lt_of_le (List.getElem?_eq_some_iff.mp hi).1 h) hj
/-- no more than m are reached -/
def Sz (n : Nat) (cs : List (List Nat)) (m : Nat) : Prop := ∀ L : List (List Nat), L.Nodup → (∀ g ∈ L, Rch n cs g) → L.length ≤ m
theorem sub_len : ∀ {L A : List (List Nat)}, L.Nodup → (∀ g ∈ L, g ∈ A) → L.length ≤ A.length
  | [], _, _, _ => Nat.zero_le _
  | x :: L, A, nd, h => by
    have hx := h x (by simp)
    have := sub_len (L := L) (A := A.erase x) (List.nodup_cons.mp nd).2 fun g hg => by
      have : g ≠ x := fun e => (List.nodup_cons.mp nd).1 (by rw [← e]; exact hg)
      exact (List.mem_erase_of_ne this).mpr (h g (List.mem_cons_of_mem _ hg))
    rw [List.length_erase_of_mem hx] at this
    have := List.length_pos_of_mem hx
    simp only [List.length_cons]
    omega
theorem Sz.of {n : Nat} {cs A : List (List Nat)} {m : Nat} (h0 : List.range n ∈ A) (h1 : ∀ g ∈ A, ∀ k < cs.length, comp g (cs.getD k []) ∈ A) (hm : A.length ≤ m) : Sz n cs m := fun L nd hL =>
  Nat.le_trans (sub_len nd fun g hg => Rch.all (S := fun g => g ∈ A) h0 (fun g k hg hk => h1 g hg k hk) (hL g hg)) hm
theorem Sz.grow {n : Nat} {cs : List (List Nat)} {m k : Nat} (h : Sz n cs m) : (grow n cs k).length ≤ m := by
  have := h (keysF (KV.grow n cs k)) (grow_gd k).nd fun g hg => grow_reach hg
  rwa [show (keysF (KV.grow n cs k)).length = (KV.grow n cs k).length from List.length_map ..] at this
theorem grow_sz {n : Nat} {cs : List (List Nat)} {k : Nat} (h : (grow n cs k).length ≤ k) : Sz n cs (grow n cs k).length := fun L nd hL => by
  have := sub_len nd fun g hg => grow_all h (hL g hg)
  rwa [show (keysF (grow n cs k)).length = (grow n cs k).length from List.length_map ..] at this
theorem Sz.mono {n : Nat} {cs : List (List Nat)} {m m' : Nat} (h : Sz n cs m) (l : m ≤ m') : Sz n cs m' := fun L nd hL => Nat.le_trans (h L nd hL) l
end KV

/-! the order of changes, changes under other names, what commutes: mathematics -/
namespace KV
open PySem PySem.Spec PyProof.Rows L2 KC
theorem lex_anti : ∀ a b : List Int, HT.lexLt a b = false → HT.lexLt b a = false → a = b
  | [], [], _, _ => rfl
  | [], y :: ys, h, _ => by rw [HT.lexLt_nil_cons] at h; cases h
  | x :: xs, [], _, h => by rw [HT.lexLt_nil_cons] at h; cases h
  | x :: xs, y :: ys, h1, h2 => by
    rw [HT.lexLt_cons] at h1 h2
    by_cases e : x = y
    · subst e
      rw [if_pos rfl] at h1 h2
      rw [lex_anti xs ys h1 h2]
    · rw [if_neg e] at h1
      rw [if_neg (Ne.symm e)] at h2
      have := of_decide_eq_false h1
      have := of_decide_eq_false h2
      omega
/-- put in order -/
def SrtC (L : List (List Nat)) : Prop := L.Pairwise fun a b => HT.lexLt (zi b) (zi a) = false
theorem srt_eq {A B : List (List Nat)} (p : A.Perm B) (ha : SrtC A) (hb : SrtC B) : A = B := p.eq_of_pairwise (fun a b _ _ h1 h2 => zi_inj.mp (lex_anti _ _ h2 h1)) ha hb
/-- nothing is before the idle change -/
theorem idle_least {n : Nat} {g : List Nat} (h : Chg n g) : HT.lexLt (zi g) (zi (List.range n)) = false := by
  have key : ∀ (m : Nat) (l : List Nat), l.length = m → (∀ i, i < n - m → g.getD i 0 = i) → l = g.drop (n - m) → m ≤ n → HT.lexLt (zi l) (zi ((List.range n).drop (n - m))) = false := by
    intro m
    induction m with
    | zero =>
      intro l hl _ _ _
      rw [List.length_eq_zero_iff.mp hl, List.drop_eq_nil_of_le (by simp)]
      rfl
    | succ m ih =>
      intro l hl hi el hm
      have hk : n - (m + 1) < n := by omega
      have ek : n - (m + 1) + 1 = n - m := by omega
      have e1 : (List.range n).drop (n - (m + 1)) = (n - (m + 1)) :: (List.range n).drop (n - m) := by
        rw [List.drop_eq_getElem_cons (by simpa using hk), ek]
        simp
      have hg : n - (m + 1) < g.length := by rw [h.len]; exact hk
      have e2 : g.drop (n - (m + 1)) = g.getD (n - (m + 1)) 0 :: g.drop (n - m) := by
        rw [List.drop_eq_getElem_cons hg, ek]
        congr 1
        rw [List.getD_eq_getElem?_getD, List.getElem?_eq_getElem hg]
        rfl
      rw [el, e1, e2]
      show HT.lexLt (((g.getD (n - (m + 1)) 0 : Nat) : Int) :: zi (g.drop (n - m))) (((n - (m + 1) : Nat) : Int) :: zi ((List.range n).drop (n - m))) = false
      rw [HT.lexLt_cons]
      by_cases e : g.getD (n - (m + 1)) 0 = n - (m + 1)
      · rw [e, if_pos rfl]
        refine ih _ (by rw [List.length_drop, h.len]; omega) (fun i hi' => ?_) rfl (by omega)
        by_cases z : i < n - (m + 1)
        · exact hi i z
        · rw [show i = n - (m + 1) by omega]
          exact e
      · rw [if_neg (by omega)]
        refine decide_eq_false fun y => ?_
        have y' : g.getD (n - (m + 1)) 0 < n - (m + 1) := by omega
        have := h.at_inj (i := g.getD (n - (m + 1)) 0) (j := n - (m + 1)) (by omega) hk (hi _ y')
        omega
  have := key n g h.len (fun i hi => by omega) (by simp) (Nat.le_refl n)
  simpa using this
theorem comp_assoc {n : Nat} {a b c : List Nat} (ha : Chg n a) (hb : Chg n b) : comp (comp a b) c = comp a (comp b c) := by
  unfold comp
  rw [List.map_map]
  refine List.map_congr_left fun x hx => ?_
  have xl : x < b.length := by rw [hb.len]; exact ha.lt x hx
  show c.getD (b.getD x 0) 0 = (b.map fun y => c.getD y 0).getD x 0
  rw [List.getD_eq_getElem?_getD (l := b.map _), List.getElem?_map, at_getD xl]
  rfl
theorem comp_idle {n : Nat} {a : List Nat} (ha : Chg n a) : comp a (List.range n) = a := by
  unfold comp
  refine (List.map_congr_left fun x hx => ?_).trans (List.map_id a)
  rw [List.getD_eq_getElem?_getD, List.getElem?_range (ha.lt x hx)]
  rfl
theorem idle_comp {n : Nat} {a : List Nat} (ha : Chg n a) : comp (List.range n) a = a := by
  have e := eq_tab ha.len
  show tab n (fun x => a.getD x 0) = a
  exact e.symm
/-- what comes first is told apart -/
theorem comp_left_inj {n : Nat} {s a b : List Nat} (hs : Chg n s) (ha : Chg n a) (hb : Chg n b) (e : comp s a = comp s b) : a = b := by
  rw [eq_tab ha.len, eq_tab hb.len]
  refine tab_congr fun i hi => ?_
  obtain ⟨j, hj, rfl⟩ := hs.mem hi
  have := congrArg (fun l : List Nat => l[j]?) e
  unfold comp at this
  simp only [List.getElem?_map] at this
  rw [at_getD (by rw [hs.len]; exact hj)] at this
  exact Option.some.inj this
/-- the makers of ts are makers of cs under other names -/
def Cjs (n : Nat) (s : List Nat) (cs ts : List (List Nat)) : Prop := ∀ t ∈ ts, Chg n t ∧ ∃ k, k < cs.length ∧ comp s t = comp (cs.getD k []) s
theorem cj_rch {n : Nat} {s : List Nat} {cs ts : List (List Nat)} (hs : Chg n s) (hc : ∀ c ∈ cs, Chg n c) (ht : Cjs n s cs ts) {g : List Nat} (h : Rch n ts g) : Chg n g ∧ ∃ g', Rch n cs g' ∧ comp s g = comp g' s := by
  refine Rch.all (S := fun g => Chg n g ∧ ∃ g', Rch n cs g' ∧ comp s g = comp g' s) ⟨Chg.range n, List.range n, Rch.one, by rw [comp_idle hs, idle_comp hs]⟩ (fun g k hg hk => ?_) h
  obtain ⟨h1, g', h2, h3⟩ := hg
  rw [cs_at hk]
  obtain ⟨t1, j, jl, e⟩ := ht _ (List.getElem_mem hk)
  refine ⟨chg_comp h1 t1, comp g' (cs.getD j []), h2.step jl, ?_⟩
  have cj : Chg n (cs.getD j []) := by rw [cs_at jl]; exact hc _ (List.getElem_mem jl)
  have g1 := h2.chg hc
  rw [← comp_assoc hs h1, h3, comp_assoc g1 hs, e, comp_assoc g1 cj]
theorem map_nodup {f : List Nat → List Nat} : ∀ {L : List (List Nat)}, L.Nodup → (∀ a ∈ L, ∀ b ∈ L, f a = f b → a = b) → (L.map f).Nodup
  | [], _, _ => List.nodup_nil
  | x :: L, h, g => by
    rw [List.map_cons, List.nodup_cons]
    refine ⟨fun m => ?_, map_nodup (List.nodup_cons.mp h).2 fun a ha b hb => g a (List.mem_cons_of_mem _ ha) b (List.mem_cons_of_mem _ hb)⟩
    obtain ⟨y, hy, e⟩ := List.mem_map.mp m
    have := g x (by simp) y (List.mem_cons_of_mem _ hy) e.symm
    exact (List.nodup_cons.mp h).1 (by rw [this]; exact hy)
theorem Sz.cj {n m : Nat} {s : List Nat} {cs ts : List (List Nat)} (h : Sz n cs m) (hs : Chg n s) (hc : ∀ c ∈ cs, Chg n c) (ht : Cjs n s cs ts) : Sz n ts m := fun L nd hL => by
  classical
  let f : List Nat → List Nat := fun g => if z : ∃ g', Rch n cs g' ∧ comp s g = comp g' s then z.choose else []
  have hf : ∀ g ∈ L, Rch n cs (f g) ∧ comp s g = comp (f g) s := fun g hg => by
    have z := (cj_rch hs hc ht (hL g hg)).2
    show Rch n cs (if z : ∃ g', Rch n cs g' ∧ comp s g = comp g' s then z.choose else []) ∧ comp s g = comp (if z : ∃ g', Rch n cs g' ∧ comp s g = comp g' s then z.choose else []) s
    rw [dif_pos z]
    exact z.choose_spec
  have := h (L.map f) (map_nodup nd fun a ha b hb e => ?_) (fun g hg => ?_)
  · rwa [List.length_map] at this
  · refine comp_left_inj hs (cj_rch hs hc ht (hL a ha)).1 (cj_rch hs hc ht (hL b hb)).1 ?_
    rw [(hf a ha).2, (hf b hb).2, e]
  · obtain ⟨a, ha, rfl⟩ := List.mem_map.mp hg
    exact (hf a ha).1
/-- all commute where the makers do -/
theorem comm_all {n : Nat} {cs : List (List Nat)} (hc : ∀ c ∈ cs, Chg n c) : (∀ i < cs.length, ∀ j < cs.length, comp (cs.getD i []) (cs.getD j []) = comp (cs.getD j []) (cs.getD i [])) ↔ ∀ g, Rch n cs g → ∀ k < cs.length, comp g (cs.getD k []) = comp (cs.getD k []) g := by
  have ch : ∀ k < cs.length, Chg n (cs.getD k []) := fun k hk => by rw [cs_at hk]; exact hc _ (List.getElem_mem hk)
  constructor
  · intro h g hg k hk
    refine (Rch.all (S := fun g => Chg n g ∧ comp g (cs.getD k []) = comp (cs.getD k []) g) ⟨Chg.range n, by rw [idle_comp (ch k hk), comp_idle (ch k hk)]⟩ (fun g j hg hj => ⟨chg_comp hg.1 (ch j hj), ?_⟩) hg).2
    rw [comp_assoc hg.1 (ch j hj), h j hj k hk, ← comp_assoc hg.1 (ch k hk), hg.2, comp_assoc (ch k hk) hg.1]
  · intro h i hi j hj
    have := h (comp (List.range n) (cs.getD i [])) (Rch.one.step hi) j hj
    rwa [idle_comp (ch i hi)] at this
end KV

/-! the law's machines: all changes of a row of commands -/
namespace KV
open PySem PySem.Spec PyProof.Rows L2 KC
def kc (c : List Nat) : List L2.Key := c.map fun (n : Nat) => (Sum.inl (n : Int) : L2.Key)
theorem kc_vi (c : List Nat) : vi c = (kc c).map L2.kV := by
  unfold kc vi
  rw [List.map_map]
  rfl
theorem kc_zi (c : List Nat) : (kc c).map L2.kV = (zi c).map V.int := by rw [← kc_vi, vi_zi]
/-- a dict whose keys are changes of n states -/
def KOk (n : Nat) (kvs : List (List L2.Key × V)) : Prop := ∀ p ∈ kvs, ∃ c, p.1 = kc c ∧ Chg n c
theorem paired_at {R : Addr → List Nat → Prop} : ∀ {bs : List Addr} {cs : List (List Nat)} {i : Nat} {b : Addr}, Paired R bs cs → bs[i]? = some b → ∃ c, cs[i]? = some c ∧ R b c
  | _, _, i, b, .nil, h => by cases h
  | _, _, 0, b, .cons (b := c) h t, e => ⟨c, rfl, by cases e; exact h⟩
  | _, _, i + 1, b, .cons h t, e => by
    obtain ⟨c, h1, h2⟩ := paired_at (i := i) t e
    exact ⟨c, h1, h2⟩
theorem paired_len {R : Addr → List Nat → Prop} {bs : List Addr} {cs : List (List Nat)} (h : Paired R bs cs) : bs.length = cs.length := by
  induction h with
  | nil => rfl
  | cons _ _ ih => simp [ih]
theorem ref_at {bs : List Addr} {i : Nat} {x : V} (h : (bs.map V.ref)[i]? = some x) : ∃ b, bs[i]? = some b ∧ x = .ref b := by
  rw [List.getElem?_map] at h
  cases e : bs[i]? with
  | none => rw [e] at h; cases h
  | some b => rw [e] at h; cases h; exact ⟨b, rfl, rfl⟩
theorem atI_zero {x : V} {xs : List V} : atI (x :: xs) 0 = some x := by
  unfold atI L2.ixN
  rw [if_pos (by decide), if_pos (by simp only [List.length_cons]; omega)]
  rfl
/-- fresh ones: tuples that are changes -/
def Frs (n : Nat) (H : Hp) (es : List Addr) : Prop := ∀ e ∈ es, ∃ c, Chg n c ∧ H e = some (.tup (vi c))
theorem Frs.same {n : Nat} {H H' : Hp} {es : List Addr} (h : Frs n H es) (s : Same H H') : Frs n H' es := fun e he => by
  obtain ⟨c, h1, h2⟩ := h e he
  exact ⟨c, h1, s _ _ h2⟩
theorem Frs.ent {n : Nat} {H : Hp} {es : List Addr} (h : Frs n H es) : ∀ x ∈ es.map V.ref, Ent H x := fun x hx => by
  obtain ⟨e, he, rfl⟩ := List.mem_map.mp hx
  obtain ⟨c, _, h2⟩ := h e he
  exact .inr ⟨e, zi c, rfl, by rw [← vi_zi]; exact h2⟩
theorem Frs.upd {n : Nat} {H : Hp} {es : List Addr} {p : Addr} {o : HO} (h : Frs n H es) (hp : ∀ xs, H p ≠ some (.tup xs)) : Frs n (L2.upd H p o) es := fun e he => by
  obtain ⟨c, h1, h2⟩ := h e he
  exact ⟨c, h1, by rw [upd_ne (fun z => hp _ (by rw [← z]; exact h2))]; exact h2⟩
theorem rgV_vi (n : Nat) : L2.rgV 0 (n : Int) = vi (List.range n) := by
  unfold L2.rgV vi
  simp
end KV

/-! a dict whose keys are the changes that were found -/
namespace KV
open PySem PySem.Spec PyProof.Rows L2 KC
theorem kc_inj {a b : List Nat} (h : kc a = kc b) : a = b := by
  have : (kc a).map L2.kV = (kc b).map L2.kV := congrArg _ h
  rw [kc_zi, kc_zi] at this
  have e : zi a = zi b := by
    have z := congrArg (List.map fun v : V => match v with | .int i => i | _ => 0) this
    simp only [List.map_map] at z
    have id' : ((fun v : V => match v with | .int i => i | _ => 0) ∘ V.int) = id := rfl
    rw [id', List.map_id, List.map_id] at z
    exact z
  exact zi_inj.mp e
def KF (kvs : List (List L2.Key × V)) (fs : Fs) : Prop := kvs.map (·.1) = (keysF fs).map kc
theorem KF.len {kvs : List (List L2.Key × V)} {fs : Fs} (h : KF kvs fs) : kvs.length = fs.length := by
  have := congrArg List.length h
  simpa [keysF] using this
theorem KF.add {kvs : List (List L2.Key × V)} {fs : Fs} (h : KF kvs fs) (g r : List Nat) (v : V) : KF (kvs ++ [(kc g, v)]) (fs ++ [(g, r)]) := by
  unfold KF keysF at *
  rw [List.map_append, List.map_append, List.map_append, h]
  rfl
theorem KF.mem {kvs : List (List L2.Key × V)} {fs : Fs} (h : KF kvs fs) {p : List L2.Key × V} (hp : p ∈ kvs) : ∃ g ∈ keysF fs, p.1 = kc g := by
  have : p.1 ∈ kvs.map (·.1) := List.mem_map.mpr ⟨p, hp, rfl⟩
  rw [h] at this
  obtain ⟨g, hg, e⟩ := List.mem_map.mp this
  exact ⟨g, hg, e.symm⟩
theorem KF.none {kvs : List (List L2.Key × V)} {fs : Fs} (h : KF kvs fs) {g : List Nat} : L2.valV kvs (kc g) = none ↔ g ∉ keysF fs := by
  unfold L2.valV
  rw [Option.map_eq_none_iff, List.find?_eq_none]
  constructor
  · intro z m
    have : kc g ∈ kvs.map (·.1) := by rw [h]; exact List.mem_map.mpr ⟨g, m, rfl⟩
    obtain ⟨p, hp, e⟩ := List.mem_map.mp this
    exact z p hp (decide_eq_true e)
  · intro z p hp e
    obtain ⟨g', hg, e'⟩ := h.mem hp
    have : kc g' = kc g := by rw [← e']; exact of_decide_eq_true e
    exact z (by rw [← kc_inj this]; exact hg)
theorem drop_snoc {α : Type} {L : List α} {b : Nat} {x : α} (h : b ≤ L.length) : (L ++ [x]).drop b = L.drop b ++ [x] := List.drop_append_of_le_length h
theorem keysF_len {fs : Fs} : (keysF fs).length = fs.length := List.length_map ..
theorem addF_in {fs : Fs} {g r : List Nat} (h : g ∈ keysF fs) : addF fs g r = fs := by unfold addF; rw [if_pos h]
theorem addF_new {fs : Fs} {g r : List Nat} (h : g ∉ keysF fs) : addF fs g r = fs ++ [(g, r)] := by unfold addF; rw [if_neg h]
theorem exF_succ {cs : List (List Nat)} {g r : List Nat} {j : Nat} {fs : Fs} : exF cs g r (j + 1) fs = addF (exF cs g r j fs) (comp g (cs.getD j [])) (r ++ [j]) := rfl
/-- all changes, in order -/
structure Lot (n : Nat) (cs L : List (List Nat)) : Prop where
  srt : SrtC L
  nd : L.Nodup
  all : ∀ g, g ∈ L ↔ Rch n cs g
theorem perm_of_nd {A B : List (List Nat)} (a : A.Nodup) (b : B.Nodup) (h : ∀ g, g ∈ A ↔ g ∈ B) : A.Perm B := (List.perm_ext_iff_of_nodup a b).mpr h
theorem Lot.uniq {n : Nat} {cs A B : List (List Nat)} (a : Lot n cs A) (b : Lot n cs B) : A = B := srt_eq (perm_of_nd a.nd b.nd fun g => (a.all g).trans (b.all g).symm) a.srt b.srt
theorem Lot.len {n m : Nat} {cs L : List (List Nat)} (h : Lot n cs L) (z : Sz n cs m) : L.length ≤ m := z L h.nd fun g hg => (h.all g).mp hg
theorem Lot.head {n : Nat} {cs L : List (List Nat)} (h : Lot n cs L) (hc : ∀ c ∈ cs, Chg n c) : ∃ t, L = List.range n :: t := by
  have m := (h.all _).mpr (Rch.one (n := n) (cs := cs))
  cases L with
  | nil => simp at m
  | cons a t =>
    refine ⟨t, ?_⟩
    rcases List.mem_cons.mp m with e | e
    · rw [e]
    · have z := (List.pairwise_cons.mp h.srt).1 _ e
      have ca := ((h.all a).mp (by simp)).chg hc
      rw [show a = List.range n from zi_inj.mp (lex_anti _ _ (idle_least ca) z)]
theorem zs_sorted {H : Hp} {cs' : List Addr} {G : List (List Nat)} (hp : Paired (fun b c => H b = some (.tup (vi c))) cs' G) (pw : cs'.Pairwise fun p q => ∀ ns ms : List Int, H p = some (.tup (ns.map V.int)) → H q = some (.tup (ms.map V.int)) → HT.lexLt ms ns = false) : SrtC G := by
  unfold SrtC
  rw [List.pairwise_iff_getElem] at pw ⊢
  intro i j hi hj ij
  have l := paired_len hp
  obtain ⟨c1, e1, h1⟩ := paired_at hp (List.getElem?_eq_getElem (show i < cs'.length by omega))
  obtain ⟨c2, e2, h2⟩ := paired_at hp (List.getElem?_eq_getElem (show j < cs'.length by omega))
  rw [List.getElem?_eq_getElem hi] at e1
  rw [List.getElem?_eq_getElem hj] at e2
  cases e1
  cases e2
  exact pw i j (by omega) (by omega) ij (zi _) (zi _) (by rw [← vi_zi]; exact h1) (by rw [← vi_zi]; exact h2)
/-- the keys' addresses, put in another order, and what stands there -/
theorem keys_perm {H : Hp} : ∀ {kvs : List (List L2.Key × V)} {bs : List Addr} {fs : List (List Nat)}, L2.IsKeys H kvs bs → kvs.map (·.1) = fs.map kc → Paired (fun b c => H b = some (.tup (vi c))) bs fs
  | _, _, [], .nil, _ => .nil
  | _, _, _ :: _, .nil, h => by simp at h
  | _, _, [], .cons _ _, h => by simp at h
  | _, _, f :: fs, .cons h t, e => by
    simp only [List.map_cons, List.cons.injEq] at e
    exact .cons (by rw [h, e.1, ← kc_vi]) (keys_perm t e.2)
theorem paired_perm {R : Addr → List Nat → Prop} {bs cs : List Addr} (p : cs.Perm bs) : ∀ {G : List (List Nat)}, Paired R bs G → ∃ G', G'.Perm G ∧ Paired R cs G' := by
  induction p with
  | nil => exact fun h => ⟨_, List.Perm.refl _, h⟩
  | cons x _ ih =>
    intro G h
    cases h with
    | cons h t =>
      obtain ⟨G', g1, g2⟩ := ih t
      exact ⟨_, g1.cons _, .cons h g2⟩
  | swap x y l =>
    intro G h
    cases h with
    | cons h t =>
      cases t with
      | cons h2 t => exact ⟨_, List.Perm.swap _ _ _, .cons h2 (.cons h t)⟩
  | trans _ _ ih1 ih2 =>
    intro G h
    obtain ⟨G1, g1, g2⟩ := ih2 h
    obtain ⟨G2, g3, g4⟩ := ih1 g2
    exact ⟨G2, g3.trans g1, g4⟩
end KV

/-! the law's machines: all changes of a row of commands -/
namespace KV
open PySem PySem.Spec PyProof.Rows L2 KC
abbrev TpP (H : Hp) (es : List Addr) (Es : List (List Nat)) : Prop := Paired (fun b c => H b = some (.tup (vi c))) es Es
theorem TpP.upd {H : Hp} {p : Addr} {o : HO} {es : List Addr} {Es : List (List Nat)} (h : TpP H es Es) (hp : ∀ xs, H p ≠ some (.tup xs)) : TpP (L2.upd H p o) es Es := by
  induction h with
  | nil => exact .nil
  | cons h t ih => exact .cons (by rw [upd_ne (fun z => hp _ (by rw [← z]; exact h))]; exact h) ih
theorem TpP.same {H H' : Hp} {es : List Addr} {Es : List (List Nat)} (h : TpP H es Es) (s : Same H H') : TpP H' es Es := tups_keep (fun b xs e => s _ _ e) h
theorem tpp_snoc {H : Hp} {t : Addr} {c : List Nat} {es : List Addr} {Es : List (List Nat)} (h : TpP H es Es) (ht : H t = some (.tup (vi c))) : TpP H (es ++ [t]) (Es ++ [c]) := by
  induction h with
  | nil => exact .cons ht .nil
  | cons h t ih => exact .cons h ih
theorem TpP.ent {H : Hp} {es : List Addr} {Es : List (List Nat)} (h : TpP H es Es) : ∀ x ∈ es.map V.ref, Ent H x := fun x hx => by
  obtain ⟨e, he, rfl⟩ := List.mem_map.mp hx
  obtain ⟨i, hi⟩ := List.mem_iff_getElem?.mp he
  obtain ⟨c, _, h2⟩ := paired_at h hi
  exact .inr ⟨e, zi c, rfl, by rw [← vi_zi]; exact h2⟩
/-- amid the walk over the fresh ones -/
structure LM (f r lt : Addr) (H : Hp) (kvs : List (List L2.Key × V)) (fs : Fs) (es ls : List Addr) (Es Ls : List (List Nat)) (H' : Hp) : Prop where
  s : Same H H'
  f0 : H f = none
  l0 : H lt = none
  ne : f ≠ lt ∧ f ≠ r ∧ lt ≠ r
  hf : H' f = some (.dT kvs)
  hr : H' r = some (.lst (es.map V.ref))
  hl : H' lt = some (.lst (ls.map V.ref))
  kf : KF kvs fs
  fe : TpP H' es Es
  fl : TpP H' ls Ls
theorem LM.same {f r lt : Addr} {H H1 H2 : Hp} {kvs : List (List L2.Key × V)} {fs : Fs} {es ls : List Addr} {Es Ls : List (List Nat)} (h : LM f r lt H kvs fs es ls Es Ls H1) (s : Same H1 H2) : LM f r lt H kvs fs es ls Es Ls H2 :=
  ⟨h.s.trans s, h.f0, h.l0, h.ne, s _ _ h.hf, s _ _ h.hr, s _ _ h.hl, h.kf, h.fe.same s, h.fl.same s⟩
theorem LM.add {f r lt t : Addr} {H H1 : Hp} {kvs : List (List L2.Key × V)} {fs : Fs} {es ls : List Addr} {Es Ls : List (List Nat)} {c rw_ : List Nat} {v : V} (h : LM f r lt H kvs fs es ls Es Ls H1) (ht : H1 t = some (.tup (vi c))) :
    LM f r lt H (kvs ++ [(kc c, v)]) (fs ++ [(c, rw_)]) es (ls ++ [t]) Es (Ls ++ [c]) (L2.upd (L2.upd H1 f (.dT (kvs ++ [(kc c, v)]))) lt (.lst ((ls ++ [t]).map V.ref))) := by
  have nf : ∀ xs, H1 f ≠ some (.tup xs) := fun xs z => by rw [h.hf] at z; cases z
  have nl : ∀ (o : HO) xs, (L2.upd H1 f o) lt ≠ some (.tup xs) := fun o xs z => by
    rw [upd_ne h.ne.1.symm, h.hl] at z
    cases z
  have ft : ∀ o : HO, TpP (L2.upd H1 f o) (ls ++ [t]) (Ls ++ [c]) := fun o => tpp_snoc (h.fl.upd nf) (by rw [upd_ne (fun y => nf _ (by rw [← y]; exact ht))]; exact ht)
  exact ⟨Same.upd (Same.upd h.s h.f0) h.l0, h.f0, h.l0, h.ne, by rw [upd_ne h.ne.1, upd_same], by rw [upd_ne h.ne.2.2.symm, upd_ne h.ne.2.1.symm]; exact h.hr, upd_same, h.kf.add _ _ _, (h.fe.upd nf).upd (nl _), (ft _).upd (nl _)⟩
section
variable {P : Program} {w : World} {K : PySem.W.Frag} {mg : Str → Option Value} {base : Heap}
theorem len_lt2 {n : Nat} (h : n ≤ 4000) : n < sizeLine := by
  rw [sizeLine_eq]
  omega
def spLot : Sp := fun vs H Q _ => ∃ (l : Addr) (n : Nat) (bs : List Addr) (cs : List (List Nat)) (most : Nat), vs = [.ref l, .int (most : Int)] ∧ Gens H l n bs cs ∧ n ≤ 16 ∧ cs.length ≤ 5 ∧ 1 ≤ most ∧ most ≤ 200 ∧
  (∀ H', Same H H' → ¬ Sz n cs most → Q .non H') ∧ ∀ (p : Addr) (ds : List Addr) (L : List (List Nat)) (H' : Hp), Same H H' → H p = none → H' p = some (.lst (ds.map V.ref)) → TpP H' ds L → Lot n cs L → Sz n cs most → Q (.ref p) H'
/-- what stands at the head of the while -/
structure LW (f r : Addr) (H : Hp) (kvs : List (List L2.Key × V)) (fs : Fs) (es : List Addr) (Es : List (List Nat)) (H' : Hp) : Prop where
  s : Same H H'
  f0 : H f = none
  r0 : H r = none
  hf : H' f = some (.dT kvs)
  hr : H' r = some (.lst (es.map V.ref))
  kf : KF kvs fs
  fr : TpP H' es Es
theorem sk24 : FnScope ["_law_some", "_law_most", "_law_first", "_law_found", "_law_fresh", "_law_later", "_law_one", "_law_other", "_law_longer"] ["_law_some", "_law_most"] (defScope (top 54)) := ⟨rfl, rfl, rfl, by decide +kernel, rfl, by decide +kernel, by decide +kernel⟩
theorem ok_lot {f : Addr} {fd : FuncData} (B : Bl mg) (CT : Cal P w K mg base CX0 1 "_law_then" ["_law_one", "_law_other"] spComp) (F : Fun K "_law_lot" "_law_lot" (top 54) f fd) : FnOk P w K mg base CX0 2 f fd ["_law_some", "_law_most"] spLot := by
  refine F.ok sk24 (fun vs H Q E h => ?_) (fun cdv A outer s H vs Q E hr h => ⟨_,
    (pss_cons (ps_set (i := 2) sk24.nd rfl (.inl rfl) (pe_callTy call_tuple_of (by rfl) B.tuple (by decide +kernel) (pa_cons (pe_listRg rfl (by rfl) B.list (prg_1 (by rfl) B.range (pe_callB call_len_seq (by rfl) B.len PySem.boot_len (pa_cons (pe_ix ix_list (pv 0) pe_int (fun _ _ => rfl)) pa_nil)))) pa_nil)))
    (pss_cons (ps_par (i := 3) (j := 4) rfl sk24.nd rfl rfl (by decide) rfl rfl (pa_cons (pe_disp1 (Nat.lt_of_le_of_lt (Nat.add_le_add_left (show 1 ≤ 64 by decide) _) hr.units) (pv 2) pe_bl) (pa_cons (pe_lst (pa_cons (pv 2) pa_nil)) pa_nil)) (by rfl))
    (pss_cons (ps_while PassesOwn.never (pt_cmpR (op_neD hr.units) (pv 4) (pe_lst pa_nil) (nomark _)) (pss_cons (ps_set (i := 5) sk24.nd rfl (.inl rfl) (pe_lst pa_nil))
    (pss_cons (ps_for PassesOwn.never rfl (pi_list (pv 4)) (pg_name (i := 6) sk24.nd rfl (.inl rfl)) (pss_one (ps_for PassesOwn.never rfl (pi_list (pv 0)) (pg_name (i := 7) sk24.nd rfl (.inl rfl)) (pss_cons (ps_set (i := 8) sk24.nd rfl (.inl rfl) (by exact (pe_cal (X := L2.Cx.nox _) CT hr (by decide) (pa_cons (pv 6) (pa_cons (pv 7) pa_nil)))))
    (pss_one (ps_if (pt_cmp (pc_dnotin (Nat.lt_of_le_of_lt (Nat.add_le_add_left (show 1 ≤ 64 by decide) _) hr.units) (pv 8) (pv 3))) (pss_cons (ps_asg pe_bl (pg_sub (pv 3) (pv 8) (set_dict (Nat.lt_of_le_of_lt (Nat.add_le_add_left (show 1 ≤ 64 by decide) _) hr.units))))
    (pss_one (ps_expr (pe_bm PySem.F.plainAttrs_list PySem.F.slot_list_append PySem.F.type_list_append mt_append (pv 5) (pa_cons (pv 8) pa_nil))))) pss_nil))))))
    (pss_cons (ps_if (pt_cmpR op_gt (pe_callB call_len_dT (by rfl) B.len PySem.boot_len (pa_cons (pv 3) pa_nil)) (pv 1) (nomark _)) (pss_one (ps_ret pe_non)) pss_nil)
    (pss_one (ps_set (i := 4) sk24.nd rfl (.inl rfl) (pv 5)))))))
    (pss_one (ps_ret (pe_callB (cr_sortedDS rfl hr.units) (by rfl) B.sorted (by decide +kernel) (pa_cons (pv 3) pa_nil))))))), ?_⟩)
  · obtain ⟨l, n, bs, cs, most, rfl, _⟩ := h
    rfl
  obtain ⟨l, n, bs, cs, most, rfl, hG, n16, c5, m0, m1, q0, q⟩ := h
  have bl := paired_len hG.tups
  obtain ⟨b0, br, eb⟩ : ∃ b0 br, bs = b0 :: br := by
    have := hG.c0
    cases bs with
    | nil => simp at bl; omega
    | cons b r => exact ⟨b, r, rfl⟩
  obtain ⟨c0, cr, ec, hb0⟩ : ∃ c0 cr, cs = c0 :: cr ∧ H b0 = some (.tup (vi c0)) := by
    have h := hG.tups
    rw [eb] at h
    cases h with
    | cons h t => exact ⟨_, _, rfl, h⟩
  have hc0 := hG.chg c0 (by rw [ec]; simp)
  have n0 := hG.n0
  have lc0 : (vi c0).length = n := by rw [show (vi c0).length = c0.length from List.length_map ..]; exact hc0.len
  have hl0 : SqL K H l ((b0 :: br).map V.ref) := by rw [← eb]; exact SqL.of hG.lst
  refine ⟨_, rfl, l, _, _, _, rfl, rfl, hl0, atI_zero, b0, _, rfl, .inr (SqT.of hb0), _, rfl, RgOk.of_le (by decide) (by rw [lc0]; omega) (by decide) (by omega), fun q1 hq1 => ⟨q1, _, rfl, .inl ⟨SqL.of upd_same, fun t0 ht0 => ?_⟩⟩⟩
  rw [lc0, rgV_vi] at ht0 ⊢
  have s1 := (Same.new (o := .lst (vi (List.range n))) hq1).trans (Same.new (o := .tup (vi (List.range n))) ht0)
  have e1 : upd (upd H q1 (.lst (vi (List.range n)))) t0 (.tup (vi (List.range n))) t0 = some (.tup (vi (List.range n))) := upd_same
  generalize upd (upd H q1 (.lst (vi (List.range n)))) t0 (.tup (vi (List.range n))) = H1 at s1 e1
  dsimp only [gName]
  refine fun f hf => ⟨_, rfl, _, _, _, _, rfl, rfl, upd_same, by rw [← kc_vi]; exact Same.new hf _ _ e1, _, rfl, (by show 1 ≤ sizeLine; decide), fun r hr => ⟨_, _, rfl, ?_⟩⟩
  have hf0 : H f = none := s1.free hf
  rw [putK_new _ valV_nil, List.nil_append] at hr ⊢
  have s2 : Same H (upd (upd H1 f (.dT [])) f (.dT [(kc (List.range n), V.bl true)])) := Same.upd (s1.trans (Same.new hf)) hf0
  have e2 : (upd (upd H1 f (.dT [])) f (.dT [(kc (List.range n), V.bl true)])) t0 = some (.tup (vi (List.range n))) := by
    rw [upd_ne (ne_of_none e1 hf), upd_ne (ne_of_none e1 hf)]
    exact e1
  have e3 : (upd (upd H1 f (.dT [])) f (.dT [(kc (List.range n), V.bl true)])) f = some (.dT [(kc (List.range n), V.bl true)]) := upd_same
  generalize upd (upd H1 f (.dT [])) f (.dT [(kc (List.range n), V.bl true)]) = H2 at s2 e2 e3 hr
  have W0 : LW f r H [(kc (List.range n), V.bl true)] (grow n cs 0) [t0] ((keysF (grow n cs 0)).drop 0) (upd H2 r (.lst [V.ref t0])) :=
    ⟨s2.trans (Same.new hr), hf0, s2.free hr, Same.new hr _ _ e3, upd_same, rfl, .cons (Same.new hr _ _ e2) .nil⟩
  generalize upd H2 r (.lst [V.ref t0]) = H3 at W0
  clear s1 s2 e1 e2 e3 hr hf hq1 ht0
  dsimp only [gName]
  obtain ⟨I, hI⟩ : ∃ I : Nat → L2.St → Hp → Prop, I = fun k σ H' => ∃ (r : Addr) (a : Nat) (kvs : List (List L2.Key × V)) (es : List Addr) (v5 v6 v7 v8 : Option V), σ = [some (.ref l), some (.int (most : Int)), some (.ref t0), some (.ref f), some (.ref r), v5, v6, v7, v8] ∧ LW f r H kvs (grow n cs a) es ((keysF (grow n cs a)).drop a) H' ∧ kvs.length ≤ most ∧ es.length ≤ kvs.length ∧ k = if es = [] then 0 else most + 1 - kvs.length := ⟨_, rfl⟩
  refine sq_cut (fun σ H' => ∃ (r : Addr) (a : Nat) (kvs : List (List L2.Key × V)) (v5 v6 v7 v8 : Option V), σ = [some (.ref l), some (.int (most : Int)), some (.ref t0), some (.ref f), some (.ref r), v5, v6, v7, v8] ∧ LW f r H kvs (grow n cs a) [] ((keysF (grow n cs a)).drop a) H' ∧ kvs.length ≤ most) (fun Z hZ => ⟨I, ⟨_, by rw [hI]; exact ⟨r, 0, _, _, none, none, none, none, rfl, W0, m0, Nat.le_refl 1, rfl⟩⟩, ?_⟩) ?_
  · intro k σ H4 hk
    rw [hI] at hk
    obtain ⟨r, a, kvs, es, v5, v6, v7, v8, rfl, W, km, ek, rfl⟩ := hk
    refine ⟨_, rfl, (by show 0 ≤ sizeLine; decide), fun p hp => ?_⟩
    have sp : Same H4 (upd H4 p (.lst [])) := Same.new hp
    refine ent_ne (xs := es.map V.ref) (SqL.of (sp _ _ W.hr)) (fun x hx => (W.fr.ent x hx).same sp) (SqL.of upd_same) ⟨_, rfl, ?_⟩
    have W1 : LW f r H kvs (grow n cs a) es ((keysF (grow n cs a)).drop a) (upd H4 p (.lst [])) := ⟨W.s.trans sp, W.f0, W.r0, sp _ _ W.hf, sp _ _ W.hr, W.kf, W.fr.same sp⟩
    generalize upd H4 p (.lst []) = H5 at W1
    clear sp hp
    by_cases e0 : es = []
    · subst e0
      exact iteN (by simp) (hZ _ _ ⟨r, a, kvs, v5, v6, v7, v8, rfl, W1, km⟩)
    refine iteP (by simp [e0]) ⟨fun σ H' => ∃ m', m' < (if es = [] then 0 else most + 1 - kvs.length) ∧ I m' σ H', fun _ _ z => z, ?_⟩
    rw [if_neg e0]
    refine ⟨(by show 0 ≤ sizeLine; decide), fun lt hlt => ?_⟩
    dsimp only [gName]
    have sl := Same.new (o := .lst []) hlt
    have lg : (grow n cs a).length = kvs.length := W1.kf.len.symm
    have le : a + es.length = kvs.length := by
      have := paired_len W1.fr
      rw [List.length_drop, keysF_len, lg] at this
      have := List.length_pos_iff.mpr e0
      omega
    have M0 : LM f r lt H kvs (grow n cs (a + 0)) es [] ((keysF (grow n cs a)).drop a) ((keysF (grow n cs (a + 0))).drop kvs.length) (upd H5 lt (.lst [])) :=
      ⟨W1.s.trans sl, W1.f0, W1.s.free hlt, ⟨ne_of_none W1.hf hlt, (fun z => by have := W1.hf; rw [z, W1.hr] at this; cases this), (ne_of_none W1.hr hlt).symm⟩, sl _ _ W1.hf, sl _ _ W1.hr, upd_same, W1.kf, W1.fr.same sl, by rw [Nat.add_zero, List.drop_eq_nil_of_le (by rw [keysF_len, lg]; exact Nat.le_refl _)]; exact .nil⟩
    generalize upd H5 lt (.lst []) = H6 at M0
    have hm60 : kvs.length ≤ 200 := by omega
    have en : (grow n cs a).length = kvs.length := lg
    refine sq_cut (fun σ H' => ∃ (kvs' : List (List L2.Key × V)) (ls : List Addr) (v6 v7 v8 : Option V), σ = [some (.ref l), some (.int (most : Int)), some (.ref t0), some (.ref f), some (.ref r), some (.ref lt), v6, v7, v8] ∧ LM f r lt H kvs' (grow n cs kvs.length) es ls ((keysF (grow n cs a)).drop a) ((keysF (grow n cs kvs.length)).drop kvs.length) H') (fun Z2 hZ2 => ?_) ?_
    · refine ⟨_, rfl, r, rfl, ⟨_, SqL.of M0.hr⟩, for_list (xs := es.map V.ref) (fun j σ H' => ∃ (kvs' : List (List L2.Key × V)) (ls : List Addr) (v6 v7 v8 : Option V), σ = [some (.ref l), some (.int (most : Int)), some (.ref t0), some (.ref f), some (.ref r), some (.ref lt), v6, v7, v8] ∧ LM f r lt H kvs' (grow n cs (a + j)) es ls ((keysF (grow n cs a)).drop a) ((keysF (grow n cs (a + j))).drop kvs.length) H' ∧ ls.length ≤ j * 5) ⟨kvs, [], v6, v7, v8, rfl, M0, Nat.zero_le _⟩ (fun j σ H' _ p => by obtain ⟨_, _, _, _, _, _, g, _⟩ := p; exact SqL.of g.hr) ?_ ?_⟩
      · rintro j x σ H7 hx ⟨kvs', ls, v6, v7, v8, rfl, M, lj⟩
        obtain ⟨e, he, rfl⟩ := ref_at hx
        have jl : j < es.length := (List.getElem?_eq_some_iff.mp he).1
        have hp0 : (grow n cs a)[a + j]? = some (grow n cs a)[a + j] := List.getElem?_eq_getElem (by omega)
        generalize (grow n cs a)[a + j] = p at hp0
        have hp := pre_at (grow_pre (n := n) (cs := cs) (a + j) (Nat.le_add_right a j)) hp0
        have hgr := grow_at hp
        obtain ⟨hv, hpa⟩ := (grow_gd (n := n) (cs := cs) (a + j)).rw_ p (List.mem_of_getElem? hp)
        have hcp : Chg n p.1 := by rw [hpa]; exact act_chg hG.chg hv
        have hEj : ((keysF (grow n cs a)).drop a)[j]? = some p.1 := by
          rw [List.getElem?_drop]
          unfold keysF
          rw [List.getElem?_map, hp0]
          rfl
        dsimp only [gName]
        have hS7 : SqL K H7 l (bs.map V.ref) := SqL.of (M.s _ _ hG.lst)
        refine ⟨_, rfl, l, rfl, ⟨_, hS7⟩, for_list (xs := bs.map V.ref) (fun i σ H' => ∃ (kvs' : List (List L2.Key × V)) (ls : List Addr) (v7 v8 : Option V), σ = [some (.ref l), some (.int (most : Int)), some (.ref t0), some (.ref f), some (.ref r), some (.ref lt), some (.ref e), v7, v8] ∧ LM f r lt H kvs' (exF cs p.1 p.2 i (grow n cs (a + j))) es ls ((keysF (grow n cs a)).drop a) ((keysF (exF cs p.1 p.2 i (grow n cs (a + j)))).drop kvs.length) H' ∧ ls.length ≤ j * 5 + i) ⟨kvs', ls, v7, v8, rfl, M, lj⟩ (fun i σ H' _ p => by obtain ⟨_, _, _, _, _, g, _⟩ := p; exact SqL.of (g.s _ _ hG.lst)) ?_ ?_⟩
        · rintro i x σ H8 hx ⟨kvs', ls, v7, v8, rfl, M, lj⟩
          obtain ⟨b, hb, rfl⟩ := ref_at hx
          have il : i < bs.length := (List.getElem?_eq_some_iff.mp hb).1
          obtain ⟨c1, hc1, h81⟩ := paired_at M.fe he
          rw [hEj] at hc1
          cases hc1
          obtain ⟨c2, hc2, hb2⟩ := paired_at hG.tups hb
          have ec2 : cs.getD i [] = c2 := by rw [List.getD_eq_getElem?_getD, hc2]; rfl
          have hg2 := hG.chg c2 (List.mem_of_getElem? hc2)
          dsimp only [gName]
          refine ⟨_, rfl, _, rfl, e, b, p.1, c2, rfl, h81, M.s _ _ hb2, fun x hx => by rw [hg2.len]; exact hcp.lt x hx, by rw [hcp.len]; exact n16, fun t H9 s9 t0 ht => ?_⟩
          have M9 := M.same s9
          have kb : kvs.length ≤ (exF cs p.1 p.2 i (grow n cs (a + j))).length := by
            have h1 := (grow_pre (n := n) (cs := cs) (a + j) (Nat.le_add_right a j)).length_le
            have h2 := (exF_pre (cs := cs) (g := p.1) (r := p.2) (fs := grow n cs (a + j)) i).length_le
            omega
          have ll : ls.length + kvs.length = kvs'.length := by
            have h1 := paired_len M9.fl
            rw [List.length_drop, keysF_len, ← M9.kf.len] at h1
            rw [← M9.kf.len] at kb
            omega
          have kl : kvs'.length ≤ 2000 := by
            have : j * 5 ≤ 200 * 5 := Nat.mul_le_mul_right 5 (by omega)
            omega
          dsimp only [gName]
          refine ⟨_, rfl, _, rfl, f, _, rfl, DGet.t M9.hf (by rw [← kc_vi]; exact ht), _, rfl, ?_⟩
          cases ev : valV kvs' (kc (comp p.1 c2)) with
          | some v =>
            have hin : comp p.1 (cs.getD i []) ∈ keysF (exF cs p.1 p.2 i (grow n cs (a + j))) := by
              rw [ec2]
              refine Classical.byContradiction fun z => ?_
              rw [M9.kf.none.mpr z] at ev
              cases ev
            refine iteF ⟨kvs', ls, _, _, rfl, ?_, by omega⟩
            rw [exF_succ, addF_in hin]
            exact M9
          | none =>
            have hin : comp p.1 (cs.getD i []) ∉ keysF (exF cs p.1 p.2 i (grow n cs (a + j))) := by
              rw [ec2]
              exact M9.kf.none.mp ev
            refine iteT ⟨_, rfl, _, rfl, f, _, rfl, DPut.t M9.hf (by rw [← kc_vi]; exact ht) (len_lt2 (by omega)), ?_⟩
            rw [putK_new _ ev]
            have MA := M9.add (v := V.bl true) (rw_ := p.2 ++ [i]) ht
            refine ⟨_, rfl, .inl ⟨rfl, _, SqL.of (by rw [upd_ne M9.ne.1.symm]; exact M9.hl)⟩, _, rfl, lt, _, _, rfl, rfl, by rw [upd_ne M9.ne.1.symm]; exact M9.hl, len_lt2 (by rw [List.length_map]; omega), ?_⟩
            refine ⟨kvs' ++ [(kc (comp p.1 c2), V.bl true)], ls ++ [t], _, _, rfl, ?_, by rw [List.length_append]; show ls.length + 1 ≤ _; omega⟩
            rw [exF_succ, addF_new hin, ec2]
            have ek : keysF (exF cs p.1 p.2 i (grow n cs (a + j)) ++ [(comp p.1 c2, p.2 ++ [i])]) = keysF (exF cs p.1 p.2 i (grow n cs (a + j))) ++ [comp p.1 c2] := by
              unfold keysF
              rw [List.map_append]
              rfl
            rw [ek, drop_snoc (by rw [keysF_len]; exact kb)]
            rw [List.map_append] at MA
            exact MA
        · rintro σ H8 ⟨kvs', ls, v7, v8, rfl, M, lj⟩
          rw [List.length_map, bl, ← hgr] at M
          rw [List.length_map] at lj
          exact ⟨kvs', ls, _, _, _, rfl, M, by omega⟩
      · rintro σ H7 ⟨kvs', ls, v6, v7, v8, rfl, M, lj⟩
        rw [List.length_map, le] at M
        exact hZ2 _ _ ⟨kvs', ls, v6, v7, v8, rfl, M⟩
    rintro σ H7 ⟨kvs', ls, v6, v7, v8, rfl, M⟩
    have lg' : (grow n cs kvs.length).length = kvs'.length := M.kf.len.symm
    have ml : kvs'.length = kvs.length + ls.length := by
      have h1 := paired_len M.fl
      rw [List.length_drop, keysF_len, lg'] at h1
      have h2 := (grow_pre (n := n) (cs := cs) kvs.length (show a ≤ kvs.length by omega)).length_le
      omega
    refine sq_cut (fun σ H' => σ = [some (.ref l), some (.int (most : Int)), some (.ref t0), some (.ref f), some (.ref r), some (.ref lt), v6, v7, v8] ∧ H' = H7 ∧ kvs'.length ≤ most) (fun Z2 hZ2 => ?_) ?_
    · refine ⟨_, rfl, f, _, rfl, M.hf, _, rfl, _, _, rfl, rfl, _, rfl, ?_⟩
      by_cases z : (most : Int) < (kvs'.length : Int)
      · exact iteP (by simp [z]) (q0 _ M.s fun y => by
          have := y.grow (k := kvs.length)
          omega)
      · exact iteN (by simp [z]) (hZ2 _ _ ⟨rfl, rfl, by omega⟩)
    rintro σ H8 ⟨rfl, e8, km'⟩
    subst e8
    refine ⟨_, rfl, (if ls = [] then 0 else most + 1 - kvs'.length), ?_, ?_⟩
    · by_cases z : ls = []
      · rw [if_pos z]
        omega
      · rw [if_neg z]
        have := List.length_pos_iff.mpr z
        omega
    · rw [hI]
      exact ⟨lt, kvs.length, kvs', ls, _, _, _, _, rfl, ⟨M.s, M.f0, M.l0, M.hf, M.hl, M.kf, M.fl⟩, km', by omega, rfl⟩
  · rintro σ H4 ⟨r, a, kvs, v5, v6, v7, v8, rfl, W, km⟩
    have gl : (grow n cs a).length ≤ a := by
      have h1 := paired_len W.fr
      rw [List.length_drop, keysF_len] at h1
      have : (0 : Nat) = _ := h1
      omega
    have lg : (grow n cs a).length = kvs.length := W.kf.len.symm
    refine ⟨_, rfl, f, kvs, n, (n : Int), rfl, W.hf, by omega, n0, fun p hp => ?_, fun bs' cs' p ik pe pw hp => ?_⟩
    · obtain ⟨c, hm, e⟩ := W.kf.mem hp
      have hc := (grow_reach hm).chg hG.chg
      refine ⟨zi c, by rw [e, kc_zi], by unfold zi; rw [List.length_map]; exact hc.len, fun m hm => ?_⟩
      obtain ⟨x, hx, rfl⟩ := List.mem_map.mp hm
      have := hc.lt x hx
      omega
    · obtain ⟨G, g1, g2⟩ := paired_perm pe (keys_perm ik W.kf)
      have sz : Sz n cs most := (grow_sz gl).mono (by omega)
      refine q p cs' G _ (W.s.trans (Same.new hp)) (W.s.free hp) upd_same (TpP.same g2 (Same.new hp)) ⟨zs_sorted g2 pw, g1.nodup_iff.mpr (grow_gd a).nd, fun g => ?_⟩ sz
      rw [g1.mem_iff]
      exact ⟨fun z => grow_reach z, fun z => grow_all gl z⟩
end
end KV

/-! a comprehension within a comprehension's block -/
namespace KV
open PySem PySem.Spec PyProof.Rows L2
def rLenQ (K : PySem.W.Frag) : List V → Hp → VK → Prop := fun xs H Q => ∃ p ys, xs = [V.ref p] ∧ (SqL K H p ys ∨ SqT K H p ys) ∧ Q (V.int (ys.length : Nat)) H
theorem call_lenQ {X : Cx} : CallR X (Value.builtin "len") (rLenQ X.K) := call_len_seq
theorem look_relabel {env : Env} : ∀ {names : List (Str × NameKind)} {x : Str}, names.lookup x = some .cell ∨ names.lookup x = some .free →
    (names.map fun (n, k) => if (k == NameKind.free && env.scope.kind == .function && env.kindOf n == some .cell) then (n, NameKind.cell) else (n, k)).lookup x = some .cell ∨
    (names.map fun (n, k) => if (k == NameKind.free && env.scope.kind == .function && env.kindOf n == some .cell) then (n, NameKind.cell) else (n, k)).lookup x = some .free
  | [], _, h => by simp at h
  | (n, k) :: r, x, h => by
    have ih := @look_relabel env r x
    show List.lookup x ((if (k == NameKind.free && env.scope.kind == .function && env.kindOf n == some .cell) = true then (n, NameKind.cell) else (n, k)) :: _) = _ ∨ List.lookup x ((if (k == NameKind.free && env.scope.kind == .function && env.kindOf n == some .cell) = true then (n, NameKind.cell) else (n, k)) :: _) = _
    cases hx : x == n with
    | true =>
      simp only [List.lookup_cons, hx] at h
      by_cases z : (k == NameKind.free && env.scope.kind == .function && env.kindOf n == some .cell) = true
      · rw [if_pos z]
        simp only [List.lookup_cons, hx]
        first | exact .inl rfl | exact .inl trivial
      · rw [if_neg z]
        simp only [List.lookup_cons, hx]
        exact h
    | false =>
      simp only [List.lookup_cons, hx] at h
      have ih := ih h
      by_cases z : (k == NameKind.free && env.scope.kind == .function && env.kindOf n == some .cell) = true
      · rw [if_pos z]
        simp only [List.lookup_cons, hx]
        exact ih
      · rw [if_neg z]
        simp only [List.lookup_cons, hx]
        exact ih
theorem pe_lcN {X : Cx} {s0 : Shared} {H0 : Hp} {scope0 : Scope} {C0 : Addr} {cl0 : List (Str × Addr)} {fp0 : List Addr} {elt tg iter : Expr} {ifs : List Expr} {scope : Scope} {own : List (Str × Nat)} {pos : Pos} {wi : TI} {g : TG} {tt : TT} {te : TE} (N : List Str)
    (hc : X.calm = true) (hN : X.N.Nodup) (hi : PI (X.blk s0 H0 scope0 (compEnvC scope0 cl0 C0 X.env) fp0) tg iter wi) (hX : X.N = N) (ok : blkC N scope0 scope own = true)
    (hg : ∀ (s : Shared) (H : Hp) (C : Addr) (cl : List (Str × Addr)) (fp : List Addr), PG ((X.blk s0 H0 scope0 (compEnvC scope0 cl0 C0 X.env) fp0).blk s H scope (compEnvC scope cl C (compEnvC scope0 cl0 C0 X.env)) fp) tg g)
    (ht : ∀ (s : Shared) (H : Hp) (C : Addr) (cl : List (Str × Addr)) (fp : List Addr), PTs ((X.blk s0 H0 scope0 (compEnvC scope0 cl0 C0 X.env) fp0).blk s H scope (compEnvC scope cl C (compEnvC scope0 cl0 C0 X.env)) fp) ifs tt)
    (he : ∀ (s : Shared) (H : Hp) (C : Addr) (cl : List (Str × Addr)) (fp : List Addr), PE ((X.blk s0 H0 scope0 (compEnvC scope0 cl0 C0 X.env) fp0).blk s H scope (compEnvC scope cl C (compEnvC scope0 cl0 C0 X.env)) fp) elt te)
    (hs : ∀ x, foldedSetIterable iter (compEnvC scope0 cl0 C0 X.env) x = pure x := by intro _; rfl) :
    PE (X.blk s0 H0 scope0 (compEnvC scope0 cl0 C0 X.env) fp0) (.ListComp elt [⟨tg, iter, ifs, 0⟩] scope pos) (tLc wi g tt te (own.map (·.2))) :=
  pe_lc (X := X.blk s0 H0 scope0 (compEnvC scope0 cl0 C0 X.env) fp0) hc hN hi (by
    have e : BlkOk N scope0 scope own := blkOk_by ok
    rw [← hX] at e
    exact ⟨e.kind, e.uniq, e.ix, fun y hy z => look_relabel (env := X.env) (e.free y hy z), e.own⟩) hg ht he hs
end KV
namespace KV
open PySem PySem.Spec PyProof.Rows L2
def rTupOf (K : PySem.W.Frag) : List V → Hp → VK → Prop := fun xs H Q => ∃ p ys, xs = [.ref p] ∧ ((SqL K H p ys ∧ ∀ l, H l = none → Q (.ref l) (upd H l (.tup ys))) ∨ (SqT K H p ys ∧ Q (.ref p) H))
theorem call_tupK {X : Cx} : CallR X (Value.type "tuple") (rTupOf X.K) := call_tuple_of
theorem boot_tup : bootBuiltins ("tuple" : Str) = some (.type "tuple") := by decide +kernel
end KV

/-! the law's machines: two pieces side by side -/
namespace KV
open PySem PySem.Spec PyProof.Rows L2 KC
theorem take_at {α : Type} : ∀ {l : List α} {i : Nat} {x : α}, l[i]? = some x → l.take (i + 1) = l.take i ++ [x]
  | [], i, x, h => by simp at h
  | a :: l, 0, x, h => by
    have e : a = x := Option.some.inj h
    subst e
    rfl
  | a :: l, i + 1, x, h => by
    have ih := take_at (l := l) (i := i) (x := x) h
    show a :: l.take (i + 1) = a :: l.take i ++ [x]
    rw [ih]
    rfl
def lft (n1 n2 : Nat) (c : List Nat) : List Nat := c ++ (List.range n2).map (n1 + ·)
def rgt (n1 : Nat) (c : List Nat) : List Nat := List.range n1 ++ c.map (n1 + ·)
theorem nd_add (n1 : Nat) : ∀ {c : List Nat}, c.Nodup → (c.map (n1 + ·)).Nodup
  | [], _ => .nil
  | x :: c, h => by
    rw [List.nodup_cons] at h
    rw [List.map_cons, List.nodup_cons]
    refine ⟨fun z => ?_, nd_add n1 h.2⟩
    obtain ⟨y, hy, e⟩ := List.mem_map.mp z
    have : y = x := by omega
    exact h.1 (this ▸ hy)
theorem chg_lft {n1 n2 : Nat} {c : List Nat} (h : Chg n1 c) : Chg (n1 + n2) (lft n1 n2 c) := by
  refine ⟨?_, fun x hx => ?_, ?_⟩
  · unfold lft
    rw [List.length_append, List.length_map, List.length_range, h.len]
  · rcases List.mem_append.mp hx with z | z
    · have := h.lt x z
      omega
    · obtain ⟨y, hy, rfl⟩ := List.mem_map.mp z
      have := List.mem_range.mp hy
      omega
  · unfold lft
    rw [List.nodup_append]
    refine ⟨h.nd, nd_add n1 List.nodup_range, fun a ha b hb => ?_⟩
    obtain ⟨y, _, rfl⟩ := List.mem_map.mp hb
    have := h.lt a ha
    omega
theorem chg_rgt {n1 n2 : Nat} {c : List Nat} (h : Chg n2 c) : Chg (n1 + n2) (rgt n1 c) := by
  refine ⟨?_, fun x hx => ?_, ?_⟩
  · unfold rgt
    rw [List.length_append, List.length_map, List.length_range, h.len]
  · rcases List.mem_append.mp hx with z | z
    · have := List.mem_range.mp z
      omega
    · obtain ⟨y, hy, rfl⟩ := List.mem_map.mp z
      have := h.lt y hy
      omega
  · unfold rgt
    rw [List.nodup_append]
    refine ⟨List.nodup_range, nd_add n1 h.nd, fun a ha b hb => ?_⟩
    obtain ⟨y, _, rfl⟩ := List.mem_map.mp hb
    have := List.mem_range.mp ha
    omega
theorem vi_app (a b : List Nat) : vi (a ++ b) = vi a ++ vi b := by unfold vi; rw [List.map_append]
theorem paired_snoc {R : Addr → List Nat → Prop} : ∀ {bs : List Addr} {cs : List (List Nat)} {b : Addr} {c : List Nat}, Paired R bs cs → R b c → Paired R (bs ++ [b]) (cs ++ [c])
  | _, _, b, c, .nil, h => .cons h .nil
  | _, _, b, c, .cons h t, e => .cons h (paired_snoc t e)
theorem paired_app {R : Addr → List Nat → Prop} {bs' : List Addr} {cs' : List (List Nat)} (h2 : Paired R bs' cs') : ∀ {bs : List Addr} {cs : List (List Nat)}, Paired R bs cs → Paired R (bs ++ bs') (cs ++ cs')
  | _, _, .nil => h2
  | _, _, .cons h t => .cons h (paired_app h2 t)
theorem Gens.head {H : Hp} {l : Addr} {n : Nat} {bs : List Addr} {cs : List (List Nat)} (h : Gens H l n bs cs) : ∃ b0 br c0, bs = b0 :: br ∧ H b0 = some (.tup (vi c0)) ∧ Chg n c0 := by
  have ht := h.tups
  have hc := h.chg
  have h0 := h.c0
  cases ht with
  | nil => simp at h0
  | cons hh t => exact ⟨_, _, _, rfl, hh, hc _ (List.mem_cons_self ..)⟩
section
variable {P : Program} {w : World} {K : PySem.W.Frag} {mg : Str → Option Value} {base : Heap}
def spBes : Sp := fun vs H Q _ => ∃ (l m : Addr) (n1 n2 : Nat) (bs1 bs2 : List Addr) (cs1 cs2 : List (List Nat)), vs = [.ref l, .ref m] ∧ Gens H l n1 bs1 cs1 ∧ Gens H m n2 bs2 cs2 ∧ n1 ≤ 9 ∧ n2 ≤ 9 ∧ cs1.length ≤ 2 ∧ cs2.length ≤ 2 ∧
  ∀ r n bs cs H', Same H H' → H r = none → Gens H' r n bs cs → n ≤ 18 → cs.length ≤ 4 → n = n1 + n2 → cs = cs1.map (lft n1 n2) ++ cs2.map (rgt n1) → Q (.ref r) H'
theorem sk23 : FnScope ["_law_one", "_law_other", "_law_first", "_law_second", "_law_found", "_law_change", "_law_state"] ["_law_one", "_law_other"] (defScope (top 53)) := ⟨rfl, rfl, rfl, by decide +kernel, rfl, by decide +kernel, by decide +kernel⟩
theorem ok_bes {f : Addr} {fd : FuncData} (B : Bl mg) (F : Fun K "_law_beside" "_law_beside" (top 53) f fd) : FnOk P w K mg base CX0 1 f fd ["_law_one", "_law_other"] spBes := by
  refine F.ok sk23 (fun vs H Q E h => ?_) (fun cdv A outer s H vs Q E hr h => ⟨_,
    (pss_cons (ps_asg (pe_tup (pa_cons (pe_callB call_len_seq (by rfl) B.len PySem.boot_len (pa_cons (pe_ix ix_list (pv 0) pe_int (fun _ _ => rfl)) pa_nil)) (pa_cons (pe_callB call_len_seq (by rfl) B.len PySem.boot_len (pa_cons (pe_ix ix_list (pv 1) pe_int (fun _ _ => rfl)) pa_nil)) pa_nil))) (pg_tup rfl (pgs_cons (pg_name (i := 2) sk23.nd rfl (.inr rfl)) (pgs_cons (pg_name (i := 3) sk23.nd rfl (.inr rfl)) pgs_nil))))
    (pss_cons (ps_setLc (i := 4) (own := [("_law_change", 5)]) (g := gName 5) (tt := tYes) rfl sk23.nd rfl rfl (sw_true rfl rfl rfl (by decide +kernel)) (pi_list (pv 0)) (blkOk_by (N := ["_law_one", "_law_other", "_law_first", "_law_second", "_law_found", "_law_change", "_law_state"]) (sc := defScope (top 53)) (by decide +kernel))
        (fun _ _ _ _ _ => (pg_name (i := 5) sk23.nd rfl (Or.inl rfl))) (fun _ _ _ _ _ => pts_nil) (fun _ _ _ _ _ => (pe_op (r := rCatA K) op_catA (pv 5) (pe_callTy (r := rTupOf K) call_tupK (by rfl) B.tuple boot_tup (pa_cons (pe_lcN ["_law_one", "_law_other", "_law_first", "_law_second", "_law_found", "_law_change", "_law_state"] (own := [("_law_state", 6)]) (g := gName 6) (tt := tYes) rfl sk23.nd (pi_range1 (by rfl) B.range (pa_cons (pv 3) pa_nil)) rfl (by decide +kernel)
        (fun _ _ _ _ _ => (pg_name (i := 6) sk23.nd rfl (Or.inl rfl))) (fun _ _ _ _ _ => pts_nil) (fun _ _ _ _ _ => (pe_op op_add (pv 2) (pv 6)))) pa_nil)))))
    (pss_one (ps_ret (pe_op op_cat (pv 4) (pe_lc (own := [("_law_change", 5)]) (g := gName 5) (tt := tYes) rfl sk23.nd (pi_list (pv 1)) (blkOk_by (N := ["_law_one", "_law_other", "_law_first", "_law_second", "_law_found", "_law_change", "_law_state"]) (sc := defScope (top 53)) (by decide +kernel))
        (fun _ _ _ _ _ => (pg_name (i := 5) sk23.nd rfl (Or.inl rfl))) (fun _ _ _ _ _ => pts_nil) (fun _ _ _ _ _ => (pe_op (r := rCatA K) op_catA (pe_callTy (r := rTupOf K) call_tupK (by rfl) B.tuple boot_tup (pa_cons (pe_listRg rfl (by rfl) B.list (prg_1 (by rfl) B.range (pv 2))) pa_nil)) (pe_callTy (r := rTupOf K) call_tupK (by rfl) B.tuple boot_tup (pa_cons (pe_lcN ["_law_one", "_law_other", "_law_first", "_law_second", "_law_found", "_law_change", "_law_state"] (wi := iTup K (tVar 5)) (own := [("_law_state", 6)]) (g := gName 6) (tt := tYes) rfl sk23.nd (by exact (pi_tup (pv 5))) rfl (by decide +kernel)
        (fun _ _ _ _ _ => (pg_name (i := 6) sk23.nd rfl (Or.inl rfl))) (fun _ _ _ _ _ => pts_nil) (fun _ _ _ _ _ => (pe_op op_add (pv 2) (pv 6)))) pa_nil)))))))))), ?_⟩)
  · obtain ⟨l, m, n1, n2, bs1, bs2, cs1, cs2, rfl, _⟩ := h
    rfl
  obtain ⟨l, m, n1, n2, bs1, bs2, cs1, cs2, rfl, h1, h2, l1, l2, c1, c2, q⟩ := h
  obtain ⟨b1, br1, e1, eb1, f1, g1⟩ := h1.head
  obtain ⟨b2, br2, e2, eb2, f2, g2⟩ := h2.head
  have n1' := h1.n0
  have n2' := h2.n0
  have lb1 := paired_len h1.tups
  have lb2 := paired_len h2.tups
  have hl1 : SqL K H l ((b1 :: br1).map V.ref) := by rw [← eb1]; exact SqL.of h1.lst
  have hl2 : SqL K H m ((b2 :: br2).map V.ref) := by rw [← eb2]; exact SqL.of h2.lst
  have z1 : (vi e1).length = n1 := by rw [show (vi e1).length = e1.length from List.length_map ..]; exact g1.len
  have z2 : (vi e2).length = n2 := by rw [show (vi e2).length = e2.length from List.length_map ..]; exact g2.len
  refine ⟨_, rfl, l, _, _, _, rfl, rfl, hl1, atI_zero, b1, _, rfl, .inr (SqT.of f1), _, rfl, m, _, _, _, rfl, rfl, hl2, atI_zero, b2, _, rfl, .inr (SqT.of f2), (by show 2 ≤ sizeLine; decide), fun t ht => ⟨_, _, rfl, SqT.of upd_same, rfl, _, _, rfl, _, _, rfl, rfl, ?_⟩⟩
  rw [z1, z2]
  have s1 : Same H (upd H t (.tup [V.int (n1 : Nat), V.int (n2 : Nat)])) := Same.new ht
  generalize upd H t (.tup [V.int (n1 : Nat), V.int (n2 : Nat)]) = H1 at s1
  clear ht hl1 hl2 f1 f2 z1 z2
  dsimp only [gName, gNil]
  refine ⟨_, rfl, l, rfl, ⟨_, SqL.of (s1 _ _ h1.lst)⟩, fun D hD => lc_list (xs := bs1.map V.ref) (fun i G => Same H1 G ∧ ∃ ds, G D = some (.lst (ds.map V.ref)) ∧ Paired (fun b c => G b = some (.tup (vi c))) ds ((cs1.take i).map (lft n1 n2))) ⟨Same.new hD, [], upd_same, .nil⟩ (fun i G _ z => SqL.of ((s1.trans z.1) _ _ h1.lst)) ?_ ?_⟩
  · rintro i x G hx ⟨p1, ds, p2, p3⟩
    obtain ⟨b, hb, rfl⟩ := ref_at hx
    obtain ⟨c, hc, hbc⟩ := paired_at h1.tups hb
    have hg := h1.chg c (List.mem_of_getElem? hc)
    have hb2 := (s1.trans p1) _ _ hbc
    have dl := paired_len p3
    rw [List.length_map] at dl
    have dl2 := List.length_take_le' i cs1
    refine ⟨rfl, _, rfl, _, rfl, (n2 : Int), rfl, by omega, by omega, fun D2 hD2 => lc_range (n := (n2 : Int).toNat) (fun j G2 => Same G G2 ∧ G2 D2 = some (.lst (vi ((List.range j).map (n1 + ·))))) ⟨Same.new hD2, upd_same⟩ ?_ ?_⟩
    · rintro j G2 hj ⟨u1, u2⟩
      refine ⟨rfl, _, rfl, _, rfl, _, _, rfl, rfl, _, u2, len_lt (by simp only [vi, List.length_map, List.length_range]; omega), Same.upd u1 hD2, ?_⟩
      rw [upd_same, List.range_succ, List.map_append, vi_app]
      refine congrArg (fun z => some (HO.lst (_ ++ [V.int z]))) ?_
      dsimp only
      omega
    rintro G2 ⟨u1, u2⟩
    have u2 : G2 D2 = some (.lst (vi ((List.range n2).map (n1 + ·)))) := u2
    refine ⟨D2, _, rfl, .inl ⟨SqL.of u2, fun t ht => ?_⟩⟩
    have st := Same.new (o := .tup (vi ((List.range n2).map (n1 + ·)))) ht
    refine ⟨b, t, _, _, rfl, rfl, SqT.of (st _ _ (u1 _ _ hb2)), SqT.of upd_same, ?_, fun z => ?_, fun _ z => ?_, fun _ _ p hp => ?_⟩
    · have := hg.len
      simp only [vi, List.length_map, List.length_range]
      exact Nat.le_of_lt (len_lt (by omega))
    · have := congrArg List.length z
      simp only [vi, List.length_map, List.length_nil] at this
      have := hg.len
      omega
    · have := congrArg List.length z
      simp only [vi, List.length_map, List.length_nil, List.length_range] at this
      omega
    · have sall := (u1.trans st).trans (Same.new (o := .tup (vi c ++ vi ((List.range n2).map (n1 + ·)))) hp)
      have ep : upd (upd G2 t (.tup (vi ((List.range n2).map (n1 + ·))))) p (.tup (vi c ++ vi ((List.range n2).map (n1 + ·)))) p = some (.tup (vi (lft n1 n2 c))) := by rw [upd_same, ← vi_app]; rfl
      generalize upd (upd G2 t (.tup (vi ((List.range n2).map (n1 + ·))))) p (.tup (vi c ++ vi ((List.range n2).map (n1 + ·)))) = G3 at sall ep
      refine ⟨_, sall _ _ p2, len_lt (by rw [List.length_map]; omega), Same.upd (p1.trans sall) hD, ds ++ [p], ?_, ?_⟩
      · rw [upd_same, List.map_append]
        rfl
      · have nD : ∀ xs, G3 D ≠ some (.tup xs) := fun xs z => by rw [sall _ _ p2] at z; cases z
        rw [take_at hc, List.map_append]
        refine paired_snoc (tups_keep (fun b xs e => by rw [upd_ne (fun y => nD _ (by rw [← y]; exact sall _ _ e))]; exact sall _ _ e) p3) ?_
        rw [upd_ne (fun y => nD _ (by rw [← y]; exact ep))]
        exact ep
  rintro G ⟨p1, ds, p2, p3⟩
  rw [List.length_map, lb1, List.take_length] at p3
  have S2 := s1.trans p1
  dsimp only [gName]
  refine ⟨_, rfl, _, rfl, m, rfl, ⟨_, SqL.of (S2 _ _ h2.lst)⟩, fun D2 hD2 => ?_⟩
  refine lc_list (xs := bs2.map V.ref) (fun i G2 => Same G G2 ∧ ∃ es, G2 D2 = some (.lst (es.map V.ref)) ∧ Paired (fun b c => G2 b = some (.tup (vi c))) es ((cs2.take i).map (rgt n1))) ⟨Same.new hD2, [], upd_same, .nil⟩ (fun i G2 _ z => SqL.of ((S2.trans z.1) _ _ h2.lst)) ?_ ?_
  · rintro i x G2 hx ⟨u1, es, u2, u3⟩
    obtain ⟨b, hb, rfl⟩ := ref_at hx
    obtain ⟨c, hc, hbc⟩ := paired_at h2.tups hb
    have hg := h2.chg c (List.mem_of_getElem? hc)
    have hb2 := (S2.trans u1) _ _ hbc
    have dl := paired_len u3
    rw [List.length_map] at dl
    have dl2 := List.length_take_le' i cs2
    refine ⟨rfl, _, rfl, _, rfl, RgOk.of_le (by decide) (by omega) (by decide) (by omega), fun q1 hq1 => ⟨q1, _, rfl, .inl ⟨SqL.of upd_same, fun t1 ht1 => ?_⟩⟩⟩
    rw [rgV_vi] at ht1 ⊢
    have sq := (Same.new (o := .lst (vi (List.range n1))) hq1).trans (Same.new (o := .tup (vi (List.range n1))) ht1)
    have et1 : upd (upd G2 q1 (.lst (vi (List.range n1)))) t1 (.tup (vi (List.range n1))) t1 = some (.tup (vi (List.range n1))) := upd_same
    generalize upd (upd G2 q1 (.lst (vi (List.range n1)))) t1 (.tup (vi (List.range n1))) = G3 at sq et1
    have hb3 := sq _ _ hb2
    refine ⟨_, rfl, b, rfl, ⟨_, SqT.of hb3⟩, fun D3 hD3 => lc_tup (xs := vi c) (fun j G4 => Same G3 G4 ∧ G4 D3 = some (.lst (vi ((c.take j).map (n1 + ·))))) ⟨Same.new hD3, upd_same⟩ (fun j G4 _ z => SqT.of (z.1 _ _ hb3)) ?_ ?_⟩
    · rintro j y G4 hy ⟨w1, w2⟩
      obtain ⟨v, hv, rfl⟩ := vi_at hy
      refine ⟨rfl, _, rfl, _, rfl, _, _, rfl, rfl, _, w2, len_lt (by have := hg.len; have := List.length_take_le' j c; simp only [vi, List.length_map]; omega), Same.upd w1 hD3, ?_⟩
      rw [upd_same, take_at hv, List.map_append, vi_app]
      refine congrArg (fun z => some (HO.lst (_ ++ [V.int z]))) ?_
      dsimp only
      omega
    rintro G4 ⟨w1, w2⟩
    have w2 : G4 D3 = some (.lst (vi (c.map (n1 + ·)))) := by
      rw [show (vi c).length = c.length from List.length_map .., List.take_length] at w2
      exact w2
    refine ⟨D3, _, rfl, .inl ⟨SqL.of w2, fun t ht => ?_⟩⟩
    have st := Same.new (o := .tup (vi (c.map (n1 + ·)))) ht
    refine ⟨t1, t, _, _, rfl, rfl, SqT.of (st _ _ (w1 _ _ et1)), SqT.of upd_same, ?_, fun z => ?_, fun _ z => ?_, fun _ _ p hp => ?_⟩
    · have := hg.len
      simp only [vi, List.length_map, List.length_range]
      exact Nat.le_of_lt (len_lt (by omega))
    · have := congrArg List.length z
      simp only [vi, List.length_map, List.length_nil, List.length_range] at this
      omega
    · have := congrArg List.length z
      simp only [vi, List.length_map, List.length_nil] at this
      have := hg.len
      omega
    · have sall := ((sq.trans w1).trans st).trans (Same.new (o := .tup (vi (List.range n1) ++ vi (c.map (n1 + ·)))) hp)
      have ep : upd (upd G4 t (.tup (vi (c.map (n1 + ·))))) p (.tup (vi (List.range n1) ++ vi (c.map (n1 + ·)))) p = some (.tup (vi (rgt n1 c))) := by rw [upd_same, ← vi_app]; rfl
      generalize upd (upd G4 t (.tup (vi (c.map (n1 + ·))))) p (.tup (vi (List.range n1) ++ vi (c.map (n1 + ·)))) = G5 at sall ep
      refine ⟨_, sall _ _ u2, len_lt (by rw [List.length_map]; omega), Same.upd (u1.trans sall) hD2, es ++ [p], ?_, ?_⟩
      · rw [upd_same, List.map_append]
        rfl
      · have nD : ∀ xs, G5 D2 ≠ some (.tup xs) := fun xs z => by rw [sall _ _ u2] at z; cases z
        rw [take_at hc, List.map_append]
        refine paired_snoc (tups_keep (fun b xs e => by rw [upd_ne (fun y => nD _ (by rw [← y]; exact sall _ _ e))]; exact sall _ _ e) u3) ?_
        rw [upd_ne (fun y => nD _ (by rw [← y]; exact ep))]
        exact ep
  rintro G2 ⟨u1, es, u2, u3⟩
  rw [List.length_map, lb2, List.take_length] at u3
  have dl1 := paired_len p3
  have dl2 := paired_len u3
  rw [List.length_map] at dl1 dl2
  refine ⟨D, D2, _, _, rfl, rfl, u1 _ _ p2, u2, ?_, fun p hp => ?_⟩
  · rw [List.length_map, List.length_map]
    exact Nat.le_of_lt (len_lt (by omega))
  · have sp := Same.new (o := .lst (ds.map V.ref ++ es.map V.ref)) hp
    refine q p (n1 + n2) (ds ++ es) (cs1.map (lft n1 n2) ++ cs2.map (rgt n1)) _ ((S2.trans u1).trans sp) ((S2.trans u1).free hp) ⟨by rw [upd_same, List.map_append], paired_app (tups_keep (fun b xs e => sp _ _ e) u3) (tups_keep (fun b xs e => (u1.trans sp) _ _ e) p3), fun c hc => ?_, by omega, ?_⟩ (by omega) ?_ rfl rfl
    · rcases List.mem_append.mp hc with z | z
      · obtain ⟨y, hy, rfl⟩ := List.mem_map.mp z
        exact chg_lft (h1.chg y hy)
      · obtain ⟨y, hy, rfl⟩ := List.mem_map.mp z
        exact chg_rgt (h2.chg y hy)
    · have := h1.c0
      rw [List.length_append, List.length_map]
      omega
    · rw [List.length_append, List.length_map, List.length_map]
      omega

end
end KV

/-! the law's machines: a drawn one -/
namespace KV
open PySem PySem.Spec PyProof.Rows L2 KC
theorem chg_perm {n : Nat} {p : List Nat} (h : p.Perm (List.range n)) : Chg n p :=
  ⟨by rw [h.length_eq, List.length_range], fun x hx => List.mem_range.mp (h.mem_iff.mp hx), h.nodup_iff.mpr List.nodup_range⟩
def Trn (n : Nat) (p c T : List Nat) (i : Nat) : Prop := T.length = n ∧ ∀ j, j < i → T[p.getD j 0]? = some (p.getD (c.getD j 0) 0)
theorem trn_step {n i : Nat} {p c T : List Nat} (hp : Chg n p) (hi : i < n) (t : Trn n p c T i) : Trn n p c (T.set (p.getD i 0) (p.getD (c.getD i 0) 0)) (i + 1) := by
  refine ⟨by rw [List.length_set]; exact t.1, fun j hj => ?_⟩
  by_cases e : j = i
  · subst e
    rw [List.getElem?_set_self (by rw [t.1]; exact hp.at_lt hi)]
  · rw [List.getElem?_set_ne (fun z => e (hp.at_inj hi (by omega) z).symm)]
    exact t.2 j (by omega)
theorem trn_chg {n : Nat} {p c T : List Nat} (hp : Chg n p) (hc : Chg n c) (t : Trn n p c T n) : Chg n T := by
  have at_ : ∀ i, i < n → T.getD (p.getD i 0) 0 = p.getD (c.getD i 0) 0 := fun i hi => getD_at (t.2 i hi)
  rw [eq_tab t.1]
  refine chg_tab (fun x hx => ?_) fun x hx y hy e => ?_
  · obtain ⟨i, hi, rfl⟩ := hp.mem hx
    rw [at_ i hi]
    exact hp.at_lt (hc.at_lt hi)
  · obtain ⟨i, hi, rfl⟩ := hp.mem hx
    obtain ⟨j, hj, rfl⟩ := hp.mem hy
    rw [at_ i hi, at_ j hj] at e
    rw [hc.at_inj hi hj (hp.at_inj (hc.at_lt hi) (hc.at_lt hj) e)]
theorem trn_comp {n : Nat} {p c T : List Nat} (hp : Chg n p) (hc : Chg n c) (t : Trn n p c T n) : comp p T = comp c p := by
  refine List.ext_getElem? fun j => ?_
  unfold comp
  rw [List.getElem?_map, List.getElem?_map]
  by_cases z : j < n
  · rw [at_getD (by rw [hp.len]; exact z), at_getD (by rw [hc.len]; exact z)]
    exact congrArg some (getD_at (t.2 j z))
  · rw [List.getElem?_eq_none (by rw [hp.len]; omega), List.getElem?_eq_none (by rw [hc.len]; omega)]
    rfl
theorem perm_refs {ys : List V} {bs : List Addr} (h : ys.Perm (bs.map V.ref)) : ∃ ds : List Addr, ys = ds.map V.ref ∧ ds.Perm bs := by
  refine ⟨ys.filterMap (fun v => match v with | .ref a => some a | _ => none), ?_, ?_⟩
  · have all : ∀ v ∈ ys, ∃ a, v = V.ref a := fun v hv => by
      obtain ⟨b, _, e⟩ := List.mem_map.mp (h.mem_iff.mp hv)
      exact ⟨b, e.symm⟩
    clear h
    induction ys with
    | nil => rfl
    | cons v r ih =>
      obtain ⟨a, rfl⟩ := all v (by simp)
      show V.ref a :: r = V.ref a :: _
      rw [← ih fun v hv => all v (List.mem_cons_of_mem _ hv)]
  · have z := h.filterMap (fun v : V => match v with | .ref a => some a | _ => none)
    have e : ∀ l : List Addr, (l.map V.ref).filterMap (fun v : V => match v with | .ref a => some a | _ => none) = l := fun l => by
      induction l with
      | nil => rfl
      | cons a r ih =>
        show a :: _ = a :: r
        exact congrArg (a :: ·) ih
    rw [e] at z
    exact z
theorem Gens.frs {H : Hp} {l : Addr} {n : Nat} {bs : List Addr} {cs : List (List Nat)} (h : Gens H l n bs cs) : Frs n H bs := fun e he => by
  obtain ⟨i, hi, rfl⟩ := List.mem_iff_getElem.mp he
  obtain ⟨c, h1, h2⟩ := paired_at h.tups (List.getElem?_eq_getElem hi)
  exact ⟨c, h.chg c (List.mem_of_getElem? h1), h2⟩
theorem Frs.kp {n : Nat} {d c : Addr} {H H' : Hp} {es : List Addr} (h : Frs n H es) (D : Dl H d c) (k : Kp d c H H') : Frs n H' es := fun e he => by
  obtain ⟨c, h1, h2⟩ := h e he
  exact ⟨c, h1, D.kT k h2⟩
/-- amid the turning -/
structure MS (d c fl ml : Addr) (n : Nat) (nm : List Nat) (cs : List (List Nat)) (H5 : Hp) (ds fs : List Addr) (es : List (List Nat)) (H' : Hp) : Prop where
  ff : H' fl = some (.lst (fs.map V.ref))
  mm : H' ml = some (.lst (ds.map V.ref))
  pp : Paired (fun b e => H' b = some (.tup (vi e))) fs es
  ee : Cjs n nm cs es
  dl : Dl H' d c
  kp : Kp d c H5 H'
theorem MS.same {d c fl ml : Addr} {n : Nat} {nm : List Nat} {cs : List (List Nat)} {H5 H1 H2 : Hp} {ds fs : List Addr} {es : List (List Nat)} (h : MS d c fl ml n nm cs H5 ds fs es H1) (s : Same H1 H2) : MS d c fl ml n nm cs H5 ds fs es H2 :=
  ⟨s _ _ h.ff, s _ _ h.mm, tups_keep (fun b xs e => s _ _ e) h.pp, h.ee, h.dl.same s, h.kp.trans (Kp.of s)⟩
theorem MS.upd {d c fl ml p : Addr} {n : Nat} {nm : List Nat} {cs : List (List Nat)} {H5 H1 : Hp} {o : HO} {ds fs : List Addr} {es : List (List Nat)} (h : MS d c fl ml n nm cs H5 ds fs es H1) (hp : H5 p = none) (np : p ≠ fl ∧ p ≠ ml) (pd : p ≠ d ∧ p ≠ c) (nt : ∀ xs, H1 p ≠ some (.tup xs)) : MS d c fl ml n nm cs H5 ds fs es (L2.upd H1 p o) :=
  ⟨by rw [upd_ne np.1.symm]; exact h.ff, by rw [upd_ne np.2.symm]; exact h.mm, tups_keep (fun b xs e => by rw [upd_ne (fun y => nt _ (by rw [← y]; exact e))]; exact e) h.pp, h.ee, h.dl.upd pd.1 pd.2, h.kp.updn hp⟩
theorem MS.add {d c fl ml t : Addr} {n : Nat} {nm : List Nat} {cs : List (List Nat)} {H5 H1 : Hp} {ds fs : List Addr} {es : List (List Nat)} {e : List Nat} (h : MS d c fl ml n nm cs H5 ds fs es H1) (f5 : H5 fl = none) (fd : fl ≠ d ∧ fl ≠ c) (fm : fl ≠ ml) (ht : H1 t = some (.tup (vi e))) (he : Chg n e ∧ ∃ k, k < cs.length ∧ comp nm e = comp (cs.getD k []) nm) :
    MS d c fl ml n nm cs H5 ds (fs ++ [t]) (es ++ [e]) (L2.upd H1 fl (.lst ((fs ++ [t]).map V.ref))) := by
  have nt : ∀ xs, H1 fl ≠ some (.tup xs) := fun xs z => by rw [h.ff] at z; cases z
  refine ⟨upd_same, by rw [upd_ne fm.symm]; exact h.mm, paired_snoc (tups_keep (fun b xs e => by rw [upd_ne (fun y => nt _ (by rw [← y]; exact e))]; exact e) h.pp) (by rw [upd_ne (fun y => nt _ (by rw [← y]; exact ht))]; exact ht), fun x hx => ?_, h.dl.upd fd.1 fd.2, h.kp.updn f5⟩
  rcases List.mem_append.mp hx with z | z
  · exact h.ee x z
  · rw [show x = e from by simpa using z]
    exact he
theorem rep_vi (n : Nat) : (List.replicate n [V.int 0]).flatten = vi (List.replicate n 0) := by
  rw [rep_int]
  unfold vi
  rw [List.map_replicate]
  rfl
theorem ixN_ok {r : Int} {n : Nat} (h0 : 0 ≤ r) (h1 : r < n) : L2.ixN n r = some r.toNat := by
  unfold L2.ixN
  rw [if_pos h0, if_pos h1]
theorem vi_set (T : List Nat) (j x : Nat) : (vi T).set j (V.int (x : Int)) = vi (T.set j x) := by
  unfold vi
  rw [List.map_set]
theorem s3_sz : Sz 3 [[1, 2, 0], [0, 2, 1]] 6 := Sz.of (A := [[0, 1, 2], [1, 2, 0], [2, 0, 1], [0, 2, 1], [1, 0, 2], [2, 1, 0]]) (by decide) (by decide) (by decide)
section
variable {P : Program} {w : World} {K : PySem.W.Frag} {mg : Str → Option Value} {base : Heap}
def spMac : Sp := fun vs H Q _ => ∃ (d c : Addr) (most : Nat), vs = [.ref d, .int (most : Int)] ∧ Dl H d c ∧ 6 ≤ most ∧ most ≤ 200 ∧ ∀ l n bs cs H', H l = none → Gens H' l n bs cs → n ≤ 12 → cs.length ≤ 4 → Sz n cs most → Dl H' d c → Kp d c H H' → Q (.ref l) H'
theorem sk25 : FnScope ["_law_deal", "_law_most", "_law_turn", "_law_some", "_law_many", "_law_names", "_law_found", "_law_change", "_law_turned", "_law_state", "_law_to", "_law_command"] ["_law_deal", "_law_most"] (defScope (top 55)) := ⟨rfl, rfl, rfl, by decide +kernel, rfl, by decide +kernel, by decide +kernel⟩
theorem ok_mac {f : Addr} {fd : FuncData} (B : Bl mg) (CA : Cal P w K mg base CX0 1 "_law_any" ["_law_deal", "_law_bound"] spAny) (CP : Cal P w K mg base CX0 1 "_law_piece" ["_law_form"] spPiece) (CB : Cal P w K mg base CX0 1 "_law_beside" ["_law_one", "_law_other"] spBes)
    (CM : Cal P w K mg base CX0 2 "_law_mixed" ["_law_deal", "_law_some"] spMix) (CMV : Cal P w K mg base CX0 2 "_law_mixed" ["_law_deal", "_law_some"] spMixV) (CL : Cal P w K mg base CX0 2 "_law_lot" ["_law_some", "_law_most"] spLot) (F : Fun K "_law_machine" "_law_machine" (top 55) f fd) : FnOk P w K mg base CX0 3 f fd ["_law_deal", "_law_most"] spMac := by
  refine F.ok sk25 (fun vs H Q E h => ?_) (fun cdv A outer s H vs Q E hr h => ⟨_,
    (pss_cons (ps_for PassesOwn.never rfl (pi_range1 (by rfl) B.range (pa_cons pe_int pa_nil)) (pg_name (i := 2) sk25.nd rfl (.inl rfl)) (pss_cons (ps_set (i := 3) sk25.nd rfl (.inl rfl) (by exact (pe_cal (X := L2.Cx.nox _) CP hr (by decide) (pa_cons (by exact (pe_cal (X := L2.Cx.nox _) CA hr (by decide) (pa_cons (pv 0) (pa_cons pe_int pa_nil)))) pa_nil))))
    (pss_cons (ps_if (pt_cmpR op_eq (by exact (pe_cal (X := L2.Cx.nox _) CA hr (by decide) (pa_cons (pv 0) (pa_cons pe_int pa_nil)))) pe_int (nomark _)) (pss_one (ps_set (i := 3) sk25.nd rfl (.inl rfl) (by exact (pe_cal (X := L2.Cx.nox _) CB hr (by decide) (pa_cons (pv 3) (pa_cons (by exact (pe_cal (X := L2.Cx.nox _) CP hr (by decide) (pa_cons (by exact (pe_cal (X := L2.Cx.nox _) CA hr (by decide) (pa_cons (pv 0) (pa_cons pe_int pa_nil)))) pa_nil))) pa_nil)))))) pss_nil)
    (pss_cons (ps_if (pt_cmpR op_eq (by exact (pe_cal (X := L2.Cx.nox _) CA hr (by decide) (pa_cons (pv 0) (pa_cons pe_int pa_nil)))) pe_int (nomark _)) (pss_cons (ps_set (i := 4) sk25.nd rfl (.inr rfl) (pe_op op_add pe_int (by exact (pe_cal (X := L2.Cx.nox _) CA hr (by decide) (pa_cons (pv 0) (pa_cons pe_int pa_nil))))))
    (pss_one (ps_setLc (i := 3) (own := [("_law_command", 11)]) (g := gName 11) (tt := tYes) rfl sk25.nd rfl rfl (sw_true rfl rfl rfl (by decide +kernel)) (pi_range1 (by rfl) B.range (pa_cons (pe_op op_add pe_int (by exact (pe_cal (X := L2.Cx.nox _) CA hr (by decide) (pa_cons (pv 0) (pa_cons pe_int pa_nil))))) pa_nil)) (blkOk_by (N := ["_law_deal", "_law_most", "_law_turn", "_law_some", "_law_many", "_law_names", "_law_found", "_law_change", "_law_turned", "_law_state", "_law_to", "_law_command"]) (sc := defScope (top 55)) (by decide +kernel))
        (fun _ _ _ _ _ => (pg_name (i := 11) sk25.nd rfl (Or.inl rfl))) (fun _ _ _ _ _ => pts_nil) (fun _ _ _ _ _ => (pe_callTy (r := rTupOf K) call_tupK (by rfl) B.tuple boot_tup (pa_cons (pe_cal CM hr (by decide) (pa_cons (pv 0) (pa_cons (pe_listRg rfl (by rfl) B.list (prg_1 (by rfl) B.range (pv 4))) pa_nil))) pa_nil)))))) pss_nil)
    (pss_one (ps_if (PW.pt (pw_and (pt_cmpR op_lt (pe_callB call_len_seq (by rfl) B.len PySem.boot_len (pa_cons (pe_ix ix_list (pv 3) pe_int (fun _ _ => rfl)) pa_nil)) pe_int (nomark _)) (pw_and (pt_cmpR op_lt (pe_callB call_len_seq (by rfl) B.len PySem.boot_len (pa_cons (pv 3) pa_nil)) pe_int (nomark _)) (pw_and1 (pt_cmpR op_notN (by exact (pe_cal (X := L2.Cx.nox _) CL hr (by decide) (pa_cons (pv 3) (pa_cons (pv 1) pa_nil)))) pe_non (nomark _)))))) (pss_cons (ps_set (i := 5) sk25.nd rfl (.inl rfl) (by exact (pe_cal (X := L2.Cx.nox _) CM hr (by decide) (pa_cons (pv 0) (pa_cons (pe_listRg rfl (by rfl) B.list (prg_1 (by rfl) B.range (pe_callB call_len_seq (by rfl) B.len PySem.boot_len (pa_cons (pe_ix ix_list (pv 3) pe_int (fun _ _ => rfl)) pa_nil)))) pa_nil)))))
    (pss_cons (ps_set (i := 6) sk25.nd rfl (.inl rfl) (pe_lst pa_nil))
    (pss_cons (ps_for PassesOwn.never rfl (pi_list (by exact (pe_cal (X := L2.Cx.nox _) CMV hr (by decide) (pa_cons (pv 0) (pa_cons (pv 3) pa_nil))))) (pg_name (i := 7) sk25.nd rfl (.inl rfl)) (pss_cons (ps_set (i := 8) sk25.nd rfl (.inl rfl) (pe_op op_rep (pe_lst (pa_cons pe_int pa_nil)) (pe_callB call_len_seq (by rfl) B.len PySem.boot_len (pa_cons (pv 5) pa_nil))))
    (pss_cons (ps_for PassesOwn.never rfl (pi_enumT (by rfl) B.enumerate (pa_cons (pv 7) pa_nil)) (pg_tup rfl (pgs_cons (pg_name (i := 9) sk25.nd rfl (.inl rfl)) (pgs_cons (pg_name (i := 10) sk25.nd rfl (.inl rfl)) pgs_nil))) (pss_one (ps_asg (pe_ix ix_list (pv 5) (pv 10) (fun _ _ => rfl)) (pg_sub (pv 8) (pe_ix ix_list (pv 5) (pv 9) (fun _ _ => rfl)) set_list))))
    (pss_one (ps_expr (pe_bm PySem.F.plainAttrs_list PySem.F.slot_list_append PySem.F.type_list_append mt_append (pv 6) (pa_cons (pe_callTy call_tuple_of (by rfl) B.tuple (by decide +kernel) (pa_cons (pv 8) pa_nil)) pa_nil)))))))
    (pss_one (ps_ret (pv 6)))))) pss_nil))))))
    (pss_one (ps_ret (by exact (pe_cal (X := L2.Cx.nox _) CP hr (by decide) (pa_cons pe_int pa_nil)))))), ?_⟩)
  · obtain ⟨d, c, most, rfl, _⟩ := h
    rfl
  obtain ⟨d, c, most, rfl, hD, m0, m1, q⟩ := h
  clear B CA CP CB CM CMV CL F
  refine ⟨8, rfl, by decide, by decide, for_range (n := 8) (fun i σ H' => ∃ v2 v3 v4 v5 v6 v7 v8 v9 v10 : Option V, σ = [some (.ref d), some (.int (most : Int)), v2, v3, v4, v5, v6, v7, v8, v9, v10, none] ∧ Dl H' d c ∧ Kp d c H H') ⟨none, none, none, none, none, none, none, none, none, rfl, hD, Kp.refl⟩ ?_ ?_⟩
  · rintro i σ G hi ⟨v2, v3, v4, v5, v6, v7, v8, v9, v10, rfl, hD0, k0⟩
    refine ⟨_, rfl, d, c, 12, rfl, hD0, by decide, by decide, fun r H1 r0 r1 D1 k1 => ⟨r, rfl, r0, r1, fun l n bs cs H2 s2 l0 G2 n9 c2 h3 => ?_⟩⟩
    have ld := D1.ne l0
    have kk := (k0.trans k1).trans (Kp.of s2)
    have l00 : H l = none := (k0.trans k1).free ld.1 ld.2 l0
    have D2 := D1.same s2
    dsimp only [gName]
    clear s2 k1 l0 D1 r0 r1
    refine sq_cut (fun σ H' => ∃ (l : Addr) (n : Nat) (bs : List Addr) (cs : List (List Nat)) (v4 : Option V), σ = [some (.ref d), some (.int (most : Int)), some (.int (0 + (i : Int))), some (.ref l), v4, v5, v6, v7, v8, v9, v10, none] ∧ H l = none ∧ (l ≠ d ∧ l ≠ c) ∧ Gens H' l n bs cs ∧ n ≤ 18 ∧ cs.length ≤ 4 ∧ Dl H' d c ∧ Kp d c H H') (fun Z hZ => ?_) ?_
    · refine ⟨_, rfl, d, c, 3, rfl, D2, by decide, by decide, fun r H3 r0 r1 D3 k3 => ⟨rfl, _, rfl, ?_⟩⟩
      have G3 := G2.kp D2 k3 ld
      by_cases z : r = 0
      · refine iteP (by simp [z]) ⟨_, rfl, _, rfl, d, c, 12, rfl, D3, by decide, by decide, fun r4 H4 a0 a1 D4 k4 => ⟨r4, rfl, a0, a1, fun m n2 bs2 cs2 H5 s5 m00 G5 n29 c22 _ => ?_⟩⟩
        have G4 := (G3.kp D3 k4 ld).same s5
        refine ⟨l, m, n, n2, bs, bs2, cs, cs2, rfl, G4, G5, n9, n29, c2, c22, fun r' n' bs' cs' H6 s6 r0' G6 n18 c4 _ _ => ?_⟩
        have s56 := s5.trans s6
        have rl := (D4.same s5).ne r0'
        exact hZ _ _ ⟨r', n', bs', cs', _, rfl, (((kk.trans k3).trans k4).trans (Kp.of s5)).free rl.1 rl.2 r0', rl, G6, n18, c4, (D4.same s56), ((kk.trans k3).trans k4).trans (Kp.of s56)⟩
      · exact iteN (by simp [z]) (hZ _ _ ⟨l, n, bs, cs, _, rfl, l00, ld, G3, by omega, by omega, D3, kk.trans k3⟩)
    clear G2 D2 kk l00 ld n9 c2
    rintro σ H3 ⟨l, n, bs, cs, v4, rfl, l00, ld, G3, n18, c4, D3, k3⟩
    refine sq_cut (fun σ H' => ∃ (l : Addr) (n : Nat) (bs : List Addr) (cs : List (List Nat)) (v4 : Option V), σ = [some (.ref d), some (.int (most : Int)), some (.int (0 + (i : Int))), some (.ref l), v4, v5, v6, v7, v8, v9, v10, none] ∧ H l = none ∧ (l ≠ d ∧ l ≠ c) ∧ Gens H' l n bs cs ∧ n ≤ 18 ∧ cs.length ≤ 4 ∧ Dl H' d c ∧ Kp d c H H') (fun Z hZ => ?_) ?_
    · refine ⟨_, rfl, d, c, 5, rfl, D3, by decide, by decide, fun r H4 r0 r1 D4 k4 => ⟨rfl, _, rfl, ?_⟩⟩
      have G4 := G3.kp D3 k4 ld
      by_cases z : r = 0
      · refine iteP (by simp [z]) ?_
        refine ⟨_, rfl, d, c, 3, rfl, D4, by decide, by decide, fun r2 H5 a0 a1 D5 k5 => ⟨_, _, rfl, rfl, ?_⟩⟩
        obtain ⟨mN, em⟩ : ∃ mN : Nat, (2 : Int) + r2 = (mN : Int) := ⟨(2 + r2).toNat, by omega⟩
        dsimp only [gName]
        rw [em]
        have mb : 2 ≤ mN ∧ mN ≤ 4 := by omega
        refine ⟨_, rfl, d, c, 2, rfl, D5, by decide, by decide, fun r3 H6 b0 b1 D6 k6 => ⟨_, _, rfl, rfl, 1 + r3, rfl, by omega, by omega, fun D hD => ?_⟩⟩
        have Dd := D6.ne hD
        have kk := ((k3.trans k4).trans k5).trans k6
        have hD0 : H D = none := kk.free Dd.1 Dd.2 hD
        refine lc_range (n := (1 + r3).toNat) (fun j G => ∃ (ds : List Addr) (es : List (List Nat)), G D = some (.lst (ds.map V.ref)) ∧ Paired (fun b e => G b = some (.tup (vi e))) ds es ∧ es.length = j ∧ (∀ e ∈ es, Chg mN e) ∧ Dl G d c ∧ Kp d c H G) ⟨[], [], upd_same, .nil, rfl, fun _ h => by simp at h, D6.same (Same.new hD), kk.trans (Kp.of (Same.new hD))⟩ ?_ ?_
        · rintro j G hj ⟨ds, es, p1, p2, p3, p4, p5, p6⟩
          refine ⟨rfl, _, rfl, _, rfl, _, rfl, RgOk.of_le (by decide) (by omega) (by decide) (by omega), fun q1 hq1 => ?_⟩
          rw [rgV_vi]
          have qd := p5.ne hq1
          have sq := Same.new (o := .lst (vi (List.range mN))) hq1
          refine ⟨d, c, q1, List.range mN, rfl, p5.same sq, upd_same, qd.1, qd.2, by rw [List.length_range]; omega, fun ml ms H' pe ml0 hml D' k' => ⟨ml, _, rfl, .inl ⟨SqL.of hml, fun t ht => ?_⟩⟩⟩
          have kG := (Kp.of (d := d) (c := c) sq).trans (k'.trans (Kp.of (Same.new (o := .tup (vi ms)) ht)))
          have D7 := D'.same (Same.new (o := .tup (vi ms)) ht)
          have et : upd H' t (.tup (vi ms)) t = some (.tup (vi ms)) := upd_same
          generalize upd H' t (.tup (vi ms)) = G2 at kG D7 et
          have pD := kG _ _ Dd.1 Dd.2 p1
          have nD : ∀ xs, G2 D ≠ some (.tup xs) := fun xs z => by rw [pD] at z; cases z
          have dl := paired_len p2
          refine ⟨_, pD, len_lt (by rw [List.length_map]; omega), ds ++ [t], es ++ [ms], ?_, paired_snoc (tups_keep (fun b xs e => by rw [upd_ne (fun y => nD _ (by rw [← y]; exact p5.kT kG e))]; exact p5.kT kG e) p2) (by rw [upd_ne (fun y => nD _ (by rw [← y]; exact et))]; exact et), by rw [List.length_append, p3]; rfl, fun e he => ?_, D7.upd Dd.1 Dd.2, (p6.trans kG).updn hD0⟩
          · rw [upd_same, List.map_append]
            rfl
          · rcases List.mem_append.mp he with z | z
            · exact p4 e z
            · rw [show e = ms from by simpa using z]
              exact chg_perm pe
        · rintro G ⟨ds, es, p1, p2, p3, p4, p5, p6⟩
          exact hZ _ _ ⟨D, mN, ds, es, _, rfl, hD0, Dd, ⟨p1, p2, p4, by omega, by omega⟩, by omega, by omega, p5, p6⟩
      · exact iteN (by simp [z]) (hZ _ _ ⟨l, n, bs, cs, _, rfl, l00, ld, G4, n18, c4, D4, k3.trans k4⟩)
    clear G3 D3 k3 l00 ld n18 c4
    rintro σ H3 ⟨l, n, bs, cs, v4, rfl, l00, ld, G3, n18, c4, D3, k3⟩
    have nx : ∀ H', Dl H' d c → Kp d c H H' → ∃ w2 w3 w4 w5 w6 w7 w8 w9 w10 : Option V, [some (.ref d), some (.int (most : Int)), some (.int (0 + (i : Int))), some (.ref l), v4, v5, v6, v7, v8, v9, v10, none] = [some (.ref d), some (.int (most : Int)), w2, w3, w4, w5, w6, w7, w8, w9, w10, none] ∧ Dl H' d c ∧ Kp d c H H' := fun H' a b => ⟨_, _, _, _, _, _, _, _, _, rfl, a, b⟩
    obtain ⟨b0, br, e0, eb0, f0, g0⟩ := G3.head
    have n0 := G3.n0
    have z0 : (vi e0).length = n := by rw [show (vi e0).length = e0.length from List.length_map ..]; exact g0.len
    have hl3 : SqL K H3 l ((b0 :: br).map V.ref) := by rw [← eb0]; exact SqL.of G3.lst
    have lb := paired_len G3.tups
    refine ⟨_, rfl, l, _, _, _, rfl, rfl, hl3, atI_zero, b0, _, rfl, .inr (SqT.of f0), _, _, rfl, rfl, _, rfl, ?_⟩
    by_cases z13 : n < 13
    case neg => exact iteN (by rw [z0]; simp; omega) (iteF (nx _ D3 k3))
    refine iteP (by rw [z0]; simp; omega) ⟨_, rfl, l, _, rfl, .inl (SqL.of G3.lst), _, _, rfl, rfl, _, rfl, iteP (by rw [List.length_map]; simp; omega) ⟨_, rfl, _, rfl, l, n, bs, cs, most, rfl, G3, by omega, by omega, by omega, m1, fun H' s _ => ⟨rfl, _, rfl, iteN (by simp) (nx _ (D3.same s) (k3.trans (Kp.of s)))⟩, fun p ds L0 H4 s _ _ _ _ sz0 => ⟨rfl, _, rfl, iteP (by simp) ?_⟩⟩⟩
    have G4 := G3.same s
    have D4 := D3.same s
    have k4 := k3.trans (Kp.of s)
    have f4 := s _ _ f0
    clear G3 D3 k3 s f0 hl3 nx
    have kl : Kp d c H H4 := k4
    -- names
    refine ⟨_, rfl, _, rfl, l, _, _, _, rfl, rfl, by rw [eb0] at G4; exact SqL.of G4.lst, atI_zero, b0, _, rfl, .inr (SqT.of f4), _, rfl, RgOk.of_le (by decide) (by omega) (by decide) (by omega), fun q1 hq1 => ?_⟩
    rw [z0, rgV_vi] at *
    have qd := D4.ne hq1
    have sq := Same.new (o := .lst (vi (List.range n))) hq1
    refine ⟨d, c, q1, List.range n, rfl, D4.same sq, upd_same, qd.1, qd.2, by rw [List.length_range]; omega, fun nl names H5 pe nl0 hnl D5 k5 => ?_⟩
    have hp := chg_perm pe
    have kk5 := (Kp.of (d := d) (c := c) sq).trans k5
    have nd := (D4.same sq).ne nl0
    have G5 := G4.kp D4 kk5 ld
    have K5 := kl.trans kk5
    clear G4 sq kk5 k5 hq1 nl0 f4 k4
    dsimp only [gName]
    refine ⟨(by show 0 ≤ sizeLine; decide), fun fl hfl => ?_⟩
    have fd := D5.ne hfl
    have f0 : H fl = none := K5.free fd.1 fd.2 hfl
    have sf := Same.new (o := .lst []) hfl
    have e6 : upd H5 fl (.lst []) fl = some (.lst []) := upd_same
    have D6 := D5.same sf
    have G6 := G5.same sf
    have kf : Kp d c H5 (upd H5 fl (.lst [])) := Kp.of sf
    generalize upd H5 fl (.lst []) = H6 at e6 D6 G6 kf
    dsimp only [gName]
    refine sq_cut (fun σ H' => ∃ (v7 v8 v9 v10 : Option V) (fs ds : List Addr) (es : List (List Nat)) (ml : Addr), σ = [some (.ref d), some (.int (most : Int)), some (.int (0 + (i : Int))), some (.ref l), v4, some (.ref nl), some (.ref fl), v7, v8, v9, v10, none] ∧ MS d c fl ml n names cs H5 ds fs es H' ∧ es.length = ds.length ∧ ds.length = bs.length) (fun Z hZ => ?_) ?_
    · refine ⟨_, rfl, _, rfl, d, c, l, bs.map V.ref, rfl, D6, G6.lst, ld.1, ld.2, by rw [List.length_map]; omega, G6.frs.ent, fun ml ys H7 pe2 ml0 hml D7 k7 => ?_⟩
      obtain ⟨ds, rfl, pds⟩ := perm_refs pe2
      have md := D6.ne ml0
      have fm : fl ≠ ml := ne_of_none e6 ml0
      have M0 : MS d c fl ml n names cs H5 ds [] [] H7 := ⟨k7 _ _ fd.1 fd.2 e6, hml, .nil, fun _ h => by simp at h, D7, kf.trans k7⟩
      clear e6 D6 G6 kf k7 D7 hml pe2 sf
      refine ⟨ml, rfl, ⟨_, SqL.of M0.mm⟩, for_list (xs := ds.map V.ref) (fun j σ H' => ∃ (v7 v8 v9 v10 : Option V) (fs : List Addr) (es : List (List Nat)), σ = [some (.ref d), some (.int (most : Int)), some (.int (0 + (i : Int))), some (.ref l), v4, some (.ref nl), some (.ref fl), v7, v8, v9, v10, none] ∧ MS d c fl ml n names cs H5 ds fs es H' ∧ es.length = j) ⟨v7, v8, v9, v10, [], [], rfl, M0, rfl⟩ (fun j σ H' _ p => by obtain ⟨_, _, _, _, _, _, _, g, _⟩ := p; exact SqL.of g.mm) ?_ ?_⟩
      · rintro j x σ H8 hx ⟨v7, v8, v9, v10, fs, es, rfl, M, ej⟩
        obtain ⟨b, hb, rfl⟩ := ref_at hx
        have jl : j < ds.length := (List.getElem?_eq_some_iff.mp hb).1
        obtain ⟨ib, hib⟩ := List.mem_iff_getElem?.mp (pds.mem_iff.mp (List.mem_of_getElem? hb))
        obtain ⟨e, hei, hbe0⟩ := paired_at G5.tups hib
        have he := G5.chg e (List.mem_of_getElem? hei)
        have hbe := D5.kT M.kp hbe0
        have ecs : cs.getD ib [] = e := by rw [List.getD_eq_getElem?_getD, hei]; rfl
        have ibl : ib < cs.length := (List.getElem?_eq_some_iff.mp hei).1
        have hn8 := M.kp _ _ nd.1 nd.2 hnl
        have nl_len : (vi names).length = n := by rw [show (vi names).length = names.length from List.length_map ..]; exact hp.len
        dsimp only [gName]
        refine ⟨(by show 1 ≤ sizeLine; decide), fun z hz => ⟨_, rfl, nl, _, rfl, .inl (SqL.of (Same.new hz _ _ hn8)), z, _, _, rfl, rfl, upd_same, by rw [nl_len]; omega, by rw [nl_len]; omega, ?_, fun tl htl => ?_⟩⟩
        · rw [nl_len]
          exact Nat.le_of_lt (len_lt (by show 1 * (n : Int).toNat ≤ 1000; omega))
        have sz := (Same.new (o := .lst [V.int 0]) hz)
        have td := (M.dl.same sz).ne htl
        have t5 : H5 tl = none := ((M.kp.trans (Kp.of sz))).free td.1 td.2 htl
        have M1 := (M.same sz).same (Same.new (o := .lst ((List.replicate ((((vi names).length : Nat) : Int).toNat) [V.int 0]).flatten)) htl)
        have tf : tl ≠ fl ∧ tl ≠ ml := ⟨(ne_of_none (sz _ _ M.ff) htl).symm, (ne_of_none (sz _ _ M.mm) htl).symm⟩
        have hb9 := ((sz.trans (Same.new (o := .lst ((List.replicate ((((vi names).length : Nat) : Int).toNat) [V.int 0]).flatten)) htl)) _ _ hbe)
        have tl9 : upd (upd H8 z (.lst [V.int 0])) tl (.lst ((List.replicate ((((vi names).length : Nat) : Int).toNat) [V.int 0]).flatten)) tl = some (.lst (vi (List.replicate n 0))) := by rw [upd_same, nl_len, show ((n : Nat) : Int).toNat = n by omega, rep_vi]
        generalize upd (upd H8 z (.lst [V.int 0])) tl (.lst ((List.replicate ((((vi names).length : Nat) : Int).toNat) [V.int 0]).flatten)) = H9 at M1 hb9 tl9
        clear M hbe sz htl hz hn8
        dsimp only [gName]
        refine sq_cut (fun σ H' => ∃ (v9 v10 : Option V) (T : List Nat), σ = [some (.ref d), some (.int (most : Int)), some (.int (0 + (i : Int))), some (.ref l), v4, some (.ref nl), some (.ref fl), some (.ref b), some (.ref tl), v9, v10, none] ∧ MS d c fl ml n names cs H5 ds fs es H' ∧ H' tl = some (.lst (vi T)) ∧ Trn n names e T n) (fun Z2 hZ2 => ?_) ?_
        · refine ⟨_, rfl, b, _, rfl, SqT.of hb9, for_enumT (xs := vi e) (fun k σ H' => ∃ (v9 v10 : Option V) (T : List Nat), σ = [some (.ref d), some (.int (most : Int)), some (.int (0 + (i : Int))), some (.ref l), v4, some (.ref nl), some (.ref fl), some (.ref b), some (.ref tl), v9, v10, none] ∧ MS d c fl ml n names cs H5 ds fs es H' ∧ H' b = some (.tup (vi e)) ∧ H' tl = some (.lst (vi T)) ∧ Trn n names e T k) ⟨v9, v10, _, rfl, M1, hb9, tl9, List.length_replicate, fun j hj => absurd hj (Nat.not_lt_zero j)⟩ (fun k σ H' _ p => by obtain ⟨_, _, _, _, _, g, _⟩ := p; exact SqT.of g) ?_ ?_⟩
          · rintro k y σ G Tt hy ⟨w9, w10, T, rfl, M2, hb2, t2, tr⟩ hT
            obtain ⟨x, hx, rfl⟩ := vi_at hy
            have kl : k < n := by have := (List.getElem?_eq_some_iff.mp hx).1; rw [he.len] at this; exact this
            have ex : e.getD k 0 = x := getD_at hx
            have xl : x < n := he.lt x (List.mem_of_getElem? hx)
            have sT := Same.new (o := .tup [V.int (k : Int), V.int (x : Int)]) hT
            refine ⟨Tt, _, rfl, SqT.of upd_same, rfl, _, _, rfl, _, _, rfl, rfl, ?_⟩
            have M3 := M2.same sT
            have hb3 := sT _ _ hb2
            have t3 := sT _ _ t2
            generalize upd G Tt (.tup [V.int (k : Int), V.int (x : Int)]) = G3 at M3 hb3 t3
            have hn3 := M3.kp _ _ nd.1 nd.2 hnl
            have pl := hp.at_lt kl
            dsimp only [gName, gNil]
            refine ⟨_, rfl, _, rfl, nl, _, _, _, rfl, rfl, SqL.of hn3, atI_nat (vi_get (at_getD (by rw [hp.len]; exact xl))), _, rfl, _, rfl, _, rfl, nl, _, _, _, rfl, rfl, SqL.of hn3, atI_nat (vi_get (at_getD (by rw [hp.len]; exact kl))), tl, _, _, _, rfl, rfl, t3, ixN_ok (by omega) (by rw [show (vi T).length = T.length from List.length_map .., tr.1]; omega), ?_⟩
            rw [Int.toNat_natCast, vi_set]
            have nt : ∀ xs, G3 tl ≠ some (.tup xs) := fun xs z => by rw [t3] at z; cases z
            have TS := trn_step hp kl tr
            rw [ex] at TS
            exact ⟨_, _, _, rfl, M3.upd t5 tf td nt, by rw [upd_ne (fun y => nt _ (by rw [← y]; exact hb3))]; exact hb3, upd_same, TS⟩
          · rintro σ G ⟨w9, w10, T, rfl, M2, hb2, t2, tr⟩
            rw [show (vi e).length = e.length from List.length_map .., he.len] at tr
            exact hZ2 _ _ ⟨w9, w10, T, rfl, M2, t2, tr⟩
        rintro σ G ⟨w9, w10, T, rfl, M2, t2, tr⟩
        have lf := paired_len M2.pp
        have dl := pds.length_eq
        refine ⟨_, rfl, .inl ⟨rfl, _, SqL.of M2.ff⟩, _, rfl, tl, _, rfl, .inl ⟨SqL.of t2, fun t ht => ?_⟩⟩
        have st := Same.new (o := .tup (vi T)) ht
        have MA := (M2.same st).add hfl fd fm (t := t) upd_same ⟨trn_chg hp he tr, ib, ibl, by rw [ecs]; exact trn_comp hp he tr⟩
        refine ⟨fl, _, _, rfl, rfl, st _ _ M2.ff, len_lt (by rw [List.length_map]; omega), _, _, _, _, fs ++ [t], es ++ [T], rfl, ?_, by rw [List.length_append, ej]; rfl⟩
        rw [List.map_append] at MA
        exact MA
      · rintro σ H8 ⟨v7, v8, v9, v10, fs, es, rfl, M, ej⟩
        rw [List.length_map] at ej
        exact hZ _ _ ⟨v7, v8, v9, v10, fs, ds, es, ml, rfl, M, ej, pds.length_eq⟩
    rintro σ H8 ⟨v7, v8, v9, v10, fs, ds, es, ml, rfl, M, ej, dn⟩
    have c0 := G5.c0
    exact ⟨_, rfl, q fl n fs es _ f0 ⟨M.ff, M.pp, fun e he => (M.ee e he).1, n0, by omega⟩ (by omega) (by omega) (sz0.cj hp G5.chg M.ee) M.dl (K5.trans M.kp)⟩
  · rintro σ G ⟨v2, v3, v4, v5, v6, v7, v8, v9, v10, rfl, hD0, k0⟩
    refine ⟨3, rfl, by decide, by decide, fun l n bs cs H2 s2 l0 G2 n9 c2 h3 => ?_⟩
    have ld := hD0.ne l0
    obtain ⟨rfl, rfl⟩ := h3 rfl
    exact q l 3 bs _ H2 (k0.free ld.1 ld.2 l0) G2 (by omega) (by omega) (s3_sz.mono m0) (hD0.same s2) (k0.trans (Kp.of s2))

end
end KV

/-! the law's machines: the steps -/
namespace KV
open PySem PySem.Spec PyProof.Rows L2 KC
theorem atI_eq {xs : List V} {i : Nat} {v : V} {z : Int} (e : z = (i : Int)) (h : xs[i]? = some v) : atI xs z = some v := by
  rw [e]
  exact atI_nat h
/-- the line of a state -/
def row (cs : List (List Nat)) (s : Nat) : List Nat := cs.map fun c => c.getD s 0
/-- a list of lists of states -/
structure Stp (H : Hp) (r : Addr) (n : Nat) (rs : List Addr) (cs : List (List Nat)) : Prop where
  lst : H r = some (.lst (rs.map V.ref))
  len : rs.length = n
  row : ∀ s b, rs[s]? = some b → H b = some (.lst (vi (row cs s)))
  nd : (r :: rs).Nodup
section
variable {P : Program} {w : World} {K : PySem.W.Frag} {mg : Str → Option Value} {base : Heap}
def spStp : Sp := fun vs H Q _ => ∃ (l : Addr) (n : Nat) (bs : List Addr) (cs : List (List Nat)), vs = [.ref l] ∧ Gens H l n bs cs ∧ n ≤ 16 ∧ cs.length ≤ 5 ∧
  ∀ r rs H', Same H H' → H r = none → (∀ b ∈ rs, H b = none) → Stp H' r n rs cs → Q (.ref r) H'
theorem sk26 : FnScope ["_law_some", "_law_state", "_law_change"] ["_law_some"] (defScope (top 56)) := ⟨rfl, rfl, rfl, by decide +kernel, rfl, by decide +kernel, by decide +kernel⟩
theorem ok_steps {f : Addr} {fd : FuncData} (B : Bl mg) (F : Fun K "_law_steps" "_law_steps" (top 56) f fd) : FnOk P w K mg base CX0 1 f fd ["_law_some"] spStp := by
  refine F.ok sk26 (fun vs H Q E h => ?_) (fun cdv A outer s H vs Q E hr h => ⟨_,
    (pss_one (ps_ret (pe_lc (own := [("_law_state", 1)]) (g := gName 1) (tt := tYes) rfl sk26.nd (pi_range1 (by rfl) B.range (pa_cons (pe_callB call_len_seq (by rfl) B.len PySem.boot_len (pa_cons (pe_ix ix_list (pv 0) pe_int (fun _ _ => rfl)) pa_nil)) pa_nil)) (blkOk_by (N := ["_law_some", "_law_state", "_law_change"]) (sc := defScope (top 56)) (by decide +kernel))
        (fun _ _ _ _ _ => (pg_name (i := 1) sk26.nd rfl (Or.inr rfl))) (fun _ _ _ _ _ => pts_nil) (fun _ _ _ _ _ => (pe_lcN ["_law_some", "_law_state", "_law_change"] (wi := iList K (tVar 0)) (own := [("_law_change", 2)]) (g := gName 2) (tt := tYes) rfl sk26.nd (by exact (pi_list (pv 0))) rfl (by decide +kernel)
        (fun _ _ _ _ _ => (pg_name (i := 2) sk26.nd rfl (Or.inl rfl))) (fun _ _ _ _ _ => pts_nil) (fun _ _ _ _ _ => (pe_ix (r := rIxT K) ix_tup (pv 2) (pv 1) (fun _ _ => rfl)))))))), ?_⟩)
  · obtain ⟨l, n, bs, cs, rfl, _⟩ := h
    rfl
  obtain ⟨l, n, bs, cs, rfl, hG, n16, c5, q⟩ := h
  obtain ⟨b0, br, e0, eb0, f0, g0⟩ := hG.head
  have n0 := hG.n0
  have z0 : (vi e0).length = n := by rw [show (vi e0).length = e0.length from List.length_map ..]; exact g0.len
  have hl0 : SqL K H l ((b0 :: br).map V.ref) := by rw [← eb0]; exact SqL.of hG.lst
  have lb := paired_len hG.tups
  refine ⟨_, rfl, l, _, _, _, rfl, rfl, hl0, atI_zero, b0, _, rfl, .inr (SqT.of f0), (n : Int), by rw [z0], by omega, by omega, fun D hD => ?_⟩
  refine lc_range (n := (n : Int).toNat) (fun j G => Same H G ∧ ∃ rs : List Addr, G D = some (.lst (rs.map V.ref)) ∧ rs.length = j ∧ (∀ s b, rs[s]? = some b → G b = some (.lst (vi (row cs s)))) ∧ (∀ b ∈ rs, H b = none) ∧ (D :: rs).Nodup) ⟨Same.new hD, [], upd_same, rfl, fun s b h => by simp at h, fun _ h => by simp at h, by simp⟩ ?_ ?_
  · rintro j G hj ⟨p1, rs, p2, p3, p4, p5, p6⟩
    have jn : j < n := by omega
    refine ⟨rfl, _, rfl, l, rfl, ⟨_, SqL.of (p1 _ _ hG.lst)⟩, fun D2 hD2 => lc_list (xs := bs.map V.ref) (fun i G2 => Same G G2 ∧ G2 D2 = some (.lst (vi ((cs.take i).map fun c => c.getD j 0)))) ⟨Same.new hD2, upd_same⟩ (fun i G2 _ z => SqL.of ((p1.trans z.1) _ _ hG.lst)) ?_ ?_⟩
    · rintro i x G2 hx ⟨u1, u2⟩
      obtain ⟨b, hb, rfl⟩ := ref_at hx
      obtain ⟨c, hc, hbc⟩ := paired_at hG.tups hb
      have hg := hG.chg c (List.mem_of_getElem? hc)
      have ll := List.length_take_le' i cs
      refine ⟨rfl, _, rfl, _, rfl, b, _, _, _, rfl, rfl, SqT.of ((p1.trans u1) _ _ hbc), atI_eq (show (0 : Int) + (j : Int) = (j : Int) by omega) (vi_get (at_getD (by rw [hg.len]; exact jn))), _, u2, len_lt (by simp only [vi, List.length_map]; omega), Same.upd u1 hD2, ?_⟩
      rw [upd_same, take_at hc, List.map_append, vi_app]
      rfl
    · rintro G2 ⟨u1, u2⟩
      rw [List.length_map, lb, List.take_length] at u2
      have d2 := u1 _ _ p2
      have DD : D ≠ D2 := ne_of_none p2 hD2
      have hD2n := p1.free hD2
      refine ⟨_, d2, len_lt (by rw [List.length_map]; omega), Same.upd (p1.trans u1) hD, rs ++ [D2], ?_, ?_, fun s b hs => ?_, fun b hb => ?_, ?_⟩
      · rw [upd_same, List.map_append]
        rfl
      · rw [List.length_append, p3]
        rfl
      · have nD : b ≠ D := fun z => by
          subst z
          have : b ∈ rs ++ [D2] := List.mem_of_getElem? hs
          rcases List.mem_append.mp this with y | y
          · exact (List.nodup_cons.mp p6).1 y
          · exact DD (by simpa using y)
        rw [upd_ne nD]
        rw [List.getElem?_append] at hs
        split at hs
        · exact u1 _ _ (p4 s b hs)
        · next z =>
          have : s = j := by
            have := (List.getElem?_eq_some_iff.mp hs).1
            simp at this
            omega
          subst this
          rw [p3, Nat.sub_self] at hs
          have : b = D2 := (Option.some.inj hs).symm
          rw [this]
          exact u2
      · rcases List.mem_append.mp hb with y | y
        · exact p5 b y
        · rw [show b = D2 from by simpa using y]
          exact hD2n
      · have h1 := List.nodup_cons.mp p6
        rw [List.nodup_cons]
        refine ⟨fun y => ?_, ?_⟩
        · rcases List.mem_append.mp y with y | y
          · exact h1.1 y
          · exact DD (by simpa using y)
        · rw [List.nodup_append]
          refine ⟨h1.2, by simp, fun a ha b hb => ?_⟩
          rw [show b = D2 from by simpa using hb]
          obtain ⟨s, hs⟩ := List.mem_iff_getElem?.mp ha
          exact ne_of_none (p4 s a hs) hD2
  · rintro G ⟨p1, rs, p2, p3, p4, p5, p6⟩
    exact q D rs G p1 hD p5 ⟨p2, by omega, p4, p6⟩

end
end KV

/-! the program: no command leads two states to one, of a machine that is right -/
namespace KV
open PySem PySem.Spec PyProof.Rows L2 KC
theorem zi_nodup {c : List Nat} (h : c.Nodup) : (zi c).Nodup := by
  unfold zi List.Nodup
  rw [List.pairwise_map]
  exact h.imp fun ne e => ne (Int.ofNat.inj e)
theorem Stp.same {H H' : Hp} {r : Addr} {n : Nat} {rs : List Addr} {cs : List (List Nat)} (h : Stp H r n rs cs) (s : Same H H') : Stp H' r n rs cs := ⟨s _ _ h.lst, h.len, fun i b e => s _ _ (h.row i b e), h.nd⟩
section
variable {P : Program} {w : World} {K : PySem.W.Frag} {mg : Str → Option Value} {base : Heap}
def spLosG : Sp := fun vs H Q _ => ∃ (m : Int) (r : Addr) (n : Nat) (rs : List Addr) (cs : List (List Nat)), vs = [.int m, .ref r] ∧ Stp H r n rs cs ∧ m = (cs.length : Int) ∧ n ≤ 16 ∧ cs.length ≤ 5 ∧ (∀ c ∈ cs, Chg n c) ∧ ∀ H', Same H H' → Q .non H'
theorem sk11 : FnScope ["commands", "steps", "command", "entry"] ["commands", "steps"] (defScope (top 14)) := ⟨rfl, rfl, rfl, by decide +kernel, rfl, by decide +kernel, by decide +kernel⟩
theorem ok_losG {f : Addr} {fd : FuncData} (B : Bl mg) (F : Fun K "first_losing" "first_losing" (top 14) f fd) : FnOk P w K mg base CX0 1 f fd ["commands", "steps"] spLosG := by
  refine F.ok sk11 (fun vs H Q E h => ?_) (fun cdv A outer s H vs Q E hr h => ⟨_,
    (pss_cons (ps_for PassesOwn.never rfl (pi_range1 (by rfl) B.range (pa_cons (pv 0) pa_nil)) (pg_name (i := 2) sk11.nd rfl (.inr rfl)) (pss_one (ps_if (pt_cmpR op_lt (RZ.pe_lenSetI (by rfl) B.len (by rfl) B.set (pe_lc (own := [("entry", 3)]) (g := gName 3) (tt := tYes) rfl sk11.nd (pi_list (pv 1)) (blkOk_by (N := ["commands", "steps", "command", "entry"]) (sc := defScope (top 14)) (by decide +kernel))
        (fun _ _ _ _ _ => (pg_name (i := 3) sk11.nd rfl (Or.inl rfl))) (fun _ _ _ _ _ => pts_nil) (fun _ _ _ _ _ => (pe_ix (r := rIxL K) ix_list (pv 3) (pv 2) (fun _ _ => rfl))))) (pe_callB call_len_seq (by rfl) B.len PySem.boot_len (pa_cons (pv 1) pa_nil)) (nomark _)) (pss_one (ps_ret (pv 2))) pss_nil)))
    (pss_one (ps_ret pe_non))), ?_⟩)
  · obtain ⟨m, r, n, rs, cs, rfl, _⟩ := h
    rfl
  obtain ⟨m, r, n, rs, cs, rfl, hS, rfl, n16, c5, hc, q⟩ := h
  refine ⟨_, rfl, (cs.length : Int), rfl, by omega, by omega, for_range (n := (cs.length : Int).toNat) (fun i σ H' => (∃ v2 : Option V, σ = [some (.int (cs.length : Int)), some (.ref r), v2, none]) ∧ Same H H') ⟨⟨none, rfl⟩, Same.refl H⟩ ?_ ?_⟩
  · rintro i σ G hi ⟨⟨v2, rfl⟩, s1⟩
    have il : i < cs.length := by omega
    have S1 := hS.same s1
    obtain ⟨c, ec⟩ : ∃ c, cs[i]? = some c := ⟨_, List.getElem?_eq_getElem il⟩
    have hg := hc c (List.mem_of_getElem? ec)
    dsimp only [gName]
    refine ⟨_, rfl, r, rfl, ⟨_, SqL.of S1.lst⟩, fun D hD => lc_list (xs := rs.map V.ref) (fun j G2 => Same G G2 ∧ G2 D = some (.lst (vi (c.take j)))) ⟨Same.new hD, upd_same⟩ (fun j G2 _ z => SqL.of (z.1 _ _ S1.lst)) ?_ ?_⟩
    · rintro j x G2 hx ⟨u1, u2⟩
      obtain ⟨b, hb, rfl⟩ := ref_at hx
      have jn : j < n := by have := (List.getElem?_eq_some_iff.mp hb).1; rw [S1.len] at this; exact this
      have hr := u1 _ _ (S1.row j b hb)
      have hj : c[j]? = some (c.getD j 0) := at_getD (by rw [hg.len]; exact jn)
      have hv : (vi (row cs j))[i]? = some (V.int (c.getD j 0 : Nat)) := vi_get (by unfold row; rw [List.getElem?_map, ec]; rfl)
      refine ⟨rfl, _, rfl, _, rfl, b, _, _, _, rfl, rfl, SqL.of hr, atI_eq (show (0 : Int) + (i : Int) = (i : Int) by omega) hv, _, u2, len_lt (by have := List.length_take_le' j c; have := hg.len; simp only [vi, List.length_map]; omega), Same.upd u1 hD, ?_⟩
      rw [upd_same, take_at hj, vi_app]
      rfl
    · rintro G2 ⟨u1, u2⟩
      have u2 : G2 D = some (.lst (vi c)) := by
        rw [List.length_map, S1.len, ← hg.len, List.take_length] at u2
        exact u2
      refine ⟨D, zi c, rfl, by rw [← vi_zi]; exact SqL.of u2, zi_nodup hg.nd, by unfold zi; rw [List.length_map, hg.len]; omega, _, rfl, r, _, rfl, .inl (SqL.of (u1 _ _ S1.lst)), _, _, rfl, rfl, _, rfl, iteN ?_ ⟨⟨_, rfl⟩, s1.trans u1⟩⟩
      have e1 : (zi c).length = n := by unfold zi; rw [List.length_map, hg.len]
      have e2 : (rs.map V.ref).length = n := by rw [List.length_map, S1.len]
      rw [e1, e2]
      simp
  · rintro σ G ⟨⟨v2, rfl⟩, s1⟩
    exact q G s1

end
end KV

/-! lists or tuples -/
namespace KV
open PySem PySem.Spec PyProof.Rows L2
/-- at a stands a list or a tuple of xs -/
def SqA (K : PySem.W.Frag) (H : Hp) (a : Addr) (xs : List V) : Prop := SqL K H a xs ∨ SqT K H a xs
theorem Same.sqA {K : PySem.W.Frag} {H H' : Hp} {a : Addr} {xs : List V} (e : Same H H') (h : SqA K H a xs) : SqA K H' a xs := by
  rcases h with h | h
  · exact .inl (e.seq h)
  · exact .inr (Same.seqT e h)
section
variable {X : Cx} {tg : Expr}
def iSq (K : PySem.W.Frag) (tl : TE) : TI := fun σ H R => tl σ H fun x H1 => ∃ a, x = .ref a ∧ (((∃ xs, SqL K H1 a xs) ∧ R (Itl K a) H1) ∨ ((∃ xs, SqT K H1 a xs) ∧ R (Itt K a) H1))
theorem pi_sq {l : Expr} {tl : TE} (hl : PE X l tl) : PI X tg l (iSq X.K tl) := by
  refine ⟨fun pins s σ H R I h => ?_⟩
  refine thn (hl.run pins s σ H _ I h) fun v s1 ⟨x, H1, I1, r1, q1⟩ => ?_
  obtain ⟨a, e, q⟩ := q1
  subst e
  cases r1
  rcases q with ⟨⟨xs, hq⟩, q⟩ | ⟨⟨xs, hq⟩, q⟩
  · obtain ⟨its, rv, p, hz⟩ := I1.list hq
    refine wpAny_pyIter_list p.isList ?_
    refine ⟨s1.heap.objs.size, [s1.heap.objs.size], _, _, H1, rfl, I1.kept (t' := s1.toks) fun b o e => Heap.get?_push_of_some _ e, turn_list a _, ⟨_, Heap.get?_push_size _ rfl, rfl, rfl⟩, fun b hb => ?_, q⟩
    have e : b = s1.heap.objs.size := by simpa using hb
    subst e
    exact I1.fpOk (Nat.le_refl _) (I1.hok.fresh (Nat.le_refl _))
  · obtain ⟨its, rv, p, hz⟩ := I1.tuple hq
    refine wpAny_pyIter_tuple (show s1.heap.IsTuple a its.toArray from p) ?_
    refine ⟨s1.heap.objs.size, [s1.heap.objs.size], _, _, H1, rfl, I1.kept (t' := s1.toks) fun b o e => Heap.get?_push_of_some _ e, turn_tuple a _, ⟨_, Heap.get?_push_size _ rfl, rfl, rfl⟩, fun b hb => ?_, q⟩
    have e : b = s1.heap.objs.size := by simpa using hb
    subst e
    exact I1.fpOk (Nat.le_refl _) (I1.hok.fresh (Nat.le_refl _))
end
/-- the heap keeps what stands at a -/
def Ke (K : PySem.W.Frag) (H H' : Hp) (a : Addr) : Prop := ∀ xs, (SqL K H a xs → SqL K H' a xs) ∧ (SqT K H a xs → SqT K H' a xs)
theorem Ke.of {K : PySem.W.Frag} {H H' : Hp} {a : Addr} (s : Same H H') : Ke K H H' a := fun _ => ⟨fun h => s.seq h, fun h => Same.seqT s h⟩
theorem for_sq {K : PySem.W.Frag} {a : Addr} {xs : List V} {g : TG} {tb : TS} {D : Ends} {σ : L2.St} {H : Hp} (hS : SqA K H a xs) (Pv : Nat → L2.St → Hp → Prop) (h0 : Pv 0 σ H) (hl : ∀ i σ H', i ≤ xs.length → Pv i σ H' → Ke K H H' a)
    (hs : ∀ i x σ H, xs[i]? = some x → Pv i σ H → g x σ H fun σ2 H2 => tb { D with nx := Pv (i + 1), ct := Pv (i + 1), bk := D.nx } σ2 H2) (hd : ∀ σ H, Pv xs.length σ H → D.nx σ H) :
    ((∃ xs, SqL K H a xs) ∧ ∃ W : Nat → Nat → L2.St → Hp → Prop, (∃ m, W 0 m σ H) ∧ ∀ i m σ H, W i m σ H →
      ((Itl K a).stop i H ∧ D.nx σ H) ∨ ((Itl K a).go i H ∧ ∃ N : L2.St → Hp → Prop, (∀ σ' H', N σ' H' → ∃ m', m' < m ∧ W (i + 1) m' σ' H') ∧ ∀ x H', (Itl K a).yld i H x H' → g x σ H' fun σ2 H2 => tb { D with nx := N, ct := N, bk := D.nx } σ2 H2)) ∨
    ((∃ xs, SqT K H a xs) ∧ ∃ W : Nat → Nat → L2.St → Hp → Prop, (∃ m, W 0 m σ H) ∧ ∀ i m σ H, W i m σ H →
      ((Itt K a).stop i H ∧ D.nx σ H) ∨ ((Itt K a).go i H ∧ ∃ N : L2.St → Hp → Prop, (∀ σ' H', N σ' H' → ∃ m', m' < m ∧ W (i + 1) m' σ' H') ∧ ∀ x H', (Itt K a).yld i H x H' → g x σ H' fun σ2 H2 => tb { D with nx := N, ct := N, bk := D.nx } σ2 H2)) := by
  rcases hS with hS | hS
  · exact .inl ⟨⟨_, hS⟩, for_list Pv h0 (fun i σ H' hi p => (hl i σ H' hi p _).1 hS) hs hd⟩
  · exact .inr ⟨⟨_, hS⟩, for_tup Pv h0 (fun i σ H' hi p => (hl i σ H' hi p _).2 hS) hs hd⟩
theorem lc_sq {K : PySem.W.Frag} {a : Addr} {xs : List V} {g : TG} {tt : TT} {te : TE} {vs : List Nat} {σ : L2.St} {H1 : Hp} {Qd : Addr → Hp → Prop} (hS : SqA K H1 a xs) (Pv : Addr → Nat → Hp → Prop) (h0 : ∀ D, H1 D = none → Pv D 0 (upd H1 D (.lst []))) (hl : ∀ D i H, Pv D i H → Ke K H1 H a)
    (hs : ∀ D i x H, H1 D = none → xs[i]? = some x → Pv D i H → g x (wipe σ vs) H fun σ2 H2 => wipe σ2 vs = wipe σ vs ∧ tt σ2 H2 fun b H3 =>
      if b = true then te σ2 H3 fun y H4 => ∃ acc, H4 D = some (.lst acc) ∧ acc.length < sizeLine ∧ Pv D (i + 1) (upd H4 D (.lst (acc ++ [y]))) else Pv D (i + 1) H3) (hd : ∀ D H, H1 D = none → Pv D xs.length H → Qd D H) :
    ((∃ xs, SqL K H1 a xs) ∧ ∀ D, H1 D = none → ∃ W : Nat → Nat → Hp → Prop, (∃ m, W 0 m (upd H1 D (.lst []))) ∧ ∀ i m H, W i m H →
      ((Itl K a).stop i H ∧ Qd D H) ∨ ((Itl K a).go i H ∧ ∃ Nx : Hp → Prop, (∀ H', Nx H' → ∃ m', m' < m ∧ W (i + 1) m' H') ∧ ∀ x H', (Itl K a).yld i H x H' → g x (wipe σ vs) H' fun σ2 H2 => wipe σ2 vs = wipe σ vs ∧ tt σ2 H2 fun b H3 =>
        if b = true then te σ2 H3 fun y H4 => ∃ acc, H4 D = some (.lst acc) ∧ acc.length < sizeLine ∧ Nx (upd H4 D (.lst (acc ++ [y]))) else Nx H3)) ∨
    ((∃ xs, SqT K H1 a xs) ∧ ∀ D, H1 D = none → ∃ W : Nat → Nat → Hp → Prop, (∃ m, W 0 m (upd H1 D (.lst []))) ∧ ∀ i m H, W i m H →
      ((Itt K a).stop i H ∧ Qd D H) ∨ ((Itt K a).go i H ∧ ∃ Nx : Hp → Prop, (∀ H', Nx H' → ∃ m', m' < m ∧ W (i + 1) m' H') ∧ ∀ x H', (Itt K a).yld i H x H' → g x (wipe σ vs) H' fun σ2 H2 => wipe σ2 vs = wipe σ vs ∧ tt σ2 H2 fun b H3 =>
        if b = true then te σ2 H3 fun y H4 => ∃ acc, H4 D = some (.lst acc) ∧ acc.length < sizeLine ∧ Nx (upd H4 D (.lst (acc ++ [y]))) else Nx H3)) := by
  rcases hS with hS | hS
  · exact .inl ⟨⟨_, hS⟩, fun D hD => lc_list (Qd := Qd D) (Pv D) (h0 D hD) (fun i H hi p => (hl D i H p _).1 hS) (fun i x H hx p => hs D i x H hD hx p) (fun H p => hd D H hD p)⟩
  · exact .inr ⟨⟨_, hS⟩, fun D hD => lc_tup (Qd := Qd D) (Pv D) (h0 D hD) (fun i H hi p => (hl D i H p _).2 hS) (fun i x H hx p => hs D i x H hD hx p) (fun H p => hd D H hD p)⟩
end KV

/-! the program: is_sequence of a list or a tuple; a line that is right -/
namespace KV
open PySem PySem.Spec PyProof.Rows L2 KC
theorem kit2 {K : PySem.W.Frag} {T : String} {b c : Bool} (h1 : PySem.W.kitOne K (.type T) (.type "list") = some b) (h2 : PySem.W.kitOne K (.type T) (.type "tuple") = some c) : PySem.W.kitAny K (.type T) [.type "list", .type "tuple"] = some (b || c) := by
  refine kitAny_cons h1 (fun e => ?_) (fun e => by rw [e]; rfl)
  subst e
  refine kitAny_cons h2 (fun e => ?_) (fun e => by rw [e]; rfl)
  subst e
  exact kitAny_nil
section
variable {P : Program} {w : World} {K : PySem.W.Frag} {mg : Str → Option Value} {base : Heap}
def spSeqG : Sp := fun vs H Q _ => ∃ (a : Addr) (xs : List V), vs = [.ref a] ∧ (H a = some (.lst xs) ∨ H a = some (.tup xs)) ∧ ∀ H', Same H H' → Q (.bl true) H'
theorem sk7 : FnScope ["value"] ["value"] (defScope (top 9)) := ⟨rfl, rfl, rfl, by decide +kernel, rfl, by decide +kernel, by decide +kernel⟩
theorem ok_seqG {f : Addr} {fd : FuncData} (B : Bl mg) (F : Fun K "is_sequence" "is_sequence" (top 9) f fd) : FnOk P w K mg base CX0 1 f fd ["value"] spSeqG := by
  refine F.ok sk7 (fun vs H Q E h => ?_) (fun cdv A outer s H vs Q E hr h => ⟨_,
    (pss_one (ps_ret (pe_callB call_isiT (by rfl) B.isi (by decide +kernel) (pa_cons (pv 0) (pa_cons (pe_tup (pa_cons (pe_bltn (v := .ty "list") (by rfl) B.list (by decide +kernel) rfl) (pa_cons (pe_bltn (v := .ty "tuple") (by rfl) B.tuple (by decide +kernel) rfl) pa_nil))) pa_nil))))), ?_⟩)
  · obtain ⟨a, xs, rfl, _⟩ := h
    rfl
  obtain ⟨a, xs, rfl, ha, q⟩ := h
  refine ⟨_, rfl, (by show 2 ≤ sizeLine; decide), fun t ht => ?_⟩
  have s1 : Same H (upd H t (.tup [V.ty "list", V.ty "tuple"])) := Same.new ht
  rcases ha with ha | ha
  · exact ⟨.ref a, t, _, .type "list", _, true, rfl, upd_same, .cons (.ty _) (.cons (.ty _) .nil), .base (.lst (s1 _ _ ha)), kit2 (b := true) (c := false) (kit_ty (by decide +kernel)) (kit_ty (by decide +kernel)), q _ s1⟩
  · exact ⟨.ref a, t, _, .type "tuple", _, true, rfl, upd_same, .cons (.ty _) (.cons (.ty _) .nil), .base (.tup (s1 _ _ ha)), kit2 (b := false) (c := true) (kit_ty (by decide +kernel)) (kit_ty (by decide +kernel)), q _ s1⟩

def spEntG : Sp := fun vs H Q _ => ∃ (a : Addr) (xs : List Nat) (m n : Int), vs = [.ref a, .int m, .int n] ∧ (H a = some (.lst (vi xs)) ∨ H a = some (.tup (vi xs))) ∧ (xs.length : Int) = m ∧ xs.length ≤ 1000 ∧ (∀ x ∈ xs, (x : Int) < n) ∧ ∀ H', Same H H' → Q (.bl true) H'
theorem sk10 : FnScope ["value", "commands", "states", "state"] ["value", "commands", "states"] (defScope (top 13)) := ⟨rfl, rfl, rfl, by decide +kernel, rfl, by decide +kernel, by decide +kernel⟩
theorem ok_entG {f : Addr} {fd : FuncData} (B : Bl mg) (CS : Cal P w K mg base CX0 1 "is_sequence" ["value"] spSeqG) (CB : Cal P w K mg base CX0 2 "is_below" ["value", "bound"] spBelow) (F : Fun K "_is_entry" "_is_entry" (top 13) f fd) : FnOk P w K mg base CX0 3 f fd ["value", "commands", "states"] spEntG := by
  refine F.ok sk10 (fun vs H Q E h => ?_) (fun cdv A outer s H vs Q E hr h => ⟨_,
    (pss_cons (ps_if (PW.pt (pw_or (pt_not (pt_val (by exact (pe_cal (X := L2.Cx.nox _) CS hr (by decide) (pa_cons (pv 0) pa_nil))))) (pw_or1 (pt_cmpR op_ne (pe_callB call_len_seq (by rfl) B.len PySem.boot_len (pa_cons (pv 0) pa_nil)) (pv 1) (nomark _))))) (pss_one (ps_ret pe_bl)) pss_nil)
    (pss_one (ps_ret (pe_callB (cr_all rfl) (by rfl) B.all (by decide +kernel) (pa_cons (pe_lc (own := [("state", 3)]) (g := gName 3) (tt := tYes) rfl sk10.nd (pi_sq (pv 0)) (blkOk_by (N := ["value", "commands", "states", "state"]) (sc := defScope (top 13)) (by decide +kernel))
        (fun _ _ _ _ _ => (pg_name (i := 3) sk10.nd rfl (Or.inl rfl))) (fun _ _ _ _ _ => pts_nil) (fun _ _ _ _ _ => (pe_cal CB hr (by decide) (pa_cons (pv 3) (pa_cons (pv 2) pa_nil))))) pa_nil))))), ?_⟩)
  · obtain ⟨a, xs, m, n, rfl, _⟩ := h
    rfl
  obtain ⟨a, xs, m, n, rfl, ha, hm, hl, hB, q⟩ := h
  have ex : (vi xs).length = xs.length := List.length_map ..
  have hq : ∀ H', Same H H' → SqA K H' a (vi xs) := fun H' s => by
    rcases ha with ha | ha
    · exact .inl (SqL.of (s _ _ ha))
    · exact .inr (SqT.of (s _ _ ha))
  refine ⟨_, rfl, a, _, rfl, ha, fun H1 s1 => ⟨_, rfl, iteF ⟨_, rfl, a, _, rfl, hq _ s1, _, rfl, rfl, _, rfl, iteN (by rw [ex, hm]; simp) ?_⟩⟩⟩
  refine ⟨_, rfl, a, rfl, lc_sq (hq _ s1) (fun D i H' => Same H1 H' ∧ H' D = some (.lst ((List.replicate i true).map V.bl))) (fun D hD => ⟨Same.new hD, upd_same⟩) (fun D i H' p => Ke.of p.1) ?_ ?_⟩
  · rintro D i x H2 hD hx ⟨p1, p2⟩
    obtain ⟨v, hv, rfl⟩ := vi_at hx
    have hv2 := hB v (List.mem_of_getElem? hv)
    have il := (List.getElem?_eq_some_iff.mp hv).1
    have eb : belB n (.int (v : Int)) = true := by
      show (decide ((0 : Int) ≤ (v : Int)) && decide ((v : Int) < n)) = true
      rw [decide_eq_true (Int.natCast_nonneg v), decide_eq_true hv2]
      rfl
    refine ⟨rfl, _, rfl, _, rfl, .int (v : Int), n, rfl, .inl ⟨_, rfl⟩, _, p2, len_lt (by rw [List.length_map, List.length_replicate]; omega), Same.upd p1 hD, ?_⟩
    rw [upd_same, eb, List.replicate_succ', List.map_append]
    rfl
  · rintro D H2 hD ⟨p1, p2⟩
    refine ⟨D, _, rfl, SqL.of p2, ?_⟩
    have e : ∀ k : Nat, (List.replicate k true).all id = true := fun k => by simp
    rw [e]
    exact q _ (s1.trans p1)

end
end KV

/-! values of any kind: what is asked of them -/
namespace KV
open PySem PySem.Spec PyProof.Rows L2 KC
/-- a value: a list or a tuple of items (some), or of another kind (none) -/
def SqV (K : PySem.W.Frag) (H : Hp) (v : V) : Option (List V) → Prop
  | some xs => ∃ a : Addr, v = .ref a ∧ (H a = some (.lst xs) ∨ H a = some (.tup xs))
  | none => ∃ T : String, TyX K H v (.type T) ∧ (T = "NoneType" ∨ T = "int" ∨ T = "str" ∨ T = "bool" ∨ T = "dict")
theorem SqV.same {K : PySem.W.Frag} {H H' : Hp} (s : Same H H') {v : V} {ms : Option (List V)} (h : SqV K H v ms) : SqV K H' v ms := by
  cases ms with
  | none =>
    obtain ⟨T, h1, h2⟩ := h
    exact ⟨T, tyx_same s h1, h2⟩
  | some xs =>
    obtain ⟨a, h1, h2⟩ := h
    exact ⟨a, h1, h2.elim (fun z => .inl (s _ _ z)) fun z => .inr (s _ _ z)⟩
theorem SqV.kit {K : PySem.W.Frag} {H : Hp} {v : V} {ms : Option (List V)} (h : SqV K H v ms) : ∃ t : Value, TyX K H v t ∧ PySem.W.kitAny K t [.type "list", .type "tuple"] = some ms.isSome := by
  cases ms with
  | some xs =>
    obtain ⟨a, rfl, ha | ha⟩ := h
    · exact ⟨.type "list", .base (.lst ha), kit2 (b := true) (c := false) (kit_ty (by decide +kernel)) (kit_ty (by decide +kernel))⟩
    · exact ⟨.type "tuple", .base (.tup ha), kit2 (b := false) (c := true) (kit_ty (by decide +kernel)) (kit_ty (by decide +kernel))⟩
  | none =>
    obtain ⟨T, ty, hT⟩ := h
    refine ⟨_, ty, ?_⟩
    rcases hT with rfl | rfl | rfl | rfl | rfl
    · exact kit2 (b := false) (c := false) (kit_ty (by decide +kernel)) (kit_ty (by decide +kernel))
    · exact kit2 (b := false) (c := false) (kit_ty (by decide +kernel)) (kit_ty (by decide +kernel))
    · exact kit2 (b := false) (c := false) (kit_ty (by decide +kernel)) (kit_ty (by decide +kernel))
    · exact kit2 (b := false) (c := false) (kit_ty (by decide +kernel)) (kit_ty (by decide +kernel))
    · exact kit2 (b := false) (c := false) (kit_ty (by decide +kernel)) (kit_ty (by decide +kernel))
/-- an item: an int, or of a kind that is none -/
def AnyV (K : PySem.W.Frag) (H : Hp) (v : V) : Prop := (∃ i : Int, v = .int i) ∨ (isI v = false ∧ (∀ b, belB b v = false) ∧ ∃ T : String, TyX K H v (.type T) ∧ (T = "NoneType" ∨ T = "str" ∨ T = "bool" ∨ T = "tuple" ∨ T = "list" ∨ T = "dict"))
theorem AnyV.same {K : PySem.W.Frag} {H H' : Hp} (s : Same H H') {v : V} (h : AnyV K H v) : AnyV K H' v := by
  rcases h with h | ⟨h1, h2, T, h3, h4⟩
  · exact .inl h
  · exact .inr ⟨h1, h2, T, tyx_same s h3, h4⟩
theorem AnyV.int {K : PySem.W.Frag} {H : Hp} (i : Int) : AnyV K H (.int i) := .inl ⟨i, rfl⟩
theorem AnyV.bl {K : PySem.W.Frag} {H : Hp} (b : Bool) : AnyV K H (.bl b) := .inr ⟨rfl, fun _ => rfl, "bool", .base (.bl b), by simp⟩
theorem AnyV.non {K : PySem.W.Frag} {H : Hp} : AnyV K H .non := .inr ⟨rfl, fun _ => rfl, "NoneType", .base .non, by simp⟩
theorem AnyV.str {K : PySem.W.Frag} {H : Hp} (z : Str) : AnyV K H (.str z) := .inr ⟨rfl, fun _ => rfl, "str", .base (.str z), by simp⟩
theorem AnyV.tup {K : PySem.W.Frag} {H : Hp} {a : Addr} {xs : List V} (h : H a = some (.tup xs)) : AnyV K H (.ref a) := .inr ⟨rfl, fun _ => rfl, "tuple", .base (.tup h), by simp⟩
theorem AnyV.lst {K : PySem.W.Frag} {H : Hp} {a : Addr} {xs : List V} (h : H a = some (.lst xs)) : AnyV K H (.ref a) := .inr ⟨rfl, fun _ => rfl, "list", .base (.lst h), by simp⟩
theorem AnyV.kit {K : PySem.W.Frag} {H : Hp} {x : V} (h : AnyV K H x) : ∃ (t : Value) (b c : Bool), TyX K H x t ∧ PySem.W.kitOne K t (.type "int") = some b ∧ PySem.W.kitOne K t (.type "bool") = some c ∧ (b && !c) = isI x := by
  rcases h with ⟨i, rfl⟩ | ⟨e, _, T, ty, hT⟩
  · exact ⟨.type "int", true, false, .base (.int i), kit_ty (by decide +kernel), kit_ty (by decide +kernel), rfl⟩
  · rw [e]
    rcases hT with rfl | rfl | rfl | rfl | rfl | rfl
    · exact ⟨_, false, false, ty, kit_ty (by decide +kernel), kit_ty (by decide +kernel), rfl⟩
    · exact ⟨_, false, false, ty, kit_ty (by decide +kernel), kit_ty (by decide +kernel), rfl⟩
    · exact ⟨_, true, true, ty, kit_ty (by decide +kernel), kit_ty (by decide +kernel), rfl⟩
    · exact ⟨_, false, false, ty, kit_ty (by decide +kernel), kit_ty (by decide +kernel), rfl⟩
    · exact ⟨_, false, false, ty, kit_ty (by decide +kernel), kit_ty (by decide +kernel), rfl⟩
    · exact ⟨_, false, false, ty, kit_ty (by decide +kernel), kit_ty (by decide +kernel), rfl⟩
/-- an item that is right or not, as a bound tells -/
theorem AnyV.int_of {K : PySem.W.Frag} {H : Hp} {x : V} (h : AnyV K H x) (e : isI x = true) : ∃ i : Int, x = .int i := by
  rcases h with h | ⟨z, _⟩
  · exact h
  · rw [z] at e
    cases e
section
variable {P : Program} {w : World} {K : PySem.W.Frag} {mg : Str → Option Value} {base : Heap}
def spIsI2 (K : PySem.W.Frag) : Sp := fun vs H Q _ => ∃ v : V, vs = [v] ∧ AnyV K H v ∧ Q (.bl (isI v)) H
theorem ok_isI2 {f : Addr} {fd : FuncData} (B : Bl mg) (F : Fun K "is_integer" "is_integer" (top 7) f fd) : FnOk P w K mg base CX0 1 f fd ["value"] (spIsI2 K) := by
  refine F.ok sk5 (fun vs H Q E h => ?_) (fun cdv A outer s H vs Q E hr h => ⟨_,
    pss_one (ps_ret (pe_and (pe_callB call_isi (by rfl) B.isi (by decide +kernel) (pa_cons (pv 0) (pa_cons (pe_bltn (v := .ty "int") (by rfl) B.int PyProof.Rows.boot_int rfl) pa_nil)))
      (pe_one (pe_not (pe_callB call_isi (by rfl) B.isi (by decide +kernel) (pa_cons (pv 0) (pa_cons (pe_bltn (v := .ty "bool") (by rfl) B.bool (by decide +kernel) rfl) pa_nil))))))), ?_⟩)
  · obtain ⟨v, rfl, _⟩ := h
    rfl
  obtain ⟨v, rfl, hv, q⟩ := h
  obtain ⟨t, b, c, ty, h1, h2, e⟩ := hv.kit
  rw [← e] at q
  refine ⟨_, rfl, v, _, t, _, b, rfl, .ty _, ty, h1, b, rfl, ?_⟩
  cases b with
  | false => exact q
  | true => exact ⟨_, rfl, v, _, t, _, c, rfl, .ty _, ty, h2, c, rfl, q⟩
def spBel2 (K : PySem.W.Frag) : Sp := fun vs H Q _ => ∃ (v : V) (b : Int), vs = [v, .int b] ∧ AnyV K H v ∧ Q (.bl (belB b v)) H
theorem ok_bel2 {f : Addr} {fd : FuncData} (C : Cal P w K mg base CX0 1 "is_integer" ["value"] (spIsI2 K)) (F : Fun K "is_below" "is_below" (top 8) f fd) : FnOk P w K mg base CX0 2 f fd ["value", "bound"] (spBel2 K) := by
  refine F.ok sk6 (fun vs H Q E h => ?_) (fun cdv A outer s H vs Q E hr h => ⟨_,
    pss_one (ps_ret (pe_and (pe_cal (X := L2.Cx.nox _) C hr (by decide) (pa_cons (pv 0) pa_nil)) (pe_one (pe_chain op_le op_lt pe_int (pv 0) (pv 1))))), ?_⟩)
  · obtain ⟨v, b, rfl, _⟩ := h
    rfl
  obtain ⟨v, b, rfl, hv, q⟩ := h
  refine ⟨_, rfl, v, rfl, hv, _, rfl, ?_⟩
  rcases hv with ⟨i, rfl⟩ | ⟨e1, e2, _⟩
  · refine iteT ⟨_, rfl, _, _, rfl, rfl, _, rfl, ?_⟩
    have e : belB b (.int i) = (decide (0 ≤ i) && decide (i < b)) := rfl
    rw [e] at q
    cases z : decide (0 ≤ i) with
    | true =>
      rw [z] at q
      exact iteT ⟨_, rfl, _, _, rfl, rfl, q⟩
    | false =>
      rw [z] at q
      exact iteF q
  · rw [e1]
    rw [e2] at q
    exact iteF q
def spSeq2 (K : PySem.W.Frag) : Sp := fun vs H Q _ => ∃ (v : V) (ms : Option (List V)), vs = [v] ∧ SqV K H v ms ∧ ∀ H', Same H H' → Q (.bl ms.isSome) H'
theorem ok_seq2 {f : Addr} {fd : FuncData} (B : Bl mg) (F : Fun K "is_sequence" "is_sequence" (top 9) f fd) : FnOk P w K mg base CX0 1 f fd ["value"] (spSeq2 K) := by
  refine F.ok sk7 (fun vs H Q E h => ?_) (fun cdv A outer s H vs Q E hr h => ⟨_,
    (pss_one (ps_ret (pe_callB call_isiT (by rfl) B.isi (by decide +kernel) (pa_cons (pv 0) (pa_cons (pe_tup (pa_cons (pe_bltn (v := .ty "list") (by rfl) B.list (by decide +kernel) rfl) (pa_cons (pe_bltn (v := .ty "tuple") (by rfl) B.tuple (by decide +kernel) rfl) pa_nil))) pa_nil))))), ?_⟩)
  · obtain ⟨v, ms, rfl, _⟩ := h
    rfl
  obtain ⟨v, ms, rfl, hv, q⟩ := h
  refine ⟨_, rfl, (by show 2 ≤ sizeLine; decide), fun t ht => ?_⟩
  have s1 : Same H (upd H t (.tup [V.ty "list", V.ty "tuple"])) := Same.new ht
  obtain ⟨ty, h1, h2⟩ := (hv.same s1).kit
  exact ⟨v, t, _, ty, _, _, rfl, upd_same, .cons (.ty _) (.cons (.ty _) .nil), h1, h2, q _ s1⟩
/-- is a line right? -/
def entB (m n : Int) : Option (List V) → Bool
  | none => false
  | some xs => decide ((xs.length : Int) = m) && xs.all (belB n)
def spEnt2 (K : PySem.W.Frag) : Sp := fun vs H Q _ => ∃ (v : V) (m n : Int) (ms : Option (List V)), vs = [v, .int m, .int n] ∧ SqV K H v ms ∧ (∀ xs, ms = some xs → (∀ x ∈ xs, AnyV K H x) ∧ xs.length ≤ 1000) ∧ ∀ H', Same H H' → Q (.bl (entB m n ms)) H'
theorem ok_ent2 {f : Addr} {fd : FuncData} (B : Bl mg) (CS : Cal P w K mg base CX0 1 "is_sequence" ["value"] (spSeq2 K)) (CB : Cal P w K mg base CX0 2 "is_below" ["value", "bound"] (spBel2 K)) (F : Fun K "_is_entry" "_is_entry" (top 13) f fd) : FnOk P w K mg base CX0 3 f fd ["value", "commands", "states"] (spEnt2 K) := by
  refine F.ok sk10 (fun vs H Q E h => ?_) (fun cdv A outer s H vs Q E hr h => ⟨_,
    (pss_cons (ps_if (PW.pt (pw_or (pt_not (pt_val (by exact (pe_cal (X := L2.Cx.nox _) CS hr (by decide) (pa_cons (pv 0) pa_nil))))) (pw_or1 (pt_cmpR op_ne (pe_callB call_len_seq (by rfl) B.len PySem.boot_len (pa_cons (pv 0) pa_nil)) (pv 1) (nomark _))))) (pss_one (ps_ret pe_bl)) pss_nil)
    (pss_one (ps_ret (pe_callB (cr_all rfl) (by rfl) B.all (by decide +kernel) (pa_cons (pe_lc (own := [("state", 3)]) (g := gName 3) (tt := tYes) rfl sk10.nd (pi_sq (pv 0)) (blkOk_by (N := ["value", "commands", "states", "state"]) (sc := defScope (top 13)) (by decide +kernel))
        (fun _ _ _ _ _ => (pg_name (i := 3) sk10.nd rfl (Or.inl rfl))) (fun _ _ _ _ _ => pts_nil) (fun _ _ _ _ _ => (pe_cal CB hr (by decide) (pa_cons (pv 3) (pa_cons (pv 2) pa_nil))))) pa_nil))))), ?_⟩)
  · obtain ⟨v, m, n, ms, rfl, _⟩ := h
    rfl
  obtain ⟨v, m, n, ms, rfl, hv, hI, q⟩ := h
  refine ⟨_, rfl, v, ms, rfl, hv, fun H1 s1 => ⟨_, rfl, ?_⟩⟩
  cases ms with
  | none => exact iteT (iteT (q _ s1))
  | some xs =>
    obtain ⟨hI, hl⟩ := hI xs rfl
    obtain ⟨a, rfl, ha⟩ := hv
    have hq : SqA K H1 a xs := by
      rcases ha with ha | ha
      · exact .inl (SqL.of (s1 _ _ ha))
      · exact .inr (SqT.of (s1 _ _ ha))
    refine iteF ⟨_, rfl, a, xs, rfl, hq, _, rfl, rfl, _, rfl, ?_⟩
    by_cases el : (xs.length : Int) = m
    · refine iteN (by rw [el]; simp) ⟨_, rfl, a, rfl, lc_sq hq (fun D i H' => Same H1 H' ∧ H' D = some (.lst (((xs.take i).map (belB n)).map V.bl))) (fun D hD => ⟨Same.new hD, upd_same⟩) (fun D i H' p => Ke.of p.1) ?_ ?_⟩
      · rintro D i x H2 hD hx ⟨p1, p2⟩
        have il := (List.getElem?_eq_some_iff.mp hx).1
        refine ⟨rfl, _, rfl, _, rfl, x, n, rfl, (hI x (List.mem_of_getElem? hx)).same (s1.trans p1), _, p2, len_lt (by rw [List.length_map, List.length_map, List.length_take]; omega), Same.upd p1 hD, ?_⟩
        rw [upd_same, List.take_add_one, hx, List.map_append, List.map_append]
        rfl
      · rintro D H2 hD ⟨p1, p2⟩
        rw [List.take_length] at p2
        refine ⟨D, _, rfl, SqL.of p2, ?_⟩
        have z := q _ (s1.trans p1)
        have e : entB m n (some xs) = (xs.map (belB n)).all id := by
          show (decide ((xs.length : Int) = m) && xs.all (belB n)) = _
          rw [decide_eq_true el, Bool.true_and, List.all_map]
          rfl
        rw [e] at z
        exact z
    · refine iteP (by simp [el]) ?_
      have z := q _ s1
      have e : entB m n (some xs) = false := by
        show (decide ((xs.length : Int) = m) && xs.all (belB n)) = false
        rw [decide_eq_false el, Bool.false_and]
      rw [e] at z
      exact z
end
end KV

/-! the program: does a command lead two states to one? -/
namespace KV
open PySem PySem.Spec PyProof.Rows L2 KC
theorem met_mem (val : Nat → Int) (i : Nat) (k : Int) : k ∈ PyProof.Rows.firstMet val i ↔ k ∈ (List.range i).map val := by
  have z := PyProof.Rows.firstMet_any val i k
  rw [Bool.eq_iff_iff, List.any_eq_true, List.any_eq_true] at z
  simp only [beq_iff_eq, exists_eq_right] at z
  exact z
theorem met_len (val : Nat → Int) : ∀ i : Nat, (PyProof.Rows.firstMet val i).length = i ↔ ((List.range i).map val).Nodup
  | 0 => by simp [PyProof.Rows.firstMet_zero]
  | i + 1 => by
    have le := PyProof.Rows.firstMet_length_le val i
    have ih := met_len val i
    have mm := met_mem val i (val i)
    rw [PyProof.Rows.firstMet_succ, PyProof.Rows.step_length, List.range_succ, List.map_append, List.nodup_append]
    have an : (PyProof.Rows.firstMet val i).any (· == val i) = true ↔ val i ∈ (List.range i).map val := by
      rw [← mm, List.any_eq_true]
      simp only [beq_iff_eq, exists_eq_right]
    by_cases h : (PyProof.Rows.firstMet val i).any (· == val i) = true
    · rw [if_pos h]
      constructor
      · intro e
        omega
      · rintro ⟨_, _, z⟩
        exact absurd rfl (z _ (an.mp h) (val i) (by simp))
    · rw [if_neg h]
      constructor
      · intro e
        refine ⟨ih.mp (by omega), by simp, fun a ha b hb => ?_⟩
        simp only [List.map_cons, List.map_nil, List.mem_singleton] at hb
        rw [hb]
        exact fun e => h (an.mpr (by rw [← e]; exact ha))
      · rintro ⟨z, _, _⟩
        rw [ih.mpr z]
theorem range_getD (ns : List Int) : (List.range ns.length).map (fun i => ns.getD i 0) = ns := by
  refine List.ext_getElem? fun i => ?_
  rw [List.getElem?_map]
  by_cases h : i < ns.length
  · rw [List.getElem?_range h, List.getElem?_eq_getElem h]
    show some (ns.getD i 0) = _
    rw [List.getD_eq_getElem?_getD, List.getElem?_eq_getElem h]
    rfl
  · rw [List.getElem?_eq_none (by rw [List.length_range]; omega), List.getElem?_eq_none (by omega)]
    rfl
/-- the number of different ints in a list: as many as it has, just when none comes twice -/
def tLenSetL (K : PySem.W.Frag) (ta : TE) : TE := fun σ H Q => ta σ H fun x H1 => ∃ (l : Addr) (ns : List Int), x = .ref l ∧ SqL K H1 l (ns.map V.int) ∧ ns.length ≤ 1000 ∧ ∀ k : Nat, k ≤ ns.length → (k = ns.length ↔ ns.Nodup) → Q (.int (k : Nat)) H1
theorem pe_lenSetL {X : Cx} {a : Expr} {ta : TE} {p p2 q pos : Pos} (gl : Gl X "len") (ml : X.mg "len" = none) (gs : Gl X "set") (ms : X.mg "set" = none) (ha : PE X a ta) (hc : X.calm = true := by rfl)
    (na : starEach [a] X.env = (false, eval a X.env) :: starEach [] X.env := by rfl) : PE X (.Call (.Name "len" p) [.Call (.Name "set" p2) [a] [] q] [] pos) (tLenSetL X.K ta) := by
  constructor
  intro pins s σ H Q I h
  refine Call_ (ld_blt I gl ml boot_len ?_)
  refine PyProof.Rows.callWith_builtin1 (PyProof.Rows.args_cons ?_ rfl) rfl rfl
  refine Call_ (ld_blt I gs ms PyProof.Rows.boot_set ?_)
  refine PyProof.Rows.callWith_type1 (PyProof.Rows.args_cons (thn (ha.run pins s σ H _ I h) fun v s1 ⟨x, H1, I1, r1, q1⟩ => PyProof.Rows.args_nil ?_) na) na rfl
  obtain ⟨l, ns, ex, hq, small, q1⟩ := q1
  subst ex
  cases r1
  obtain ⟨its, r, pl, _⟩ := I1.list hq
  have hlen : its.toArray.size = ns.length := by rw [List.size_toArray, ← r.length, List.length_map]
  refine call_set_list (I1.ok.hd hc) pl.isList (show PyProof.Rows.IntsAre its.toArray.toList ns from ints_of_vals r) (by rw [hlen]; unfold scanBound; omega) fun h' tk hS hk => ?_
  refine PyProof.Rows.args_nil ?_
  rw [hlen] at hS
  have le := PyProof.Rows.firstMet_length_le (fun i => ns.getD i 0) ns.length
  have iff := met_len (fun i => ns.getD i 0) ns.length
  rw [range_getD] at iff
  obtain ⟨o, es, ep, t, ho, hex, hd, _, _, _, hf, hn⟩ := hS
  have I2 : Inv X pins σ H1 { s1 with heap := h', toks := tk } := I1.kept fun b o e => hk b o (Heap.lt_size e) e
  exact call_len_set ho hex hd hf (by rw [hn] <;> omega) ⟨.int _, H1, I2.tok _, ⟨_, by rw [hn]⟩, q1 _ le iff⟩
/-- a subscript of a list or of a tuple -/
def rIxO (K : PySem.W.Frag) : R2 := fun x y H Q => rIxL K x y H Q ∨ rIxT K x y H Q
theorem ix_or {X : Cx} : IxR X (rIxO X.K) := by
  intro value slice pins s σ H x y v u Q I rx ry h hs
  rcases h with h | h
  · exact ix_list value slice pins s σ H x y v u Q I rx ry h hs
  · exact ix_tup value slice pins s σ H x y v u Q I rx ry h hs
/-- lines, as they are handed in -/
def LnS (H : Hp) (rows : List (List Nat)) (es : List V) : Prop := es.length = rows.length ∧ ∀ (j : Nat) (e : V), es[j]? = some e → ∃ (b : Addr) (ro : List Nat), e = V.ref b ∧ rows[j]? = some ro ∧ (H b = some (.lst (vi ro)) ∨ H b = some (.tup (vi ro)))
theorem LnS.same {H H' : Hp} {rows : List (List Nat)} {es : List V} (s : Same H H') (h : LnS H rows es) : LnS H' rows es := ⟨h.1, fun j e he => by
  obtain ⟨b, ro, h1, h2, h3⟩ := h.2 j e he
  exact ⟨b, ro, h1, h2, h3.elim (fun z => .inl (s _ _ z)) fun z => .inr (s _ _ z)⟩⟩
def col (rows : List (List Nat)) (k : Nat) : List Nat := rows.map fun ro => ro.getD k 0
/-- the first command that leads two states to one -/
def losK (rows : List (List Nat)) (m : Nat) : Option Nat := (List.range m).find? fun k => !decide ((col rows k).Nodup)
def losV (rows : List (List Nat)) (m : Nat) : V := match losK rows m with
  | none => .non
  | some k => .int (k : Int)
theorem losK_at {rows : List (List Nat)} {m i : Nat} (hi : i < m) (no : ∀ k, k < i → (col rows k).Nodup) (h : ¬ (col rows i).Nodup) : losK rows m = some i := by
  unfold losK
  rw [List.find?_range_eq_some]
  refine ⟨by simp [h], List.mem_range.mpr hi, fun j hj => by simp [no j hj]⟩
theorem losK_no {rows : List (List Nat)} {m : Nat} (no : ∀ k, k < m → (col rows k).Nodup) : losK rows m = none := by
  unfold losK
  rw [List.find?_eq_none]
  intro k hk
  simp [no k (List.mem_range.mp hk)]
section
variable {P : Program} {w : World} {K : PySem.W.Frag} {mg : Str → Option Value} {base : Heap}
def spLos2 : Sp := fun vs H Q _ => ∃ (m : Nat) (r : Addr) (es : List V) (rows : List (List Nat)), vs = [.int (m : Int), .ref r] ∧ (H r = some (.lst es) ∨ H r = some (.tup es)) ∧ LnS H rows es ∧ m ≤ 1000 ∧ rows.length ≤ 1000 ∧ (∀ ro ∈ rows, ro.length = m) ∧ ∀ H', Same H H' → Q (losV rows m) H'
theorem ok_los2 {f : Addr} {fd : FuncData} (B : Bl mg) (F : Fun K "first_losing" "first_losing" (top 14) f fd) : FnOk P w K mg base CX0 1 f fd ["commands", "steps"] spLos2 := by
  refine F.ok sk11 (fun vs H Q E h => ?_) (fun cdv A outer s H vs Q E hr h => ⟨_,
    (pss_cons (ps_for PassesOwn.never rfl (pi_range1 (by rfl) B.range (pa_cons (pv 0) pa_nil)) (pg_name (i := 2) sk11.nd rfl (.inr rfl)) (pss_one (ps_if (pt_cmpR op_lt (pe_lenSetL (by rfl) B.len (by rfl) B.set (pe_lc (own := [("entry", 3)]) (g := gName 3) (tt := tYes) rfl sk11.nd (pi_sq (pv 1)) (blkOk_by (N := ["commands", "steps", "command", "entry"]) (sc := defScope (top 14)) (by decide +kernel))
        (fun _ _ _ _ _ => (pg_name (i := 3) sk11.nd rfl (Or.inl rfl))) (fun _ _ _ _ _ => pts_nil) (fun _ _ _ _ _ => (pe_ix (r := rIxO K) ix_or (pv 3) (pv 2) (fun _ _ => rfl))))) (pe_callB call_len_seq (by rfl) B.len PySem.boot_len (pa_cons (pv 1) pa_nil)) (nomark _)) (pss_one (ps_ret (pv 2))) pss_nil)))
    (pss_one (ps_ret pe_non))), ?_⟩)
  · obtain ⟨m, r, es, rows, rfl, _⟩ := h
    rfl
  obtain ⟨m, r, es, rows, rfl, hr, hS, m16, rl, hm, q⟩ := h
  have hq : ∀ {H'}, Same H H' → SqA K H' r es := fun s => by
    rcases hr with hr | hr
    · exact .inl (SqL.of (s _ _ hr))
    · exact .inr (SqT.of (s _ _ hr))
  refine ⟨_, rfl, (m : Int), rfl, by omega, by omega, for_range (n := (m : Int).toNat) (fun i σ H' => (∃ v2 : Option V, σ = [some (.int (m : Int)), some (.ref r), v2, none]) ∧ Same H H' ∧ ∀ k, k < i → (col rows k).Nodup) ⟨⟨none, rfl⟩, Same.refl H, fun k hk => absurd hk (by omega)⟩ ?_ ?_⟩
  · rintro i σ G hi ⟨⟨v2, rfl⟩, s1, no⟩
    have il : i < m := by omega
    have S1 := hS.same s1
    dsimp only [gName]
    refine ⟨_, rfl, r, rfl, lc_sq (hq s1) (fun D j G2 => Same G G2 ∧ G2 D = some (.lst (vi ((col rows i).take j)))) (fun D hD => ⟨Same.new hD, upd_same⟩) (fun D j G2 p => Ke.of p.1) ?_ ?_⟩
    · rintro D j x G2 hD hx ⟨u1, u2⟩
      obtain ⟨b, ro, rfl, hro, hb⟩ := S1.2 j x hx
      have rj : ro.length = m := hm ro (List.mem_of_getElem? hro)
      have jl := (List.getElem?_eq_some_iff.mp hro).1
      have hv : (vi ro)[i]? = some (V.int (ro.getD i 0 : Nat)) := vi_get (at_getD (by omega))
      have hcl : (col rows i)[j]? = some (ro.getD i 0) := by unfold col; rw [List.getElem?_map, hro]; rfl
      refine ⟨rfl, _, rfl, _, rfl, ?_⟩
      have go : ∀ {Z : Prop}, Z → Z := fun z => z
      have fin : ∃ acc, G2 D = some (.lst acc) ∧ acc.length < sizeLine ∧ Same G (upd G2 D (.lst (acc ++ [V.int (ro.getD i 0 : Nat)]))) ∧ upd G2 D (.lst (acc ++ [V.int (ro.getD i 0 : Nat)])) D = some (.lst (vi ((col rows i).take (j + 1)))) := by
        refine ⟨_, u2, len_lt ?_, Same.upd u1 hD, ?_⟩
        · have := List.length_take_le' j (col rows i)
          simp only [vi, List.length_map]
          unfold col at this ⊢
          rw [List.length_map] at this
          omega
        · rw [upd_same, take_at hcl, vi_app]
          rfl
      rcases hb with hb | hb
      · exact .inl ⟨b, _, _, _, rfl, rfl, SqL.of (u1 _ _ hb), atI_eq (show (0 : Int) + (i : Int) = (i : Int) by omega) hv, fin⟩
      · exact .inr ⟨b, _, _, _, rfl, rfl, SqT.of (u1 _ _ hb), atI_eq (show (0 : Int) + (i : Int) = (i : Int) by omega) hv, fin⟩
    · rintro D G2 hD ⟨u1, u2⟩
      have cl : (col rows i).length = es.length := by unfold col; rw [List.length_map, hS.1]
      have u2 : G2 D = some (.lst (vi (col rows i))) := by
        rw [← cl, List.take_length] at u2
        exact u2
      have zl : (zi (col rows i)).length = es.length := by unfold zi; rw [List.length_map, cl]
      refine ⟨D, zi (col rows i), rfl, by rw [← vi_zi]; exact SqL.of u2, by rw [zl, hS.1]; exact rl, fun k hk iff => ?_⟩
      have nd : (zi (col rows i)).Nodup ↔ (col rows i).Nodup := ⟨fun z => by
        unfold zi List.Nodup at z
        rw [List.pairwise_map] at z
        exact z.imp fun ne e => ne (by rw [e]), zi_nodup⟩
      rw [zl] at hk iff
      rw [nd] at iff
      refine ⟨_, rfl, r, _, rfl, hq (s1.trans u1), _, _, rfl, rfl, _, rfl, ?_⟩
      by_cases d : (col rows i).Nodup
      · have := iff.mpr d
        exact iteN (by rw [decide_eq_true_eq]; omega) ⟨⟨_, rfl⟩, s1.trans u1, fun k hk => by
          by_cases e : k = i
          · rw [e]; exact d
          · exact no k (by omega)⟩
      · have : k ≠ es.length := fun e => d (iff.mp e)
        refine iteP (by rw [decide_eq_true_eq]; omega) ⟨_, rfl, ?_⟩
        have z := q G2 (s1.trans u1)
        unfold losV at z
        rw [losK_at il no d] at z
        rw [Int.zero_add]
        exact z
  · rintro σ G ⟨⟨v2, rfl⟩, s1, no⟩
    have z := q G s1
    unfold losV at z
    rw [losK_no (fun k hk => no k (by omega))] at z
    exact z
end
end KV

/-! the program: a machine that is right is made -/
namespace KV
open PySem PySem.Spec PyProof.Rows L2 KC
/-- a method's statement -/
def mth (i j : Nat) : Stmt := match top i with
  | .ClassDef _ _ _ body _ _ _ _ _ _ _ => body.getD j (.Pass ⟨0, 0, 0, 0⟩)
  | s => s
def Kx (x : Addr) (H H' : Hp) : Prop := ∀ b o, b ≠ x → H b = some o → H' b = some o
section
variable {P : Program} {w : World} {K : PySem.W.Frag} {mg : Str → Option Value} {base : Heap} {C fI Cm : Addr}
def spInitG (K : PySem.W.Frag) (Cm : Addr) : Sp := fun vs H Q _ => ∃ (x dx r : Addr) (m : Int) (n : Nat) (rs : List Addr) (cs : List (List Nat)), vs = [.ref x, .int m, .ref r] ∧ H x = some (.ins Cm dx []) ∧ Cls K Cm ∧ NoAttr K Cm "commands" ∧ NoAttr K Cm "states" ∧ NoAttr K Cm "steps" ∧
  Stp H r n rs cs ∧ m = (cs.length : Int) ∧ 0 < n ∧ n ≤ 16 ∧ 0 < cs.length ∧ cs.length ≤ 5 ∧ (∀ c ∈ cs, Chg n c) ∧
  ∀ (t : Addr) (ts : List Addr) (H' : Hp), Kx x H H' → H t = none → H' t = some (.tup (ts.map V.ref)) → ts.length = n → (∀ s b, ts[s]? = some b → H' b = some (.tup (vi (row cs s)))) →
    H' x = some (.ins Cm dx (putF "steps" (.ref t) (putF "states" (.int n) (putF "commands" (.int m) [])))) → Q .non H'
theorem sk9i : FnScope ["self", "commands", "steps", "states", "state", "entry", "command"] ["self", "commands", "steps"] (defScope (mth 12 0)) := ⟨rfl, rfl, rfl, by decide +kernel, rfl, by decide +kernel, by decide +kernel⟩
theorem ok_initG {f : Addr} {fd : FuncData} (B : Bl mg) (T : PySem.LowX.LowTxt K mg "InvalidMachine" "InvalidMachine.__init__" C fI) (CI : Cal P w K mg base CX0 1 "is_integer" ["value"] spIsInt) (CS : Cal P w K mg base CX0 1 "is_sequence" ["value"] spSeqG)
    (CE : Cal P w K mg base CX0 3 "_is_entry" ["value", "commands", "states"] spEntG) (CL : Cal P w K mg base CX0 1 "first_losing" ["commands", "steps"] spLosG) (F : Fun K "__init__" "Machine.__init__" (mth 12 0) f fd) : FnOk P w K mg base (L2.CX P w) 4 f fd ["self", "commands", "steps"] (spInitG K Cm) := by
  refine F.okX sk9i (fun vs H Q E h => ?_) (fun cdv A outer s H vs Q E hr h => ⟨_,
    (pss_cons (ps_if (PW.pt (pw_or (pt_not (pt_val (by exact (pe_cal CI hr (by decide) (pa_cons (pv 1) pa_nil))))) (pw_or1 (pt_cmpR op_lt (pv 1) pe_int (nomark _))))) (pss_one (ps_raiseLow rfl T hr (takes_of rfl rfl rfl rfl) (by exact (pa_cons pe_int pa_nil)))) pss_nil)
    (pss_cons (ps_if (PW.pt (pw_or (pt_not (pt_val (by exact (pe_cal CS hr (by decide) (pa_cons (pv 2) pa_nil))))) (pw_or1 (pt_cmpR op_eq (pe_callB call_len_seq (by rfl) B.len PySem.boot_len (pa_cons (pv 2) pa_nil)) pe_int (nomark _))))) (pss_one (ps_raiseLow rfl T hr (takes_of rfl rfl rfl rfl) (by exact (pa_cons pe_int pa_nil)))) pss_nil)
    (pss_cons (ps_set (i := 3) sk9i.nd rfl (.inl rfl) (pe_callB call_len_seq (by rfl) B.len PySem.boot_len (pa_cons (pv 2) pa_nil)))
    (pss_cons (ps_for (passes_of rfl) rfl (pi_enum (by rfl) B.enumerate (pa_cons (pv 2) pa_nil)) (pg_tup rfl (pgs_cons (pg_name (i := 4) sk9i.nd rfl (.inl rfl)) (pgs_cons (pg_name (i := 5) sk9i.nd rfl (.inl rfl)) pgs_nil))) (pss_one (ps_if (pt_not (pt_val (by exact (pe_cal CE hr (by decide) (pa_cons (pv 5) (pa_cons (pv 1) (pa_cons (pv 3) pa_nil))))))) (pss_one (ps_raiseLow rfl T hr (takes_of rfl rfl rfl rfl) (by exact (pa_cons (pe_op op_add pe_int (pv 4)) pa_nil)))) pss_nil)))
    (pss_cons (ps_set (i := 6) sk9i.nd rfl (.inl rfl) (by exact (pe_cal CL hr (by decide) (pa_cons (pv 1) (pa_cons (pv 2) pa_nil)))))
    (pss_cons (ps_if (pt_cmpR op_notN (pv 6) pe_non (nomark _)) (pss_one (ps_raiseLow rfl T hr (takes_of rfl rfl rfl rfl) (by exact (pa_cons (pe_op op_add (pe_op op_add pe_int (pv 3)) (pv 6)) pa_nil)))) pss_nil)
    (pss_cons (ps_fld (pv 0) (pv 1) (by rfl))
    (pss_cons (ps_fld (pv 0) (pv 3) (by rfl))
    (pss_one (ps_fld (pv 0) (pe_callTy call_tuple_of (by rfl) B.tuple (by decide +kernel) (pa_cons (pe_lc (own := [("entry", 5)]) (g := gName 5) (tt := tYes) rfl sk9i.nd (pi_list (pv 2)) (blkOk_by (N := ["self", "commands", "steps", "states", "state", "entry", "command"]) (sc := defScope (mth 12 0)) (by decide +kernel))
        (fun _ _ _ _ _ => (pg_name (i := 5) sk9i.nd rfl (Or.inl rfl))) (fun _ _ _ _ _ => pts_nil) (fun _ _ _ _ _ => (pe_callTy (r := rTupOf K) call_tupK (by rfl) B.tuple boot_tup (pa_cons (pv 5) pa_nil)))) pa_nil)) (by rfl))))))))))), ?_⟩)
  · obtain ⟨x, dx, r, m, n, rs, cs, rfl, _⟩ := h
    rfl
  obtain ⟨x, dx, r, m, n, rs, cs, rfl, hx, cl, na1, na2, na3, hS, rfl, n0, n16, c0, c5, hc, q⟩ := h
  have rl : (rs.map V.ref).length = n := by rw [List.length_map, hS.len]
  refine ⟨_, rfl, .int (cs.length : Int), rfl, .inl ⟨_, rfl⟩, _, rfl, iteF ⟨_, rfl, _, _, rfl, rfl, _, rfl, iteN (by simp; omega) ?_⟩⟩
  refine ⟨_, rfl, r, _, rfl, .inl hS.lst, fun H1 s1 => ⟨_, rfl, iteF ⟨_, rfl, r, _, rfl, .inl (SqL.of (s1 _ _ hS.lst)), rfl, _, rfl, iteN (by rw [rl]; simp; omega) ?_⟩⟩⟩
  refine ⟨_, rfl, r, _, rfl, .inl (SqL.of (s1 _ _ hS.lst)), ?_⟩
  rw [rl]
  dsimp only [gName]
  have hx1 := s1 _ _ hx
  have S1 := hS.same s1
  refine sq_cut (fun σ H' => (∃ v4 v5 : Option V, σ = [some (.ref x), some (.int (cs.length : Int)), some (.ref r), some (.int (n : Nat)), v4, v5, none]) ∧ Same H1 H') (fun Z hZ => ?_) ?_
  · refine ⟨_, rfl, r, _, rfl, SqL.of S1.lst, for_it walk_enum (fun i σ H' => (∃ v4 v5 : Option V, σ = [some (.ref x), some (.int (cs.length : Int)), some (.ref r), some (.int (n : Nat)), v4, v5, none]) ∧ Same H1 H') ⟨⟨none, none, rfl⟩, Same.refl H1⟩ (fun i σ H' _ p => SqL.of (p.2 _ _ S1.lst)) ?_ ?_⟩
    · rintro i y σ G H' hi ⟨⟨v4, v5, rfl⟩, s2⟩ ⟨Tt, a1, b1, rfl, hT, rfl, ea, eb⟩
      cases ea
      obtain ⟨b, hb, rfl⟩ := ref_at eb
      have il : i < n := by rw [rl] at hi; exact hi
      have sT := s2.trans (Same.new (o := .tup [V.int (i : Nat), V.ref b]) hT)
      have hr := sT _ _ (S1.row i b hb)
      refine ⟨Tt, _, rfl, SqT.of upd_same, rfl, _, _, rfl, _, _, rfl, rfl, ?_⟩
      dsimp only [gName, gNil]
      refine ⟨_, rfl, _, rfl, _, rfl, b, row cs i, _, _, rfl, .inl hr, by unfold row; rw [List.length_map], by unfold row; rw [List.length_map]; omega, fun z hz => ?_, fun H3 s3 => ⟨_, rfl, iteF ⟨⟨_, _, rfl⟩, sT.trans s3⟩⟩⟩
      obtain ⟨c, hcc, rfl⟩ := List.mem_map.mp hz
      have := (hc c hcc).at_lt il
      omega
    · rintro σ G ⟨⟨v4, v5, rfl⟩, s2⟩
      exact hZ _ _ ⟨⟨v4, v5, rfl⟩, s2⟩
  rintro σ H2 ⟨⟨v4, v5, rfl⟩, s2⟩
  refine ⟨_, rfl, _, rfl, _, r, n, rs, cs, rfl, S1.same s2, rfl, n16, c5, hc, fun H3 s3 => ?_⟩
  dsimp only [gName]
  refine ⟨_, rfl, rfl, _, rfl, iteN (by simp) ?_⟩
  have s03 := (s1.trans s2).trans s3
  have x3 := s03 _ _ hx
  have S3 := hS.same s03
  clear s1 s2 s3 hx1 S1
  have rx : r ≠ x := fun z => by have := hS.lst; rw [z, hx] at this; cases this
  have bx : ∀ s b, rs[s]? = some b → b ≠ x := fun s b hb z => by have := hS.row s b hb; rw [z, hx] at this; cases this
  refine ⟨_, rfl, _, rfl, x, Cm, dx, _, rfl, x3, cl, na1, (by decide), _, rfl, _, rfl, x, Cm, dx, _, rfl, upd_same, cl, na2, (by simp [putF]), ?_⟩
  have k5 : Kx x H (upd (upd H3 x (.ins Cm dx (putF "commands" (.int (cs.length : Int)) []))) x (.ins Cm dx (putF "states" (.int (n : Nat)) (putF "commands" (.int (cs.length : Int)) [])))) := fun b o ne e => by
    rw [upd_ne ne, upd_ne ne]
    exact s03 b o e
  have x5 : (upd (upd H3 x (.ins Cm dx (putF "commands" (.int (cs.length : Int)) []))) x (.ins Cm dx (putF "states" (.int (n : Nat)) (putF "commands" (.int (cs.length : Int)) [])))) x = some (.ins Cm dx (putF "states" (.int (n : Nat)) (putF "commands" (.int (cs.length : Int)) []))) := upd_same
  generalize upd (upd H3 x (.ins Cm dx (putF "commands" (.int (cs.length : Int)) []))) x (.ins Cm dx (putF "states" (.int (n : Nat)) (putF "commands" (.int (cs.length : Int)) []))) = H5 at k5 x5
  have r5 := k5 _ _ rx hS.lst
  refine ⟨_, rfl, r, rfl, ⟨_, SqL.of r5⟩, fun D hD => lc_list (xs := rs.map V.ref) (fun j G => Same H5 G ∧ ∃ ts : List Addr, G D = some (.lst (ts.map V.ref)) ∧ ts.length = j ∧ ∀ s b, ts[s]? = some b → G b = some (.tup (vi (row cs s)))) ⟨Same.new hD, [], upd_same, rfl, fun s b h => by simp at h⟩ (fun j G _ z => SqL.of (z.1 _ _ r5)) ?_ ?_⟩
  · rintro j y G hy ⟨p1, ts, p2, p3, p4⟩
    obtain ⟨b, hb, rfl⟩ := ref_at hy
    have jl : j < n := by have := (List.getElem?_eq_some_iff.mp hb).1; rw [hS.len] at this; exact this
    have hr := p1 _ _ (k5 _ _ (bx j b hb) (hS.row j b hb))
    refine ⟨rfl, _, rfl, b, _, rfl, .inl ⟨SqL.of hr, fun t ht => ?_⟩⟩
    have st := Same.new (o := .tup (vi (row cs j))) ht
    have nt : D ≠ t := ne_of_none p2 ht
    refine ⟨_, st _ _ p2, len_lt (by rw [List.length_map]; omega), Same.upd (p1.trans st) hD, ts ++ [t], ?_, by rw [List.length_append, p3]; rfl, fun s b hs => ?_⟩
    · rw [upd_same, List.map_append]
      rfl
    · rw [List.getElem?_append] at hs
      split at hs
      · have h4 := st _ _ (p4 s b hs)
        rw [upd_ne (fun z => by have := st _ _ p2; rw [← z, h4] at this; cases this)]
        exact h4
      · next z =>
        have : s = j := by
          have := (List.getElem?_eq_some_iff.mp hs).1
          simp at this
          omega
        subst this
        rw [p3, Nat.sub_self] at hs
        have : b = t := (Option.some.inj hs).symm
        rw [this, upd_ne nt.symm]
        exact upd_same
  · rintro G ⟨p1, ts, p2, p3, p4⟩
    rw [rl] at p3
    refine ⟨D, _, rfl, .inl ⟨SqL.of p2, fun t ht => ?_⟩⟩
    have st := Same.new (o := .tup (ts.map V.ref)) ht
    have xt := st _ _ (p1 _ _ x5)
    refine ⟨_, rfl, x, Cm, dx, _, rfl, xt, cl, na3, Nat.lt_of_le_of_lt (length_putF _ _ _) (Nat.lt_of_le_of_lt (Nat.succ_le_succ (length_putF _ _ _)) (by show 0 + 1 + 1 < 1000; decide)), ?_⟩
    have tx : t ≠ x := fun z => by have := p1 _ _ x5; rw [← z, ht] at this; cases this
    have tH : H t = none := by
      cases e : H t with
      | none => rfl
      | some o =>
        have := (p1 _ _ (k5 _ _ tx e))
        rw [ht] at this
        cases this
    refine q t ts _ (fun b o ne e => by rw [upd_ne ne]; exact st _ _ (p1 _ _ (k5 _ _ ne e))) tH (by rw [upd_ne tx]; exact upd_same) p3 (fun s b hs => ?_) upd_same
    have h4 := st _ _ (p4 s b hs)
    rw [upd_ne (fun z => by rw [z, xt] at h4; cases h4)]
    exact h4
end
end KV

/-! the program: the change of a row -/
namespace KV
open PySem PySem.Spec PyProof.Rows L2 KC
/-- a machine that stands -/
structure Mc (K : PySem.W.Frag) (Cm : Addr) (H : Hp) (x : Addr) (n : Nat) (cs : List (List Nat)) : Prop where
  cl : Cls K Cm
  na1 : NoAttr K Cm "commands"
  na2 : NoAttr K Cm "states"
  na3 : NoAttr K Cm "steps"
  ex : ∃ (dx t : Addr) (ts : List Addr), H x = some (.ins Cm dx (putF "steps" (.ref t) (putF "states" (.int n) (putF "commands" (.int (cs.length : Int)) [])))) ∧ H t = some (.tup (ts.map V.ref)) ∧ ts.length = n ∧ ∀ s b, ts[s]? = some b → H b = some (.tup (vi (row cs s)))
  chg : ∀ c ∈ cs, Chg n c
theorem Mc.same {K : PySem.W.Frag} {Cm : Addr} {H H' : Hp} {x : Addr} {n : Nat} {cs : List (List Nat)} (h : Mc K Cm H x n cs) (s : Same H H') : Mc K Cm H' x n cs := by
  obtain ⟨dx, t, ts, h1, h2, h3, h4⟩ := h.ex
  exact ⟨h.cl, h.na1, h.na2, h.na3, ⟨dx, t, ts, s _ _ h1, s _ _ h2, h3, fun i b e => s _ _ (h4 i b e)⟩, h.chg⟩
section
variable {P : Program} {w : World} {K : PySem.W.Frag} {mg : Str → Option Value} {base : Heap}
def spChR (K : PySem.W.Frag) (Cm : Addr) : Sp := fun vs H Q _ => ∃ (x a : Addr) (n : Nat) (cs : List (List Nat)) (rw_ : List Nat), vs = [.ref x, .ref a] ∧ Mc K Cm H x n cs ∧ n ≤ 16 ∧ H a = some (.tup (vi rw_)) ∧ (∀ k ∈ rw_, k < cs.length) ∧
  ∀ (t : Addr) (H' : Hp), Same H H' → H t = none → H' t = some (.tup (vi ((List.range n).map (ends cs rw_)))) → Q (.ref t) H'
end
end KV

/-! the program: a row that is right -/
namespace KV
open PySem PySem.Spec PyProof.Rows L2 KC
def iOr (i j : TI) : TI := fun σ H R => i σ H R ∨ j σ H R
theorem pi_or {X : Cx} {tg e : Expr} {i j : TI} (hi : PI X tg e i) (hj : PI X tg e j) : PI X tg e (iOr i j) := ⟨fun pins s σ H R I h => h.elim (hi.run pins s σ H R I) (hj.run pins s σ H R I)⟩
theorem Mc.f1 {K : PySem.W.Frag} {Cm : Addr} {H : Hp} {x : Addr} {n : Nat} {cs : List (List Nat)} (h : Mc K Cm H x n cs) : ∃ dx fs, H x = some (.ins Cm dx fs) ∧ fs.lookup ("commands" : Str) = some (V.int (cs.length : Int)) := by
  obtain ⟨dx, t, ts, h1, _⟩ := h.ex
  exact ⟨dx, _, h1, by rw [lookup_putF, if_neg (by decide), lookup_putF, if_neg (by decide), lookup_putF, if_pos rfl]⟩
section
variable {P : Program} {w : World} {K : PySem.W.Frag} {mg : Str → Option Value} {base : Heap}
def spCkR (K : PySem.W.Frag) (Cm : Addr) : Sp := fun vs H Q _ => ∃ (x a : Addr) (n : Nat) (cs : List (List Nat)) (rw_ : List Nat), vs = [.ref x, .ref a] ∧ Mc K Cm H x n cs ∧ (H a = some (.lst (vi rw_)) ∨ H a = some (.tup (vi rw_))) ∧ (∀ k ∈ rw_, k < cs.length) ∧
  ∀ (t : Addr) (H' : Hp), Same H H' → H' t = some (.tup (vi rw_)) → Q (.ref t) H'
def spCh (K : PySem.W.Frag) (Cm : Addr) : Sp := fun vs H Q _ => ∃ (x a : Addr) (n : Nat) (cs : List (List Nat)) (rw_ : List Nat), vs = [.ref x, .ref a] ∧ Mc K Cm H x n cs ∧ n ≤ 16 ∧ (H a = some (.lst (vi rw_)) ∨ H a = some (.tup (vi rw_))) ∧ (∀ k ∈ rw_, k < cs.length) ∧
  ∀ (t : Addr) (H' : Hp), Same H H' → H' t = some (.tup (vi ((List.range n).map (ends cs rw_)))) → Q (.ref t) H'
end
end KV

/-! the program: a machine is made, or refused -/
namespace KV
open PySem PySem.Spec PyProof.Rows L2 KC
/-- a loop over the items of a list or of a tuple with their places -/
theorem for_enO {K : PySem.W.Frag} {k : Nat} {r : Addr} {es : List V} {g : TG} {tb : TS} {D : Ends} {σ : L2.St} {H : Hp} (hk : σ[k]? = some (some (.ref r))) (hr : SqA K H r es) (Pv : Nat → L2.St → Hp → Prop) (h0 : Pv 0 σ H) (hl : ∀ i σ H', Pv i σ H' → Ke K H H' r)
    (hs : ∀ (i : Nat) (x : V) (σ : L2.St) (G : Hp) (T : Addr), es[i]? = some x → Pv i σ G → G T = none → g (.ref T) σ (upd G T (.tup [.int (i : Nat), x])) fun σ2 H2 => tb { D with nx := Pv (i + 1), ct := Pv (i + 1), bk := D.nx } σ2 H2) (hd : ∀ σ H, Pv es.length σ H → D.nx σ H) :
    tFor (iOr (iEnum K (tCons (tVar k) tNil)) (iEnumT K (tCons (tVar k) tNil))) g tb D σ H := by
  rcases hr with hr | hr
  · refine .inl ⟨_, hk, r, es, rfl, hr, for_it walk_enum Pv h0 (fun i σ H' _ p => (hl i σ H' p _).1 hr) ?_ hd⟩
    rintro i y σ G H' hi p ⟨Tt, a1, b1, rfl, hT, rfl, ea, eb⟩
    cases ea
    exact hs i b1 σ G Tt eb p hT
  · exact .inr ⟨_, hk, r, es, rfl, hr, for_enumT (xs := es) Pv h0 (fun i σ H' _ p => (hl i σ H' p _).2 hr) (fun i x σ G T hx p hT => hs i x σ G T hx p hT) hd⟩
/-- an exception that tells a number -/
def BadN (C : Addr) (n : Int) (H : Hp) (E : XK) : Prop := ∀ (H' : Hp) (d : Addr), Same H H' → H' d = none → E (.ref C) (some d) (L2.upd H' d (.xd [(("at" : Str), .int n)]))
theorem BadN.same {C : Addr} {n : Int} {H H' : Hp} {E : XK} (s : Same H H') (b : BadN C n H E) : BadN C n H' E := fun H2 d t => b H2 d (s.trans t)
/-- a line of any kind -/
def EnO (K : PySem.W.Frag) (H : Hp) (e : V) (ms : Option (List V)) : Prop := SqV K H e ms ∧ ∀ xs, ms = some xs → (∀ x ∈ xs, AnyV K H x) ∧ xs.length ≤ 1000
theorem EnO.same {K : PySem.W.Frag} {H H' : Hp} {e : V} {ms : Option (List V)} (s : Same H H') (h : EnO K H e ms) : EnO K H' e ms := ⟨h.1.same s, fun xs hx => ⟨fun x hxx => ((h.2 xs hx).1 x hxx).same s, (h.2 xs hx).2⟩⟩
/-- which lines are right up to the first that is not -/
def Lines (K : PySem.W.Frag) (H : Hp) (m n : Int) (es : List V) (i : Nat) : Prop := ∀ (j : Nat) (e : V), j < i → es[j]? = some e → ∃ ms, EnO K H e ms ∧ entB m n ms = true
/-- what is handed in, and what comes of it -/
def MkB (K : PySem.W.Frag) (H : Hp) (vc vst : V) : Option Int → Prop
  | none => ∃ (m : Nat) (r : Addr) (es : List V) (rows : List (List Nat)), vc = .int (m : Int) ∧ 0 < m ∧ m ≤ 1000 ∧ vst = .ref r ∧ (H r = some (.lst es) ∨ H r = some (.tup es)) ∧ LnS H rows es ∧ 0 < rows.length ∧ rows.length ≤ 1000 ∧ (∀ ro ∈ rows, ro.length = m ∧ ∀ y ∈ ro, y < rows.length) ∧ losK rows m = none
  | some at_ => (at_ = 0 ∧ AnyV K H vc ∧ ∀ i : Int, vc = .int i → i < 1) ∨
    (∃ (m : Int) (ms : Option (List V)), vc = .int m ∧ 1 ≤ m ∧ SqV K H vst ms ∧ (ms = none ∨ ms = some []) ∧ at_ = 1) ∨
    (∃ (m : Int) (r : Addr) (es : List V) (i : Nat) (e : V) (ms : Option (List V)), vc = .int m ∧ 1 ≤ m ∧ vst = .ref r ∧ (H r = some (.lst es) ∨ H r = some (.tup es)) ∧ es.length ≤ 1000 ∧ es[i]? = some e ∧ Lines K H m (es.length : Int) es i ∧ EnO K H e ms ∧ entB m (es.length : Int) ms = false ∧ at_ = 2 + (i : Int)) ∨
    ∃ (m : Nat) (r : Addr) (es : List V) (rows : List (List Nat)) (k : Nat), vc = .int (m : Int) ∧ 0 < m ∧ m ≤ 1000 ∧ vst = .ref r ∧ (H r = some (.lst es) ∨ H r = some (.tup es)) ∧ LnS H rows es ∧ 0 < rows.length ∧ rows.length ≤ 1000 ∧ (∀ ro ∈ rows, ro.length = m ∧ ∀ y ∈ ro, y < rows.length) ∧ losK rows m = some k ∧ at_ = 2 + (rows.length : Int) + (k : Int)
/-- a machine's object -/
def MkO (Cm x dx t : Addr) (ts : List Addr) (m : Int) (rows : List (List Nat)) (H : Hp) : Prop := H x = some (.ins Cm dx (putF "steps" (.ref t) (putF "states" (.int (rows.length : Nat)) (putF "commands" (.int m) [])))) ∧ H t = some (.tup (ts.map V.ref)) ∧ ts.length = rows.length ∧ ∀ (s : Nat) (b : Addr), ts[s]? = some b → ∃ ro, rows[s]? = some ro ∧ H b = some (.tup (vi ro))
def OutK (out : Option Int) (rows : List (List Nat)) (mn : Nat) : Prop := match out with
  | none => losK rows mn = none
  | some at_ => ∃ k, losK rows mn = some k ∧ at_ = 2 + (rows.length : Int) + (k : Int)
theorem LnS.ok {K : PySem.W.Frag} {H : Hp} {rows : List (List Nat)} {es : List V} {m : Nat} (h : LnS H rows es) (m16 : m ≤ 1000) (hm : ∀ ro ∈ rows, ro.length = m ∧ ∀ y ∈ ro, y < rows.length) {j : Nat} {e : V} (he : es[j]? = some e) : ∃ ms, EnO K H e ms ∧ entB (m : Int) (es.length : Int) ms = true := by
  obtain ⟨b, ro, rfl, hro, hb⟩ := h.2 j e he
  obtain ⟨h1, h2⟩ := hm ro (List.mem_of_getElem? hro)
  have l : (vi ro).length = m := by rw [← h1]; exact List.length_map ..
  refine ⟨some (vi ro), ⟨⟨b, rfl, hb⟩, fun xs hx => ?_⟩, ?_⟩
  · cases hx
    exact ⟨fun x hx => by obtain ⟨y, _, rfl⟩ := List.mem_map.mp hx; exact .int _, by omega⟩
  · show (decide (((vi ro).length : Int) = (m : Int)) && (vi ro).all (belB (es.length : Int))) = true
    rw [Bool.and_eq_true]
    refine ⟨decide_eq_true (by omega), ?_⟩
    rw [List.all_eq_true]
    intro x hx
    obtain ⟨y, hy, rfl⟩ := List.mem_map.mp hx
    have := h2 y hy
    show (decide ((0 : Int) ≤ (y : Int)) && decide ((y : Int) < (es.length : Int))) = true
    rw [decide_eq_true (by omega), decide_eq_true (by rw [h.1]; omega)]
    rfl
section
variable {P : Program} {w : World} {K : PySem.W.Frag} {mg : Str → Option Value} {base : Heap} {C fI Cm : Addr}
def spInit2 (K : PySem.W.Frag) (Cm C : Addr) : Sp := fun vs H Q E => ∃ (x dx : Addr) (vc vst : V) (out : Option Int), vs = [.ref x, vc, vst] ∧ H x = some (.ins Cm dx []) ∧ Cls K Cm ∧ NoAttr K Cm "commands" ∧ NoAttr K Cm "states" ∧ NoAttr K Cm "steps" ∧ MkB K H vc vst out ∧
  match out with
  | some at_ => BadN C at_ H E
  | none => ∀ (m : Int) (rows : List (List Nat)) (r : Addr) (es : List V) (t : Addr) (ts : List Addr) (H' : Hp), vc = .int m → vst = .ref r → (H r = some (.lst es) ∨ H r = some (.tup es)) → LnS H rows es → Kx x H H' → H t = none → MkO Cm x dx t ts m rows H' → Q .non H'
theorem ok_init2 {f : Addr} {fd : FuncData} (B : Bl mg) (T : PySem.LowX.LowTxt K mg "InvalidMachine" "InvalidMachine.__init__" C fI) (CI : Cal P w K mg base CX0 1 "is_integer" ["value"] (spIsI2 K)) (CS : Cal P w K mg base CX0 1 "is_sequence" ["value"] (spSeq2 K))
    (CE : Cal P w K mg base CX0 3 "_is_entry" ["value", "commands", "states"] (spEnt2 K)) (CL : Cal P w K mg base CX0 1 "first_losing" ["commands", "steps"] spLos2) (F : Fun K "__init__" "Machine.__init__" (mth 12 0) f fd) : FnOk P w K mg base (L2.CX P w) 4 f fd ["self", "commands", "steps"] (spInit2 K Cm C) := by
  refine F.okX sk9i (fun vs H Q E h => ?_) (fun cdv A outer s H vs Q E hr h => ⟨_,
    (pss_cons (ps_if (PW.pt (pw_or (pt_not (pt_val (by exact (pe_cal CI hr (by decide) (pa_cons (pv 1) pa_nil))))) (pw_or1 (pt_cmpR op_lt (pv 1) pe_int (nomark _))))) (pss_one (ps_raiseLow rfl T hr (takes_of rfl rfl rfl rfl) (by exact (pa_cons pe_int pa_nil)))) pss_nil)
    (pss_cons (ps_if (PW.pt (pw_or (pt_not (pt_val (by exact (pe_cal CS hr (by decide) (pa_cons (pv 2) pa_nil))))) (pw_or1 (pt_cmpR op_eq (pe_callB call_len_seq (by rfl) B.len PySem.boot_len (pa_cons (pv 2) pa_nil)) pe_int (nomark _))))) (pss_one (ps_raiseLow rfl T hr (takes_of rfl rfl rfl rfl) (by exact (pa_cons pe_int pa_nil)))) pss_nil)
    (pss_cons (ps_set (i := 3) sk9i.nd rfl (.inl rfl) (pe_callB call_len_seq (by rfl) B.len PySem.boot_len (pa_cons (pv 2) pa_nil)))
    (pss_cons (ps_for (passes_of rfl) rfl (pi_or (pi_enum (by rfl) B.enumerate (pa_cons (pv 2) pa_nil)) (pi_enumT (by rfl) B.enumerate (pa_cons (pv 2) pa_nil))) (pg_tup rfl (pgs_cons (pg_name (i := 4) sk9i.nd rfl (.inl rfl)) (pgs_cons (pg_name (i := 5) sk9i.nd rfl (.inl rfl)) pgs_nil))) (pss_one (ps_if (pt_not (pt_val (by exact (pe_cal CE hr (by decide) (pa_cons (pv 5) (pa_cons (pv 1) (pa_cons (pv 3) pa_nil))))))) (pss_one (ps_raiseLow rfl T hr (takes_of rfl rfl rfl rfl) (by exact (pa_cons (pe_op op_add pe_int (pv 4)) pa_nil)))) pss_nil)))
    (pss_cons (ps_set (i := 6) sk9i.nd rfl (.inl rfl) (by exact (pe_cal CL hr (by decide) (pa_cons (pv 1) (pa_cons (pv 2) pa_nil)))))
    (pss_cons (ps_if (pt_cmpR op_notN (pv 6) pe_non (nomark _)) (pss_one (ps_raiseLow rfl T hr (takes_of rfl rfl rfl rfl) (by exact (pa_cons (pe_op op_add (pe_op op_add pe_int (pv 3)) (pv 6)) pa_nil)))) pss_nil)
    (pss_cons (ps_fld (pv 0) (pv 1) (by rfl))
    (pss_cons (ps_fld (pv 0) (pv 3) (by rfl))
    (pss_one (ps_fld (pv 0) (pe_callTy call_tuple_of (by rfl) B.tuple (by decide +kernel) (pa_cons (pe_lc (own := [("entry", 5)]) (g := gName 5) (tt := tYes) rfl sk9i.nd (pi_sq (pv 2)) (blkOk_by (N := ["self", "commands", "steps", "states", "state", "entry", "command"]) (sc := defScope (mth 12 0)) (by decide +kernel))
        (fun _ _ _ _ _ => (pg_name (i := 5) sk9i.nd rfl (Or.inl rfl))) (fun _ _ _ _ _ => pts_nil) (fun _ _ _ _ _ => (pe_callTy (r := rTupOf K) call_tupK (by rfl) B.tuple boot_tup (pa_cons (pv 5) pa_nil)))) pa_nil)) (by rfl))))))))))), ?_⟩)
  · obtain ⟨x, dx, vc, vst, out, rfl, _⟩ := h
    rfl
  obtain ⟨x, dx, vc, vst, out, rfl, hx, cl, na1, na2, na3, hM, hO⟩ := h
  -- the commands
  have int0 : ∀ m : Int, 1 ≤ m → ∀ {Z1 Z2 : Prop}, Z2 → (if decide (m < 1) = true then Z1 else Z2) := fun m h _ _ z => by rw [if_neg (by rw [decide_eq_true_eq]; omega)]; exact z
  refine sq_cut (fun σ H' => σ = [some (.ref x), some vc, some vst, none, none, none, none] ∧ H = H' ∧ ∃ m : Int, vc = .int m ∧ 1 ≤ m) (fun Z hZ => ?_) ?_
  · have anyc : AnyV K H vc := by
      cases out with
      | none => obtain ⟨m, _, _, _, rfl, _⟩ := hM; exact .int _
      | some a =>
        rcases hM with ⟨_, h, _⟩ | ⟨m, _, rfl, _⟩ | ⟨m, _, _, _, _, _, rfl, _⟩ | ⟨m, _, _, _, _, rfl, _⟩
        · exact h
        · exact .int _
        · exact .int _
        · exact .int _
    refine ⟨_, rfl, vc, rfl, anyc, _, rfl, ?_⟩
    by_cases ok : ∃ m : Int, vc = .int m ∧ 1 ≤ m
    · obtain ⟨m, rfl, hm⟩ := ok
      exact iteF ⟨_, rfl, _, _, rfl, rfl, _, rfl, iteN (by rw [decide_eq_true_eq]; omega) (hZ _ _ ⟨rfl, rfl, m, rfl, hm⟩)⟩
    · have b0 : BadN C 0 H E := by
        cases out with
        | none => obtain ⟨m, _, _, _, rfl, m0, _⟩ := hM; exact absurd ⟨_, rfl, by omega⟩ ok
        | some a =>
          rcases hM with ⟨rfl, _⟩ | ⟨m, _, rfl, m0, _⟩ | ⟨m, _, _, _, _, _, rfl, m0, _⟩ | ⟨m, _, _, _, _, rfl, m0, _⟩
          · exact hO
          · exact absurd ⟨_, rfl, m0⟩ ok
          · exact absurd ⟨_, rfl, m0⟩ ok
          · exact absurd ⟨_, rfl, by omega⟩ ok
      rcases anyc with ⟨i, rfl⟩ | ⟨e1, _⟩
      · exact iteF ⟨_, rfl, _, _, rfl, rfl, _, rfl, iteP (by rw [decide_eq_true_eq]; exact Classical.byContradiction fun z => ok ⟨i, rfl, by omega⟩) ⟨_, rfl, fun d hd => b0 _ d (Same.refl H) hd⟩⟩
      · rw [e1]
        exact iteT (iteT ⟨_, rfl, fun d hd => b0 _ d (Same.refl H) hd⟩)
  rintro σ H' ⟨rfl, rfl, m, rfl, m1⟩
  -- the steps
  have D : (∃ ms, SqV K H vst ms ∧ (ms = none ∨ ms = some []) ∧ BadN C 1 H E) ∨ ∃ (r : Addr) (es : List V) (i : Nat), vst = .ref r ∧ (H r = some (.lst es) ∨ H r = some (.tup es)) ∧ 0 < es.length ∧ es.length ≤ 1000 ∧ i ≤ es.length ∧ Lines K H m (es.length : Int) es i ∧
      ((i = es.length ∧ ∃ (mn : Nat) (rows : List (List Nat)), m = (mn : Int) ∧ mn ≤ 1000 ∧ LnS H rows es ∧ rows.length ≤ 1000 ∧ (∀ ro ∈ rows, ro.length = mn ∧ ∀ y ∈ ro, y < rows.length) ∧ OutK out rows mn) ∨
        ∃ (e : V) (ms : Option (List V)), es[i]? = some e ∧ EnO K H e ms ∧ entB m (es.length : Int) ms = false ∧ BadN C (2 + (i : Int)) H E) := by
    cases out with
    | none =>
      obtain ⟨mn, r, es, rows, e1, m0, m16, rfl, hr, hL, r0, r16, hm, hk⟩ := hM
      cases e1
      have el := hL.1
      exact .inr ⟨r, es, es.length, rfl, hr, by omega, by omega, Nat.le_refl _, fun j e _ he => hL.ok m16 hm he, .inl ⟨rfl, mn, rows, rfl, m16, hL, r16, hm, hk⟩⟩
    | some a =>
      rcases hM with ⟨_, _, h⟩ | ⟨_, ms, e1, _, h, h2, rfl⟩ | ⟨m2, r, es, i, e, ms, e1, _, rfl, hr, l16, he, hl, hE, hB, rfl⟩ | ⟨mn, r, es, rows, k, e1, m0, m16, rfl, hr, hL, r0, r16, hm, hk, rfl⟩
      · exact absurd (h m rfl) (by omega)
      · exact .inl ⟨ms, h, h2, hO⟩
      · cases e1
        have il := (List.getElem?_eq_some_iff.mp he).1
        exact .inr ⟨r, es, i, rfl, hr, by omega, l16, by omega, hl, .inr ⟨e, ms, he, hE, hB, hO⟩⟩
      · cases e1
        have el := hL.1
        exact .inr ⟨r, es, es.length, rfl, hr, by omega, by omega, Nat.le_refl _, fun j e _ he => hL.ok m16 hm he, .inl ⟨rfl, mn, rows, rfl, m16, hL, r16, hm, k, hk, rfl⟩⟩
  rcases D with ⟨ms, hs, hcase, bad⟩ | ⟨r, es, i, rfl, hr, l0, l16, ile, hl, hcase⟩
  · refine ⟨_, rfl, vst, ms, rfl, hs, fun H1 s1 => ⟨_, rfl, ?_⟩⟩
    rcases hcase with rfl | rfl
    · exact iteT (iteT ⟨_, rfl, fun d hd => bad _ d s1 hd⟩)
    · obtain ⟨r, rfl, hr⟩ := hs
      have hq : SqA K H1 r [] := by
        rcases hr with hr | hr
        · exact .inl (SqL.of (s1 _ _ hr))
        · exact .inr (SqT.of (s1 _ _ hr))
      exact iteF ⟨_, rfl, r, [], rfl, hq, rfl, _, rfl, iteP (by simp) ⟨_, rfl, fun d hd => bad _ d s1 hd⟩⟩
  have hq : ∀ {H'}, Same H H' → SqA K H' r es := fun s => by
    rcases hr with hr | hr
    · exact .inl (SqL.of (s _ _ hr))
    · exact .inr (SqT.of (s _ _ hr))
  refine ⟨_, rfl, .ref r, some es, rfl, ⟨r, rfl, hr⟩, fun H1 s1 => ⟨_, rfl, iteF ⟨_, rfl, r, es, rfl, hq s1, rfl, _, rfl, iteN (by simp; intro z; rw [z] at l0; exact absurd l0 (by decide)) ?_⟩⟩⟩
  dsimp only [tNext]
  refine ⟨_, rfl, r, es, rfl, hq s1, ?_⟩
  dsimp only [gName]
  -- the lines
  refine sq_cut (fun σ H' => (∃ v4 v5 : Option V, σ = [some (.ref x), some (.int m), some (.ref r), some (.int (es.length : Nat)), v4, v5, none]) ∧ Same H H' ∧ i = es.length) (fun Z hZ => ?_) ?_
  · refine for_enO (es := es) rfl (hq s1) (fun j σ H' => (∃ v4 v5 : Option V, σ = [some (.ref x), some (.int m), some (.ref r), some (.int (es.length : Nat)), v4, v5, none]) ∧ Same H1 H' ∧ j ≤ i) ⟨⟨none, none, rfl⟩, Same.refl H1, Nat.zero_le _⟩ (fun j σ H' p => Ke.of p.2.1) ?_ ?_
    · rintro j e σ G Tt he ⟨⟨v4, v5, rfl⟩, s2, ji⟩ hT
      have sT := s2.trans (Same.new (o := .tup [V.int (j : Nat), e]) hT)
      refine ⟨Tt, _, rfl, SqT.of upd_same, rfl, _, _, rfl, _, _, rfl, rfl, ?_⟩
      dsimp only [gName, gNil]
      by_cases eq : j = i
      · subst eq
        rcases hcase with ⟨e1, _⟩ | ⟨e', ms, he', hE, hB, bad⟩
        · have := (List.getElem?_eq_some_iff.mp he).1
          omega
        · rw [he'] at he
          cases he
          refine ⟨_, rfl, _, rfl, _, rfl, e, m, _, ms, rfl, (hE.same (s1.trans sT)).1, (hE.same (s1.trans sT)).2, fun H3 s3 => ?_⟩
          rw [hB]
          exact ⟨_, rfl, iteT ⟨_, rfl, _, _, rfl, rfl, _, rfl, fun d hd => bad _ d ((s1.trans sT).trans s3) hd⟩⟩
      · obtain ⟨ms, hE, hB⟩ := hl j e (by omega) he
        refine ⟨_, rfl, _, rfl, _, rfl, e, m, _, ms, rfl, (hE.same (s1.trans sT)).1, (hE.same (s1.trans sT)).2, fun H3 s3 => ?_⟩
        rw [hB]
        exact ⟨_, rfl, iteF ⟨⟨_, _, rfl⟩, sT.trans s3, by omega⟩⟩
    · rintro σ G ⟨⟨v4, v5, rfl⟩, s2, ji⟩
      exact hZ _ _ ⟨⟨v4, v5, rfl⟩, s1.trans s2, by omega⟩
  rintro σ H2 ⟨⟨v4, v5, rfl⟩, s2, ei⟩
  rcases hcase with ⟨_, mn, rows, rfl, m16, hL, r16, hm, hk⟩ | ⟨e, _, he, _⟩
  rotate_left
  · have := (List.getElem?_eq_some_iff.mp he).1
    omega
  have hr2 : ∀ {H'}, Same H H' → (H' r = some (.lst es) ∨ H' r = some (.tup es)) := fun s => hr.elim (fun z => .inl (s _ _ z)) fun z => .inr (s _ _ z)
  refine ⟨_, rfl, _, rfl, mn, r, es, rows, rfl, hr2 s2, hL.same s2, m16, r16, fun ro h => (hm ro h).1, fun H3 s3 => ?_⟩
  dsimp only [gName]
  have s03 := s2.trans s3
  unfold OutK at hk
  unfold losV
  cases out with
  | some at_ =>
    obtain ⟨k, hk, rfl⟩ := hk
    rw [hk]
    refine ⟨_, rfl, rfl, _, rfl, iteP (by simp) ⟨_, rfl, _, _, rfl, rfl, _, rfl, _, _, rfl, rfl, _, rfl, fun d hd => ?_⟩⟩
    have z := hO _ d s03 hd
    rw [← hL.1] at z
    exact z
  | none =>
    have hk : losK rows mn = none := hk
    rw [hk]
    refine ⟨_, rfl, rfl, _, rfl, iteN (by simp) ?_⟩
    have x3 := s03 _ _ hx
    have L3 := hL.same s03
    have el := hL.1
    have rx : r ≠ x := fun z => by rcases hr with h | h <;> rw [z, hx] at h <;> cases h
    have bx : ∀ {b : Addr} {ro : List Nat}, (H3 b = some (.lst (vi ro)) ∨ H3 b = some (.tup (vi ro))) → b ≠ x := fun h z => by rcases h with h | h <;> rw [z, x3] at h <;> cases h
    refine ⟨_, rfl, _, rfl, x, Cm, dx, _, rfl, x3, cl, na1, (by decide), _, rfl, _, rfl, x, Cm, dx, _, rfl, upd_same, cl, na2, (by simp [putF]), ?_⟩
    rw [el]
    have k5 : Kx x H3 (upd (upd H3 x (.ins Cm dx (putF "commands" (.int (mn : Int)) []))) x (.ins Cm dx (putF "states" (.int (rows.length : Nat)) (putF "commands" (.int (mn : Int)) [])))) := fun b o ne e => by
      rw [upd_ne ne, upd_ne ne]
      exact e
    have x5 : (upd (upd H3 x (.ins Cm dx (putF "commands" (.int (mn : Int)) []))) x (.ins Cm dx (putF "states" (.int (rows.length : Nat)) (putF "commands" (.int (mn : Int)) [])))) x = some (.ins Cm dx (putF "states" (.int (rows.length : Nat)) (putF "commands" (.int (mn : Int)) []))) := upd_same
    generalize upd (upd H3 x (.ins Cm dx (putF "commands" (.int (mn : Int)) []))) x (.ins Cm dx (putF "states" (.int (rows.length : Nat)) (putF "commands" (.int (mn : Int)) []))) = H5 at k5 x5
    have hq5 : SqA K H5 r es := by
      rcases hr2 s03 with h | h
      · exact .inl (SqL.of (k5 _ _ rx h))
      · exact .inr (SqT.of (k5 _ _ rx h))
    refine ⟨_, rfl, r, rfl, lc_sq hq5 (fun D j G => Same H5 G ∧ ∃ ts : List Addr, G D = some (.lst (ts.map V.ref)) ∧ ts.length = j ∧ ∀ (s : Nat) (b : Addr), ts[s]? = some b → ∃ ro, rows[s]? = some ro ∧ G b = some (.tup (vi ro))) (fun D hD => ⟨Same.new hD, [], upd_same, rfl, fun s b h => by simp at h⟩) (fun D j G z => Ke.of z.1) ?_ ?_⟩
    · rintro D j y G hD hy ⟨p1, ts, p2, p3, p4⟩
      obtain ⟨b, ro, rfl, hro, hb⟩ := L3.2 j y hy
      have hb5 : G b = some (.lst (vi ro)) ∨ G b = some (.tup (vi ro)) := hb.elim (fun z => .inl (p1 _ _ (k5 _ _ (bx hb) z))) fun z => .inr (p1 _ _ (k5 _ _ (bx hb) z))
      have jl := (List.getElem?_eq_some_iff.mp hro).1
      have app : ∀ {t : Addr} {G' : Hp}, Same G G' → G' t = some (.tup (vi ro)) → t ≠ D → ∃ acc, G' D = some (.lst acc) ∧ acc.length < sizeLine ∧ Same H5 (upd G' D (.lst (acc ++ [V.ref t]))) ∧ ∃ ts : List Addr, upd G' D (.lst (acc ++ [V.ref t])) D = some (.lst (ts.map V.ref)) ∧ ts.length = j + 1 ∧ ∀ (s : Nat) (b : Addr), ts[s]? = some b → ∃ ro, rows[s]? = some ro ∧ upd G' D (.lst (acc ++ [V.ref t])) b = some (.tup (vi ro)) := fun {t G'} st ht nt => by
        refine ⟨_, st _ _ p2, len_lt (by rw [List.length_map]; omega), Same.upd (p1.trans st) hD, ts ++ [t], ?_, by rw [List.length_append, p3]; rfl, fun s b hs => ?_⟩
        · rw [upd_same, List.map_append]
          rfl
        · rw [List.getElem?_append] at hs
          split at hs
          · obtain ⟨ro2, h4, h5⟩ := p4 s b hs
            have h6 := st _ _ h5
            refine ⟨ro2, h4, ?_⟩
            rw [upd_ne (fun z => by have := st _ _ p2; rw [← z, h6] at this; cases this)]
            exact h6
          · next z =>
            have : s = j := by
              have := (List.getElem?_eq_some_iff.mp hs).1
              simp at this
              omega
            subst this
            rw [p3, Nat.sub_self] at hs
            have : b = t := (Option.some.inj hs).symm
            refine ⟨ro, hro, ?_⟩
            rw [this, upd_ne nt]
            exact ht
      rcases hb5 with hb5 | hb5
      · refine ⟨rfl, _, rfl, b, _, rfl, .inl ⟨SqL.of hb5, fun t ht => ?_⟩⟩
        exact app (Same.new ht) upd_same (fun z => by rw [z, p2] at ht; cases ht)
      · refine ⟨rfl, _, rfl, b, _, rfl, .inr ⟨SqT.of hb5, ?_⟩⟩
        exact app (Same.refl G) hb5 (fun z => by rw [z, p2] at hb5; cases hb5)
    · rintro D G hD ⟨p1, ts, p2, p3, p4⟩
      rw [el] at p3
      refine ⟨D, _, rfl, .inl ⟨SqL.of p2, fun t ht => ?_⟩⟩
      have st := Same.new (o := .tup (ts.map V.ref)) ht
      have xt := st _ _ (p1 _ _ x5)
      refine ⟨_, rfl, x, Cm, dx, _, rfl, xt, cl, na3, Nat.lt_of_le_of_lt (length_putF _ _ _) (Nat.lt_of_le_of_lt (Nat.succ_le_succ (length_putF _ _ _)) (by show 0 + 1 + 1 < 1000; decide)), ?_⟩
      have tx : t ≠ x := fun z => by have := p1 _ _ x5; rw [← z, ht] at this; cases this
      have tH : H t = none := by
        cases e : H t with
        | none => rfl
        | some o =>
          have := (p1 _ _ (k5 _ _ tx (s03 _ _ e)))
          rw [ht] at this
          cases this
      refine hO (mn : Int) rows r es t ts _ rfl rfl hr hL (fun b o ne e => ?_) tH ⟨?_, ?_, p3, fun s b hs => ?_⟩
      · rw [upd_ne ne]
        exact st _ _ (p1 _ _ (k5 _ _ ne (s03 _ _ e)))
      · exact upd_same
      · rw [upd_ne tx]
        exact upd_same
      · obtain ⟨ro, h4, h5⟩ := p4 s b hs
        refine ⟨ro, h4, ?_⟩
        have h6 := st _ _ h5
        rw [upd_ne (fun z => by rw [z, xt] at h6; cases h6)]
        exact h6
end
end KV

/-! the program: a row that is right, or refused; the change of it -/
namespace KV
open PySem PySem.Spec PyProof.Rows L2 KC
/-- where a row goes wrong -/
def RowB (K : PySem.W.Frag) (H : Hp) (m : Int) (ms : Option (List V)) (at_ : Int) : Prop := (ms = none ∧ at_ = 0) ∨
  ∃ (xs : List V) (i : Nat) (x : V), ms = some xs ∧ xs[i]? = some x ∧ AnyV K H x ∧ belB m x = false ∧ (∀ (j : Nat) (y : V), j < i → xs[j]? = some y → AnyV K H y ∧ belB m y = true) ∧ at_ = (i : Int)
theorem RowB.same {K : PySem.W.Frag} {H H' : Hp} {m : Int} {ms : Option (List V)} {at_ : Int} (s : Same H H') (h : RowB K H m ms at_) : RowB K H' m ms at_ := by
  rcases h with h | ⟨xs, i, x, h1, h2, h3, h4, h5, h6⟩
  · exact .inl h
  · exact .inr ⟨xs, i, x, h1, h2, h3.same s, h4, fun j y hj hy => ⟨(h5 j y hj hy).1.same s, (h5 j y hj hy).2⟩, h6⟩
section
variable {P : Program} {w : World} {K : PySem.W.Frag} {mg : Str → Option Value} {base : Heap}
def RowS (K : PySem.W.Frag) (Cm C : Addr) (G : Hp → Nat → List (List Nat) → List Nat → VK → Prop) : Sp := fun vs H Q E => ∃ (x : Addr) (v : V) (n : Nat) (cs : List (List Nat)), vs = [.ref x, v] ∧ Mc K Cm H x n cs ∧
  ((∃ rw_ : List Nat, SqV K H v (some (vi rw_)) ∧ (∀ k ∈ rw_, k < cs.length) ∧ G H n cs rw_ Q) ∨ ∃ (ms : Option (List V)) (at_ : Int), SqV K H v ms ∧ RowB K H (cs.length : Int) ms at_ ∧ BadN C at_ H E)
def spCkR2 (K : PySem.W.Frag) (Cm C : Addr) : Sp := RowS K Cm C fun H _ _ rw_ Q => ∀ (t : Addr) (H' : Hp), Same H H' → H' t = some (.tup (vi rw_)) → Q (.ref t) H'
def spCh2 (K : PySem.W.Frag) (Cm C : Addr) : Sp := RowS K Cm C fun H n cs rw_ Q => n ≤ 16 ∧ ∀ (t : Addr) (H' : Hp), Same H H' → H' t = some (.tup (vi ((List.range n).map (ends cs rw_)))) → Q (.ref t) H'
/-- the machine that is made stands -/
theorem Mc.of {K : PySem.W.Frag} {Cm x dx t : Addr} {ts : List Addr} {H : Hp} {n : Nat} {cs : List (List Nat)} (cl : Cls K Cm) (na1 : NoAttr K Cm "commands") (na2 : NoAttr K Cm "states") (na3 : NoAttr K Cm "steps") (h : MkO Cm x dx t ts (cs.length : Int) ((List.range n).map (row cs)) H) (hc : ∀ c ∈ cs, Chg n c) : Mc K Cm H x n cs := by
  obtain ⟨h1, h2, h3, h4⟩ := h
  rw [List.length_map, List.length_range] at h1 h3
  refine ⟨cl, na1, na2, na3, ⟨dx, t, ts, h1, h2, h3, fun s b hs => ?_⟩, hc⟩
  obtain ⟨ro, h5, h6⟩ := h4 s b hs
  have sn : s < n := by have := (List.getElem?_eq_some_iff.mp hs).1; omega
  rw [List.getElem?_map, List.getElem?_range sn] at h5
  rw [h6, ← Option.some.inj h5]
end
end KV

/-! == and != by a class's own __eq__ -/
namespace HE
open PySem PySem.Spec PyProof.Rows
section
variable {M : Model} {prog : Program} {w : World} {A : Around} {E : Value → Shared → Prop} {s : Shared} {K : PySem.W.Frag} {x C f : Addr} {ox : Obj} {od : Option Obj} {b tb : Value}
theorem ifBound_ne {args : List Value} {Q : Option Value → Shared → Prop} (Y : K.In s.heap) (I : PySem.W.InstAt s.heap x ox C od) (hs : PySem.W.findIn K (.ref C) "__ne__" = some (some (.builtin "object.__ne__")))
    (h : wpAny M A (call (.builtin "object.__ne__") (.ref x :: args)) (fun v => Q (some v)) E s) : wpAny M A (callSpecialIfBound? (.ref x) "__ne__" args) Q E s := by
  simp only [callSpecialIfBound?, bindSpecialIfBound?]
  refine wpAny_holding (wpAny_bind (wpAny_bind (wpAny_bind (I.type.here ((PySem.W.looks_findIn Y hs).here ?_)))))
  refine wpAny_bind (wpAny_askSetting (wpAny_ite ?_))
  have last : wpAny M A (call (.builtin "object.__ne__") ([.ref x] ++ args) >>= fun v => pure (some v)) Q E s := wpAny_bind (wpAny_mono h (fun v s' h' => wpAny_pure h') fun _ _ h' => h')
  split
  · exact wpAny_bind (wpAny_of_eq (F.cmp_object.ne.bind _) (wpAny_pure (by exact last)))
  · exact wpAny_tryCatch (wpAny_bind (wpAny_of_eq (F.cmp_object.ne.bind _) (wpAny_pure (by exact last))))
open Builtin in
theorem call_ne {Q : Value → Shared → Prop} (hu : A.in1.units < cLine) (Y : K.In s.heap) (I : PySem.W.InstAt s.heap x ox C od) (hm : PySem.W.mroIn K C (.type "object") = some true)
    (hs : PySem.W.findIn K (.ref C) "__eq__" = some (some (.ref f))) (hf : PySem.W.isFn K (.ref f) = true) (h : wpAny (model prog w) A.in1 (call (.ref f) [.ref x, b]) (fun v s' => ∃ r, v = .bool r ∧ Q (.bool (!r)) s') E s) :
    wpAny (model prog w) A (call (.builtin "object.__ne__") [.ref x, b]) Q E s := by
  refine wpAny_call (codeAny_call_builtin F.cmp_object.ne.plain F.cmpEntry_ne (PySem.W.check_slot F.cmpKind_ne F.cmpSplit_ne (I.type.andThen (PySem.W.looks_mroIn Y hm)) (F.cmpArgs_ne _ _) ?_))
  unfold Builtin.«object.__ne__»
  refine wpAny_bind (m := slotArgs "__ne__" 1 _) (wpAny_pure ?_)
  refine wpAny_bind (m := cRoomFor _ _) (wpAny_cRoomFor hu ?_)
  refine wpAny_bind (m := callSpecialIfBound? (.ref x) (Str.ofString "__eq__") _) (PySem.W.ifBound_K Y I hs hf (wpAny_mono h (fun r s' hq => ?_) fun _ _ y => y))
  obtain ⟨c, rfl, q⟩ := hq
  exact wpAny_bind (wpAny_truthy_bool (wpAny_pure q))
/-- x != b by the own __eq__ -/
theorem rc_ne {Q : Value → Shared → Prop} (hu : A.units < cLine) (hu1 : A.in1.units < cLine) (Y : K.In s.heap) (I : PySem.W.InstAt s.heap x ox C od) (hb : PySem.W.Looks (model prog w) s.heap (typeOf b) tb) (hn : PySem.W.notFirst K C tb = true) (hm : PySem.W.mroIn K C (.type "object") = some true)
    (hne : PySem.W.findIn K (.ref C) "__ne__" = some (some (.builtin "object.__ne__"))) (hs : PySem.W.findIn K (.ref C) "__eq__" = some (some (.ref f))) (hf : PySem.W.isFn K (.ref f) = true)
    (h : wpAny (model prog w) A.in1 (call (.ref f) [.ref x, b]) (fun v s' => ∃ r, v = .bool r ∧ Q (.bool (!r)) s') E s) : wpAny (model prog w) A (richCompare .NotEq (.ref x) b) Q E s := by
  have one : wpAny (model prog w) A (tryCompare (.ref x) "__ne__" b) (fun r s' => ∃ v, r = some v ∧ Q v s') E s := by
    unfold tryCompare
    refine wpAny_bind (ifBound_ne Y I hne (call_ne hu1 Y I hm hs hf (wpAny_mono h (fun v s' hv => ?_) fun _ _ e => e)))
    obtain ⟨r, rfl, q⟩ := hv
    exact ⟨r, rfl, wpAny_pure ⟨_, rfl, q⟩⟩
  unfold richCompare
  simp only [oneThing_ref]
  refine wpAny_holding (wpAny_bind (wpAny_cRoomFor hu ?_))
  refine wpAny_bind (I.type.here (wpAny_bind (hb.here ?_)))
  split
  · rename_i q
    have e : PySem.W.subIn K tb (.ref C) = some false := by
      rcases Bool.or_eq_true_iff.mp hn with e | e
      · rw [beq_iff_eq.mp e] at q; simp at q
      · exact beq_iff_eq.mp e
    refine wpAny_bind ((PySem.W.looks_subIn Y e).here ?_)
    simp only [Bool.false_eq_true, if_false]
    refine wpAny_bind (wpAny_mono one (fun r s' z => ?_) fun _ _ e => e)
    obtain ⟨v, rfl, hq⟩ := z
    exact wpAny_pure hq
  · refine wpAny_bind (wpAny_pure ?_)
    simp only [Bool.false_eq_true, if_false]
    refine wpAny_bind (wpAny_mono one (fun r s' z => ?_) fun _ _ e => e)
    obtain ⟨v, rfl, hq⟩ := z
    exact wpAny_pure hq
end
end HE
namespace KV
open PySem PySem.Spec PyProof.Rows L2
/-- what is asked of the right hand's kind -/
inductive TyE (K : PySem.W.Frag) (H : Hp) : V → Value → Prop
  | str (z : Str) : TyE K H (.str z) (.type "str")
  | tup {a : Addr} {xs : List V} (e : H a = some (.tup xs)) : TyE K H (.ref a) (.type "tuple")
  | ins {a C dx : Addr} {fs : List (Str × V)} (e : H a = some (.ins C dx fs)) : TyE K H (.ref a) (.ref C)
theorem TyE.looks {X : Cx} {pins : List (Addr × Obj)} {σ : L2.St} {H : Hp} {s : Shared} (I : Inv X pins σ H s) {y : V} {u t : Value} (ry : RelV y u) (h : TyE X.K H y t) : PySem.W.Looks (model X.prog X.w) s.heap (typeOf u) t := by
  cases h with
  | str z =>
    obtain ⟨k, rfl⟩ := (show ∃ t, u = Value.str z t from ry)
    exact PySem.W.Looks.of_pure rfl
  | @tup a xs ea =>
    obtain rfl : u = Value.ref a := ry
    obtain ⟨_, _, _, p⟩ := (show ObjOk X.prog X.w H s.heap a (.tup xs) from I.hok a _ ea)
    obtain ⟨o, h1, h2, _⟩ := p
    exact fun A Q E s k q => wpAny_typeOf_ref (k _ _ h1) (by rw [h2]; exact q)
  | @ins a C dx fs ea =>
    obtain rfl : u = Value.ref a := ry
    obtain ⟨mA, J, _⟩ := ins_get I.hok ea
    obtain ⟨od, J, _⟩ := J.look
    exact J.type
/-- a class with its own == -/
structure OwnE (P : Program) (w : World) (K : PySem.W.Frag) (mg : Str → Option Value) (base : Heap) (n : Nat) (C f : Addr) (fd : FuncData) (ps : List Str) (sp : Sp) : Prop where
  F : FnOk P w K mg base CX0 n f fd ps sp
  hs : PySem.W.findIn K (.ref C) "__eq__" = some (some (.ref f))
  hf : PySem.W.isFn K (.ref f) = true
  hb : Binds K fd ps []
  hm : PySem.W.mroIn K C (.type "object") = some true
  hne : PySem.W.findIn K (.ref C) "__ne__" = some (some (.builtin "object.__ne__"))
section
variable {X : Cx} {n : Nat} {C f : Addr} {fd : FuncData} {ps : List Str} {sp : Sp}
theorem run_own (O : OwnE X.prog X.w X.K X.mg X.base n C f fd ps sp) {A : Around} (sb : Sub X n A) {pins : List (Addr × Obj)} {s : Shared} {σ : L2.St} {H : Hp} {a : Addr} {y : V} {v : Value} (I : Inv X pins σ H s) (ry : RelV y v) {R : Bool → Hp → Prop}
    (h : sp [.ref a, y] H (fun z H' => ∃ b, z = .bl b ∧ R b H') fun _ _ _ => False) : wpAny (model X.prog X.w) A (call (.ref f) [.ref a, v]) (fun r s' => ∃ b, r = .bool b ∧ ∃ H', Inv X pins σ H' s' ∧ R b H') X.xe s := by
  have e0 : Env0 X.prog X.w X.K X.mg X.base A X.stack s H := by
    have e := I.env0
    exact ⟨by rw [sb.fr]; exact e.frames, e.mod, e.bs, e.bsz, e.funs, e.frf, e.hok, e.bare⟩
  have hl := O.F.len _ _ _ _ h
  have r2 : Vals [V.ref a, y] [Value.ref a, v] := .cons rfl (.cons ry .nil)
  refine wpAny_call (codeAny_mono (O.F.run A X.stack s H ⟨[.ref a, v], []⟩ [.ref a, v] [.ref a, y] _ _ sb.room e0 (by
    have := O.hb s [.ref a, v] I.kIn (by simpa using hl)
    simpa using this) r2 h) fun r s' hq => ?_)
  cases r with
  | error e => exact (show False from hq).elim
  | ok fl =>
    cases fl with
    | ret w =>
      obtain ⟨z, H', I', rz, b, ez, q⟩ := I.after hq
      subst ez
      cases rz
      exact ⟨b, rfl, H', I', q⟩
    | next => exact False.elim hq
    | brk => exact False.elim hq
    | cont => exact False.elim hq
/-- x == y, x != y, x an instance of the class -/
def rOwn (K : PySem.W.Frag) (C : Addr) (sp : Sp) (no : Bool) : R2 := fun x y H Q => ∃ (a dx : Addr) (fs : List (Str × V)) (t : Value), x = .ref a ∧ H a = some (.ins C dx fs) ∧ TyE K H y t ∧ PySem.W.notFirst K C t = true ∧ sp [.ref a, y] H (fun z H' => ∃ b, z = .bl b ∧ Q (.bl (b ^^ no)) H') fun _ _ _ => False
theorem op_eqO (O : OwnE X.prog X.w X.K X.mg X.base n C f fd ps sp) (hr : Room n X.A) : OpR X (compareOp .Eq) (rOwn X.K C sp false) := by
  intro pins s σ H x y v u Q I rx ry hq
  obtain ⟨a, dx, fs, t, rfl, ha, ty, nf, h⟩ := hq
  obtain rfl : v = Value.ref a := rx
  obtain ⟨mA, J, _⟩ := ins_get I.hok ha
  obtain ⟨od, J, _⟩ := J.look
  obtain ⟨m, hF⟩ := I.fr
  show wpAny (model X.prog X.w) X.A (richCompare .Eq (.ref a) u) (EP X pins σ Q) X.xe s
  refine PySem.W.cmp_K (op := .Eq) hr.units0 hF I.ok.mod.kin J (ty.looks I ry) nf O.hs O.hf ?_
  refine wpAny_mono (run_own O ⟨hr, rfl⟩ I ry h) (fun r s' z => ?_) fun _ _ z => z
  obtain ⟨b, rfl, H', I', q⟩ := z
  rw [Bool.xor_false] at q
  exact ⟨.bl b, H', I', rfl, q⟩
theorem op_neO (O : OwnE X.prog X.w X.K X.mg X.base n C f fd ps sp) (hr : Room (n + 1) X.A) : OpR X (compareOp .NotEq) (rOwn X.K C sp true) := by
  intro pins s σ H x y v u Q I rx ry hq
  obtain ⟨a, dx, fs, t, rfl, ha, ty, nf, h⟩ := hq
  obtain rfl : v = Value.ref a := rx
  obtain ⟨mA, J, _⟩ := ins_get I.hok ha
  obtain ⟨od, J, _⟩ := J.look
  show wpAny (model X.prog X.w) X.A (richCompare .NotEq (.ref a) u) (EP X pins σ Q) X.xe s
  refine HE.rc_ne hr.units0 hr.in1.units0 I.kIn J (ty.looks I ry) nf O.hm O.hne O.hs O.hf ?_
  refine wpAny_mono (run_own O (Sub.in1 ⟨hr, rfl⟩) I ry h) (fun r s' z => ?_) fun _ _ z => z
  obtain ⟨b, rfl, H', I', q⟩ := z
  rw [Bool.xor_true] at q
  exact ⟨b, rfl, .bl (!b), H', I', rfl, q⟩
end
end KV

/-! the class of machines: its facts, its == -/
namespace KV
open PySem PySem.Spec PyProof.Rows L2 KC He
/-- what the written part tells of the class -/
structure MF (K : PySem.W.Frag) (Cm fI fE : Addr) : Prop where
  cl : Cls K Cm
  na1 : NoAttr K Cm "commands"
  na2 : NoAttr K Cm "states"
  na3 : NoAttr K Cm "steps"
  mkr : Mk K Cm fI
  ha : PySem.W.findIn K (.ref Cm) "__class__" = some (some (.builtin "object.__class__"))
  hn : PySem.W.specialIn K (.builtin "object.__class__") "__get__" = some (some (.builtin "getset_descriptor.__get__"))
  htk : PySem.W.takesIn K (.builtin "object.__class__") = some true
  hm : PySem.W.mroIn K Cm (.type "object") = some true
  kM : PySem.W.kitOne K (.ref Cm) (.ref Cm) = some true
  kS : PySem.W.kitOne K (.type "str") (.ref Cm) = some false
  kT : PySem.W.kitOne K (.type "tuple") (.ref Cm) = some false
  eq : PySem.W.findIn K (.ref Cm) "__eq__" = some (some (.ref fE))
  eqf : PySem.W.isFn K (.ref fE) = true
  ne : PySem.W.findIn K (.ref Cm) "__ne__" = some (some (.builtin "object.__ne__"))
  fS : PySem.W.notFirst K Cm (.type "str") = true
  fT : PySem.W.notFirst K Cm (.type "tuple") = true
  fM : PySem.W.notFirst K Cm (.ref Cm) = true
def machB (K : PySem.W.Frag) (x : Str) : Bool :=
  PySem.W.plainGet K (ga K x) Str.empty && (PySem.W.hasDictIn K (ga K x) && (PySem.W.plainOver K (ga K x) && (He.eqO (PySem.W.findIn K (.ref (ga K x)) "__setattr__") (some (some (.builtin "object.__setattr__"))) &&
  (He.eqO (PySem.W.findIn K (.ref (ga K x)) "commands") (some none) && (He.eqO (PySem.W.findIn K (.ref (ga K x)) "states") (some none) && (He.eqO (PySem.W.findIn K (.ref (ga K x)) "steps") (some none) &&
  (PySem.W.makesIn K (ga K x) && (He.eqO (PySem.W.findIn K (.ref (ga K x)) "__init__") (some (some (.ref (ma K (ga K x) "__init__")))) && (PySem.W.isFn K (.ref (ma K (ga K x) "__init__")) && (PySem.W.keepIn K (.ref (ga K x)) &&
  (He.eqO (PySem.W.findIn K (.ref (ga K x)) "__class__") (some (some (.builtin "object.__class__"))) && (He.eqO (PySem.W.specialIn K (.builtin "object.__class__") "__get__") (some (some (.builtin "getset_descriptor.__get__"))) && (decide (PySem.W.takesIn K (.builtin "object.__class__") = some true) && (decide (PySem.W.mroIn K (ga K x) (.type "object") = some true) &&
  (decide (PySem.W.kitOne K (.ref (ga K x)) (.ref (ga K x)) = some true) && (decide (PySem.W.kitOne K (.type "str") (.ref (ga K x)) = some false) && (decide (PySem.W.kitOne K (.type "tuple") (.ref (ga K x)) = some false) &&
  (He.eqO (PySem.W.findIn K (.ref (ga K x)) "__eq__") (some (some (.ref (ma K (ga K x) "__eq__")))) && (PySem.W.isFn K (.ref (ma K (ga K x) "__eq__")) && (He.eqO (PySem.W.findIn K (.ref (ga K x)) "__ne__") (some (some (.builtin "object.__ne__"))) && (PySem.W.notFirst K (ga K x) (.type "str") && (PySem.W.notFirst K (ga K x) (.type "tuple") && PySem.W.notFirst K (ga K x) (.ref (ga K x))))))))))))))))))))))))
theorem machB_ok {K : PySem.W.Frag} {x : Str} (b : machB K x = true) : MF K (ga K x) (ma K (ga K x) "__init__") (ma K (ga K x) "__eq__") := by
  obtain ⟨b1, b⟩ := He.ba b
  obtain ⟨b2, b⟩ := He.ba b
  obtain ⟨b3, b⟩ := He.ba b
  obtain ⟨b4, b⟩ := He.ba b
  obtain ⟨b5, b⟩ := He.ba b
  obtain ⟨b6, b⟩ := He.ba b
  obtain ⟨b7, b⟩ := He.ba b
  obtain ⟨b8, b⟩ := He.ba b
  obtain ⟨b9, b⟩ := He.ba b
  obtain ⟨b10, b⟩ := He.ba b
  obtain ⟨b11, b⟩ := He.ba b
  obtain ⟨b12, b⟩ := He.ba b
  obtain ⟨b13, b⟩ := He.ba b
  obtain ⟨b14, b⟩ := He.ba b
  obtain ⟨b15, b⟩ := He.ba b
  obtain ⟨b16, b⟩ := He.ba b
  obtain ⟨b17, b⟩ := He.ba b
  obtain ⟨b18, b⟩ := He.ba b
  obtain ⟨b19, b⟩ := He.ba b
  obtain ⟨b20, b⟩ := He.ba b
  obtain ⟨b21, b⟩ := He.ba b
  obtain ⟨b22, b⟩ := He.ba b
  obtain ⟨b23, b24⟩ := He.ba b
  exact ⟨⟨b1, b2, b3, He.eqO_ok b4⟩, He.eqO_ok b5, He.eqO_ok b6, He.eqO_ok b7, ⟨b8, He.eqO_ok b9, b10, b11⟩, He.eqO_ok b12, He.eqO_ok b13, of_decide_eq_true b14, of_decide_eq_true b15, of_decide_eq_true b16, of_decide_eq_true b17, of_decide_eq_true b18, He.eqO_ok b19, b20, He.eqO_ok b21, b22, b23, b24⟩
/-- a machine, by its lines -/
def MkS (Cm x : Addr) (m : Int) (rows : List (List Nat)) (H : Hp) : Prop := ∃ (dx t : Addr) (ts : List Addr), MkO Cm x dx t ts m rows H
theorem MkS.same {Cm x : Addr} {m : Int} {rows : List (List Nat)} {H H' : Hp} (s : Same H H') (h : MkS Cm x m rows H) : MkS Cm x m rows H' := by
  obtain ⟨dx, t, ts, h1, h2, h3, h4⟩ := h
  exact ⟨dx, t, ts, s _ _ h1, s _ _ h2, h3, fun i b hb => by obtain ⟨ro, a, c⟩ := h4 i b hb; exact ⟨ro, a, s _ _ c⟩⟩
def rowsD (rows : List (List Nat)) : List PyData := rows.map fun ro => .tuple ((zi ro).map PyData.int)
theorem eqv_rows : ∀ a b : List (List Nat), PyData.eqvAll (rowsD a) (rowsD b) = decide (a = b)
  | [], [] => rfl
  | [], _ :: _ => rfl
  | _ :: _, [] => rfl
  | n :: r, m :: s => by
    show (PyData.eqvAll ((zi n).map PyData.int) ((zi m).map PyData.int) && PyData.eqvAll (rowsD r) (rowsD s)) = _
    rw [eqv_rows r s, eqv_ints]
    rw [Bool.eq_iff_iff, Bool.and_eq_true, decide_eq_true_eq, decide_eq_true_eq, decide_eq_true_eq, List.cons.injEq, zi_inj]
theorem lay_rows : ∀ a : List (List Nat), PyData.canLayAll0 (rowsD a) = true
  | [] => rfl
  | n :: r => by
    have h := shaped_intsT (zi n)
    unfold SeqAt.shaped at h
    rw [Bool.and_eq_true] at h
    show (PyData.canLayAll0 ((zi n).map PyData.int) && PyData.canLayAll0 (rowsD r)) = true
    rw [lay_rows r, Bool.and_true]
    exact h.1
theorem depthI : ∀ ns : List Int, PyData.depthAll (ns.map PyData.int) = 0
  | [] => rfl
  | n :: r => by
    simp only [List.map_cons, PyData.depthAll, PyData.depth]
    rw [depthI r]
    rfl
theorem depth_rows : ∀ a : List (List Nat), PyData.depthAll (rowsD a) ≤ 3
  | [] => by decide
  | n :: r => by
    have h2 := depth_rows r
    show max (PyData.depth (.tuple ((zi n).map PyData.int))) (PyData.depthAll (rowsD r)) ≤ 3
    simp only [PyData.depth, depthI]
    omega
theorem shaped_rows (a : List (List Nat)) : SeqAt.shaped (.tuple (rowsD a)) = true := by
  have h := depth_rows a
  show (PyData.canLayAll0 (rowsD a) && decide (PyData.depth (.tuple (rowsD a)) ≤ 64)) = true
  rw [lay_rows, Bool.true_and, decide_eq_true_eq]
  simp only [PyData.depth]
  omega
theorem dp_rows {K : PySem.W.Frag} {H : Hp} : ∀ {ts : List Addr} {rows : List (List Nat)}, ts.length = rows.length → (∀ (s : Nat) (b : Addr), ts[s]? = some b → ∃ ro, rows[s]? = some ro ∧ H b = some (.tup (vi ro))) → DpAll K H (ts.map V.ref) (rowsD rows)
  | [], [], _, _ => .nil
  | t :: ts, ro :: rows, l, h => by
    obtain ⟨r2, e1, e2⟩ := h 0 t rfl
    cases e1
    exact .cons (dpT e2) (dp_rows (Nat.succ.inj l) fun s b hb => h (s + 1) b hb)
  | [], _ :: _, l, _ => by cases l
  | _ :: _, [], l, _ => by cases l
section
variable {P : Program} {w : World} {K : PySem.W.Frag} {mg : Str → Option Value} {base : Heap} {Cm fI fE : Addr}
/-- what the own == tells -/
def spMEq (K : PySem.W.Frag) (Cm : Addr) : Sp := fun vs H Q _ => ∃ (a : Addr) (y : V) (m : Int) (rows : List (List Nat)), vs = [.ref a, y] ∧ MkS Cm a m rows H ∧
  ((∃ (b : Addr) (m2 : Int) (rows2 : List (List Nat)), y = .ref b ∧ MkS Cm b m2 rows2 H ∧ Q (.bl (decide (m = m2) && decide (rows = rows2))) H) ∨
    (((∃ z : Str, y = .str z) ∨ ∃ (b : Addr) (xs : List V), y = .ref b ∧ H b = some (.tup xs)) ∧ Q (.bl false) H))
theorem sk9e : FnScope ["self", "other"] ["self", "other"] (defScope (mth 12 1)) := ⟨rfl, rfl, rfl, by decide +kernel, rfl, by decide +kernel, by decide +kernel⟩
theorem ok_meq {f : Addr} {fd : FuncData} (B : Bl mg) (M : MF K Cm fI fE) (gM : mg "Machine" = some (.ref Cm)) (F : Fun K "__eq__" "Machine.__eq__" (mth 12 1) f fd) : FnOk P w K mg base CX0 1 f fd ["self", "other"] (spMEq K Cm) := by
  refine F.ok sk9e (fun vs H Q E h => ?_) (fun cdv A outer s H vs Q E hr h => ⟨_,
    (pss_one (ps_ret (pe_and (pe_callB call_isi (by rfl) B.isi (by decide +kernel) (pa_cons (pv 1) (pa_cons (pe_glob (v := .ref Cm) (by rfl) gM rfl) pa_nil)))
      (pe_and (pe_cmpR op_eq (pe_fld (pv 0) (by rfl)) (pe_fld (pv 1) (by rfl)) (nomark _)) (pe_one (pe_cmpR (op_eqD hr.units) (pe_fld (pv 0) (by rfl)) (pe_fld (pv 1) (by rfl)) (nomark _))))))), ?_⟩)
  · obtain ⟨a, y, m, rows, rfl, _⟩ := h
    rfl
  obtain ⟨a, y, m, rows, rfl, hA, h⟩ := h
  rcases h with ⟨b, m2, rows2, rfl, hB, q⟩ | ⟨hy, q⟩
  · obtain ⟨dx, t, ts, h1, h2, h3, h4⟩ := hA
    obtain ⟨dy, u, us, g1, g2, g3, g4⟩ := hB
    have lk1 : ∀ (t : Addr) (n : Nat) (m : Int), (putF "steps" (V.ref t) (putF "states" (V.int n) (putF "commands" (V.int m) []))).lookup ("commands" : Str) = some (V.int m) := fun t n m => by
      rw [lookup_putF, if_neg (by decide), lookup_putF, if_neg (by decide), lookup_putF, if_pos rfl]
    have lk2 : ∀ (t : Addr) (n : Nat) (m : Int), (putF "steps" (V.ref t) (putF "states" (V.int n) (putF "commands" (V.int m) []))).lookup ("steps" : Str) = some (V.ref t) := fun t n m => by
      rw [lookup_putF, if_pos rfl]
    refine ⟨_, rfl, .ref b, .ref Cm, .ref Cm, _, _, rfl, .own Cm, .base (.ins g1 M.cl M.ha M.hn M.htk M.hm), M.kM, true, rfl, iteT ?_⟩
    refine ⟨_, rfl, a, Cm, dx, _, _, rfl, h1, M.cl, M.na1, lk1 _ _ _, _, rfl, b, Cm, dy, _, _, rfl, g1, M.cl, M.na1, lk1 _ _ _, rfl, _, rfl, ?_⟩
    by_cases em : m = m2
    · subst em
      refine iteP (decide_eq_true rfl) ⟨_, rfl, a, Cm, dx, _, _, rfl, h1, M.cl, M.na3, lk2 _ _ _, _, rfl, b, Cm, dy, _, _, rfl, g1, M.cl, M.na3, lk2 _ _ _, _, _, .tup (SqT.of h2) (dp_rows h3 h4), .tup (SqT.of g2) (dp_rows g3 g4), shaped_rows _, shaped_rows _, ?_⟩
      have z : PyData.eqv (.tuple (rowsD rows)) (.tuple (rowsD rows2)) = decide (rows = rows2) := eqv_rows rows rows2
      rw [z]
      rw [decide_eq_true rfl, Bool.true_and] at q
      exact q
    · rw [decide_eq_false em, Bool.false_and] at q
      have e : decide (V.int m = V.int m2) = false := decide_eq_false (fun z => em (V.int.inj z))
      rw [e]
      exact iteF q
  · rcases hy with ⟨z, rfl⟩ | ⟨b, xs, rfl, hb⟩
    · exact ⟨_, rfl, .str z, .ref Cm, .type "str", _, _, rfl, .own Cm, .base (.str z), M.kS, false, rfl, iteF q⟩
    · exact ⟨_, rfl, .ref b, .ref Cm, .type "tuple", _, _, rfl, .own Cm, .base (.tup hb), M.kT, false, rfl, iteF q⟩
theorem ownE_of {f : Addr} {fd : FuncData} (M : MF K Cm fI f) (h : FnOk P w K mg base CX0 1 f fd ["self", "other"] (spMEq K Cm)) (hb : L2.Binds K fd ["self", "other"] []) : OwnE P w K mg base 1 Cm f fd ["self", "other"] (spMEq K Cm) := ⟨h, M.eq, M.eqf, hb, M.hm, M.ne⟩
end
end KV

/-! an instance of an own class made, by places or by names; what __init__ raises passes on -/
namespace KV
open PySem PySem.Spec PyProof.Rows L2
section
variable {X : Cx} {CX : CXT} {k : Nat} {C f : Addr} {fd : FuncData} {ps ks : List Str} {sp : Sp} {E : L2.St → XK} {x : Str} {p pos : Pos} {e : Expr} {es : List Expr} {kws : List Keyword} {t tk : TA}
theorem run_mkS {pins : List (Addr × Obj)} {σ : L2.St} {H : Hp} {s : Shared} {Q : VK} {E0 : XK} {us : List Value} {kw : List (Str × Value)} {all : Value → List Value} {vall : V → List V} (M : Mk X.K C f) (F : FnOk X.prog X.w X.K X.mg X.base CX k f fd ps sp) (hr : Room (k + 1) X.A)
    (hb : ∀ (z : Shared) (self : Value), X.K.In z.heap → BindsTo z fd ⟨self :: us, kw⟩ (ps.zip (all self))) (hv : ∀ a : Addr, Vals (vall (.ref a)) (all (.ref a))) (hx : PassesAt CX X σ E0) (I : Inv X pins σ H s)
    (h : ∀ a da, H a = none → H da = none → da ≠ a → sp (vall (.ref a)) (upd (upd H da (.own a)) a (.ins C da [])) (fun v H2 => v = .non ∧ Q (.ref a) H2) E0) :
    wpAny (model X.prog X.w) X.A (call (.ref C) us kw) (EP X pins σ Q) X.xe s := by
  have n0 : H s.heap.objs.size = none := I.hok.fresh (Nat.le_refl _)
  have n1 : H (s.heap.objs.size + 1) = none := I.hok.fresh (Nat.le_succ _)
  have J := Inv.made (C := C) I
  have goal := F.run _ X.stack _ _ ⟨Value.ref (s.heap.objs.size + 1) :: us, kw⟩ (all (.ref (s.heap.objs.size + 1))) _ _ E0 (hr.make C us kw) (J.env0.make C us kw) (hb _ _ J.kIn) (hv _) (h _ _ n1 n0 (Nat.ne_of_lt (Nat.lt_succ_self _)))
  refine wpAny_call (make_map (f := f) I.kIn M.makes M.init (beq_iff_eq.mp M.fn) (codeAny_mono goal fun r s' hq => ?_))
  cases r with
  | error er => exact hx pins _ _ er s' J hq
  | ok fl =>
    cases fl with
    | ret u =>
      obtain ⟨v, H', I3, rv, rfl, q3⟩ := J.after hq
      exact ⟨rv, ⟨V.ref (s.heap.objs.size + 1), H', I3, rfl, q3⟩⟩
    | next => exact False.elim hq
    | brk => exact False.elim hq
    | cont => exact False.elim hq
/-- C(e, ..) -/
def tMk (C : Addr) (sp : Sp) (E : L2.St → XK) (t : TA) : TE := fun σ H Q => t σ H fun vs H1 => ∀ a da, H1 a = none → H1 da = none → da ≠ a → sp (.ref a :: vs) (upd (upd H1 da (.own a)) a (.ins C da [])) (fun v H2 => v = .non ∧ Q (.ref a) H2) (E σ)
theorem pe_mkS (M : Mk X.K C f) (F : FnOk X.prog X.w X.K X.mg X.base CX k f fd ps sp) (hr : Room (k + 1) X.A) (hm : X.mg x = some (.ref C)) (hb : Binds X.K fd ps []) (hx : ∀ σ, PassesAt CX X σ (E σ)) (ha : PA X (e :: es) t)
    (hg : Gl X x := by rfl) (hdb : (x == ("__debug__" : Str)) = false := by decide) (he : starEach (e :: es) X.env = (false, eval e X.env) :: starEach es X.env := by rfl) (hpl : (backTo pos (starEach es X.env)).any (·.1) = false := by rfl) :
    PE X (.Call (.Name x p) (e :: es) [] pos) (tMk C sp E t) := by
  constructor
  intro pins s σ H Q I h
  refine wpAny_Call_Name_kw (ld_glob I hg hm ?_ hdb)
  refine PySem.W.callWith_K (h₀ := X.base) I.ok.mod.kin M.kp (thn (ha.run pos pins s σ H _ I h) fun us s1 ⟨vs, H1, I1, r, q⟩ => ⟨I1.kIn, ?_⟩) he hpl
  have l : vs.length + 1 = ps.length := F.len _ _ _ _ (q (s1.heap.objs.size + 1) s1.heap.objs.size (I1.hok.fresh (Nat.le_succ _)) (I1.hok.fresh (Nat.le_refl _)) (Nat.ne_of_lt (Nat.lt_succ_self _)))
  refine run_mkS (kw := []) (all := fun v => v :: us) (vall := fun v => v :: vs) M F hr (fun z self hz => ?_) (fun a => .cons rfl r) (hx σ) I1 q
  have := hb z (self :: us) hz (by rw [List.append_nil, List.length_cons, ← r.length]; exact l)
  rwa [List.append_nil] at this
/-- C(name = e, ..) -/
def tMkK (C : Addr) (m : Nat) (sp : Sp) (g : V → List V → List V) (E : L2.St → XK) (tk : TA) : TE := fun σ H Q => tk σ H fun zs H1 => zs.length = m ∧ ∀ a da, H1 a = none → H1 da = none → da ≠ a → sp (g (.ref a) zs) (upd (upd H1 da (.own a)) a (.ins C da [])) (fun v H2 => v = .non ∧ Q (.ref a) H2) (E σ)
theorem pe_mkSK {g : {α : Type} → α → List α → List α} (M : Mk X.K C f) (F : FnOk X.prog X.w X.K X.mg X.base CX k f fd ps sp) (hr : Room (k + 1) X.A) (hm : X.mg x = some (.ref C))
    (hb : ∀ (z : Shared) (self : Value) (ws : List Value), X.K.In z.heap → ws.length = ks.length → BindsTo z fd ⟨[self], ks.zip ws⟩ (ps.zip (g self ws))) (hrel : ∀ {v : V} {u : Value} {zs : List V} {ws : List Value}, RelV v u → Vals zs ws → zs.length = ks.length → Vals (g v zs) (g u ws)) (hx : ∀ σ, PassesAt CX X σ (E σ)) (hkw : PK X kws tk)
    (hg : Gl X x := by rfl) (hall : (backToKw pos (keywordEach kws X.env)).all (·.1.isSome) = true := by rfl) (hks : (backToKw pos (keywordEach kws X.env)).filterMap (·.1) = ks := by rfl) (hdb : (x == ("__debug__" : Str)) = false := by decide)
    (hpl : ((backTo pos (starEach [] X.env)).any (·.1) || (backToKw pos (keywordEach kws X.env)).any (·.1.isNone)) = false := by rfl) :
    PE X (.Call (.Name x p) [] kws pos) (tMkK C ks.length sp (fun v zs => g v zs) E tk) := by
  constructor
  intro pins s σ H Q I h
  refine wpAny_Call_Name_kw (ld_glob I hg hm ?_ hdb)
  refine PySem.W.callWith_KW0 (h₀ := X.base) I.ok.mod.kin M.kp hall ?_ hpl
  refine thn (hkw.run pos pins s σ H _ I h) fun ws s1 ⟨zs, H1, I1, rz, l, q⟩ => ⟨I1.kIn, ?_⟩
  rw [hks]
  exact run_mkS (us := []) (kw := ks.zip ws) (all := fun v => g v ws) (vall := fun v => g v zs) M F hr (fun z self hz => hb z self ws hz (by rw [← rz.length, l])) (fun a => hrel (v := .ref a) rfl rz l) (hx σ) I1 q
end
end KV

/-! calls by keywords alone; asked -/
namespace KV
open PySem PySem.Spec PyProof.Rows L2 KC
def rv {α : Type} (b : Bool) (l : List α) : List α := if b = true then l.reverse else l
theorem vals_app : ∀ {vs zs : List V} {us ws : List Value}, Vals vs us → Vals zs ws → Vals (vs ++ zs) (us ++ ws)
  | [], _, _, _, .nil, k => k
  | _ :: _, _, _, _, .cons r h, k => .cons r (vals_app h k)
theorem vals_rev : ∀ {vs : List V} {us : List Value}, Vals vs us → Vals vs.reverse us.reverse
  | [], _, .nil => .nil
  | _ :: _, _, .cons r h => by
    rw [List.reverse_cons, List.reverse_cons]
    exact vals_app (vals_rev h) (.cons r .nil)
theorem vals_rv {b : Bool} {vs : List V} {us : List Value} (h : Vals vs us) : Vals (rv b vs) (rv b us) := by
  cases b with
  | false => exact h
  | true => exact vals_rev h
/-- how a call with keywords alone binds: the names ks stand in the parameters' order, or the other way round (b) -/
def KB (K : PySem.W.Frag) (fd : FuncData) (ps ks : List Str) (b : Bool) : Prop := ∀ (s : Shared) (ws : List Value), K.In s.heap → (rv b ws).length = ps.length → BindsTo s fd ⟨[], ks.zip ws⟩ (ps.zip (rv b ws))
theorem KB.mk {K : PySem.W.Frag} {x qual : Str} {st : Stmt} {f : Addr} {fd : FuncData} {ps ks : List Str} {b : Bool} (F : Fun K x qual st f fd)
    (h : ∀ (kV doc pm : Value) (an : Option Addr) (cdv ct : Value) (us : List Value), us.length = ps.length → bindArgs (PySem.W.fnOf x qual (defArgs st) (defBody st) (defScope st) .none kV doc pm an cdv ct) ⟨[], ks.zip us⟩ = pure (ps.zip (rv b us))) : KB K fd ps ks b := by
  obtain ⟨oc, od, kV, doc, pm, an, cdv, ct, osl, rfl, lk, hcd⟩ := F.ex
  intro s ws _ hl
  refine .of_eq (h kV doc pm an cdv ct ws ?_)
  cases b with
  | false => exact hl
  | true => exact (List.length_reverse (as := ws)).symm.trans hl
/-- a def of the module that may be called with keywords alone -/
def CalK (P : Program) (w : World) (K : PySem.W.Frag) (mg : Str → Option Value) (base : Heap) (Z : CXT) (k : Nat) (x : Str) (ps ks : List Str) (b : Bool) (sp : Sp) : Prop :=
  ∃ (f : Addr) (fd : FuncData), FnOk P w K mg base Z k f fd ps sp ∧ mg x = some (.ref f) ∧ PySem.W.keepIn K (.ref f) = true ∧ KB K fd ps ks b
section
variable {X : Cx} {Z : CXT} {k j : Nat} {f : Addr} {fd : FuncData} {x : Str} {ps ks : List Str} {b : Bool} {sp : Sp} {p pos : Pos} {kws : List Keyword} {tk : TA} {E : L2.St → XK}
theorem run_fnSK {pins : List (Addr × Obj)} {σ : L2.St} {H : Hp} {s : Shared} {Q : VK} {ws : List Value} {zs : List V} (F : FnOk X.prog X.w X.K X.mg X.base Z k f fd ps sp) (hr : Room k X.A) (hb : KB X.K fd ps ks b) (hx : PassesAt Z X σ (E σ))
    (I : L2.Inv X pins σ H s) (rz : Vals zs ws) (h : sp (rv b zs) H Q (E σ)) : wpAny (model X.prog X.w) X.A (call (.ref f) [] (ks.zip ws)) (EP X pins σ Q) X.xe s := by
  have r2 := vals_rv (b := b) rz
  have hl : (rv b ws).length = ps.length := by rw [← r2.length]; exact F.len _ _ _ _ h
  refine wpAny_call (codeAny_mono (F.run X.A X.stack s H ⟨[], ks.zip ws⟩ (rv b ws) (rv b zs) Q (E σ) hr I.env0 (hb s ws I.kIn hl) r2 h) fun r s' hq => ?_)
  cases r with
  | error e => exact hx pins H s e s' I hq
  | ok fl =>
    cases fl with
    | ret u => exact I.after hq
    | next => exact False.elim hq
    | brk => exact False.elim hq
    | cont => exact False.elim hq
def tCallSK (sp : Sp) (b : Bool) (E : L2.St → XK) (tk : TA) : TE := fun σ H Q => tk σ H fun zs H1 => sp (rv b zs) H1 Q (E σ)
theorem pe_calSK (C : CalK X.prog X.w X.K X.mg X.base Z k x ps ks b sp) (hr : Room j X.A) (hj : k ≤ j) (hx : ∀ σ, PassesAt Z X σ (E σ)) (hkw : PK X kws tk) (hg : Gl X x := by rfl)
    (hall : (backToKw pos (keywordEach kws X.env)).all (·.1.isSome) = true := by rfl) (hks : (backToKw pos (keywordEach kws X.env)).filterMap (·.1) = ks := by rfl)
    (hdb : (x == ("__debug__" : Str)) = false := by decide)
    (hpl : ((backTo pos (starEach [] X.env)).any (·.1) || (backToKw pos (keywordEach kws X.env)).any (·.1.isNone)) = false := by rfl) :
    PE X (.Call (.Name x p) [] kws pos) (tCallSK sp b E tk) := by
  obtain ⟨f, fd, F, hm, hk, hb⟩ := C
  refine ⟨fun pins s σ H Q I h => ?_⟩
  refine wpAny_Call_Name_kw (ld_glob I hg hm ?_ hdb)
  refine PySem.W.callWith_KW0 (first := []) (h₀ := X.base) I.ok.mod.kin hk hall (thn (hkw.run pos pins s σ H _ I h) fun ws s2 ⟨zs, H2, I2, rz, q2⟩ => ⟨I2.kIn, ?_⟩) hpl
  rw [hks]
  exact run_fnSK F (hr.mono hj) hb (hx σ) I2 rz q2
theorem pe_calS {e : Expr} {es : List Expr} {t : TA} (C : Cal X.prog X.w X.K X.mg X.base Z k x ps sp) (hr : Room j X.A) (hj : k ≤ j) (hx : ∀ σ, PassesAt Z X σ (E σ)) (ha : PA X (e :: es) t)
    (hg : Gl X x := by rfl) (hdb : (x == ("__debug__" : Str)) = false := by decide)
    (he : starEach (e :: es) X.env = (false, eval e X.env) :: starEach es X.env := by rfl)
    (hpl : (backTo pos (starEach es X.env)).any (·.1) = false := by rfl) :
    PE X (.Call (.Name x p) (e :: es) [] pos) (tCallS sp E t) := by
  obtain ⟨f, fd, F, h1, h2, h3⟩ := C
  exact pe_callS F (hr.mono hj) hg h1 h2 h3 hx ha hdb he hpl
end
theorem passL {X : Cx} (σ : L2.St) : PassesAt (L2.CX X.prog X.w) X σ E0 := fun _ _ _ _ _ _ ⟨_, _, _, _, _, _, _, _, _, _, _, _, h⟩ => h.elim
end KV
/-! the law's arithmetic -/
namespace KV
open PySem PySem.Spec PyProof.Rows L2 KC
theorem shownAll_ints : ∀ ns : List Int, PyData.shownAll (ns.map PyData.int) = ns.map fun n => Str.ofString (toString n)
  | [] => rfl
  | n :: r => by
    show (PyData.int n).shown :: PyData.shownAll (r.map PyData.int) = _
    rw [shownAll_ints r]
    rfl
theorem piled_le : ∀ ts : List Str, (∀ t ∈ ts, t.length ≤ 1921) → piled ts ≤ 1923 * ts.length
  | [], _ => Nat.le_refl _
  | t :: r, h => by
    have h1 := h t (by simp)
    have h2 := piled_le r fun x hx => h x (by simp [hx])
    rw [piled_cons, List.length_cons]
    omega
theorem shown_len {ns : List Int} (hb : ∀ n ∈ ns, n.natAbs.log2 < 1920) (hl : ns.length ≤ 1000) : (PyData.tuple (ns.map PyData.int)).shown.length ≤ sizeLine := by
  show (tupleText (PyData.shownAll (ns.map PyData.int))).length ≤ sizeLine
  rw [shownAll_ints]
  have hp := piled_le (ns.map fun n => Str.ofString (toString n)) fun t ht => by
    obtain ⟨n, hn, rfl⟩ := List.mem_map.mp ht
    exact int_text_len_1921 (hb n hn)
  rw [List.length_map] at hp
  have hj : (Str.join ", " (ns.map fun n => Str.ofString (toString n))).length ≤ 1923 * 1000 := by
    cases e : ns with
    | nil => show 0 ≤ _; omega
    | cons n r =>
      have := join_length_add (ns.map fun n => Str.ofString (toString n)) (by rw [e]; simp)
      rw [e] at this hp hl
      omega
  unfold tupleText
  rw [strLen_append, strLen_append]
  have e1 : (("(" : String) : Str).length = 1 := rfl
  have e2 : (((if ((ns.map fun n => Str.ofString (toString n)).length == 1) = true then ",)" else ")" : String)) : Str).length ≤ 2 := by
    split <;> decide
  have e3 : 1923 * 1000 + 3 ≤ sizeLine := by decide
  omega
theorem log_sm {k : Nat} {n : Int} (h : sm k n) (hk : k ≤ 1920) (h0 : 0 < k) : n.natAbs.log2 < 1920 := by
  by_cases z : n.natAbs = 0
  · rw [z]
    show Nat.log2 0 < 1920
    decide
  · exact Nat.lt_of_lt_of_le ((Nat.log2_lt z).mpr h) hk
end KV
/-! mathematics for the law -/
namespace KC
section
variable {n : Nat} {c : List Nat}
theorem und_of_comp {e : List Nat} (h : Chg n c) (le : e.length = n) (z : comp c e = tab n id) : Und n c e := by
  refine ⟨le, fun i hi => ?_⟩
  have l1 : c.getD i 0 < e.length := by rw [le]; exact h.at_lt hi
  rw [at_getD l1]
  have hi' : i < c.length := by rw [h.len]; exact hi
  have g := tab_get (n := n) (f := id) hi
  rw [← z] at g
  unfold comp at g
  rw [List.getElem?_map, at_getD hi'] at g
  exact g
theorem chg_perm {ms : List Nat} (h : ms.Perm (tab n id)) : Chg n ms := by
  have z : tab n id = List.range n := by unfold tab; simp
  rw [z] at h
  refine ⟨by rw [h.length_eq, List.length_range], fun x hx => List.mem_range.mp (h.mem_iff.mp hx), (h.nodup_iff).mpr List.nodup_range⟩
theorem tab_id_iff {m : Nat} : tab n (it c m) = tab n id ↔ ∀ i, i < n → it c m i = i :=
  ⟨fun e i hi => tab_inj e i hi, fun e => tab_congr fun i hi => e i hi⟩
end
end KC

/-! the law: a machine refused; a row asked -/
namespace KV
open PySem PySem.Spec PyProof.Rows L2 KC
theorem MkB.same {K : PySem.W.Frag} {H H' : Hp} (s : Same H H') {vc vst : V} {out : Option Int} (h : MkB K H vc vst out) : MkB K H' vc vst out := by
  have sq : ∀ {r : Addr} {es : List V}, (H r = some (.lst es) ∨ H r = some (.tup es)) → (H' r = some (.lst es) ∨ H' r = some (.tup es)) := fun h => h.elim (fun z => .inl (s _ _ z)) fun z => .inr (s _ _ z)
  cases out with
  | none =>
    obtain ⟨m, r, es, rows, h1, h2, h3, h4, h5, h6, h7⟩ := h
    exact ⟨m, r, es, rows, h1, h2, h3, h4, sq h5, h6.same s, h7⟩
  | some a =>
    rcases h with ⟨h1, h2, h3⟩ | ⟨m, ms, h1, h2, h3, h4⟩ | ⟨m, r, es, i, e, ms, h1, h2, h3, h4, h5, h6, h7, h8, h9⟩ | ⟨m, r, es, rows, k, h1, h2, h3, h4, h5, h6, h7⟩
    · exact .inl ⟨h1, h2.same s, h3⟩
    · exact .inr (.inl ⟨m, ms, h1, h2, h3.same s, h4⟩)
    · exact .inr (.inr (.inl ⟨m, r, es, i, e, ms, h1, h2, h3, sq h4, h5, h6, fun j e hj he => by obtain ⟨ms, a, b⟩ := h7 j e hj he; exact ⟨ms, a.same s, b⟩, h8.same s, h9⟩))
    · exact .inr (.inr (.inr ⟨m, r, es, rows, k, h1, h2, h3, h4, sq h5, h6.same s, h7⟩))
section
variable {P : Program} {w : World} {K : PySem.W.Frag} {mg : Str → Option Value} {base : Heap} {Cm C fI fE fT C2 fT2 : Addr} {fdI : FuncData}
def spRfs (K : PySem.W.Frag) : Sp := fun vs H Q _ => ∃ (vc vst : V) (n : Int), vs = [vc, vst] ∧ MkB K H vc vst (some n) ∧ ∀ H', Same H H' → Q (.int n) H'
theorem rel2 {v : V} {u : Value} {zs : List V} {ws : List Value} (r : RelV v u) (h : Vals zs ws) : Vals (v :: zs.reverse) (u :: ws.reverse) := .cons r (vals_rev h)
def spAskR (K : PySem.W.Frag) (Cm : Addr) : Sp := fun vs H Q _ => ∃ (x : Addr) (form : Int) (v : V) (n : Nat) (cs : List (List Nat)), vs = [.ref x, .int form, v] ∧ Mc K Cm H x n cs ∧ n ≤ 16 ∧
  ((∃ rw_ : List Nat, SqV K H v (some (vi rw_)) ∧ (∀ k ∈ rw_, k < cs.length) ∧ ∀ (t : Addr) (H' : Hp), Same H H' → H' t = some (.tup (vi (if form = 0 then rw_ else (List.range n).map (ends cs rw_)))) → Q (.ref t) H') ∨
    ∃ (ms : Option (List V)) (at_ : Int), SqV K H v ms ∧ RowB K H (cs.length : Int) ms at_ ∧ ∀ (l : Addr) (H' : Hp), Same H H' → H' l = some (.lst [.int at_]) → Q (.ref l) H')
end
end KV

/-! a text times an int -/
namespace KV
open PySem PySem.Spec PyProof.Rows L2
def rRepS : R2 := fun x y H Q => ∃ (z : Str) (k : Int), x = .str z ∧ y = .int k ∧ 1 ≤ k ∧ k ≤ 1000 ∧ z.length = 1 ∧ ∀ y', Q (.str y') H
theorem op_repS {X : Cx} : OpR X (binaryOp .Mult) rRepS := by
  intro pins s σ H x y v u Q I rx ry h
  obtain ⟨z, k, rfl, rfl, h1, h2, hz, q⟩ := h
  obtain ⟨t, rfl⟩ := rx
  obtain ⟨t2, rfl⟩ := ry
  have hm : z.length * k.toNat ≤ sizeLine := by
    rw [hz]
    exact Nat.le_trans (show 1 * k.toNat ≤ 1000 by omega) (by decide)
  have hT : PySem.Builtin.Str.tooLong (z.length * k.toNat) = false := by
    unfold PySem.Builtin.Str.tooLong
    exact decide_eq_false (by omega)
  refine PySem.P.mul_str ?_ (fun _ _ => ?_) (fun _ _ => hT) ?_
  · rw [decide_eq_false (by omega), decide_eq_false (by omega)]
    rfl
  · rw [hz]
    intro e
    have e1 : (2 ^ 63 - 1 : Int) / k < 1 := e
    have e2 : (1 : Int) ≤ (2 ^ 63 - 1) / k := (Int.le_ediv_iff_mul_le (by omega)).mpr (by omega)
    omega
  · rw [if_neg (by omega)]
    split
    · exact ⟨.str z, H, I, ⟨_, rfl⟩, q _⟩
    · exact ⟨fits_reps hT, .str _, H, I.tok _, ⟨_, rfl⟩, q _⟩
end KV

/-! the law: what is no machine -/
namespace KV
open PySem PySem.Spec PyProof.Rows L2 KC
theorem sm_nat {k n : Nat} (h : n < 2 ^ k) : sm k (n : Int) := by
  show ((n : Nat) : Int).natAbs < 2 ^ k
  omega
/-- a literal: an int, None, a bool, a text, a tuple -/
def Lit (H : Hp) (v : V) : Prop := (∃ i : Int, v = .int i) ∨ v = .non ∨ (∃ b, v = .bl b) ∨ (∃ z, v = .str z) ∨ ∃ (a : Addr) (xs : List V), v = .ref a ∧ H a = some (.tup xs)
theorem Lit.same {H H' : Hp} (s : Same H H') {v : V} (h : Lit H v) : Lit H' v := by
  rcases h with h | h | h | h | ⟨a, xs, e, ha⟩
  · exact .inl h
  · exact .inr (.inl h)
  · exact .inr (.inr (.inl h))
  · exact .inr (.inr (.inr (.inl h)))
  · exact .inr (.inr (.inr (.inr ⟨a, xs, e, s _ _ ha⟩)))
theorem Lit.kp {d c : Addr} {H H' : Hp} (D : Dl H d c) (k : Kp d c H H') {v : V} (h : Lit H v) : Lit H' v := by
  rcases h with h | h | h | h | ⟨a, xs, e, ha⟩
  · exact .inl h
  · exact .inr (.inl h)
  · exact .inr (.inr (.inl h))
  · exact .inr (.inr (.inr (.inl h)))
  · exact .inr (.inr (.inr (.inr ⟨a, xs, e, k _ _ (D.neT ha).1 (D.neT ha).2 ha⟩)))
theorem Lit.any {K : PySem.W.Frag} {H : Hp} {v : V} (h : Lit H v) : AnyV K H v := by
  rcases h with ⟨i, rfl⟩ | rfl | ⟨b, rfl⟩ | ⟨z, rfl⟩ | ⟨a, xs, rfl, ha⟩
  · exact .int i
  · exact .non
  · exact .bl b
  · exact .str z
  · exact .tup ha
/-- what holds no line -/
def Emp (d c : Addr) (H : Hp) (v : V) : Prop := v = .non ∨ (∃ i, v = .int i) ∨ (∃ z, v = .str z) ∨ ∃ a : Addr, v = .ref a ∧ a ≠ d ∧ a ≠ c ∧ (H a = some (.lst []) ∨ H a = some (.tup []) ∨ H a = some (.dK []))
theorem Emp.kp {d c : Addr} {H H' : Hp} (k : Kp d c H H') {v : V} (h : Emp d c H v) : Emp d c H' v := by
  rcases h with h | h | h | ⟨a, e, n1, n2, ha⟩
  · exact .inl h
  · exact .inr (.inl h)
  · exact .inr (.inr (.inl h))
  · exact .inr (.inr (.inr ⟨a, e, n1, n2, by rcases ha with h | h | h; exact .inl (k _ _ n1 n2 h); exact .inr (.inl (k _ _ n1 n2 h)); exact .inr (.inr (k _ _ n1 n2 h))⟩))
theorem Emp.sq {K : PySem.W.Frag} {d c : Addr} {H : Hp} {v : V} (h : Emp d c H v) : ∃ ms, SqV K H v ms ∧ (ms = none ∨ ms = some []) := by
  rcases h with rfl | ⟨i, rfl⟩ | ⟨z, rfl⟩ | ⟨a, rfl, _, _, ha⟩
  · exact ⟨none, ⟨"NoneType", .base .non, by simp⟩, .inl rfl⟩
  · exact ⟨none, ⟨"int", .base (.int i), by simp⟩, .inl rfl⟩
  · exact ⟨none, ⟨"str", .base (.str z), by simp⟩, .inl rfl⟩
  · rcases ha with ha | ha | ha
    · exact ⟨some [], ⟨a, rfl, .inl ha⟩, .inr rfl⟩
    · exact ⟨some [], ⟨a, rfl, .inr ha⟩, .inr rfl⟩
    · exact ⟨none, ⟨"dict", .base (.dK ha), by simp⟩, .inl rfl⟩
theorem cut_from {xs : List V} {s : Nat} (h : s ≤ xs.length) : cutV xs (some (s : Int)) none = xs.drop s := by
  unfold cutV
  rw [HT.sIx_nat, show HT.sIx xs.length xs.length none = xs.length from rfl, Nat.min_eq_left h]
  exact List.take_of_length_le (by rw [List.length_drop]; exact Nat.le_refl _)
theorem cut_to {xs : List V} {s : Nat} (h : s ≤ xs.length) : cutV xs none (some (s : Int)) = xs.take s := by
  unfold cutV
  rw [HT.sIx_nat, show HT.sIx xs.length 0 none = 0 from rfl, Nat.min_eq_left h, List.drop_zero, Nat.sub_zero]
theorem cut_m1 {xs : List V} (h : 0 < xs.length) : (cutV xs none (some (-1))).length = xs.length - 1 := by
  unfold cutV
  have e : HT.sIx xs.length xs.length (some (-1)) = xs.length - 1 := by
    show (if (-1 : Int) < 0 then ((-1 : Int) + (xs.length : Int)).toNat else min (-1 : Int).toNat xs.length) = _
    rw [if_pos (by decide)]
    omega
  rw [e, show HT.sIx xs.length 0 none = 0 from rfl, List.drop_zero, List.length_take]
  omega
/-- lists of lists of ints held against [] -/
theorem lns_data {K : PySem.W.Frag} {H : Hp} : ∀ {xs : List V}, (∀ x ∈ xs, ∃ (b : Addr) (ns : List Int), x = .ref b ∧ H b = some (.lst (ns.map V.int))) → ∃ ds, DpAll K H xs ds ∧ PyData.canLayAll0 ds = true ∧ PyData.depthAll ds ≤ 5 ∧ (xs = [] ↔ ds = [])
  | [], _ => ⟨[], .nil, rfl, by decide, by simp⟩
  | x :: r, h => by
    obtain ⟨ds, h1, h2, h3, h4⟩ := lns_data (K := K) (xs := r) fun y hy => h y (List.mem_cons_of_mem _ hy)
    obtain ⟨b, ns, rfl, hb⟩ := h x (by simp)
    refine ⟨.list (ns.map PyData.int) :: ds, .cons (.lst (SqL.of hb) (dp_ints ns)) h1, ?_, ?_, by simp⟩
    · simp only [PyData.canLayAll0, PyData.canLay0, canLay_ints, h2, Bool.and_self]
    · simp only [PyData.depthAll, PyData.depth, depth_ints]
      omega
theorem lns_ne {K : PySem.W.Frag} {H : Hp} {a b : Addr} {xs : List V} {Q : VK} (h1 : SqL K H a xs) (he : ∀ x ∈ xs, ∃ (b : Addr) (ns : List Int), x = .ref b ∧ H b = some (.lst (ns.map V.int))) (h2 : SqL K H b []) (q : Q (.bl (!decide (xs = []))) H) : rNeD K (.ref a) (.ref b) H Q := by
  obtain ⟨ds, d1, d2, d3, d4⟩ := lns_data (K := K) he
  refine ⟨_, _, .lst h1 d1, .lst h2 .nil, ?_, by decide +kernel, ?_⟩
  · unfold SeqAt.shaped
    rw [Bool.and_eq_true]
    refine ⟨?_, decide_eq_true ?_⟩
    · simp only [PyData.canLay0, d2]
    · simp only [PyData.depth]
      omega
  · have e : PyData.eqv (.list ds) (.list []) = decide (xs = []) := by
      cases ds with
      | nil => rw [d4.mpr rfl]; rfl
      | cons y r =>
        have : xs ≠ [] := fun z => by have := d4.mp z; cases this
        rw [decide_eq_false this]
        rfl
    rw [e]
    exact q
theorem row_ok {K : PySem.W.Frag} {H : Hp} {n j : Nat} {cs : List (List Nat)} {b : Addr} (hb : H b = some (.lst (vi (row cs j)))) (hc : ∀ e ∈ cs, Chg n e) (c4 : cs.length ≤ 4) (hj : j < n) : ∃ ms, EnO K H (.ref b) ms ∧ entB (cs.length : Int) (n : Int) ms = true := by
  have l : (vi (row cs j)).length = cs.length := by unfold row; rw [List.length_map, List.length_map]
  refine ⟨some (vi (row cs j)), ⟨⟨b, rfl, .inl hb⟩, fun xs hx => ?_⟩, ?_⟩
  · cases hx
    exact ⟨fun x hx => by obtain ⟨y, _, rfl⟩ := List.mem_map.mp hx; exact .int _, by omega⟩
  · show (decide (((vi (row cs j)).length : Int) = (cs.length : Int)) && (vi (row cs j)).all (belB (n : Int))) = true
    rw [Bool.and_eq_true]
    refine ⟨decide_eq_true (by omega), ?_⟩
    rw [List.all_eq_true]
    intro x hx
    obtain ⟨y, hy, rfl⟩ := List.mem_map.mp hx
    unfold row at hy
    obtain ⟨e, he, rfl⟩ := List.mem_map.mp hy
    have := (hc e he).at_lt hj
    show (decide ((0 : Int) ≤ ((e.getD j 0 : Nat) : Int)) && decide (((e.getD j 0 : Nat) : Int) < (n : Int))) = true
    rw [decide_eq_true (by omega), decide_eq_true (by omega)]
    rfl
/-- a line that is wrong by its kind or by its length -/
def BdE (d c : Addr) (H : Hp) (m : Int) (x : V) : Prop := x = .non ∨ (∃ i, x = .int i) ∨ (∃ z, x = .str z) ∨ ∃ (a : Addr) (ns : List Int), x = .ref a ∧ a ≠ d ∧ a ≠ c ∧ H a = some (.lst (ns.map V.int)) ∧ (ns.length : Int) ≠ m ∧ ns.length ≤ 100
theorem BdE.kp {d c : Addr} {H H' : Hp} (k : Kp d c H H') {m : Int} {x : V} (h : BdE d c H m x) : BdE d c H' m x := by
  rcases h with h | h | h | ⟨a, ns, e, n1, n2, ha, r⟩
  · exact .inl h
  · exact .inr (.inl h)
  · exact .inr (.inr (.inl h))
  · exact .inr (.inr (.inr ⟨a, ns, e, n1, n2, k _ _ n1 n2 ha, r⟩))
theorem BdE.bad {K : PySem.W.Frag} {d c : Addr} {H : Hp} {m n : Int} {x : V} (h : BdE d c H m x) : ∃ ms, EnO K H x ms ∧ entB m n ms = false := by
  rcases h with rfl | ⟨i, rfl⟩ | ⟨z, rfl⟩ | ⟨a, ns, rfl, _, _, ha, l, hl⟩
  · exact ⟨none, ⟨⟨"NoneType", .base .non, by simp⟩, fun xs h => by cases h⟩, rfl⟩
  · exact ⟨none, ⟨⟨"int", .base (.int i), by simp⟩, fun xs h => by cases h⟩, rfl⟩
  · exact ⟨none, ⟨⟨"str", .base (.str z), by simp⟩, fun xs h => by cases h⟩, rfl⟩
  · refine ⟨some (ns.map V.int), ⟨⟨a, rfl, .inl ha⟩, fun xs h => ?_⟩, ?_⟩
    · cases h
      exact ⟨fun x hx => by obtain ⟨y, _, rfl⟩ := List.mem_map.mp hx; exact .int _, by rw [List.length_map]; omega⟩
    · show (decide (((ns.map V.int).length : Int) = m) && _) = false
      rw [List.length_map, decide_eq_false l, Bool.false_and]
theorem Dl.updn {H : Hp} {d c p : Addr} {o : HO} (h : Dl H d c) (n1 : p ≠ d) (n2 : p ≠ c) : Dl (L2.upd H p o) d c := by
  obtain ⟨ne, cs, b, h1, h2, r⟩ := h
  exact ⟨ne, cs, b, by rw [upd_ne n1.symm]; exact h1, by rw [upd_ne n2.symm]; exact h2, r⟩
/-- a line with a wrong item -/
theorem set_bad {K : PySem.W.Frag} {H : Hp} {a : Addr} {c : List Nat} {j : Nat} {x : V} {m n : Int} (ha : H a = some (.lst ((vi c).set j x))) (hj : j < c.length) (hl : c.length ≤ 100) (hx : AnyV K H x) (hb : belB n x = false) : ∃ ms, EnO K H (.ref a) ms ∧ entB m n ms = false := by
  refine ⟨some ((vi c).set j x), ⟨⟨a, rfl, .inl ha⟩, fun xs h => ?_⟩, ?_⟩
  · cases h
    refine ⟨fun y hy => ?_, by rw [List.length_set]; simp only [vi, List.length_map]; omega⟩
    rcases List.mem_or_eq_of_mem_set hy with z | z
    · obtain ⟨i, _, rfl⟩ := List.mem_map.mp z
      exact .int _
    · rw [z]
      exact hx
  · show (decide ((((vi c).set j x).length : Int) = m) && ((vi c).set j x).all (belB n)) = false
    rw [Bool.and_eq_false_iff]
    refine .inr ?_
    rw [List.all_eq_false]
    refine ⟨x, List.mem_iff_getElem?.mpr ⟨j, by rw [List.getElem?_set_self (by simp only [vi, List.length_map]; exact hj)]⟩, by rw [hb]; decide⟩
/-- lines of which the one at a place is wrong -/
theorem wr2 {K : PySem.W.Frag} {H : Hp} {p : Addr} {n at_ : Nat} {rs : List Addr} {cs : List (List Nat)} {es' : List V} {x : V} {ms : Option (List V)} (hp : H p = some (.lst ((rs.map V.ref).take at_ ++ [x] ++ es'))) (hrow : ∀ (j : Nat) (b : Addr), rs[j]? = some b → H b = some (.lst (vi (row cs j)))) (hl : rs.length = n) (an : at_ < n) (n12 : n ≤ 12) (c1 : 1 ≤ cs.length) (c4 : cs.length ≤ 4)
    (hc : ∀ e ∈ cs, Chg n e) (el : es'.length = n - (at_ + 1)) (hx : EnO K H x ms) (hB : entB (cs.length : Int) (n : Int) ms = false) : MkB K H (.int (cs.length : Int)) (.ref p) (some (2 + (at_ : Int))) := by
  have tl : ((rs.map V.ref).take at_).length = at_ := by rw [List.length_take, List.length_map]; omega
  have len : ((rs.map V.ref).take at_ ++ [x] ++ es').length = n := by
    rw [List.length_append, List.length_append, tl, el]
    show at_ + 1 + (n - (at_ + 1)) = n
    omega
  refine .inr (.inr (.inl ⟨(cs.length : Int), p, _, at_, x, ms, rfl, by omega, rfl, .inl hp, by omega, ?_, fun j e hj he => ?_, hx, by rw [len]; exact hB, rfl⟩))
  · rw [List.append_assoc, List.getElem?_append_right (by omega), tl, Nat.sub_self]
    rfl
  · rw [List.append_assoc, List.getElem?_append_left (by omega), List.getElem?_take_of_lt hj, List.getElem?_map] at he
    cases eb : rs[j]? with
    | none => rw [eb] at he; cases he
    | some b =>
      rw [eb] at he
      have e2 : e = .ref b := (Option.some.inj he).symm
      subst e2
      rw [len]
      exact row_ok (hrow j b eb) hc c4 (by omega)
theorem row_get {cs : List (List Nat)} {j k : Nat} (h : k < cs.length) : (row cs j).getD k 0 = (cs[k]).getD j 0 := by
  unfold row
  rw [List.getD_eq_getElem?_getD, List.getElem?_map, List.getElem?_eq_getElem h]
  rfl
/-- the lines, one of them another -/
def rws (n at_ : Nat) (R : List Nat) (cs : List (List Nat)) : List (List Nat) := (List.range n).map fun j => if j = at_ then R else row cs j
theorem rws_len {n at_ : Nat} {R : List Nat} {cs : List (List Nat)} : (rws n at_ R cs).length = n := by
  unfold rws
  rw [List.length_map, List.length_range]
theorem rws_at {n at_ j : Nat} {R : List Nat} {cs : List (List Nat)} (h : j < n) : (rws n at_ R cs)[j]? = some (if j = at_ then R else row cs j) := by
  unfold rws
  rw [List.getElem?_map, List.getElem?_range h]
  rfl
theorem rws_col {n at_ k : Nat} {R : List Nat} {cs : List (List Nat)} (hk : k < cs.length) (hR : R.getD k 0 = (row cs at_).getD k 0) (hc : ∀ e ∈ cs, Chg n e) : (col (rws n at_ R cs) k).Nodup := by
  have hg := hc _ (List.getElem_mem hk)
  have e : col (rws n at_ R cs) k = cs[k] := by
    rw [eq_tab hg.len]
    unfold col rws tab
    rw [List.map_map]
    refine List.map_congr_left fun j _ => ?_
    show (if j = at_ then R else row cs j).getD k 0 = (cs[k]).getD j 0
    by_cases z : j = at_
    · rw [if_pos z, hR, row_get hk, z]
    · rw [if_neg z, row_get hk]
  rw [e]
  exact hg.nd
theorem rws_dup {n at_ nx k : Nat} {R : List Nat} {cs : List (List Nat)} (ha : at_ < n) (hn : nx < n) (ne : nx ≠ at_) (hR : R.getD k 0 = (row cs nx).getD k 0) : ¬ (col (rws n at_ R cs) k).Nodup := fun nd => by
  have l : (col (rws n at_ R cs) k).length = n := by unfold col; rw [List.length_map, rws_len]
  have g : ∀ {j : Nat} (h : j < n), (col (rws n at_ R cs) k)[j]? = some ((if j = at_ then R else row cs j).getD k 0) := fun h => by
    unfold col
    rw [List.getElem?_map, rws_at h]
    rfl
  have g1 := g ha
  have g2 := g hn
  rw [if_pos rfl, hR] at g1
  rw [if_neg ne] at g2
  rw [List.getElem?_eq_getElem (by rw [l]; exact ha)] at g1
  rw [List.getElem?_eq_getElem (by rw [l]; exact hn)] at g2
  exact ne ((List.getElem_inj nd).mp ((Option.some.inj g2).trans (Option.some.inj g1).symm))
/-- the changed list of lines -/
theorem es_at {rs : List Addr} {n at_ j : Nat} {wr : Addr} (hl : rs.length = n) (ha : at_ < n) (hj : j < n) : ((rs.map V.ref).take at_ ++ [V.ref wr] ++ (rs.map V.ref).drop (at_ + 1))[j]? = if j = at_ then some (V.ref wr) else (rs.map V.ref)[j]? := by
  have tl : ((rs.map V.ref).take at_).length = at_ := by rw [List.length_take, List.length_map]; omega
  by_cases z : j = at_
  · rw [if_pos z, z, List.append_assoc, List.getElem?_append_right (by omega), tl, Nat.sub_self]
    rfl
  · rw [if_neg z]
    by_cases y : j < at_
    · rw [List.append_assoc, List.getElem?_append_left (by omega), List.getElem?_take_of_lt y]
    · rw [List.getElem?_append_right (by rw [List.length_append, tl]; show at_ + 1 ≤ j; omega), List.length_append, tl, List.getElem?_drop]
      congr 1
      show at_ + 1 + (j - (at_ + 1)) = j
      omega
theorem es_len {rs : List Addr} {n at_ : Nat} {wr : Addr} (hl : rs.length = n) (ha : at_ < n) : ((rs.map V.ref).take at_ ++ [V.ref wr] ++ (rs.map V.ref).drop (at_ + 1)).length = n := by
  rw [List.length_append, List.length_append, List.length_take, List.length_drop, List.length_map]
  show min at_ rs.length + 1 + _ = n
  omega
section
variable {P : Program} {w : World} {K : PySem.W.Frag} {mg : Str → Option Value} {base : Heap}
def spWrM (K : PySem.W.Frag) : Sp := fun vs H Q _ => ∃ (d c r : Addr) (n : Nat) (rs : List Addr) (cs : List (List Nat)), vs = [.ref d, .int (cs.length : Int), .ref r] ∧ Dl H d c ∧ Stp H r n rs cs ∧ (∀ b ∈ r :: rs, b ≠ d ∧ b ≠ c) ∧ 1 ≤ n ∧ n ≤ 12 ∧ 1 ≤ cs.length ∧ cs.length ≤ 4 ∧ (∀ e ∈ cs, Chg n e) ∧
  ∀ (p : Addr) (vc vst : V) (num : Int) (H' : Hp), H' p = some (.tup [vc, vst, .int num]) → MkB K H' vc vst (some num) → Dl H' d c → Kp d c H H' → Q (.ref p) H'
set_option maxHeartbeats 8000000 in
end
end KV

/-! tuples joined, cut, repeated: what comes out holds the items, at some address -/
namespace KV
open PySem PySem.Spec PyProof.Rows L2 KC
theorem mul_tuple1 (l : Addr) (items : Array Value) (n : Nat) (dd : Option Addr) (sl : Array (Option Value)) (u : Tok) (hne : items.isEmpty = false) :
    Meets (Builtin.«tuple.__mul__» ⟨[.ref l, .int 1 u], []⟩) (fun _ R s => s.heap.get? l = some { cls := .type "tuple", dict := dd, data := .seq items n, slots := sl } ∧ R (.ok (.ret (Value.ref l))) s) :=
  .of_wp fun prog w A R s h => by
    obtain ⟨hp, g, d, tk, os⟩ := s
    obtain ⟨hl, h⟩ := h
    have f1 := AutoSeq1.idx_int
    wp_walk using wpAny_loadPart' hl
    exact ⟨_, rfl, h⟩
section
variable {X : Cx}
def rRep1 : R2 := fun x y H Q => ∃ l xs, x = .ref l ∧ y = .int 1 ∧ H l = some (.tup xs) ∧ xs ≠ [] ∧ Q (.ref l) H
theorem op_rep1 : OpR X (binaryOp .Mult) rRep1 := by
  intro pins s σ H x y v u Q I rx ry h
  obtain ⟨l, xs, rfl, rfl, hT, hne, q⟩ := h
  cases rx
  obtain ⟨t, rfl⟩ := ry
  obtain ⟨its, r, ⟨⟨cls, dd, data, sl⟩, ho, hc, n, hd⟩, hs⟩ := I.tuple (SqT.of hT)
  simp only at hc hd
  subst hc hd
  have hle : its.length = xs.length := r.length.symm
  have hi : its.toArray.isEmpty = false := by
    cases its with
    | nil => exact absurd (List.eq_nil_of_length_eq_zero hle.symm) hne
    | cons a b => rfl
  exact wpAny_binaryOp_repeat_ref (T := "tuple") (U := "int") (by decide) ⟨_, ho, rfl⟩ (fun s' => typeIs_int s' 1 t) noFill_tuple_mul F.fills_int_mul F.slot_int_rmul repeat_tuple F.slot_int_index.lookup
    (call_meets F.slot_int_rmul (typeIs_int s 1 t) F.entry_int_rmul (F.args_int_rmul_2 _ _) (int_rmul_tuple 1 t l its.toArray n dd sl)
      ⟨ho, rfl, ⟨_, ho, rfl⟩, call_meets F.slot_tuple_mul ⟨_, ho, rfl⟩ F.entry_tuple_mul (F.args_tuple_mul_2 _ _) (mul_tuple1 l its.toArray n dd sl t hi) ⟨ho, .ref l, H, I, rfl, q⟩⟩)
def rRepP : R2 := fun x y H Q => ∃ (l : Addr) (k : Int) (xs : List V), x = .ref l ∧ y = .int k ∧ H l = some (.tup xs) ∧ xs ≠ [] ∧ 1 ≤ k ∧ k ≤ 1000 ∧ xs.length ≤ 1000 ∧ ∀ p H', Same H H' → H' p = some (.tup (List.replicate k.toNat xs).flatten) → Q (.ref p) H'
theorem op_repP : OpR X (binaryOp .Mult) rRepP := by
  intro pins s σ H x y v u Q I rx ry h
  obtain ⟨l, k, xs, rfl, rfl, hT, hne, h1, h2, hz, q⟩ := h
  by_cases e : k = 1
  · subst e
    exact op_rep1 pins s σ H _ _ v u Q I rx ry ⟨l, xs, rfl, rfl, hT, hne, q l H (Same.refl H) (by
      show H l = some (.tup (xs ++ []))
      rw [List.append_nil]
      exact hT)⟩
  · exact op_repT pins s σ H _ _ v u Q I rx ry ⟨l, k, xs, rfl, rfl, SqT.of hT, hne, by omega, h2, hz, fun p hp => q p _ (Same.new hp) upd_same⟩
def rCatP : R2 := fun x y H Q => ∃ (a b : Addr) (xs ys : List V), x = .ref a ∧ y = .ref b ∧ H a = some (.tup xs) ∧ H b = some (.tup ys) ∧ xs.length + ys.length ≤ 1000 ∧ ∀ p H', Same H H' → H' p = some (.tup (xs ++ ys)) → Q (.ref p) H'
theorem op_catP : OpR X (binaryOp .Add) rCatP := by
  intro pins s σ H x y v u Q I rx ry h
  obtain ⟨a, b, xs, ys, rfl, rfl, ha, hb, hz, q⟩ := h
  exact op_catA pins s σ H _ _ v u Q I rx ry ⟨a, b, xs, ys, rfl, rfl, SqT.of ha, SqT.of hb, Nat.le_of_lt (len_lt hz), fun e => q b H (Same.refl H) (by rw [e, hb]; rfl), fun _ e => q a H (Same.refl H) (by rw [e, ha, List.append_nil]),
    fun _ _ p hp => q p _ (Same.new hp) upd_same⟩
def rSlP : V → Option Int → Option Int → Hp → VK → Prop := fun x lo hi H Q => ∃ (a : Addr) (xs : List V), x = .ref a ∧ H a = some (.tup xs) ∧ ∀ p H', Same H H' → H' p = some (.tup (cutV xs lo hi)) → Q (.ref p) H'
theorem sl_tupP : SlR X rSlP := by
  intro pins s σ H x v vl vu lo hi sl Q I rx hs pl pu h
  obtain ⟨a, xs, rfl, hx, q⟩ := h
  refine sl_tupA pins s σ H _ v vl vu lo hi sl Q I rx hs pl pu ⟨a, xs, rfl, SqT.of hx, fun e => q a H (Same.refl H) ?_, fun _ p hp => q p _ (Same.new hp) upd_same⟩
  unfold cutV
  rw [e.1, e.2, List.drop_zero, Nat.sub_zero, List.take_length]
  exact hx
end
theorem cutV_from (xs : List V) (k : Nat) : cutV xs (some (k : Int)) none = xs.drop k := by
  unfold cutV
  have e1 : HT.sIx xs.length 0 (some (k : Int)) = min k xs.length := HT.sIx_nat _ _ k
  have e2 : HT.sIx xs.length xs.length none = xs.length := rfl
  rw [e1, e2]
  rcases Nat.le_total k xs.length with h | h
  · rw [Nat.min_eq_left h, ← List.length_drop, List.take_length]
  · rw [Nat.min_eq_right h, List.drop_eq_nil_of_le h, List.drop_eq_nil_of_le (Nat.le_refl _), List.take_nil]
theorem cutV_to (xs : List V) (k : Nat) : cutV xs none (some (k : Int)) = xs.take k := by
  unfold cutV
  have e1 : HT.sIx xs.length 0 none = 0 := rfl
  have e2 : HT.sIx xs.length xs.length (some (k : Int)) = min k xs.length := HT.sIx_nat _ _ k
  rw [e1, e2, List.drop_zero, Nat.sub_zero]
  exact List.take_eq_take_min.symm
end KV

/-! the law's machines -/
namespace KV
open PySem PySem.Spec PyProof.Rows L2 KC
section
variable {P : Program} {w : World} {K : PySem.W.Frag} {mg : Str → Option Value} {base : Heap} {Cm C fI fE : Addr} {fdI fdE : FuncData}
def rListOf (K : PySem.W.Frag) : List V → Hp → VK → Prop := fun xs H Q => ∃ p ys, xs = [.ref p] ∧ (SqL K H p ys ∨ SqT K H p ys) ∧ ∀ l, H l = none → Q (.ref l) (upd H l (.lst ys))
theorem call_listK {X : Cx} : CallR X (Value.type "list") (rListOf X.K) := call_list_of
theorem boot_lst : bootBuiltins ("list" : Str) = some (.type "list") := by decide +kernel
/-- what stands through the law -/
structure LMk (d c l r : Addr) (n : Nat) (bs : List Addr) (cs : List (List Nat)) (rs : List Addr) (H : Hp) : Prop where
  dl : Dl H d c
  gens : Gens H l n bs cs
  nl : l ≠ d ∧ l ≠ c
  stp : Stp H r n rs cs
  nr : ∀ b ∈ r :: rs, b ≠ d ∧ b ≠ c
theorem LMk.same {d c l r : Addr} {n : Nat} {bs : List Addr} {cs : List (List Nat)} {rs : List Addr} {H H' : Hp} (h : LMk d c l r n bs cs rs H) (s : Same H H') : LMk d c l r n bs cs rs H' := ⟨h.dl.same s, h.gens.same s, h.nl, h.stp.same s, h.nr⟩
theorem LMk.kp {d c l r : Addr} {n : Nat} {bs : List Addr} {cs : List (List Nat)} {rs : List Addr} {H H' : Hp} (h : LMk d c l r n bs cs rs H) (D : Dl H' d c) (k : Kp d c H H') : LMk d c l r n bs cs rs H' :=
  ⟨D, ⟨k _ _ h.nl.1 h.nl.2 h.gens.lst, tups_keep (fun b xs e => h.dl.kT k e) h.gens.tups, h.gens.chg, h.gens.n0, h.gens.c0⟩, h.nl, ⟨k _ _ (h.nr r (by simp)).1 (h.nr r (by simp)).2 h.stp.lst, h.stp.len, fun i b e => k _ _ (h.nr b (List.mem_cons_of_mem _ (List.mem_of_getElem? e))).1 (h.nr b (List.mem_cons_of_mem _ (List.mem_of_getElem? e))).2 (h.stp.row i b e), h.stp.nd⟩, h.nr⟩
theorem vi_injN {a b : List Nat} (h : vi a = vi b) : a = b := by
  have : zi a = zi b := by
    have z := h
    rw [vi_zi, vi_zi] at z
    exact List.map_inj_right (fun x y e => V.int.inj e) |>.mp z
  exact zi_inj.mp this
theorem LnS.uniq {H : Hp} {rows rows2 : List (List Nat)} {es : List V} (h : LnS H rows es) (g : LnS H rows2 es) : rows = rows2 := by
  refine List.ext_getElem? fun j => ?_
  by_cases z : j < es.length
  · obtain ⟨b, ro, e1, h1, h2⟩ := h.2 j _ (List.getElem?_eq_getElem z)
    obtain ⟨b2, ro2, e2, g1, g2⟩ := g.2 j _ (List.getElem?_eq_getElem z)
    rw [e1] at e2
    cases e2
    rw [h1, g1]
    rcases h2 with h2 | h2 <;> rcases g2 with g2 | g2 <;> have e := h2.symm.trans g2
    · injection e with e
      injection e with e
      rw [vi_injN e]
    · injection e with e
      injection e
    · injection e with e
      injection e
    · injection e with e
      injection e with e
      rw [vi_injN e]
  · rw [List.getElem?_eq_none (by have := h.1; omega), List.getElem?_eq_none (by have := g.1; omega)]
/-- all lines of a machine -/
def rowsOf (n : Nat) (cs : List (List Nat)) : List (List Nat) := (List.range n).map (row cs)
theorem rowsOf_at {n j : Nat} {cs : List (List Nat)} (h : j < n) : (rowsOf n cs)[j]? = some (row cs j) := by
  unfold rowsOf
  rw [List.getElem?_map, List.getElem?_range h]
  rfl
theorem rowsOf_len {n : Nat} {cs : List (List Nat)} : (rowsOf n cs).length = n := by
  unfold rowsOf
  rw [List.length_map, List.length_range]
theorem rowsOf_ok {n : Nat} {cs : List (List Nat)} (hc : ∀ e ∈ cs, Chg n e) : ∀ ro ∈ rowsOf n cs, ro.length = cs.length ∧ ∀ y ∈ ro, y < (rowsOf n cs).length := fun ro h => by
  unfold rowsOf at h
  obtain ⟨j, hj, rfl⟩ := List.mem_map.mp h
  rw [rowsOf_len]
  refine ⟨by unfold row; rw [List.length_map], fun y hy => ?_⟩
  unfold row at hy
  obtain ⟨e, he, rfl⟩ := List.mem_map.mp hy
  exact (hc e he).at_lt (List.mem_range.mp hj)
theorem rowsOf_los {n : Nat} {cs : List (List Nat)} (hc : ∀ e ∈ cs, Chg n e) : losK (rowsOf n cs) cs.length = none := losK_no fun k hk => by
  have hg := hc _ (List.getElem_mem hk)
  have e : col (rowsOf n cs) k = cs[k] := by
    rw [eq_tab hg.len]
    unfold col rowsOf tab
    rw [List.map_map]
    refine List.map_congr_left fun j _ => ?_
    exact row_get hk
  rw [e]
  exact hg.nd
/-- one line more: the new state, by all commands -/
theorem chg_snoc {n : Nat} {c : List Nat} (h : Chg n c) : Chg (n + 1) (c ++ [n]) :=
  ⟨by rw [List.length_append, h.len]; rfl, fun x hx => by
    rcases List.mem_append.mp hx with z | z
    · have := h.lt x z
      omega
    · rw [List.mem_singleton.mp z]
      omega, List.nodup_append.mpr ⟨h.nd, by simp, fun a ha b hb e => by
    rw [List.mem_singleton.mp hb] at e
    have := h.lt a ha
    omega⟩⟩
def moreC (n : Nat) (cs : List (List Nat)) : List (List Nat) := cs.map (· ++ [n])
theorem moreC_len {n : Nat} {cs : List (List Nat)} : (moreC n cs).length = cs.length := List.length_map ..
theorem moreC_chg {n : Nat} {cs : List (List Nat)} (hc : ∀ e ∈ cs, Chg n e) : ∀ e ∈ moreC n cs, Chg (n + 1) e := fun e he => by
  obtain ⟨c, h, rfl⟩ := List.mem_map.mp he
  exact chg_snoc (hc c h)
theorem moreC_row {n j : Nat} {cs : List (List Nat)} (hc : ∀ e ∈ cs, Chg n e) (hj : j < n) : row (moreC n cs) j = row cs j := by
  unfold row moreC
  rw [List.map_map]
  refine List.map_congr_left fun c h => ?_
  show (c ++ [n]).getD j 0 = _
  have := (hc c h).len
  rw [List.getD_eq_getElem?_getD, List.getElem?_append_left (by omega), ← List.getD_eq_getElem?_getD]
theorem moreC_last {n : Nat} {cs : List (List Nat)} (hc : ∀ e ∈ cs, Chg n e) : row (moreC n cs) n = List.replicate cs.length n := by
  unfold row moreC
  rw [List.map_map]
  refine List.eq_replicate_iff.mpr ⟨List.length_map .., fun b hb => ?_⟩
  obtain ⟨c, h, rfl⟩ := List.mem_map.mp hb
  show (c ++ [n]).getD n 0 = n
  have := (hc c h).len
  rw [List.getD_eq_getElem?_getD, List.getElem?_append_right (by omega), this, Nat.sub_self]
  rfl
/-- the first command once more -/
theorem row_snoc {cs : List (List Nat)} {e : List Nat} {j : Nat} : row (cs ++ [e]) j = row cs j ++ [e.getD j 0] := by
  unfold row
  rw [List.map_append]
  rfl
/-- the first and the last line changed about -/
def sw (n j : Nat) : Nat := if j = 0 then n - 1 else if j = n - 1 then 0 else j
theorem sw_lt {n j : Nat} (h : j < n) : sw n j < n := by
  unfold sw
  split <;> (try split) <;> omega
theorem sw_inj {n i j : Nat} (hi : i < n) (hj : j < n) (e : sw n i = sw n j) : i = j := by
  unfold sw at e
  split at e <;> split at e <;> (try split at e) <;> (try split at e) <;> omega
def turn (n : Nat) (c : List Nat) : List Nat := tab n fun j => c.getD (sw n j) 0
theorem turn_chg {n : Nat} {c : List Nat} (h : Chg n c) : Chg n (turn n c) :=
  chg_tab (fun i hi => h.at_lt (sw_lt hi)) fun i hi j hj e => sw_inj hi hj (h.at_inj (sw_lt hi) (sw_lt hj) e)
theorem turn_row {n j : Nat} {cs : List (List Nat)} (hj : j < n) : row (cs.map (turn n)) j = row cs (sw n j) := by
  unfold row
  rw [List.map_map]
  refine List.map_congr_left fun c _ => ?_
  show (turn n c).getD j 0 = _
  exact tab_getD hj
/-- the lines of a machine handed in -/
theorem lines_ok {K : PySem.W.Frag} {H : Hp} {r : Addr} {es : List V} {n : Nat} {cs : List (List Nat)} (hr : H r = some (.lst es) ∨ H r = some (.tup es)) (hl : es.length = n) (he : ∀ (j : Nat) (e : V), es[j]? = some e → ∃ b : Addr, e = .ref b ∧ (H b = some (.lst (vi (row cs j))) ∨ H b = some (.tup (vi (row cs j))))) (hc : ∀ e ∈ cs, Chg n e) (n0 : 0 < n) (n12 : n ≤ 1000) (c0 : 0 < cs.length) (c4 : cs.length ≤ 1000) :
    LnS H (rowsOf n cs) es ∧ MkB K H (.int (cs.length : Int)) (.ref r) none := by
  have L : LnS H (rowsOf n cs) es := ⟨by rw [hl, rowsOf_len], fun j e h => by
    have jn : j < n := by have := (List.getElem?_eq_some_iff.mp h).1; omega
    obtain ⟨b, e1, e2⟩ := he j e h
    exact ⟨b, _, e1, rowsOf_at jn, e2⟩⟩
  exact ⟨L, cs.length, r, es, rowsOf n cs, rfl, c0, by omega, rfl, hr, L, by rw [rowsOf_len]; exact n0, by rw [rowsOf_len]; omega, rowsOf_ok hc, rowsOf_los hc⟩
theorem mk_right {K : PySem.W.Frag} {C fE : Addr} {H : Hp} {a da r : Addr} {m : Nat} {es : List V} {rows : List (List Nat)} {Q : Hp → Prop} {E : XK} (M : MF K Cm fI fE) (ha : H a = none) (hda : H da = none) (ne : da ≠ a) (hr : H r = some (.lst es) ∨ H r = some (.tup es)) (L : LnS H rows es) (B : MkB K H (.int (m : Int)) (.ref r) none)
    (q : ∀ (t : Addr) (ts : List Addr) (H' : Hp), Same H H' → MkO Cm a da t ts m rows H' → Q H') :
    spInit2 K Cm C [.ref a, .int (m : Int), .ref r] (upd (upd H da (.own a)) a (.ins Cm da [])) (fun v H2 => v = .non ∧ Q H2) E := by
  have s1 : Same H (upd (upd H da (.own a)) a (.ins Cm da [])) := (Same.new hda).trans (Same.new (by rw [upd_ne ne.symm]; exact ha))
  refine ⟨a, da, _, _, none, rfl, upd_same, M.cl, M.na1, M.na2, M.na3, B.same s1, fun m2 rows2 r2 es2 t ts H' e1 e2 hr2 L2 kx _ O => ⟨rfl, ?_⟩⟩
  cases e1
  cases e2
  have hes : es2 = es := by
    rcases hr with h | h <;> rcases hr2 with h2 | h2 <;> have e := (s1 _ _ h).symm.trans h2
    · injection e with e
      injection e with e
      exact e.symm
    · injection e with e
      injection e
    · injection e with e
      injection e
    · injection e with e
      injection e with e
      exact e.symm
  subst hes
  have e := LnS.uniq (L2) (show LnS _ rows es2 from ⟨L.1, fun j e h => by
    obtain ⟨b, ro, z1, z2, z3⟩ := L.2 j e h
    exact ⟨b, ro, z1, z2, z3.imp (s1 _ _) (s1 _ _)⟩⟩)
  subst e
  exact q t ts H' (fun b o h => kx b o (fun z => by rw [z, ha] at h; cases h) (s1 _ _ h)) O
/-- a machine made of changes -/
theorem mk_gens {K : PySem.W.Frag} {C fE : Addr} {H : Hp} {a da r : Addr} {m : Int} {es : List V} {n : Nat} {cs : List (List Nat)} {Q : Hp → Prop} {E : XK} (M : MF K Cm fI fE) (ha : H a = none) (hda : H da = none) (ne : da ≠ a) (hr : H r = some (.lst es) ∨ H r = some (.tup es)) (hl : es.length = n)
    (he : ∀ (j : Nat) (e : V), es[j]? = some e → ∃ b : Addr, e = .ref b ∧ (H b = some (.lst (vi (row cs j))) ∨ H b = some (.tup (vi (row cs j))))) (hc : ∀ e ∈ cs, Chg n e) (n0 : 0 < n) (n12 : n ≤ 1000) (c0 : 0 < cs.length) (c4 : cs.length ≤ 1000) (hm : m = (cs.length : Int))
    (q : ∀ (t : Addr) (ts : List Addr) (H' : Hp), Same H H' → MkO Cm a da t ts m (rowsOf n cs) H' → Q H') :
    spInit2 K Cm C [.ref a, .int m, .ref r] (upd (upd H da (.own a)) a (.ins Cm da [])) (fun v H2 => v = .non ∧ Q H2) E := by
  subst hm
  have z := lines_ok (K := K) hr hl he hc n0 n12 c0 c4
  exact mk_right M ha hda ne hr z.1 z.2 q
/-- tuples made one behind another -/
def Acc (H : Hp) (D : Addr) (f : Nat → List Nat) (j : Nat) (H' : Hp) : Prop := Same H H' ∧ ∃ ts : List Addr, ts.length = j ∧ H' D = some (.lst (ts.map V.ref)) ∧ ∀ (s : Nat) (b : Addr), ts[s]? = some b → H' b = some (.tup (vi (f s)))
theorem Acc.init {H : Hp} {D : Addr} {f : Nat → List Nat} (hD : H D = none) : Acc H D f 0 (upd H D (.lst [])) := ⟨Same.new hD, [], rfl, upd_same, fun s b h => by simp at h⟩
theorem Acc.step {H H1 H2 : Hp} {D t : Addr} {f : Nat → List Nat} {j : Nat} (h : Acc H D f j H1) (hD : H D = none) (s : Same H1 H2) (ht : H2 t = some (.tup (vi (f j)))) (jl : j < 1000) : ∃ acc, H2 D = some (.lst acc) ∧ acc.length < sizeLine ∧ Acc H D f (j + 1) (upd H2 D (.lst (acc ++ [.ref t]))) := by
  obtain ⟨z1, ts, z2, z3, z4⟩ := h
  refine ⟨_, s _ _ z3, len_lt (by rw [List.length_map]; omega), Same.upd (z1.trans s) hD, ts ++ [t], by rw [List.length_append, z2]; rfl, by rw [upd_same, List.map_append]; rfl, fun k b hb => ?_⟩
  have nD : ∀ {o : List V}, H2 b = some (.tup o) → upd H2 D (.lst (ts.map V.ref ++ [.ref t])) b = some (.tup o) := fun e => by
    rw [upd_ne (fun z => by rw [z, s _ _ z3] at e; cases e)]
    exact e
  refine nD ?_
  rw [List.getElem?_append] at hb
  split at hb
  · exact s _ _ (z4 k b hb)
  · next z =>
    have : k = j := by
      have := (List.getElem?_eq_some_iff.mp hb).1
      simp at this
      omega
    subst this
    rw [z2, Nat.sub_self] at hb
    rw [← Option.some.inj hb]
    exact ht
theorem row_take1 {cs : List (List Nat)} {j : Nat} (h : 0 < cs.length) : (row cs j).take 1 = [(cs[0]).getD j 0] := by
  cases cs with
  | nil => cases h
  | cons c r => rfl
/-- drawn numbers one behind another -/
def AccD (d c : Addr) (H : Hp) (D : Addr) (m : Nat) (j : Nat) (H' : Hp) : Prop := Dl H' d c ∧ Kp d c H H' ∧ ∃ rw_ : List Nat, rw_.length = j ∧ (∀ k ∈ rw_, k < m) ∧ H' D = some (.lst (vi rw_))
theorem AccD.init {d c : Addr} {H : Hp} {D : Addr} {m : Nat} (h : Dl H d c) (hD : H D = none) : AccD d c H D m 0 (upd H D (.lst [])) := ⟨h.same (Same.new hD), Kp.of (Same.new hD), [], rfl, fun _ h => (by cases h), upd_same⟩
theorem AccD.step {d c : Addr} {H H1 H2 : Hp} {D : Addr} {m j : Nat} {r : Int} (h : AccD d c H D m j H1) (h0 : Dl H d c) (hD : H D = none) (D2 : Dl H2 d c) (k : Kp d c H1 H2) (r0 : 0 ≤ r) (r1 : r < (m : Int)) (jl : j < 1000) : ∃ acc, H2 D = some (.lst acc) ∧ acc.length < sizeLine ∧ AccD d c H D m (j + 1) (upd H2 D (.lst (acc ++ [.int r]))) := by
  obtain ⟨z1, z2, rw_, z3, z4, z5⟩ := h
  obtain ⟨n1, n2⟩ := h0.ne hD
  refine ⟨_, k _ _ n1 n2 z5, len_lt (by unfold vi; rw [List.length_map]; omega), D2.updn n1 n2, (z2.trans k).updn hD, rw_ ++ [r.toNat], by rw [List.length_append, z3]; rfl, fun x hx => ?_, ?_⟩
  · rcases List.mem_append.mp hx with h | h
    · exact z4 x h
    · rw [List.mem_singleton.mp h]
      omega
  · rw [upd_same]
    unfold vi
    rw [List.map_append]
    show _ = some (HO.lst (_ ++ [V.int ((r.toNat : Nat) : Int)]))
    rw [Int.toNat_of_nonneg r0]
theorem MkO.keep {x dx t : Addr} {ts : List Addr} {m : Int} {rows : List (List Nat)} {H H' : Hp} (h : MkO Cm x dx t ts m rows H) (k : ∀ b o, H b = some o → (∀ l, o ≠ .lst l) → H' b = some o) : MkO Cm x dx t ts m rows H' :=
  ⟨k _ _ h.1 (fun _ => nofun), k _ _ h.2.1 (fun _ => nofun), h.2.2.1, fun s b e => by obtain ⟨ro, e1, e2⟩ := h.2.2.2 s b e; exact ⟨ro, e1, k _ _ e2 (fun _ => nofun)⟩⟩
theorem MkO.same {x dx t : Addr} {ts : List Addr} {m : Int} {rows : List (List Nat)} {H H' : Hp} (h : MkO Cm x dx t ts m rows H) (s : Same H H') : MkO Cm x dx t ts m rows H' := h.keep fun b o e _ => s b o e
theorem MkO.kp {x dx t d c : Addr} {ts : List Addr} {m : Int} {rows : List (List Nat)} {H H' : Hp} (h : MkO Cm x dx t ts m rows H) (D : Dl H d c) (k : Kp d c H H') : MkO Cm x dx t ts m rows H' := by
  obtain ⟨_, cs2, b2, h1, h2, _⟩ := D
  exact h.keep fun b o e nl => k b o (fun z => by rw [z, h1] at e; exact nl _ (Option.some.inj e).symm) (fun z => by rw [z, h2] at e; exact nl _ (Option.some.inj e).symm) e
/-- a row with something in it that is no command -/
theorem bad_row {K : PySem.W.Frag} {H : Hp} {m pl : Nat} {rw_ : List Nat} {x : V} {zs : List V} (hk : ∀ k ∈ rw_, k < m) (hp : pl ≤ rw_.length) (hx : AnyV K H x) (hb : belB (m : Int) x = false) : RowB K H (m : Int) (some ((vi rw_).take pl ++ [x] ++ (vi rw_).drop pl ++ zs)) (pl : Int) := by
  have lv : ((vi rw_).take pl).length = pl := by
    unfold vi
    rw [List.length_take, List.length_map]
    omega
  refine .inr ⟨_, pl, x, rfl, ?_, hx, hb, fun j y hj hy => ?_, rfl⟩
  · rw [List.append_assoc, List.append_assoc, List.getElem?_append_right (by omega), lv, Nat.sub_self]
    rfl
  · rw [List.append_assoc, List.append_assoc, List.getElem?_append_left (by omega), List.getElem?_take, if_pos hj] at hy
    have hy' : (rw_[j]?).map (fun k : Nat => V.int (k : Int)) = some y := by rw [← List.getElem?_map]; exact hy
    obtain ⟨k, hk2, rfl⟩ := Option.map_eq_some_iff.mp hy'
    have := hk k (List.mem_of_getElem? hk2)
    exact ⟨.int _, by unfold belB; simp; omega⟩
theorem paired_of {R : Addr → List Nat → Prop} : ∀ {bs : List Addr} {cs : List (List Nat)}, bs.length = cs.length → (∀ (j : Nat) (b : Addr), bs[j]? = some b → ∃ c, cs[j]? = some c ∧ R b c) → Paired R bs cs
  | [], [], _, _ => .nil
  | b :: bs, c :: cs, hl, h => .cons (by obtain ⟨c2, e, r⟩ := h 0 b rfl; cases e; exact r) (paired_of (by simpa using hl) fun j b2 e => h (j + 1) b2 e)
  | [], _ :: _, hl, _ => by simp at hl
  | _ :: _, [], hl, _ => by simp at hl
/-- the lines with the first and the last changed about -/
def turnL (n : Nat) (cs : List (List Nat)) : List (List Nat) := [row cs (n - 1)] ++ ((rowsOf n cs).drop 1).take (n - 2) ++ [row cs 0]
theorem cut_mid {xs : List V} (h : 0 < xs.length) : cutV xs (some 1) (some (-1)) = (xs.drop 1).take (xs.length - 2) := by
  unfold cutV
  have e1 : HT.sIx xs.length 0 (some 1) = 1 := by
    rw [show (1 : Int) = ((1 : Nat) : Int) from rfl, HT.sIx_nat]
    omega
  have e2 : HT.sIx xs.length xs.length (some (-1)) = xs.length - 1 := by
    show (if (-1 : Int) < 0 then ((-1 : Int) + (xs.length : Int)).toNat else min (-1 : Int).toNat xs.length) = _
    rw [if_pos (by decide)]
    omega
  rw [e1, e2]
  rfl
theorem turnL_mem {n : Nat} {cs : List (List Nat)} (n0 : 0 < n) (hc : ∀ e ∈ cs, Chg n e) : ∀ ro ∈ turnL n cs, ro.length = cs.length ∧ ∀ y ∈ ro, y < n := fun ro h => by
  have g : ∀ j, j < n → (row cs j).length = cs.length ∧ ∀ y ∈ row cs j, y < n := fun j hj => by
    have := rowsOf_ok hc _ (List.mem_of_getElem? (rowsOf_at hj))
    rw [rowsOf_len] at this
    exact this
  unfold turnL at h
  rcases List.mem_append.mp h with h | h
  · rcases List.mem_append.mp h with h | h
    · rw [List.mem_singleton.mp h]
      exact g _ (by omega)
    · have := rowsOf_ok hc _ (List.mem_of_mem_drop (List.mem_of_mem_take h))
      rw [rowsOf_len] at this
      exact this
  · rw [List.mem_singleton.mp h]
    exact g _ n0
theorem turnL_len {n : Nat} {cs : List (List Nat)} : (turnL n cs).length = 1 + min (n - 2) (n - 1) + 1 := by
  unfold turnL
  rw [List.length_append, List.length_append, List.length_take, List.length_drop, rowsOf_len]
  rfl
theorem turnL_ats {n : Nat} {cs : List (List Nat)} {H : Hp} {rt : List Addr} {bL b0 : Addr} (n0 : 0 < n) (hl : rt.length = n) (hr : ∀ (s : Nat) (b : Addr), rt[s]? = some b → H b = some (.tup (vi (row cs s)))) (eL : rt[n - 1]? = some bL) (e0 : rt[0]? = some b0) {j : Nat} {b : Addr} (h : ([bL] ++ (rt.drop 1).take (n - 2) ++ [b0])[j]? = some b) :
    ∃ ro, (turnL n cs)[j]? = some ro ∧ H b = some (.tup (vi ro)) := by
  have lm : ((rt.drop 1).take (n - 2)).length = (((rowsOf n cs).drop 1).take (n - 2)).length := by
    rw [List.length_take, List.length_take, List.length_drop, List.length_drop, rowsOf_len, hl]
  cases j with
  | zero =>
    rw [List.append_assoc] at h
    have e : bL = b := Option.some.inj h
    rw [← e]
    refine ⟨row cs (n - 1), ?_, hr _ _ eL⟩
    unfold turnL
    rw [List.append_assoc]
    rfl
  | succ j =>
    rw [List.append_assoc] at h
    have h2 : ((rt.drop 1).take (n - 2) ++ [b0])[j]? = some b := h
    have g : (turnL n cs)[j + 1]? = (((rowsOf n cs).drop 1).take (n - 2) ++ [row cs 0])[j]? := by
      unfold turnL
      rw [List.append_assoc]
      rfl
    rw [g]
    by_cases z : j < ((rt.drop 1).take (n - 2)).length
    · rw [List.getElem?_append_left z] at h2
      rw [List.getElem?_append_left (by omega)]
      have zn : j < n - 2 := by rw [List.length_take] at z; omega
      rw [List.getElem?_take, if_pos zn, List.getElem?_drop] at h2 ⊢
      exact ⟨_, rowsOf_at (by omega), hr _ _ h2⟩
    · rw [List.getElem?_append_right (by omega)] at h2
      rw [List.getElem?_append_right (by omega), ← lm]
      have zj : j - ((rt.drop 1).take (n - 2)).length = 0 := by
        have := (List.getElem?_eq_some_iff.mp h2).1
        rw [List.length_singleton] at this
        omega
      rw [zj] at h2 ⊢
      have e : b0 = b := Option.some.inj h2
      rw [← e]
      exact ⟨_, rfl, hr _ _ e0⟩
theorem turnL_sw {n : Nat} {cs : List (List Nat)} (n2 : 2 ≤ n) {j : Nat} {ro : List Nat} (h : (turnL n cs)[j]? = some ro) : ro = row cs (sw n j) := by
  have lm : (((rowsOf n cs).drop 1).take (n - 2)).length = n - 2 := by
    rw [List.length_take, List.length_drop, rowsOf_len]
    omega
  unfold turnL at h
  rw [List.append_assoc] at h
  cases j with
  | zero => exact (Option.some.inj h).symm
  | succ j =>
    have h2 : (((rowsOf n cs).drop 1).take (n - 2) ++ [row cs 0])[j]? = some ro := h
    by_cases z : j < n - 2
    · rw [List.getElem?_append_left (by omega), List.getElem?_take, if_pos z, List.getElem?_drop, rowsOf_at (by omega)] at h2
      rw [← Option.some.inj h2]
      unfold sw
      rw [if_neg (by omega), if_neg (by omega), Nat.add_comm]
    · rw [List.getElem?_append_right (by omega), lm] at h2
      have zj : j - (n - 2) = 0 := by
        have := (List.getElem?_eq_some_iff.mp h2).1
        rw [List.length_singleton] at this
        omega
      rw [zj] at h2
      rw [← Option.some.inj h2]
      unfold sw
      rw [if_neg (by omega), if_pos (by omega)]
/-- lists made one behind another -/
def AccL (H : Hp) (D : Addr) (f : Nat → List Nat) (j : Nat) (H' : Hp) : Prop := Same H H' ∧ ∃ gs : List Addr, gs.length = j ∧ H' D = some (.lst (gs.map V.ref)) ∧ (∀ (s : Nat) (b : Addr), gs[s]? = some b → H' b = some (.lst (vi (f s)))) ∧ (∀ b ∈ gs, H b = none ∧ b ≠ D) ∧ gs.Nodup
theorem AccL.init {H : Hp} {D : Addr} {f : Nat → List Nat} (hD : H D = none) : AccL H D f 0 (upd H D (.lst [])) := ⟨Same.new hD, [], rfl, upd_same, fun s b h => by simp at h, fun b h => by simp at h, List.nodup_nil⟩
theorem AccL.step {H H1 : Hp} {D t : Addr} {f : Nat → List Nat} {j : Nat} (h : AccL H D f j H1) (hD : H D = none) (ht : H1 t = none) (jl : j < 1000) : ∃ acc, upd H1 t (.lst (vi (f j))) D = some (.lst acc) ∧ acc.length < sizeLine ∧ AccL H D f (j + 1) (upd (upd H1 t (.lst (vi (f j)))) D (.lst (acc ++ [.ref t]))) := by
  obtain ⟨z1, gs, z2, z3, z4, z5, z6⟩ := h
  have st := Same.new (o := .lst (vi (f j))) ht
  have nt : t ≠ D := fun z => by rw [z, z3] at ht; cases ht
  refine ⟨_, st _ _ z3, len_lt (by rw [List.length_map]; omega), Same.upd (z1.trans st) hD, gs ++ [t], by rw [List.length_append, z2]; rfl, by rw [upd_same, List.map_append]; rfl, fun s b hs => ?_, fun b hb => ?_, ?_⟩
  · rw [List.getElem?_append] at hs
    split at hs
    · rw [upd_ne (z5 b (List.mem_of_getElem? hs)).2]
      exact st _ _ (z4 s b hs)
    · next z =>
      have : s = j := by
        have := (List.getElem?_eq_some_iff.mp hs).1
        simp at this
        omega
      subst this
      rw [z2, Nat.sub_self] at hs
      have : b = t := (Option.some.inj hs).symm
      rw [this, upd_ne nt]
      exact upd_same
  · rcases List.mem_append.mp hb with h | h
    · exact z5 b h
    · rw [List.mem_singleton.mp h]
      exact ⟨z1.free ht, nt⟩
  · refine List.nodup_append.mpr ⟨z6, by simp, fun a ha b hb e => ?_⟩
    rw [List.mem_singleton.mp hb] at e
    obtain ⟨i, hi⟩ := List.mem_iff_getElem?.mp ha
    rw [e] at hi
    have := z4 i t hi
    rw [ht] at this
    cases this
theorem own_mm {K : PySem.W.Frag} {fE : Addr} {no : Bool} {Q : VK} {H : Hp} {x dx t y dy t2 : Addr} {ts ts2 : List Addr} {m m2 : Int} {rows rows2 : List (List Nat)} (M : MF K Cm fI fE) (O : MkO Cm x dx t ts m rows H) (O2 : MkO Cm y dy t2 ts2 m2 rows2 H) (q : Q (.bl ((decide (m = m2) && decide (rows = rows2)) ^^ no)) H) : rOwn K Cm (spMEq K Cm) no (.ref x) (.ref y) H Q :=
  ⟨x, dx, _, .ref Cm, rfl, O.1, .ins O2.1, M.fM, x, _, m, rows, rfl, ⟨_, _, _, O⟩, .inl ⟨y, m2, rows2, rfl, ⟨_, _, _, O2⟩, _, rfl, q⟩⟩
theorem own_mt {K : PySem.W.Frag} {fE : Addr} {no : Bool} {Q : VK} {H : Hp} {x dx t p : Addr} {ts : List Addr} {m : Int} {rows : List (List Nat)} {xs : List V} (M : MF K Cm fI fE) (O : MkO Cm x dx t ts m rows H) (hp : H p = some (.tup xs)) (q : Q (.bl (false ^^ no)) H) : rOwn K Cm (spMEq K Cm) no (.ref x) (.ref p) H Q :=
  ⟨x, dx, _, .type "tuple", rfl, O.1, .tup hp, M.fT, x, _, m, rows, rfl, ⟨_, _, _, O⟩, .inr ⟨.inr ⟨p, xs, rfl, hp⟩, _, rfl, q⟩⟩
theorem own_ms {K : PySem.W.Frag} {fE : Addr} {no : Bool} {Q : VK} {H : Hp} {x dx t : Addr} {ts : List Addr} {m : Int} {rows : List (List Nat)} {z : Str} (M : MF K Cm fI fE) (O : MkO Cm x dx t ts m rows H) (q : Q (.bl (false ^^ no)) H) : rOwn K Cm (spMEq K Cm) no (.ref x) (.str z) H Q :=
  ⟨x, dx, _, .type "str", rfl, O.1, .str z, M.fS, x, _, m, rows, rfl, ⟨_, _, _, O⟩, .inr ⟨.inl ⟨z, rfl⟩, _, rfl, q⟩⟩
def spLaw (K : PySem.W.Frag) : Sp := fun vs H Q _ => ∃ (a : Addr) (ns : List Int), vs = [.ref a] ∧ SqL K H a (ns.map V.int) ∧ ∀ H', Q (.bl true) H'
end
end KV

/-! d.setdefault(key, value), keys that are tuples -/
namespace KV
open PySem PySem.Spec PyProof.Rows L2
section
variable {prog : Program} {w : World} {κ : Type} [DecidableEq κ] {knd : HeapKind prog w κ} {A : Around} {E : Value → Shared → Prop} {s : Shared} {d a : Addr} {xs : List (κ × Addr × Value)} {k : κ} {v : Value} {Q : Value → Shared → Prop}
theorem atKey_none (h : ∀ (j : Nat) (p : Addr × Value), xs[j]? ≠ some (k, p)) : atKey xs k = none := by
  unfold atKey
  rw [Option.map_eq_none_iff, List.find?_eq_none]
  intro x hx e
  obtain ⟨j, hj⟩ := List.mem_iff_getElem?.mp hx
  have : x.1 = k := of_decide_eq_true e
  exact h j x.2 (by rw [hj, ← this])
theorem wpAny_dictSetDefault_heap (hr : knd.room A) (hk : knd.is s.heap k a) (hd : Heap.DictOfH knd s.heap d xs) (hz : xs.length ≤ sizeLine)
    (h1 : ∀ (j : Nat) (p : Addr × Value), xs[j]? = some (k, p) → Q p.2 { heap := s.heap, gens := s.gens, drawn := s.drawn, toks := s.toks + knd.draws k, os := s.os })
    (h2 : atKey xs k = none → ∀ h' : Heap, Heap.DictOfH knd h' d (storedH xs k a v) → Heap.SameBut d s.heap h' → Q v { heap := h', gens := s.gens, drawn := s.drawn, toks := s.toks + knd.draws k, os := s.os }) :
    wpAny (model prog w) A (dictSetDefault d (.ref a) v) Q E s := by
  obtain ⟨o, es, ep, ho, hx, hdt, he, hks, nd⟩ := hd
  have l1 : es.size = xs.length := size_of_entries he
  unfold dictSetDefault
  refine wpAny_holding (wpAny_bind (knd.pyHash hr hk ?_))
  refine wpAny_bind (wpAny_dictFind_heap (s := { s with toks := s.toks + knd.draws k }) hr hk ho hdt he hks nd (fun none => ?_) (fun j p e => ?_))
  · refine wpAny_bind (wpAny_rule (wpAny_bind (wpAny_updateDictKeys ho hdt (wpAny_pure ?_) (by rw [l1]; exact hz) (by rw [Array.size_push]; exact Nat.le_refl _))))
    have an := atKey_none none
    refine h2 an _ ?_ (Heap.SameBut.update _ _ _)
    obtain ⟨oc, od, odt, osl⟩ := o
    simp only at hdt
    subst hdt
    have hg := Heap.get?_update_self (h := s.heap) (a := d) (Obj.mapDictKeys fun x => x.push { hash := knd.hash k, key := .ref a, val := v }) ho (by rfl)
    refine ⟨_, _, _, hg, hx, rfl, ?_, ?_, ?_⟩
    · unfold storedH
      rw [an]
      simp only [Option.isSome_none, Bool.false_eq_true, if_false, List.map_append, Array.toList_push, he]
      rfl
    · unfold storedH
      rw [an]
      simp only [Option.isSome_none, Bool.false_eq_true, if_false]
      intro x hx'
      rcases List.mem_append.mp hx' with y | y
      · exact knd.keeps (hks x y) ho rfl (Heap.SameBut.update _ _ _)
      · rw [show x = _ from by simpa using y]
        exact knd.keeps hk ho rfl (Heap.SameBut.update _ _ _)
    · unfold storedH
      rw [an]
      simp only [Option.isSome_none, Bool.false_eq_true, if_false, List.map_append, List.map_cons, List.map_nil]
      rw [List.nodup_append]
      refine ⟨nd, by simp, fun x hx' y hy e => ?_⟩
      obtain ⟨z, hz', rfl⟩ := List.mem_map.mp hx'
      obtain ⟨j, hj⟩ := List.mem_iff_getElem?.mp hz'
      have : y = k := by simpa using hy
      exact none j z.2 (by rw [hj, ← this, ← e])
  · refine wpAny_bind (wpAny_dictEntries ho hdt ?_)
    have ee := entry_at he j
    rw [e] at ee
    rw [ee]
    exact wpAny_bind (wpAny_rule (wpAny_pure (h1 j p e)))
end
def rSetDef : V → List V → Hp → VK → Prop := fun x xs H Q => ∃ (a : Addr) (kvs : List (List Key × V)) (k : List Key) (b : Addr) (d : V), x = .ref a ∧ xs = [.ref b, d] ∧ H a = some (.dT kvs) ∧ H b = some (.tup (k.map kV)) ∧ kvs.length < sizeLine ∧
  (∀ v, valV kvs k = some v → Q v H) ∧ (valV kvs k = none → Q d (upd H a (.dT (putK kvs k d))))
theorem kt_at {H : Hp} : ∀ {kvs : List (List Key × V)} {xs : List (List Key × Addr × Value)}, KT H kvs xs → ∀ {j : Nat} {k : List Key} {p : Addr × Value}, xs[j]? = some (k, p) → ∃ y, kvs[j]? = some (k, y) ∧ RelV y p.2
  | _, _, .nil, j, k, p, e => by cases e
  | (k1, y1) :: _, (k2, p2) :: _, .cons h t, 0, k, p, e => by
    cases e
    obtain ⟨h1, h2, h3⟩ := h
    exact ⟨y1, by rw [show k1 = k2 from h1]; rfl, h3⟩
  | _ :: _, _ :: _, .cons h t, j + 1, k, p, e => by
    obtain ⟨y, h1, h2⟩ := kt_at t (j := j) e
    exact ⟨y, h1, h2⟩
theorem kt_keys {H : Hp} : ∀ {kvs : List (List Key × V)} {xs : List (List Key × Addr × Value)}, KT H kvs xs → kvs.map (·.1) = xs.map (·.1)
  | _, _, .nil => rfl
  | _ :: _, _ :: _, .cons h t => by rw [List.map_cons, List.map_cons, kt_keys t, h.1]
theorem valV_at {kvs : List (List Key × V)} {j : Nat} {k : List Key} {y : V} (nd : (kvs.map (·.1)).Nodup) (h : kvs[j]? = some (k, y)) : valV kvs k = some y := by
  unfold valV
  induction kvs generalizing j with
  | nil => cases h
  | cons x r ih =>
    rw [List.map_cons, List.nodup_cons] at nd
    cases j with
    | zero =>
      cases h
      simp
    | succ j =>
      have hm : k ∈ r.map (·.1) := List.mem_map.mpr ⟨(k, y), List.mem_of_getElem? (show r[j]? = some (k, y) from h), rfl⟩
      have ne : x.1 ≠ k := fun e => nd.1 (by rw [e]; exact hm)
      rw [List.find?_cons_of_neg (by simpa using ne)]
      exact ih nd.2 h
theorem kt_none {H : Hp} {kvs : List (List Key × V)} {xs : List (List Key × Addr × Value)} {k : List Key} (h : KT H kvs xs) (an : atKey xs k = none) : valV kvs k = none := by
  unfold atKey at an
  unfold valV
  rw [Option.map_eq_none_iff, List.find?_eq_none] at an ⊢
  intro x hx e
  have : k ∈ xs.map (·.1) := by
    rw [← kt_keys h, ← (of_decide_eq_true e : x.1 = k)]
    exact List.mem_map.mpr ⟨x, hx, rfl⟩
  obtain ⟨z, hz, e2⟩ := List.mem_map.mp this
  exact an z hz (decide_eq_true e2)
theorem mt_setdef {X : Cx} (hu : X.A.units + 64 < cLine) : MtR X "dict.setdefault" rSetDef := by
  intro pins s σ H x xs v us Q I rx rxs h
  obtain ⟨a, kvs, k, b, d, rfl, rfl, ha, hb, hlt, q1, q2⟩ := h
  cases rx
  obtain ⟨u1, u2, rfl, r1, r2⟩ := vals2 rxs
  cases r1
  obtain ⟨z, hs, ks, rl, dd⟩ := dt_of I.hok ha
  have hz : ks.length ≤ sizeLine := by rw [← Paired.length rl]; exact z
  have hl : kvs.length = ks.length := Paired.length rl
  have kk := key_of I.hok hb
  obtain ⟨o, es, ep, ho, hx, hdt, he, hks, nd⟩ := id dd
  refine wpAny_call_entry PySem.F.slot_dict_setdefault ⟨_, ho, hx.1⟩ PySem.F.entry_dict_setdefault ?_ (PySem.F.args_dict_setdefault_3 _ _ _)
  unfold Builtin.«dict.setdefault»
  refine wpAny_bind ?_
  unfold Builtin.Dict.keyAndDefault
  refine wpAny_bind (wpAny_notOrdered_dict ⟨_, ho, hx.1⟩ ?_)
  refine wpAny_bind (m := Builtin.Dict.nameIsSure "setdefault" _ _) (wpAny_pure ?_)
  refine wpAny_bind (m := selfAndSome _ _ _ _ _) (wpAny_pure ?_)
  refine wpAny_bind (m := Builtin.Dict.addrOf _) (wpAny_pure (wpAny_pure ?_))
  simp only [hs]
  refine wpAny_bind (wpAny_dictSetDefault_heap (knd := tupleKind (mixKind X.prog X.w)) (show (tupleKind (mixKind X.prog X.w)).room X.A.in1 from (by show X.A.units + 1 < cLine; omega)) kk dd hz (fun j p e => ?_) (fun an h' dd' hsb => ?_))
  · obtain ⟨y, hy, ry⟩ := kt_at rl e
    have nd' : (kvs.map (·.1)).Nodup := by rw [kt_keys rl]; exact nd
    exact wpAny_pure ⟨_, rfl, y, H, I.kept fun _ _ z => z, ry, q1 y (valV_at nd' hy)⟩
  · have vn : valV kvs k = none := kt_none rl an
    obtain ⟨q, es', ep', hq, h2, h3, h4, _, h5⟩ := dd'
    have hlp : (putK kvs k d).length ≤ sizeLine := by
      rw [putK_new _ vn, List.length_append]
      exact hlt
    refine wpAny_pure ⟨_, rfl, d, upd H a (.dT (putK kvs k d)), d_write I (by rw [ha]; exact True.intro) hsb ⟨q, hq⟩ ⟨hlp, hs, _, (rl.put k hb r2).keeps fun c ys ec => ?_, q, es', ep', hq, h2, h3, h4, h5⟩, r2, q2 vn⟩
    rw [upd_ne (ne_of ec ha (fun z => nomatch z))]
    exact ec
end KV

/-! the program: idle_change, composed -/
namespace KV
open PySem PySem.Spec PyProof.Rows L2 KC
section
variable {P : Program} {w : World} {K : PySem.W.Frag} {mg : Str → Option Value} {base : Heap} {C fT : Addr}
def spIdle : Sp := fun vs H Q _ => ∃ n : Nat, vs = [.int (n : Int)] ∧ n ≤ 16 ∧ ∀ t H', Same H H' → H t = none → H' t = some (.tup (vi (List.range n))) → Q (.ref t) H'
theorem sc18 : FnScope ["states"] ["states"] (defScope (top 17)) := ⟨rfl, rfl, rfl, by decide +kernel, rfl, by decide +kernel, by decide +kernel⟩
theorem ok_idle {f : Addr} {fd : FuncData} (B : Bl mg) (F : Fun K "idle_change" "idle_change" (top 17) f fd) : FnOk P w K mg base CX0 1 f fd ["states"] spIdle := by
  refine F.ok sc18 (fun vs H Q E h => ?_) (fun cdv A outer s H vs Q E hr h => ⟨_,
    (pss_one (ps_ret (pe_tupRg rfl (by rfl) B.tuple (prg_1 (by rfl) B.range (pv 0))))), ?_⟩)
  · obtain ⟨n, rfl, _⟩ := h
    rfl
  obtain ⟨n, rfl, n16, q⟩ := h
  refine ⟨_, rfl, _, rfl, RgOk.of_le (by decide) (by omega) (by decide) (by omega), fun t ht => ?_⟩
  rw [rgV_vi]
  exact q t _ (Same.new ht) ht upd_same
theorem sc19 : FnScope ["one", "other", "state"] ["one", "other"] (defScope (top 18)) := ⟨rfl, rfl, rfl, by decide +kernel, rfl, by decide +kernel, by decide +kernel⟩
theorem ok_composed {f : Addr} {fd : FuncData} (B : Bl mg) (F : Fun K "composed" "composed" (top 18) f fd) : FnOk P w K mg base CX0 1 f fd ["one", "other"] spComp := by
  refine F.ok sc19 (fun vs H Q E h => ?_) (fun cdv A outer s H vs Q E hr h => ⟨_,
    (pss_one (ps_ret (pe_callTy call_tuple_of (by rfl) B.tuple (by decide +kernel) (pa_cons (pe_lc (own := [("state", 2)]) (g := gName 2) (tt := tYes) rfl sc19.nd (pi_tup (pv 0)) (blkOk_by (N := ["one", "other", "state"]) (sc := defScope (top 18)) (by decide +kernel))
        (fun _ _ _ _ _ => (pg_name (i := 2) sc19.nd rfl (Or.inl rfl))) (fun _ _ _ _ _ => pts_nil) (fun _ _ _ _ _ => (pe_ix (r := rIxT K) ix_tup (pv 1) (pv 2) (fun _ _ => rfl)))) pa_nil)))), ?_⟩)
  · obtain ⟨a, b, c, e, rfl, _⟩ := h
    rfl
  obtain ⟨a, b, c, e, rfl, ha, hb, hlt, hl, q⟩ := h
  refine ⟨_, rfl, a, rfl, ⟨_, SqT.of ha⟩, fun D hD => lc_tup (xs := vi c) (fun i H' => Same H H' ∧ H' D = some (.lst (vi (comp (c.take i) e)))) ⟨Same.mk1 hD, upd_same⟩ (fun i H' _ p => SqT.of (p.1 _ _ ha)) ?_ ?_⟩
  · rintro i x H' hx ⟨p1, p2⟩
    obtain ⟨m, hm, rfl⟩ := vi_at hx
    have lt := hlt m (List.mem_of_getElem? hm)
    refine ⟨rfl, _, rfl, _, rfl, b, _, _, _, rfl, rfl, SqT.of (p1 _ _ hb), atI_nat (vi_get (at_getD lt)), _, p2, len_lt (by simp only [vi, comp, List.length_map, List.length_take]; omega), Same.upd p1 hD, ?_⟩
    rw [upd_same, List.take_succ, hm]
    show some (HO.lst (vi (comp (c.take i) e) ++ [V.int ((e.getD m 0 : Nat) : Int)])) = some (HO.lst (vi (comp (c.take i ++ [m]) e)))
    simp only [vi, comp, List.map_append, List.map_cons, List.map_nil]
  · rintro H' ⟨p1, p2⟩
    have p2 : H' D = some (.lst (vi (comp c e))) := by
      have z := p2
      rw [show (vi c).length = c.length from List.length_map .., List.take_length] at z
      exact z
    exact ⟨D, _, rfl, .inl ⟨SqL.of p2, fun t ht => q t _ (p1.trans (Same.mk1 ht)) (p1.free ht) upd_same⟩⟩
end
end KV

/-! cycles -/
namespace KV
open PySem PySem.Spec PyProof.Rows L2 KC
/-- the truth values of a list at the places below n tell U -/
def Tells (n : Nat) (mt : List Bool) (U : Nat → Prop) : Prop := mt.length = n ∧ ∀ x, x < n → ∃ b, mt[x]? = some b ∧ (b = true ↔ U x)
theorem Tells.set {n : Nat} {mt : List Bool} {U U' : Nat → Prop} {s : Nat} (h : Tells n mt U) (hs : s < n) (e : ∀ x, x < n → (U' x ↔ U x ∨ x = s)) : Tells n (mt.set s true) U' := by
  refine ⟨by rw [List.length_set]; exact h.1, fun x hx => ?_⟩
  by_cases z : x = s
  · subst z
    exact ⟨true, List.getElem?_set_self (by rw [h.1]; exact hx), by simp [e x hx]⟩
  · obtain ⟨b, hb, hu⟩ := h.2 x hx
    refine ⟨b, by rw [List.getElem?_set_ne (Ne.symm z)]; exact hb, ?_⟩
    rw [e x hx, hu]
    simp [z]
/-- a list of bools as values -/
abbrev vb (bs : List Bool) : List V := bs.map V.bl
theorem vb_rep (n : Nat) : vb (List.replicate n false) = List.replicate n (V.bl false) := List.map_replicate ..
/-- all but the object at m stands -/
def KpM (m : Addr) (H H' : Hp) : Prop := ∀ b o, b ≠ m → H b = some o → H' b = some o
theorem KpM.refl {m : Addr} {H : Hp} : KpM m H H := fun _ _ _ h => h
theorem KpM.upd_m {m : Addr} {H H' : Hp} {o : HO} (k : KpM m H H') : KpM m H (upd H' m o) := fun b u hb h => by
  rw [upd_ne hb]
  exact k b u hb h
theorem KpM.upd_n {m q : Addr} {H H' : Hp} {o : HO} (k : KpM m H H') (hq : H q = none) : KpM m H (upd H' q o) := fun b u hb h => by
  rw [upd_ne (ne_of_none h hq)]
  exact k b u hb h
theorem KpM.new {m q : Addr} {H H' : Hp} {o : HO} (k : KpM m H H') (hq : H' q = none) (hm : q ≠ m) : KpM m H (upd H' q o) := fun b u hb h => by
  rw [upd_ne (ne_of_none (k b u hb h) hq)]
  exact k b u hb h
def Un (as : List (Addr × List Nat)) (x : Nat) : Prop := ∃ q ∈ as, x ∈ q.2
/-- what the cycles so far are -/
structure Cys (n : Nat) (c : List Nat) (H0 H : Hp) (m p : Addr) (as : List (Addr × List Nat)) : Prop where
  at_ : H p = some (.lst (as.map fun q => V.ref q.1))
  each : ∀ q ∈ as, H q.1 = some (.lst (vi q.2)) ∧ Cyc n c q.2 ∧ q.1 ≠ m ∧ q.1 ≠ p ∧ H0 q.1 = none
section
variable {P : Program} {w : World} {K : PySem.W.Frag} {mg : Str → Option Value} {base : Heap} {C fI : Addr}
/-- round_from(change, start) -/
def spRF : Sp := fun vs H Q _ => ∃ (a : Addr) (n : Nat) (c : List Nat) (st : Nat), vs = [.ref a, .int (st : Int)] ∧ H a = some (.tup (vi c)) ∧ Chg n c ∧ n ≤ 16 ∧ st < n ∧
  ∀ k H' (L : Nat), Same H H' → H k = none → H' k = some (.lst (vi (tab L fun j => it c j st))) → 0 < L → L ≤ n → Cyc n c (tab L fun j => it c j st) → Q (.ref k) H'
theorem it_mem {n : Nat} {c : List Nat} (hc : Chg n c) {st L : Nat} (hs : st < n) (nd : (tab L fun j => it c j st).Nodup) (L0 : 0 < L) (hm : it c L st ∈ tab L fun j => it c j st) : Cyc n c (tab L fun j => it c j st) ∧ it c L st = st := by
  rcases walk_end (U := fun _ => False) hc hs (fun _ _ z => z) nd (fun _ _ z => z) (.inr hm) with ⟨_, z⟩ | ⟨_, z⟩
  · exact z.elim
  · exact ⟨z, (z.back hc (mem_tab.mpr ⟨0, L0, rfl⟩)).mpr (by rw [tab_len]; exact Nat.dvd_refl _)⟩
theorem take_at3 {α : Type} {l : List α} {i : Nat} {x : α} (h : l[i]? = some x) : l.take (i + 1) = l.take i ++ [x] := by
  rw [List.take_add_one, h]
  rfl
theorem sr14r : FnScope ["change", "start", "cycle", "state"] ["change", "start"] (defScope (top 20)) := ⟨rfl, rfl, rfl, by decide +kernel, rfl, by decide +kernel, by decide +kernel⟩
theorem ok_rf {f : Addr} {fd : FuncData} (F : Fun K "round_from" "round_from" (top 20) f fd) : FnOk P w K mg base CX0 1 f fd ["change", "start"] spRF := by
  refine F.ok sr14r (fun vs H Q E h => ?_) (fun cdv A outer s H vs Q E hr h => ⟨_,
    pss_cons (ps_set (i := 2) sr14r.nd rfl (.inl rfl) (pe_lst (pa_cons (pv 1) pa_nil)))
    (pss_cons (ps_set (i := 3) sr14r.nd rfl (.inl rfl) (pe_ix ix_tup (pv 0) (pv 1) (fun _ _ => rfl)))
    (pss_cons (ps_while PassesOwn.never (pt_cmpR op_ne (pv 3) (pv 1) (nomark _))
      (pss_cons (ps_expr (pe_bm PySem.F.plainAttrs_list PySem.F.slot_list_append PySem.F.type_list_append mt_append (pv 2) (pa_cons (pv 3) pa_nil)))
      (pss_one (ps_set (i := 3) sr14r.nd rfl (.inl rfl) (pe_ix ix_tup (pv 0) (pv 3) (fun _ _ => rfl))))))
    (pss_one (ps_ret (pv 2))))), ?_⟩)
  · obtain ⟨a, n, c, st, rfl, _⟩ := h
    rfl
  obtain ⟨a, n, c, st, rfl, ha, hc, hn, stn, q⟩ := h
  refine ⟨_, rfl, (by show 1 ≤ sizeLine; decide), fun k hk => ?_⟩
  have ak : a ≠ k := fun z => by rw [z, hk] at ha; cases ha
  refine ⟨_, rfl, _, rfl, a, _, _, _, rfl, rfl, SqT.of (Same.mk1 hk _ _ ha), atI_nat (vi_get (at_getD (by rw [hc.len]; exact stn))), ?_⟩
  refine ⟨fun μ σ H3 => ∃ L : Nat, 0 < L ∧ μ = n - L ∧ σ = [some (.ref a), some (.int (st : Int)), some (.ref k), some (.int ((it c L st : Nat) : Int))] ∧ Same H H3 ∧ H3 k = some (.lst (vi (tab L fun j => it c j st))) ∧ (tab L fun j => it c j st).Nodup,
    ⟨_, 1, by decide, rfl, rfl, Same.mk1 hk, upd_same, by simp [tab]⟩, ?_⟩
  rintro μ σ H3 ⟨L, L0, rfl, rfl, s3, h2, nd⟩
  have ltn := it_lt hc stn L
  have Ln := walk_le hc stn nd
  refine ⟨_, rfl, _, rfl, rfl, _, rfl, ?_⟩
  by_cases e : it c L st = st
  · have hm : it c L st ∈ tab L fun j => it c j st := by
      rw [e]
      exact mem_tab.mpr ⟨0, L0, rfl⟩
    refine iteN (by simp [e]) ⟨_, rfl, q k H3 L s3 hk h2 L0 Ln (it_mem hc stn nd L0 hm).1⟩
  · have nm : it c L st ∉ tab L fun j => it c j st := fun z => e (it_mem hc stn nd L0 z).2
    have nd2 : (tab (L + 1) fun j => it c j st).Nodup := by
      rw [tab_succ]
      refine List.nodup_append.mpr ⟨nd, List.nodup_cons.mpr ⟨List.not_mem_nil, List.nodup_nil⟩, fun x hx y hy e => ?_⟩
      have ey : y = it c L st := List.mem_singleton.mp hy
      rw [e, ey] at hx
      exact nm hx
    have Ln2 := walk_le hc stn nd2
    refine iteP (by simp; omega) ⟨fun σ' H4 => ∃ μ', μ' < n - L ∧ ∃ L : Nat, 0 < L ∧ μ' = n - L ∧ σ' = [some (.ref a), some (.int (st : Int)), some (.ref k), some (.int ((it c L st : Nat) : Int))] ∧ Same H H4 ∧ H4 k = some (.lst (vi (tab L fun j => it c j st))) ∧ (tab L fun j => it c j st).Nodup, fun _ _ z => z, ?_⟩
    refine ⟨_, rfl, .inl ⟨rfl, _, SqL.of h2⟩, _, rfl, k, _, _, rfl, rfl, h2, len_lt (by simp only [vi, List.length_map, tab_len]; omega), ?_⟩
    refine ⟨_, rfl, _, rfl, a, _, _, _, rfl, rfl, SqT.of (by rw [upd_ne ak]; exact s3 _ _ ha), atI_nat (vi_get (at_getD (by rw [hc.len]; exact ltn))), n - (L + 1), by omega, L + 1, by omega, rfl, rfl, fun b o z => by rw [upd_ne (fun y => by rw [y, hk] at z; cases z)]; exact s3 b o z, ?_, nd2⟩
    rw [upd_same, tab_succ]
    simp only [vi, List.map_append, List.map_cons, List.map_nil]
/-- _cycles(change) -/
def spCyc : Sp := fun vs H Q _ => ∃ (a : Addr) (n : Nat) (c : List Nat), vs = [.ref a] ∧ H a = some (.tup (vi c)) ∧ Chg n c ∧ n ≤ 16 ∧
  ∀ p H' (as : List (Addr × List Nat)), Same H H' → H p = none → H' p = some (.lst (as.map fun q => V.ref q.1)) → (∀ q ∈ as, H' q.1 = some (.lst (vi q.2)) ∧ Cyc n c q.2 ∧ H q.1 = none) → (∀ x, x < n → Un as x) → as.length ≤ 16 → Q (.ref p) H'
theorem sr14 : FnScope ["change", "met", "cycles", "start", "cycle", "state"] ["change"] (defScope (top 21)) := ⟨rfl, rfl, rfl, by decide +kernel, rfl, by decide +kernel, by decide +kernel⟩
theorem ok_cyc {f : Addr} {fd : FuncData} (B : Bl mg) (CR : Cal P w K mg base CX0 1 "round_from" ["change", "start"] spRF) (F : Fun K "_cycles" "_cycles" (top 21) f fd) : FnOk P w K mg base CX0 2 f fd ["change"] spCyc := by
  refine F.ok sr14 (fun vs H Q E h => ?_) (fun cdv A outer s H vs Q E hr h => ⟨_,
    pss_cons (ps_set (i := 1) sr14.nd rfl (.inl rfl) (pe_op op_rep (pe_lst (pa_cons pe_bl pa_nil)) (pe_callB call_len_seq (by rfl) B.len PySem.boot_len (pa_cons (pv 0) pa_nil))))
    (pss_cons (ps_set (i := 2) sr14.nd rfl (.inl rfl) (pe_lst pa_nil))
    (pss_cons (ps_for PassesOwn.never rfl (pi_tup (pv 0)) (pg_name (i := 3) sr14.nd rfl (.inl rfl))
      (pss_one (ps_if (pt_not (pt_val (pe_ix ix_list (pv 1) (pv 3) (fun _ _ => rfl))))
        (pss_cons (ps_set (i := 4) sr14.nd rfl (.inl rfl) (by exact (pe_cal (X := L2.Cx.nox _) CR hr (by decide) (pa_cons (pv 0) (pa_cons (pv 3) pa_nil)))))
        (pss_cons (ps_for PassesOwn.never rfl (pi_list (pv 4)) (pg_name (i := 5) sr14.nd rfl (.inl rfl)) (pss_one (ps_asg pe_bl (pg_sub (pv 1) (pv 5) set_list))))
        (pss_one (ps_expr (pe_bm PySem.F.plainAttrs_list PySem.F.slot_list_append PySem.F.type_list_append mt_append (pv 2) (pa_cons (pv 4) pa_nil)))))) pss_nil)))
    (pss_one (ps_ret (pv 2))))), ?_⟩)
  · obtain ⟨a, n, c, rfl, _⟩ := h
    rfl
  obtain ⟨a, n, c, rfl, ha, hc, hn, q⟩ := h
  have lc : (vi c).length = n := by rw [List.length_map]; exact hc.len
  refine ⟨(by show 1 ≤ sizeLine; decide), fun l hl => ⟨_, rfl, a, _, rfl, .inr (SqT.of (Same.mk1 hl _ _ ha)), l, _, _, rfl, rfl, upd_same, ?_, ?_, ?_, fun m hm => ?_⟩⟩
  · rw [lc]; omega
  · rw [lc]; omega
  · rw [lc]
    show 1 * ((n : Int)).toNat ≤ sizeLine
    exact Nat.le_of_lt (len_lt (by omega))
  have e0 : (List.replicate (((vi c).length : Nat) : Int).toNat [V.bl false]).flatten = vb (List.replicate n false) := by
    rw [lc, vb_rep, rep_v]
    rfl
  rw [e0]
  have s1 : Same H (upd (upd H l (.lst [V.bl false])) m (.lst (vb (List.replicate n false)))) := (Same.mk1 hl).trans (Same.mk1 hm)
  have m1 : upd (upd H l (.lst [V.bl false])) m (.lst (vb (List.replicate n false))) m = some (.lst (vb (List.replicate n false))) := upd_same
  have mn : H m = none := (Same.mk1 hl).free hm
  generalize upd (upd H l (.lst [V.bl false])) m (.lst (vb (List.replicate n false))) = H1 at s1 m1 ⊢
  refine ⟨(by show 0 ≤ sizeLine; exact Nat.zero_le _), fun p hp => ?_⟩
  have pn : H p = none := s1.free hp
  have mp : m ≠ p := ne_of_none m1 hp
  refine ⟨_, rfl, a, rfl, ⟨_, SqT.of (Same.mk1 hp _ _ (s1 _ _ ha))⟩, for_tup (xs := vi c) (fun i σ H' => (∃ u3 u4 u5 : Option V, σ = [some (.ref a), some (.ref m), some (.ref p), u3, u4, u5]) ∧ Same H H' ∧ ∃ (as : List (Addr × List Nat)) (mt : List Bool),
      H' m = some (.lst (vb mt)) ∧ Cys n c H H' m p as ∧ as.length ≤ i ∧ Tells n mt (Un as) ∧ ∀ j, j < i → Un as (c.getD j 0))
    ⟨⟨none, none, none, rfl⟩, s1.trans (Same.mk1 hp), [], List.replicate n false, Same.mk1 hp _ _ m1, ⟨upd_same, fun _ z => by simp at z⟩, Nat.le_refl _, ⟨List.length_replicate, fun x hx => ⟨false, by rw [List.getElem?_replicate, if_pos hx], by simp [Un]⟩⟩, fun j hj => absurd hj (Nat.not_lt_zero j)⟩ (fun i σ H' _ z => SqT.of (z.2.1 _ _ ha)) ?_ ?_⟩
  · rintro i x σ H2 hx ⟨⟨u3, u4, u5, rfl⟩, sH, as, mt, hm2, hcy, hlen, htell, hcov⟩
    obtain ⟨st, hst, rfl⟩ := vi_at hx
    have hi : i < n := by rw [← hc.len]; exact (List.getElem?_eq_some_iff.mp hst).1
    have est : c.getD i 0 = st := getD_at hst
    have stn : st < n := by rw [← est]; exact hc.at_lt hi
    obtain ⟨b, hb, hbu⟩ := htell.2 st stn
    refine ⟨_, rfl, _, rfl, m, _, _, _, rfl, rfl, SqL.of hm2, atI_nat (by rw [List.getElem?_map, hb]; rfl), b, rfl, ?_⟩
    cases b with
    | true =>
      refine iteF ⟨⟨_, _, _, rfl⟩, sH, as, mt, hm2, hcy, by omega, htell, fun j hj => ?_⟩
      by_cases e : j = i
      · rw [e, est]
        exact hbu.mp rfl
      · exact hcov j (by omega)
    | false =>
    have nu : ¬ Un as st := fun z => by have := hbu.mpr z; cases this
    refine iteT ⟨_, rfl, _, rfl, a, n, c, st, rfl, sH _ _ ha, hc, hn, stn, fun k H3 L s3 kn2 h2 L0 Ln hC => ?_⟩
    have kn : H k = none := sH.free kn2
    have km : k ≠ m := (ne_of_none hm2 kn2).symm
    have kp : k ≠ p := (ne_of_none hcy.at_ kn2).symm
    dsimp only [gName]
    refine sq_cut (fun σ H4 => ∃ (mt' : List Bool) (u5 : Option V), σ = [some (.ref a), some (.ref m), some (.ref p), some (.int (st : Int)), some (.ref k), u5] ∧ KpM m H3 H4 ∧ H4 m = some (.lst (vb mt')) ∧ H4 k = some (.lst (vi (tab L fun j => it c j st))) ∧
        Tells n mt' (fun x => Un as x ∨ x ∈ tab L fun j => it c j st)) (fun Z hZ => ?_) ?_
    · refine ⟨_, rfl, k, rfl, ⟨_, SqL.of h2⟩, for_list (xs := vi (tab L fun j => it c j st)) (fun i2 σ H4 => ∃ (mt' : List Bool) (u5 : Option V), σ = [some (.ref a), some (.ref m), some (.ref p), some (.int (st : Int)), some (.ref k), u5] ∧ KpM m H3 H4 ∧ H4 m = some (.lst (vb mt')) ∧ H4 k = some (.lst (vi (tab L fun j => it c j st))) ∧
          Tells n mt' (fun x => Un as x ∨ x ∈ (tab L fun j => it c j st).take i2))
        ⟨mt, u5, rfl, KpM.refl, s3 _ _ hm2, h2, ⟨htell.1, fun x hx => by
          obtain ⟨b, h1, h2⟩ := htell.2 x hx
          exact ⟨b, h1, by rw [h2]; simp⟩⟩⟩ (fun i2 σ H4 _ z => by
            obtain ⟨_, _, _, _, _, z5, _⟩ := z
            exact SqL.of z5) ?_ ?_⟩
      · rintro i2 x σ H4 hx ⟨mt', u5', rfl, hK, h1, h2', hT⟩
        obtain ⟨y, hy, rfl⟩ := vi_at hx
        have ym : y ∈ tab L fun j => it c j st := List.mem_of_getElem? hy
        have ltn := hC.lt hc ym
        have lk : (vb mt').length = n := by rw [List.length_map]; exact hT.1
        refine ⟨_, rfl, _, rfl, m, _, _, y, rfl, rfl, h1, ix_ok (by rw [lk]; exact ltn), mt'.set y true, _, rfl, hK.upd_m, ?_, ?_, ?_⟩
        · rw [upd_same]
          show some (HO.lst ((mt'.map V.bl).set y (V.bl true))) = some (HO.lst ((mt'.set y true).map V.bl))
          rw [List.map_set]
        · rw [upd_ne km]
          exact h2'
        · refine hT.set ltn fun x hx => ?_
          rw [take_at3 hy, List.mem_append, List.mem_singleton, or_assoc]
      · rintro σ H4 ⟨mt', u5', rfl, hK, h1, h2', hT⟩
        rw [List.length_map, List.take_length] at hT
        exact hZ _ _ ⟨mt', u5', rfl, hK, h1, h2', hT⟩
    · rintro σ H4 ⟨mt', u5', rfl, hK, h1, h2', hT⟩
      have mnn : ∀ b o, H b = some o → b ≠ m := fun b o z y => by rw [y, mn] at z; cases z
      have sH3 : Same H H4 := fun b o z => hK b o (mnn b o z) (s3 _ _ (sH b o z))
      have cy3 : Cys n c H H4 m p as := ⟨hK _ _ mp.symm (s3 _ _ hcy.at_), fun q hq => let ⟨z1, z2, z3, z4, z5⟩ := hcy.each q hq; ⟨hK _ _ z3 (s3 _ _ z1), z2, z3, z4, z5⟩⟩
      refine ⟨_, rfl, .inl ⟨rfl, _, SqL.of cy3.at_⟩, _, rfl, p, _, _, rfl, rfl, cy3.at_, len_lt (by rw [List.length_map]; omega), ⟨_, _, _, rfl⟩, ?_, as ++ [(k, tab L fun j => it c j st)], mt', ?_, ⟨?_, fun q hq => ?_⟩, by rw [List.length_append]; simp; omega, ⟨hT.1, fun x hx => ?_⟩, fun j hj => ?_⟩
      · exact fun b o z => by rw [upd_ne (fun y => by rw [y, pn] at z; cases z)]; exact sH3 b o z
      · rw [upd_ne mp]
        exact h1
      · rw [upd_same, List.map_append]
        rfl
      · rcases List.mem_append.mp hq with hq | hq
        · obtain ⟨z1, z2, z3, z4, z5⟩ := cy3.each q hq
          exact ⟨by rw [upd_ne z4]; exact z1, z2, z3, z4, z5⟩
        · have : q = (k, tab L fun j => it c j st) := by simpa using hq
          subst this
          exact ⟨by rw [upd_ne kp]; exact h2', hC, km, kp, kn⟩
      · obtain ⟨b, z1, z2⟩ := hT.2 x hx
        refine ⟨b, z1, ?_⟩
        rw [z2]
        constructor
        · rintro (⟨q, hq, hm⟩ | hm)
          · exact ⟨q, List.mem_append_left _ hq, hm⟩
          · exact ⟨(k, tab L fun j => it c j st), by simp, hm⟩
        · rintro ⟨q, hq, hm⟩
          rcases List.mem_append.mp hq with hq | hq
          · exact .inl ⟨q, hq, hm⟩
          · have : q = (k, tab L fun j => it c j st) := by simpa using hq
            subst this
            exact .inr hm
      · by_cases e : j = i
        · rw [e, est]
          exact ⟨(k, tab L fun j => it c j st), by simp, mem_tab.mpr ⟨0, L0, rfl⟩⟩
        · obtain ⟨q, hq, hm⟩ := hcov j (by omega)
          exact ⟨q, List.mem_append_left _ hq, hm⟩
  · rintro σ H2 ⟨⟨u3, u4, u5, rfl⟩, sH, as, mt, hm2, hcy, hlen, htell, hcov⟩
    rw [lc] at hlen hcov
    exact ⟨_, rfl, q p H2 as sH pn hcy.at_ (fun q hq => let ⟨z1, z2, _, _, z5⟩ := hcy.each q hq; ⟨z1, z2, z5⟩) (fun x hx => by
      obtain ⟨j, hj, rfl⟩ := hc.mem hx
      exact hcov j hj) (by omega)⟩
end
end KV

/-! powers: of counts below 0, of powers; periods -/
namespace KC
section
variable {n : Nat} {c : List Nat}
theorem Und.to (h : Chg n c) {e : List Nat} (a : Und n c e) {y : Nat} (hy : y < n) : c.getD (e.getD y 0) 0 = y := by
  obtain ⟨i, hi, rfl⟩ := h.mem hy
  rw [a.at h hi]
theorem it_one (i : Nat) : it c 1 i = c.getD i 0 := rfl
theorem Und.it (h : Chg n c) {e : List Nat} (a : Und n c e) {i : Nat} (hi : i < n) : ∀ K, KC.it c K (KC.it e K i) = i
  | 0 => rfl
  | K + 1 => by
    rw [it_add, it_one]
    show KC.it c K (c.getD (e.getD (KC.it e K i) 0) 0) = i
    rw [a.to h (it_lt (a.chg h) hi K), a.it h hi K]
theorem it_zero (i : Nat) : it c 0 i = i := rfl
theorem pw_zero (h : Chg n c) : pw n c 0 = tab n id := by
  have z := pw_nat h 0
  rw [show ((0 : Nat) : Int) = 0 from rfl] at z
  rw [z]
  exact tab_congr fun i _ => rfl
theorem pw_get {k : Int} {i : Nat} (hi : i < n) : (pw n c k).getD i 0 = it c (k % (fac n : Int)).toNat i := tab_getD hi
theorem pw_neg (h : Chg n c) {e : List Nat} (a : Und n c e) (K : Nat) : pw n c (-(K : Int)) = tab n (it e K) := by
  have z := pw_add h (-(K : Int)) (K : Int)
  rw [show -(K : Int) + K = 0 by omega, pw_zero h, pw_nat h] at z
  unfold pw at z ⊢
  rw [comp_tab (fun i hi => it_lt h hi _)] at z
  have z2 := tab_inj z
  refine tab_congr fun i hi => ?_
  have l1 : it c K (it c ((-(K : Int)) % (fac n : Int)).toNat i) = i := z2 i hi
  exact it_inj h (it_lt h hi _) (it_lt (a.chg h) hi _) K (l1.trans (a.it h hi K).symm)
theorem und_pw (h : Chg n c) {e : List Nat} (a : Und n c e) : pw n c (-1) = e := by
  have z := pw_neg h a 1
  rw [show -((1 : Nat) : Int) = -1 from rfl] at z
  rw [z, eq_tab a.1]
  exact tab_congr fun i hi => by rw [it_one, ← eq_tab a.1]
theorem it_pw (h : Chg n c) (a : Nat) {i : Nat} (hi : i < n) : ∀ m, it (tab n (it c a)) m i = it c (a * m) i
  | 0 => by rw [Nat.mul_zero]; rfl
  | m + 1 => by
    have ih := it_pw h a hi m
    show (tab n (it c a)).getD (it (tab n (it c a)) m i) 0 = _
    rw [ih, tab_getD (it_lt h hi _), Nat.mul_succ, Nat.add_comm, it_add]
theorem pw_pw (h : Chg n c) (a b : Nat) : pw n (pw n c a) b = pw n c ((a * b : Nat) : Int) := by
  rw [pw_nat (pw_chg h _), pw_nat h, pw_nat h]
  exact tab_congr fun i hi => it_pw h a hi b
theorem comp_len {e : List Nat} : (comp c e).length = c.length := List.length_map ..
theorem comp_pw_comm (h : Chg n c) (a b : Int) : comp (pw n c a) (pw n c b) = comp (pw n c b) (pw n c a) := by
  rw [pw_add h, pw_add h, Int.add_comm]
theorem pw_one (h : Chg n c) : pw n c 1 = c := by
  have z := pw_nat h 1
  rw [show ((1 : Nat) : Int) = 1 from rfl] at z
  rw [z]
  have e : c = tab n fun i => c.getD i 0 := eq_tab h.len
  exact (tab_congr fun i _ => rfl).trans e.symm
theorem pw_period (h : Chg n c) {L : Nat} (e : pw n c L = tab n id) (k : Int) : pw n c (k + L) = pw n c k := by
  rw [← pw_add h, e]
  unfold pw
  rw [comp_tab (fun i hi => it_lt h hi _)]
  exact tab_congr fun i _ => rfl
theorem pw_periods (h : Chg n c) {L : Nat} (e : pw n c L = tab n id) (k : Int) (m : Nat) : pw n c (k + L * m) = pw n c k := by
  induction m with
  | zero => simp
  | succ m ih =>
    have : k + (L : Int) * ((m + 1 : Nat) : Int) = (k + L * m) + L := by
      rw [Int.natCast_add, Int.mul_add]
      simp only [Int.natCast_one, Int.mul_one]
      omega
    rw [this, pw_period h e, ih]
theorem pw_mod (h : Chg n c) {L : Nat} (l0 : 0 < L) (e : pw n c L = tab n id) (k : Int) : pw n c (k % L) = pw n c k := by
  have L0 : (0 : Int) < L := by omega
  rcases Int.le_total 0 (k / L) with z | z
  · have := pw_periods h e (k % L) (k / L).toNat
    rw [Int.toNat_of_nonneg z, Int.emod_add_mul_ediv] at this
    exact this.symm
  · have := pw_periods h e k (-(k / L)).toNat
    rw [Int.toNat_of_nonneg (by omega)] at this
    rw [← this]
    congr 1
    have z2 := Int.emod_add_mul_ediv k L
    have z3 : (L : Int) * -(k / L) = -(L * (k / L)) := Int.mul_neg ..
    rw [z3]
    omega
end
end KC

/-! two members of a group: which powers of their product are the product of their powers -/
namespace GP
/-- a group, as far as powers want it -/
structure Gp (G : Type) where
  mul : G → G → G
  one : G
  assoc : ∀ x y z, mul (mul x y) z = mul x (mul y z)
  one_mul : ∀ x, mul one x = x
  mul_one : ∀ x, mul x one = x
structure Hom {G : Type} (g : Gp G) (A : Int → G) : Prop where
  zero : A 0 = g.one
  add : ∀ i j, A (i + j) = g.mul (A i) (A j)
section
variable {G : Type} {g : Gp G} {A B C E : Int → G}
theorem Hom.inv (h : Hom g A) (i : Int) : g.mul (A i) (A (-i)) = g.one := by rw [← h.add, Int.add_right_neg, h.zero]
theorem Hom.inv' (h : Hom g A) (i : Int) : g.mul (A (-i)) (A i) = g.one := by rw [← h.add, Int.add_left_neg, h.zero]
theorem Hom.canL (h : Hom g A) {i : Int} {x y : G} (e : g.mul (A i) x = g.mul (A i) y) : x = y := by
  have z := congrArg (g.mul (A (-i))) e
  rw [← g.assoc, ← g.assoc, h.inv', g.one_mul, g.one_mul] at z
  exact z
theorem Hom.canR (h : Hom g A) {i : Int} {x y : G} (e : g.mul x (A i) = g.mul y (A i)) : x = y := by
  have z := congrArg (fun w => g.mul w (A (-i))) e
  simp only [g.assoc, h.inv, g.mul_one] at z
  exact z
theorem Hom.comm (h : Hom g A) {x : G} (e : g.mul (A 1) x = g.mul x (A 1)) : ∀ k, g.mul (A k) x = g.mul x (A k) := by
  have nat : ∀ k : Nat, g.mul (A (k : Int)) x = g.mul x (A (k : Int)) := fun k => by
    induction k with
    | zero => rw [show ((0 : Nat) : Int) = 0 from rfl, h.zero, g.one_mul, g.mul_one]
    | succ k ih => rw [show ((k + 1 : Nat) : Int) = (k : Int) + 1 from rfl, h.add, g.assoc, e, ← g.assoc, ih, g.assoc]
  intro k
  by_cases hk : 0 ≤ k
  · have := nat k.toNat
    rw [show ((k.toNat : Nat) : Int) = k by omega] at this
    exact this
  · have := nat (-k).toNat
    rw [show (((-k).toNat : Nat) : Int) = -k by omega] at this
    refine h.canL (i := -k) ?_
    rw [← g.assoc, h.inv' , g.one_mul, ← g.assoc, this, g.assoc, h.inv', g.mul_one]
theorem Hom.same (h : Hom g A) (h2 : Hom g B) (e : A 1 = B 1) : ∀ k, A k = B k := by
  have nat : ∀ k : Nat, A (k : Int) = B (k : Int) := fun k => by
    induction k with
    | zero => rw [show ((0 : Nat) : Int) = 0 from rfl, h.zero, h2.zero]
    | succ k ih => rw [show ((k + 1 : Nat) : Int) = (k : Int) + 1 from rfl, h.add, h2.add, ih, e]
  intro k
  by_cases hk : 0 ≤ k
  · have := nat k.toNat
    rw [show ((k.toNat : Nat) : Int) = k by omega] at this
    exact this
  · have := nat (-k).toNat
    rw [show (((-k).toNat : Nat) : Int) = -k by omega] at this
    refine h.canL (i := -k) ?_
    rw [h.inv', this, h2.inv']
/-- the powers A and B of two members, C those of their product -/
structure Tri (g : Gp G) (A B C : Int → G) : Prop where
  a : Hom g A
  b : Hom g B
  c : Hom g C
  one : C 1 = g.mul (A 1) (B 1)
def Sui (g : Gp G) (A B C : Int → G) (k : Int) : Prop := C k = g.mul (A k) (B k)
theorem Tri.s0 (t : Tri g A B C) : Sui g A B C 0 := by
  unfold Sui
  rw [t.a.zero, t.b.zero, t.c.zero, g.one_mul]
theorem Tri.s1 (t : Tri g A B C) : Sui g A B C 1 := t.one
/-- who suits with its neighbour is a period -/
theorem Tri.per (t : Tri g A B C) {d : Int} (h : Sui g A B C d) (h1 : Sui g A B C (d + 1)) (k : Int) : Sui g A B C (k + d) ↔ Sui g A B C k := by
  have e2 : g.mul (B 1) (A d) = g.mul (A d) (B 1) := by
    have x1 : C (d + 1) = g.mul (A 1) (g.mul (B 1) (g.mul (A d) (B d))) := by rw [Int.add_comm, t.c.add, t.one, h, g.assoc]
    have x2 : C (d + 1) = g.mul (A 1) (g.mul (A d) (g.mul (B 1) (B d))) := by rw [h1, Int.add_comm, t.a.add, t.b.add, g.assoc]
    have x3 := t.a.canL (x1.symm.trans x2)
    rw [← g.assoc, ← g.assoc] at x3
    exact t.b.canR x3
  have e3 := t.b.comm e2 k
  unfold Sui
  have l : C (k + d) = g.mul (C k) (g.mul (A d) (B d)) := by rw [t.c.add, h]
  have r : g.mul (A (k + d)) (B (k + d)) = g.mul (g.mul (A k) (B k)) (g.mul (A d) (B d)) := by
    rw [t.a.add, t.b.add, g.assoc, g.assoc, ← g.assoc (A d), ← e3, g.assoc]
  rw [l, r, ← g.assoc, ← g.assoc]
  constructor
  · exact fun e => t.a.canR (t.b.canR e)
  · exact fun e => by rw [e]
/-- it and its neighbour suit -/
def Dbl (g : Gp G) (A B C : Int → G) (d : Int) : Prop := Sui g A B C d ∧ Sui g A B C (d + 1)
theorem Tri.dbl (t : Tri g A B C) {d : Int} : Dbl g A B C d ↔ ∀ k, Sui g A B C (k + d) ↔ Sui g A B C k := by
  constructor
  · exact fun h k => t.per h.1 h.2 k
  · intro h
    refine ⟨?_, ?_⟩
    · have := (h 0).mpr t.s0
      rw [Int.zero_add] at this
      exact this
    · have := (h 1).mpr t.s1
      rw [Int.add_comm] at this
      exact this
theorem Tri.d0 (t : Tri g A B C) : Dbl g A B C 0 := t.dbl.mpr fun k => by rw [Int.add_zero]
theorem Tri.dadd (t : Tri g A B C) {a b : Int} (ha : Dbl g A B C a) (hb : Dbl g A B C b) : Dbl g A B C (a + b) := t.dbl.mpr fun k => by rw [← Int.add_assoc, t.dbl.mp hb, t.dbl.mp ha]
theorem Tri.dneg (t : Tri g A B C) {a : Int} (ha : Dbl g A B C a) : Dbl g A B C (-a) := t.dbl.mpr fun k => by
  have := t.dbl.mp ha (k + -a)
  rw [Int.neg_add_cancel_right] at this
  exact this.symm
theorem Tri.dmul (t : Tri g A B C) {a : Int} (ha : Dbl g A B C a) (k : Int) : Dbl g A B C (a * k) := by
  have nat : ∀ k : Nat, Dbl g A B C (a * (k : Int)) := fun k => by
    induction k with
    | zero => rw [show ((0 : Nat) : Int) = 0 from rfl, Int.mul_zero]; exact t.d0
    | succ k ih => rw [show ((k + 1 : Nat) : Int) = (k : Int) + 1 from rfl, Int.mul_add, Int.mul_one]; exact t.dadd ih ha
  by_cases hk : 0 ≤ k
  · have := nat k.toNat
    rw [show ((k.toNat : Nat) : Int) = k by omega] at this
    exact this
  · have := t.dneg (nat (-k).toNat)
    rw [show (((-k).toNat : Nat) : Int) = -k by omega, Int.mul_neg, Int.neg_neg] at this
    exact this
/-- the least of them divides all -/
theorem Tri.ddvd (t : Tri g A B C) {d : Nat} (d0 : 0 < d) (hd : Dbl g A B C (d : Int)) (least : ∀ m : Nat, 0 < m → m < d → ¬ Dbl g A B C (m : Int)) (a : Int) : Dbl g A B C a ↔ (d : Int) ∣ a := by
  constructor
  · intro ha
    have e : a % (d : Int) = a + -((d : Int) * (a / (d : Int))) := by
      have := Int.emod_add_mul_ediv a (d : Int)
      omega
    have h := t.dadd ha (t.dneg (t.dmul hd (a / (d : Int))))
    rw [← e] at h
    have l0 : 0 ≤ a % (d : Int) := Int.emod_nonneg _ (by omega)
    have l1 : a % (d : Int) < (d : Int) := Int.emod_lt_of_pos _ (by omega)
    refine Int.dvd_of_emod_eq_zero (Classical.byContradiction fun z => ?_)
    refine least (a % (d : Int)).toNat (by omega) (by omega) ?_
    rw [show (((a % (d : Int)).toNat : Nat) : Int) = a % (d : Int) by omega]
    exact h
  · rintro ⟨k, rfl⟩
    exact t.dmul hd k
theorem Tri.mod (t : Tri g A B C) {d : Int} (hd : Dbl g A B C d) (k : Int) : Sui g A B C (k % d) ↔ Sui g A B C k := by
  have h := t.dbl.mp (t.dmul hd (k / d)) (k % d)
  rw [Int.emod_add_mul_ediv] at h
  exact h.symm
/-- order does not matter -/
theorem Tri.com_d1 (t : Tri g A B C) : Dbl g A B C 1 ↔ g.mul (A 1) (B 1) = g.mul (B 1) (A 1) := by
  constructor
  · rintro ⟨_, h⟩
    unfold Sui at h
    rw [t.c.add, t.a.add, t.b.add, t.one, g.assoc, g.assoc] at h
    have h := t.a.canL h
    rw [← g.assoc, ← g.assoc] at h
    exact (t.b.canR h).symm
  · intro h
    refine ⟨t.s1, ?_⟩
    unfold Sui
    rw [t.c.add, t.a.add, t.b.add, t.one, g.assoc, g.assoc, ← g.assoc (B 1) (A 1), ← h, g.assoc]
theorem Tri.two (t : Tri g A B C) (h : Sui g A B C 2) : Dbl g A B C 1 := ⟨t.s1, h⟩
theorem Tri.neg_inv (t : Tri g A B C) (k : Int) : Sui g A B C k ↔ C (-k) = g.mul (B (-k)) (A (-k)) := by
  unfold Sui
  constructor
  · intro h
    refine t.c.canL (i := k) ?_
    rw [t.c.inv, h, g.assoc, ← g.assoc (B k), t.b.inv, g.one_mul, t.a.inv]
  · intro h
    refine t.c.canR (i := -k) ?_
    rw [t.c.inv, h, g.assoc, ← g.assoc (B k), t.b.inv, g.one_mul, t.a.inv]
theorem Tri.minus (t : Tri g A B C) (h : Sui g A B C (-1)) : Dbl g A B C 1 := by
  refine t.com_d1.mpr ?_
  have h2 := (t.neg_inv (-1)).mp h
  rw [Int.neg_neg, t.one] at h2
  exact h2
theorem Tri.conj (t : Tri g A B C) (u : Tri g B A E) (k : Int) : E k = g.mul (A (-1)) (g.mul (C k) (A 1)) := by
  have hE : Hom g fun k => g.mul (A (-1)) (g.mul (C k) (A 1)) := ⟨by rw [t.c.zero, g.one_mul, t.a.inv'], fun i j => by
    show g.mul (A (-1)) (g.mul (C (i + j)) (A 1)) = g.mul (g.mul (A (-1)) (g.mul (C i) (A 1))) (g.mul (A (-1)) (g.mul (C j) (A 1)))
    rw [t.c.add, g.assoc, g.assoc (A (-1)), g.assoc (C i), ← g.assoc (A 1), t.a.inv, g.one_mul]⟩
  exact u.c.same hE (by
    show E 1 = g.mul (A (-1)) (g.mul (C 1) (A 1))
    rw [u.one, t.one, g.assoc, ← g.assoc (A (-1)), t.a.inv', g.one_mul]) k
/-- the other way round -/
theorem Tri.swap (t : Tri g A B C) (u : Tri g B A E) (n : Int) : Sui g B A E (1 - n) ↔ Sui g A B C n := by
  have hE : Hom g fun k => g.mul (A (-1)) (g.mul (C k) (A 1)) := ⟨by rw [t.c.zero, g.one_mul, t.a.inv'], fun i j => by
    show g.mul (A (-1)) (g.mul (C (i + j)) (A 1)) = g.mul (g.mul (A (-1)) (g.mul (C i) (A 1))) (g.mul (A (-1)) (g.mul (C j) (A 1)))
    rw [t.c.add, g.assoc, g.assoc (A (-1)), g.assoc (C i), ← g.assoc (A 1), t.a.inv, g.one_mul]⟩
  have e := u.c.same hE (by
    show E 1 = g.mul (A (-1)) (g.mul (C 1) (A 1))
    rw [u.one, t.one, g.assoc, ← g.assoc (A (-1)), t.a.inv', g.one_mul])
  rw [t.neg_inv]
  unfold Sui
  rw [e]
  have c1 : C (1 - n) = g.mul (A 1) (g.mul (B 1) (C (-n))) := by rw [show 1 - n = 1 + -n from rfl, t.c.add, t.one, g.assoc]
  have b1 : B (1 - n) = g.mul (B 1) (B (-n)) := by rw [show 1 - n = 1 + -n from rfl, t.b.add]
  have a1 : A (1 - n) = g.mul (A (-n)) (A 1) := by rw [show 1 - n = -n + 1 by omega, t.a.add]
  show g.mul (A (-1)) (g.mul (C (1 - n)) (A 1)) = _ ↔ _
  rw [c1, b1, a1, g.assoc (A 1), ← g.assoc (A (-1)), t.a.inv', g.one_mul, ← g.assoc (g.mul (B 1) (B (-n))), g.assoc (B 1) (B (-n))]
  constructor
  · exact fun h => t.b.canL (t.a.canR h)
  · exact fun h => by rw [h]
theorem Tri.backs (t : Tri g A B C) : Tri g (fun k => B (-k)) (fun k => A (-k)) (fun k => C (-k)) :=
  ⟨⟨by rw [Int.neg_zero, t.b.zero], fun i j => by show B (-(i + j)) = _; rw [Int.neg_add, t.b.add]⟩, ⟨by rw [Int.neg_zero, t.a.zero], fun i j => by show A (-(i + j)) = _; rw [Int.neg_add, t.a.add]⟩, ⟨by rw [Int.neg_zero, t.c.zero], fun i j => by show C (-(i + j)) = _; rw [Int.neg_add, t.c.add]⟩,
    (t.neg_inv 1).mp t.s1⟩
theorem Tri.backs_sui (t : Tri g A B C) (k : Int) : Sui g (fun k => B (-k)) (fun k => A (-k)) (fun k => C (-k)) k ↔ Sui g A B C k := (t.neg_inv k).symm
end
end GP

/-! two changes: which counts suit them -/
namespace KC
open GP
section
variable {n : Nat} {c e : List Nat}
theorem comp_getD (hc : Chg n c) {i : Nat} (hi : i < n) : (comp c e).getD i 0 = e.getD (c.getD i 0) 0 := by
  refine getD_at ?_
  unfold comp
  rw [List.getElem?_map, at_getD (by rw [hc.len]; exact hi)] <;> rfl
theorem comp_assoc {f : List Nat} (hc : Chg n c) (he : Chg n e) : comp (comp c e) f = comp c (comp e f) := by
  unfold comp
  rw [List.map_map]
  refine List.map_congr_left fun x hx => ?_
  show f.getD (e.getD x 0) 0 = (List.map (fun x => f.getD x 0) e).getD x 0
  have hx' : x < n := hc.lt x hx
  have : (List.map (fun x => f.getD x 0) e)[x]? = some (f.getD (e.getD x 0) 0) := by
    rw [List.getElem?_map, at_getD (by rw [he.len]; exact hx')] <;> rfl
  exact (getD_at this).symm
theorem chg_id (n : Nat) : Chg n (tab n id) := chg_tab (fun i hi => hi) fun i _ j _ e => e
theorem comp_id (hc : Chg n c) : comp c (tab n id) = c := by
  unfold comp
  have : c.map (fun x => (tab n id).getD x 0) = c.map id := List.map_congr_left fun x hx => tab_getD (hc.lt x hx)
  rw [this, List.map_id]
theorem id_comp (hc : Chg n c) : comp (tab n id) c = c := by
  rw [eq_tab hc.len]
  exact comp_tab (f := id) fun i hi => hi
def Pm (n : Nat) := {c : List Nat // Chg n c}
def gpm (n : Nat) : Gp (Pm n) := ⟨fun c e => ⟨comp c.1 e.1, chg_comp c.2 e.2⟩, ⟨tab n id, chg_id n⟩, fun x y _ => Subtype.ext (comp_assoc x.2 y.2), fun x => Subtype.ext (id_comp x.2), fun x => Subtype.ext (comp_id x.2)⟩
def pwm (h : Chg n c) (k : Int) : Pm n := ⟨pw n c k, pw_chg h k⟩
theorem hom_pw (h : Chg n c) : Hom (gpm n) (pwm h) := ⟨Subtype.ext (pw_zero h), fun i j => Subtype.ext (pw_add h i j).symm⟩
theorem tri_pw (hc : Chg n c) (he : Chg n e) : Tri (gpm n) (pwm hc) (pwm he) (pwm (chg_comp hc he)) :=
  ⟨hom_pw hc, hom_pw he, hom_pw _, Subtype.ext (by show pw n (comp c e) 1 = comp (pw n c 1) (pw n e 1); rw [pw_one hc, pw_one he, pw_one (chg_comp hc he)])⟩
/-- the count suits them -/
def sui (n : Nat) (c e : List Nat) (k : Int) : Bool := decide (pw n (comp c e) k = comp (pw n c k) (pw n e k))
theorem sui_iff (hc : Chg n c) (he : Chg n e) {k : Int} : sui n c e k = true ↔ Sui (gpm n) (pwm hc) (pwm he) (pwm (chg_comp hc he)) k := by
  unfold sui Sui
  rw [decide_eq_true_eq]
  exact ⟨fun h => Subtype.ext h, fun h => congrArg Subtype.val h⟩
def dbl (n : Nat) (c e : List Nat) (k : Int) : Bool := sui n c e k && sui n c e (k + 1)
theorem dbl_iff (hc : Chg n c) (he : Chg n e) {k : Int} : dbl n c e k = true ↔ Dbl (gpm n) (pwm hc) (pwm he) (pwm (chg_comp hc he)) k := by
  unfold dbl Dbl
  rw [Bool.and_eq_true, sui_iff hc he, sui_iff hc he]
/-- the least count from 1 on that suits them with the next one -/
structure Rnd (n : Nat) (c e : List Nat) (d : Nat) : Prop where
  d0 : 0 < d
  is : dbl n c e (d : Int) = true
  least : ∀ m : Nat, 0 < m → m < d → dbl n c e (m : Int) = false
theorem Rnd.dvd (h : Rnd n c e d) (hc : Chg n c) (he : Chg n e) (k : Int) : dbl n c e k = true ↔ (d : Int) ∣ k := by
  rw [dbl_iff hc he]
  refine (tri_pw hc he).ddvd h.d0 ((dbl_iff hc he).mp h.is) (fun m m0 md z => ?_) k
  have := h.least m m0 md
  rw [(dbl_iff hc he).mpr z] at this
  cases this
theorem Rnd.uniq {d d' : Nat} (h : Rnd n c e d) (g : Rnd n c e d') (hc : Chg n c) (he : Chg n e) : d = d' := by
  have a := Int.natCast_dvd_natCast.mp ((h.dvd hc he _).mp g.is)
  have b := Int.natCast_dvd_natCast.mp ((g.dvd hc he _).mp h.is)
  exact Nat.dvd_antisymm a b
theorem Rnd.mod {d : Nat} (h : Rnd n c e d) (hc : Chg n c) (he : Chg n e) (k : Int) : sui n c e (k % (d : Int)) = sui n c e k := by
  rw [Bool.eq_iff_iff, sui_iff hc he, sui_iff hc he]
  exact (tri_pw hc he).mod ((dbl_iff hc he).mp h.is) k
/-- all three are idle at the count -/
def Idl (n : Nat) (c e : List Nat) (M : Nat) : Prop := pw n (comp c e) (M : Int) = tab n id ∧ pw n c (M : Int) = tab n id ∧ pw n e (M : Int) = tab n id
theorem Idl.dblM (h : Idl n c e M) (hc : Chg n c) (he : Chg n e) : dbl n c e (M : Int) = true := by
  obtain ⟨h1, h2, h3⟩ := h
  unfold dbl
  rw [Bool.and_eq_true]
  unfold sui
  rw [decide_eq_true_eq, decide_eq_true_eq]
  have a := pw_add (chg_comp hc he) (M : Int) 1
  have b := pw_add hc (M : Int) 1
  have d := pw_add he (M : Int) 1
  rw [h1, id_comp (pw_chg (chg_comp hc he) _)] at a
  rw [h2, id_comp (pw_chg hc _)] at b
  rw [h3, id_comp (pw_chg he _)] at d
  refine ⟨by rw [h1, h2, h3, comp_id (chg_id n)], ?_⟩
  rw [← a, ← b, ← d, pw_one hc, pw_one he, pw_one (chg_comp hc he)]
theorem Idl.mod (h : Idl n c e M) (hc : Chg n c) (he : Chg n e) (k : Int) : sui n c e (k % (M : Int)) = sui n c e k := by
  rw [Bool.eq_iff_iff, sui_iff hc he, sui_iff hc he]
  exact (tri_pw hc he).mod ((dbl_iff hc he).mp (h.dblM hc he)) k
theorem exists_least {p : Nat → Bool} : ∀ M : Nat, 0 < M → p M = true → ∃ d, 0 < d ∧ d ≤ M ∧ p d = true ∧ ∀ m, 0 < m → m < d → p m = false
  | 0, h, _ => absurd h (by decide)
  | M + 1, _, h => by
    by_cases z : ∃ m, 0 < m ∧ m < M + 1 ∧ p m = true
    · obtain ⟨m, m0, m1, hm⟩ := z
      obtain ⟨d, a, b, e, f⟩ := exists_least m m0 hm
      exact ⟨d, a, by omega, e, f⟩
    · refine ⟨M + 1, by omega, Nat.le_refl _, h, fun m m0 m1 => ?_⟩
      cases q : p m with
      | false => rfl
      | true => exact absurd ⟨m, m0, m1, q⟩ z
theorem Idl.rnd (h : Idl n c e M) (M0 : 0 < M) (hc : Chg n c) (he : Chg n e) : ∃ d, Rnd n c e d ∧ d ∣ M := by
  obtain ⟨d, d0, _, hd, least⟩ := exists_least (p := fun m => dbl n c e (m : Int)) M M0 (h.dblM hc he)
  have r : Rnd n c e d := ⟨d0, hd, least⟩
  exact ⟨d, r, Int.natCast_dvd_natCast.mp ((r.dvd hc he _).mp (h.dblM hc he))⟩
/-- the rests below d -/
def rsts (n : Nat) (c e : List Nat) (d : Nat) : List Nat := (List.range d).filter fun k => sui n c e (k : Int)
theorem sui0 (hc : Chg n c) (he : Chg n e) : sui n c e 0 = true := (sui_iff hc he).mpr (tri_pw hc he).s0
theorem sui1 (hc : Chg n c) (he : Chg n e) : sui n c e 1 = true := (sui_iff hc he).mpr (tri_pw hc he).s1
theorem dbl_one (hc : Chg n c) (he : Chg n e) : dbl n c e 1 = true ↔ comp c e = comp e c := by
  rw [dbl_iff hc he, (tri_pw hc he).com_d1]
  have l : ∀ {c : List Nat} (h : Chg n c), pwm h 1 = ⟨c, h⟩ := fun h => Subtype.ext (pw_one h)
  rw [l hc, l he]
  exact ⟨fun h => congrArg Subtype.val h, fun h => Subtype.ext h⟩
theorem Rnd.one (h : Rnd n c e d) (hc : Chg n c) (he : Chg n e) : d = 1 ↔ comp c e = comp e c := by
  rw [← dbl_one hc he, h.dvd hc he]
  constructor
  · rintro rfl
    exact Int.dvd_refl 1
  · intro z
    have := Int.le_of_dvd (by decide) z
    have := h.d0
    omega
theorem Rnd.two (h : Rnd n c e d) (hc : Chg n c) (he : Chg n e) : d ≠ 2 := by
  rintro rfl
  have := h.is
  unfold dbl at this
  rw [Bool.and_eq_true] at this
  have z := (dbl_iff hc he).mpr ((tri_pw hc he).two ((sui_iff hc he).mp this.1))
  have := h.least 1 (by decide) (by decide)
  rw [show ((1 : Nat) : Int) = 1 from rfl, z] at this
  cases this
/-- no two neighbours but 0 and 1 -/
theorem Rnd.nb (h : Rnd n c e d) {k : Nat} (hk : 1 < k) (kd : k < d) : ¬ (sui n c e (k : Int) = true ∧ sui n c e ((k - 1 : Nat) : Int) = true) := by
  rintro ⟨a, b⟩
  have := h.least (k - 1) (by omega) (by omega)
  unfold dbl at this
  rw [show ((k - 1 : Nat) : Int) + 1 = (k : Int) by omega, a, b] at this
  cases this
theorem Rnd.last (h : Rnd n c e d) (hc : Chg n c) (he : Chg n e) (d2 : 1 < d) : sui n c e ((d - 1 : Nat) : Int) = false := by
  cases q : sui n c e ((d - 1 : Nat) : Int) with
  | false => rfl
  | true =>
    have e1 : ((d - 1 : Nat) : Int) = -1 + (d : Int) := by omega
    have m := (tri_pw hc he).dbl.mp ((dbl_iff hc he).mp h.is) (-1)
    rw [e1] at q
    have z := (dbl_iff hc he).mpr ((tri_pw hc he).minus (m.mp ((sui_iff hc he).mp q)))
    have := h.least 1 (by decide) d2
    rw [show ((1 : Nat) : Int) = 1 from rfl, z] at this
    cases this
theorem sui_swap (hc : Chg n c) (he : Chg n e) (k : Int) : sui n e c (1 - k) = sui n c e k := by
  rw [Bool.eq_iff_iff, sui_iff he hc, sui_iff hc he]
  exact (tri_pw hc he).swap (tri_pw he hc) k
theorem Rnd.swap (h : Rnd n c e d) (hc : Chg n c) (he : Chg n e) : Rnd n e c d := by
  have key : ∀ k : Int, dbl n e c k = true ↔ (d : Int) ∣ k := fun k => by
    have e1 : dbl n e c k = dbl n c e (-k) := by
      unfold dbl
      rw [← sui_swap hc he (-k), ← sui_swap hc he (-k + 1), Bool.and_comm, show 1 - -k = k + 1 by omega, show 1 - (-k + 1) = k by omega]
    rw [e1, h.dvd hc he, Int.dvd_neg]
  refine ⟨h.d0, (key _).mpr (Int.dvd_refl _), fun m m0 md => ?_⟩
  cases q : dbl n e c (m : Int) with
  | false => rfl
  | true =>
    have := Int.le_of_dvd (by omega) ((key _).mp q)
    omega
theorem pw_und {c c' : List Nat} (hc : Chg n c) (uc : Und n c c') (k : Int) : pw n c' k = pw n c (-k) := by
  have a := (hom_pw (uc.chg hc)).same (B := fun k => pwm hc (-k)) ⟨by rw [Int.neg_zero]; exact (hom_pw hc).zero, fun i j => by show pwm hc (-(i + j)) = _; rw [Int.neg_add]; exact (hom_pw hc).add _ _⟩ (Subtype.ext (by show pw n c' 1 = pw n c (-1); rw [pw_one (uc.chg hc), und_pw hc uc])) k
  exact congrArg Subtype.val a
theorem und_comp {c' e' : List Nat} (hc : Chg n c) (he : Chg n e) (uc : Und n c c') (ue : Und n e e') : Und n (comp c e) (comp e' c') := by
  have hc' := uc.chg hc
  have he' := ue.chg he
  have a : comp (comp c e) (comp e' c') = tab n id := by
    have x1 : comp e e' = tab n id := by
      have := congrArg Subtype.val ((hom_pw he).inv 1)
      have z : comp (pw n e 1) (pw n e (-1)) = tab n id := this
      rw [pw_one he, und_pw he ue] at z
      exact z
    have x2 : comp c c' = tab n id := by
      have := congrArg Subtype.val ((hom_pw hc).inv 1)
      have z : comp (pw n c 1) (pw n c (-1)) = tab n id := this
      rw [pw_one hc, und_pw hc uc] at z
      exact z
    rw [comp_assoc hc he, ← comp_assoc he he', x1, id_comp hc', x2]
  have hcc := chg_comp hc he
  have hee := chg_comp he' hc'
  refine ⟨hee.len, fun i hi => ?_⟩
  have z : (comp (comp c e) (comp e' c')).getD i 0 = (tab n id).getD i 0 := by rw [a]
  rw [comp_getD hcc hi, tab_getD hi] at z
  have := at_getD (c := comp e' c') (i := (comp c e).getD i 0) (by rw [hee.len]; exact hcc.at_lt hi)
  rw [this, z]
  rfl
theorem Idl.swap (h : Idl n c e M) (hc : Chg n c) (he : Chg n e) : Idl n e c M := by
  obtain ⟨h1, h2, h3⟩ := h
  refine ⟨?_, h3, h2⟩
  have z := congrArg Subtype.val ((tri_pw hc he).conj (tri_pw he hc) (M : Int))
  have z : pw n (comp e c) (M : Int) = comp (pw n c (-1)) (comp (pw n (comp c e) (M : Int)) (pw n c 1)) := z
  rw [z, h1, id_comp (pw_chg hc _), pw_add hc, show (-1 : Int) + 1 = 0 from rfl, pw_zero hc]
theorem Idl.backs {c' e' : List Nat} (h : Idl n c e M) (hc : Chg n c) (he : Chg n e) (uc : Und n c c') (ue : Und n e e') : Idl n e' c' M := by
  obtain ⟨h1, h2, h3⟩ := h
  have go : ∀ {c : List Nat}, Chg n c → pw n c (M : Int) = tab n id → pw n c (-(M : Int)) = tab n id := fun {c} hc h => by
    have z := pw_add hc (M : Int) (-(M : Int))
    rw [h, id_comp (pw_chg hc _), Int.add_right_neg, pw_zero hc] at z
    exact z
  exact ⟨by rw [pw_und (chg_comp hc he) (und_comp hc he uc ue)]; exact go (chg_comp hc he) h1, by rw [pw_und he ue]; exact go he h3, by rw [pw_und hc uc]; exact go hc h2⟩
theorem sui_backs {c' e' : List Nat} (hc : Chg n c) (he : Chg n e) (uc : Und n c c') (ue : Und n e e') (k : Int) : sui n e' c' k = sui n c e k := by
  have hc' := uc.chg hc
  have he' := ue.chg he
  have pn : ∀ {c c' : List Nat} (hc : Chg n c) (uc : Und n c c') (k : Int), pw n c' k = pw n c (-k) := fun {c c'} hc uc k => by
    have a := (hom_pw (uc.chg hc)).same (B := fun k => pwm hc (-k)) ⟨by rw [Int.neg_zero]; exact (hom_pw hc).zero, fun i j => by show pwm hc (-(i + j)) = _; rw [Int.neg_add]; exact (hom_pw hc).add _ _⟩ (Subtype.ext (by show pw n c' 1 = pw n c (-1); rw [pw_one (uc.chg hc), und_pw hc uc])) k
    exact congrArg Subtype.val a
  have t := (tri_pw hc he)
  have u : Und n (comp c e) (comp e' c') := by
    have a : comp (comp c e) (comp e' c') = tab n id := by
      have x1 : comp e e' = tab n id := by
        have := congrArg Subtype.val ((hom_pw he).inv 1)
        have z : comp (pw n e 1) (pw n e (-1)) = tab n id := this
        rw [pw_one he, und_pw he ue] at z
        exact z
      have x2 : comp c c' = tab n id := by
        have := congrArg Subtype.val ((hom_pw hc).inv 1)
        have z : comp (pw n c 1) (pw n c (-1)) = tab n id := this
        rw [pw_one hc, und_pw hc uc] at z
        exact z
      rw [comp_assoc hc he, ← comp_assoc he he', x1, id_comp hc', x2]
    have hcc := chg_comp hc he
    have hee := chg_comp he' hc'
    refine ⟨hee.len, fun i hi => ?_⟩
    have z : (comp (comp c e) (comp e' c')).getD i 0 = (tab n id).getD i 0 := by rw [a]
    rw [comp_getD hcc hi, tab_getD hi] at z
    have := at_getD (c := comp e' c') (i := (comp c e).getD i 0) (by rw [hee.len]; exact hcc.at_lt hi)
    rw [this, z]
    rfl
  rw [Bool.eq_iff_iff, sui_iff hc he, ← t.backs_sui]
  unfold sui Sui
  rw [decide_eq_true_eq, pn hc uc, pn he ue, pn (chg_comp hc he) u]
  exact ⟨fun h => Subtype.ext h, fun h => congrArg Subtype.val h⟩
theorem Rnd.backs {c' e' : List Nat} (h : Rnd n c e d) (hc : Chg n c) (he : Chg n e) (uc : Und n c c') (ue : Und n e e') : Rnd n e' c' d := by
  have e1 : ∀ k, dbl n e' c' k = dbl n c e k := fun k => by
    unfold dbl
    rw [sui_backs hc he uc ue, sui_backs hc he uc ue]
  exact ⟨h.d0, by rw [e1]; exact h.is, fun m m0 md => by rw [e1]; exact h.least m m0 md⟩
theorem rsts_backs {c' e' : List Nat} (hc : Chg n c) (he : Chg n e) (uc : Und n c c') (ue : Und n e e') (d : Nat) : rsts n e' c' d = rsts n c e d := by
  unfold rsts
  exact List.filter_congr fun k _ => sui_backs hc he uc ue k
theorem mem_rsts {d k : Nat} : k ∈ rsts n c e d ↔ k < d ∧ sui n c e (k : Int) = true := by
  unfold rsts
  rw [List.mem_filter, List.mem_range]
theorem rsts_lt (d : Nat) : (rsts n c e d).Pairwise (· < ·) := List.pairwise_lt_range.sublist List.filter_sublist
theorem mem_swap (h : Rnd n c e d) (hc : Chg n c) (he : Chg n e) (k : Nat) : k ∈ rsts n e c d ↔ ∃ m ∈ rsts n c e d, (k : Int) = (1 - (m : Int)) % (d : Int) := by
  have d0 := h.d0
  have flip : ∀ {c e : List Nat} {k : Nat}, Chg n c → Chg n e → Rnd n c e d → k < d → sui n e c (k : Int) = true → sui n c e ((1 - (k : Int)) % (d : Int)) = true := fun {c e k} hc he h _ z => by
    rw [h.mod hc he, ← sui_swap hc he, show 1 - (1 - (k : Int)) = (k : Int) by omega]
    exact z
  have inv : ∀ k : Nat, k < d → (1 - (1 - (k : Int)) % (d : Int)) % (d : Int) = (k : Int) := fun k hk => by
    have a : (1 - (1 - (k : Int)) % (d : Int)) % (d : Int) = (1 - (1 - (k : Int))) % (d : Int) := by
      rw [Int.sub_emod, Int.emod_emod_of_dvd _ (Int.dvd_refl _), ← Int.sub_emod]
    rw [a, show 1 - (1 - (k : Int)) = (k : Int) by omega, Int.emod_eq_of_lt (by omega) (by omega)]
  have rg : ∀ x : Int, ∃ m : Nat, (m : Int) = x % (d : Int) ∧ m < d := fun x => by
    have a := Int.emod_nonneg x (show (d : Int) ≠ 0 by omega)
    have b := Int.emod_lt_of_pos x (show (0 : Int) < (d : Int) by omega)
    exact ⟨(x % (d : Int)).toNat, by omega, by omega⟩
  rw [mem_rsts]
  constructor
  · rintro ⟨kd, z⟩
    obtain ⟨m, em, md⟩ := rg (1 - (k : Int))
    refine ⟨m, mem_rsts.mpr ⟨md, ?_⟩, ?_⟩
    · rw [em]
      exact flip hc he h kd z
    · rw [em, inv k kd]
  · rintro ⟨m, hm, e1⟩
    obtain ⟨md, z⟩ := mem_rsts.mp hm
    have kd : k < d := by
      have b := Int.emod_lt_of_pos (1 - (m : Int)) (show (0 : Int) < (d : Int) by omega)
      omega
    refine ⟨kd, ?_⟩
    rw [e1]
    exact flip he hc (h.swap hc he) md z
end
end KC

/-! the rows are the least ones: mathematics -/
namespace KV
open PySem PySem.Spec PyProof.Rows L2 KC
/-- of two rows of one length, which is before -/
def lx : List Nat → List Nat → Prop
  | a :: r, b :: s => a < b ∨ (a = b ∧ lx r s)
  | _, _ => False
def sl (r s : List Nat) : Prop := r.length < s.length ∨ (r.length = s.length ∧ lx r s)
theorem lx_irr : ∀ {r : List Nat}, ¬ lx r r
  | [], h => h
  | _ :: r, h => by
    rcases h with h | ⟨_, h⟩
    · exact Nat.lt_irrefl _ h
    · exact lx_irr h
theorem lx_trans : ∀ {r s t : List Nat}, lx r s → lx s t → lx r t
  | [], _, _, h, _ => h.elim
  | _ :: _, [], _, h, _ => h.elim
  | _ :: _, _ :: _, [], _, h => h.elim
  | a :: r, b :: s, c :: t, h, g => by
    rcases h with h | ⟨rfl, h⟩
    · rcases g with g | ⟨rfl, g⟩
      · exact .inl (Nat.lt_trans h g)
      · exact .inl h
    · rcases g with g | ⟨rfl, g⟩
      · exact .inl g
      · exact .inr ⟨rfl, lx_trans h g⟩
theorem lx_tot : ∀ {r s : List Nat}, r.length = s.length → r = s ∨ lx r s ∨ lx s r
  | [], [], _ => .inl rfl
  | [], _ :: _, h => by simp at h
  | _ :: _, [], h => by simp at h
  | a :: r, b :: s, h => by
    rcases Nat.lt_trichotomy a b with z | z | z
    · exact .inr (.inl (.inl z))
    · subst z
      rcases lx_tot (r := r) (s := s) (by simpa using h) with y | y | y
      · exact .inl (by rw [y])
      · exact .inr (.inl (.inr ⟨rfl, y⟩))
      · exact .inr (.inr (.inr ⟨rfl, y⟩))
    · exact .inr (.inr (.inl z))
theorem lx_snoc : ∀ {r s : List Nat} {k l : Nat}, lx r s → lx (r ++ [k]) (s ++ [l])
  | [], _, _, _, h => h.elim
  | _ :: _, [], _, _, h => h.elim
  | a :: r, b :: s, k, l, h => by
    rcases h with h | ⟨rfl, h⟩
    · exact .inl h
    · exact .inr ⟨rfl, lx_snoc h⟩
theorem lx_last : ∀ {r : List Nat} {k l : Nat}, k < l → lx (r ++ [k]) (r ++ [l])
  | [], _, _, h => .inl h
  | _ :: _, _, _, h => .inr ⟨rfl, lx_last h⟩
theorem lx_of : ∀ {r s : List Nat} {k l : Nat}, r.length = s.length → lx (r ++ [k]) (s ++ [l]) → lx r s ∨ (r = s ∧ k < l)
  | [], [], k, l, _, h => by
    rcases h with h | ⟨_, h⟩
    · exact .inr ⟨rfl, h⟩
    · exact h.elim
  | [], _ :: _, _, _, e, _ => by simp at e
  | _ :: _, [], _, _, e, _ => by simp at e
  | a :: r, b :: s, k, l, e, h => by
    rcases h with h | ⟨rfl, h⟩
    · exact .inl (.inl h)
    · rcases lx_of (r := r) (s := s) (by simpa using e) h with y | ⟨y, z⟩
      · exact .inl (.inr ⟨rfl, y⟩)
      · exact .inr ⟨by rw [y], z⟩
theorem sl_irr {r : List Nat} (h : sl r r) : False := by
  rcases h with h | ⟨_, h⟩
  · exact Nat.lt_irrefl _ h
  · exact lx_irr h
theorem sl_trans {r s t : List Nat} (h : sl r s) (g : sl s t) : sl r t := by
  rcases h with h | ⟨e, h⟩
  · rcases g with g | ⟨f, _⟩
    · exact .inl (by omega)
    · exact .inl (by omega)
  · rcases g with g | ⟨f, g⟩
    · exact .inl (by omega)
    · exact .inr ⟨by omega, lx_trans h g⟩
theorem sl_tot {r s : List Nat} : r = s ∨ sl r s ∨ sl s r := by
  rcases Nat.lt_trichotomy r.length s.length with z | z | z
  · exact .inr (.inl (.inl z))
  · rcases lx_tot z with y | y | y
    · exact .inl y
    · exact .inr (.inl (.inr ⟨z, y⟩))
    · exact .inr (.inr (.inr ⟨z.symm, y⟩))
  · exact .inr (.inr (.inl z))
theorem sl_snoc {r s : List Nat} {k l : Nat} (h : sl r s) : sl (r ++ [k]) (s ++ [l]) := by
  rcases h with h | ⟨e, h⟩
  · exact .inl (by simpa using h)
  · exact .inr ⟨by simpa using e, lx_snoc h⟩
theorem sl_last {r : List Nat} {k l : Nat} (h : k < l) : sl (r ++ [k]) (r ++ [l]) := .inr ⟨by simp, lx_last h⟩
theorem sl_nil {r : List Nat} {k : Nat} : sl [] (r ++ [k]) := .inl (by simp)
/-- the order in which they are found -/
structure Od (fs : Fs) (k j : Nat) : Prop where
  pw : fs.Pairwise fun a b => sl a.2 b.2
  fm : ∀ q ∈ fs, q.2 = [] ∨ ∃ (i : Nat) (p : List Nat × List Nat) (j' : Nat), fs[i]? = some p ∧ q.2 = p.2 ++ [j'] ∧ (i < k ∨ (i = k ∧ j' < j))
theorem Od.lt {fs : Fs} {k j : Nat} (h : Od fs k j) {p q : List Nat × List Nat} (hp : fs[k]? = some p) (hq : q ∈ fs) : sl q.2 (p.2 ++ [j]) := by
  rcases h.fm q hq with z | ⟨i, p', j', h1, h2, h3⟩
  · rw [z]; exact sl_nil
  · rw [h2]
    rcases h3 with y | ⟨rfl, y⟩
    · obtain ⟨a1, a2⟩ := List.getElem?_eq_some_iff.mp h1
      obtain ⟨b1, b2⟩ := List.getElem?_eq_some_iff.mp hp
      have := List.pairwise_iff_getElem.mp h.pw i k a1 b1 y
      rw [a2, b2] at this
      exact sl_snoc this
    · rw [hp] at h1
      cases h1
      exact sl_last y
theorem Od.add {fs : Fs} {k j : Nat} {g : List Nat} (h : Od fs k j) {p : List Nat × List Nat} (hp : fs[k]? = some p) : Od (addF fs g (p.2 ++ [j])) k (j + 1) := by
  unfold addF
  split
  · exact ⟨h.pw, fun q hq => (h.fm q hq).imp id fun ⟨i, p', j', h1, h2, h3⟩ => ⟨i, p', j', h1, h2, by omega⟩⟩
  · refine ⟨?_, fun q hq => ?_⟩
    · rw [List.pairwise_append]
      refine ⟨h.pw, List.pairwise_singleton _ _, fun a ha b hb => ?_⟩
      rw [show b = _ from by simpa using hb]
      exact h.lt hp ha
    · have keep : ∀ {i : Nat} {x : List Nat × List Nat}, fs[i]? = some x → (fs ++ [(g, p.2 ++ [j])])[i]? = some x := fun e => pre_at (List.prefix_append _ _) e
      rcases List.mem_append.mp hq with y | y
      · exact (h.fm q y).imp id fun ⟨i, p', j', h1, h2, h3⟩ => ⟨i, p', j', keep h1, h2, by omega⟩
      · rw [show q = _ from by simpa using y]
        exact .inr ⟨k, p, j, keep hp, rfl, .inr ⟨rfl, Nat.lt_succ_self j⟩⟩
theorem Od.ex {cs : List (List Nat)} {fs : Fs} {k : Nat} (h : Od fs k 0) {p : List Nat × List Nat} (hp : fs[k]? = some p) : ∀ j, Od (exF cs p.1 p.2 j fs) k j
  | 0 => h
  | j + 1 => (Od.ex h hp j).add (pre_at (exF_pre j) hp)
theorem grow_od {n : Nat} {cs : List (List Nat)} : ∀ k, Od (grow n cs k) k 0
  | 0 => ⟨List.pairwise_singleton _ _, fun q hq => by rw [show q = _ from by simpa [grow] using hq]; exact .inl rfl⟩
  | k + 1 => by
    have ih := grow_od (n := n) (cs := cs) k
    show Od (match (grow n cs k)[k]? with | some p => exF cs p.1 p.2 cs.length (grow n cs k) | none => grow n cs k) (k + 1) 0
    split
    · rename_i p e
      have := ih.ex (cs := cs) e cs.length
      exact ⟨this.pw, fun q hq => (this.fm q hq).imp id fun ⟨i, p', j', h1, h2, h3⟩ => ⟨i, p', j', h1, h2, by omega⟩⟩
    · exact ⟨ih.pw, fun q hq => (ih.fm q hq).imp id fun ⟨i, p', j', h1, h2, h3⟩ => ⟨i, p', j', h1, h2, by omega⟩⟩
theorem add_row {fs : Fs} {k j : Nat} {g : List Nat} (h : Od fs k j) {p : List Nat × List Nat} (hp : fs[k]? = some p) : ∃ q ∈ addF fs g (p.2 ++ [j]), q.1 = g ∧ (q.2 = p.2 ++ [j] ∨ sl q.2 (p.2 ++ [j])) := by
  unfold addF
  split
  · rename_i z
    obtain ⟨q, hq, rfl⟩ := List.mem_map.mp z
    exact ⟨q, hq, rfl, .inr (h.lt hp hq)⟩
  · exact ⟨(g, p.2 ++ [j]), by simp, rfl, .inl rfl⟩
/-- no row of the same change is before the row that is found -/
theorem grow_least {n : Nat} {cs : List (List Nat)} {k : Nat} (h : (grow n cs k).length ≤ k) {r : List Nat} (hr : Vld cs.length r) : ∃ p ∈ grow n cs k, p.1 = act n cs r ∧ (p.2 = r ∨ sl p.2 r) := by
  revert hr
  refine snoc_ind (P := fun r => Vld cs.length r → ∃ p ∈ grow n cs k, p.1 = act n cs r ∧ (p.2 = r ∨ sl p.2 r)) (fun _ => ?_) (fun r j ih hv => ?_) r
  · exact ⟨(List.range n, []), (grow_pre k (Nat.zero_le k)).subset (by simp [grow]), by rw [act_nil], .inl rfl⟩
  · obtain ⟨h1, h2⟩ := hv.of_snoc
    obtain ⟨p, hp, e1, e2⟩ := ih h1
    obtain ⟨i, hi⟩ := List.mem_iff_getElem?.mp hp
    have ik : i < k := Nat.lt_of_lt_of_le (List.getElem?_eq_some_iff.mp hi).1 h
    have e : (grow n cs i)[i]? = some p := by
      rcases Nat.lt_or_ge i (grow n cs i).length with z | z
      · have := List.getElem?_eq_getElem z
        have q := pre_at (grow_pre k (Nat.le_of_lt ik)) this
        rw [hi] at q
        cases q
        exact this
      · exfalso
        have st : ∀ m, i ≤ m → grow n cs m = grow n cs i := fun m hm => by
          induction m with
          | zero => rw [show i = 0 by omega]
          | succ m ih =>
            rcases Nat.lt_or_eq_of_le hm with y | y
            · have := ih (by omega)
              show (match (grow n cs m)[m]? with | some p => exF cs p.1 p.2 cs.length (grow n cs m) | none => grow n cs m) = _
              rw [this, List.getElem?_eq_none (by omega)]
            · rw [y]
        rw [st k (Nat.le_of_lt ik), List.getElem?_eq_none z] at hi
        cases hi
    have O := (grow_od (n := n) (cs := cs) i).ex (cs := cs) e j
    obtain ⟨q, hq, e3, e4⟩ := add_row (g := comp p.1 (cs.getD j [])) O (pre_at (exF_pre j) e)
    have sub : addF (exF cs p.1 p.2 j (grow n cs i)) (comp p.1 (cs.getD j [])) (p.2 ++ [j]) <+: grow n cs k := by
      refine List.IsPrefix.trans ?_ (grow_pre k (show i + 1 ≤ k from ik))
      rw [grow_at e]
      exact exF_mono (i := j + 1) cs.length h2
    refine ⟨q, sub.subset hq, by rw [e3, act_snoc, e1], ?_⟩
    rcases e2 with e2 | e2
    · rw [← e2]; exact e4
    · rcases e4 with e4 | e4
      · exact .inr (by rw [e4]; exact sl_snoc e2)
      · exact .inr (sl_trans e4 (sl_snoc e2))
/-- a row is no longer than its place -/
theorem Od.len {fs : Fs} {k j : Nat} (h : Od fs k j) (i : Nat) : ∀ q, fs[i]? = some q → q.2.length ≤ i := by
  induction i using Nat.strongRecOn with
  | ind i ih =>
    intro q hq
    rcases h.fm q (List.mem_of_getElem? hq) with z | ⟨i', p, j', h1, h2, _⟩
    · rw [z]; exact Nat.zero_le _
    · obtain ⟨a1, a2⟩ := List.getElem?_eq_some_iff.mp h1
      obtain ⟨b1, b2⟩ := List.getElem?_eq_some_iff.mp hq
      have hl : q.2.length = p.2.length + 1 := by rw [h2]; simp
      rcases Nat.lt_trichotomy i' i with y | y | y
      · have := ih i' y p h1
        omega
      · subst y
        rw [h1] at hq
        cases hq
        omega
      · have := List.pairwise_iff_getElem.mp h.pw i i' b1 a1 y
        rw [a2, b2] at this
        rcases this with w | ⟨w, _⟩ <;> omega
end KV

/-! amid numbered -/
namespace KV
open PySem PySem.Spec PyProof.Rows L2 KC
/-- where a change stands among those found -/
def ixF (fs : Fs) (g : List Nat) : Nat := (keysF fs).idxOf g
theorem ixF_pre {fs gs : Fs} (h : fs <+: gs) {g : List Nat} (m : g ∈ keysF fs) : ixF gs g = ixF fs g := by
  obtain ⟨t, rfl⟩ := h
  unfold ixF keysF
  rw [List.map_append, List.idxOf_append, if_pos (show g ∈ fs.map (·.1) from m)]
theorem ixF_new {fs : Fs} {g r : List Nat} (m : g ∉ keysF fs) : ixF (fs ++ [(g, r)]) g = fs.length := by
  unfold ixF keysF at *
  rw [List.map_append, List.idxOf_append, if_neg m]
  simp
theorem ixF_lt {fs : Fs} {g : List Nat} (m : g ∈ keysF fs) : ixF fs g < fs.length := by
  have := List.idxOf_lt_length_of_mem m
  rwa [keysF_len] at this
theorem KF.nd {kvs : List (List L2.Key × V)} {fs : Fs} (h : KF kvs fs) (nd : (keysF fs).Nodup) : (kvs.map (·.1)).Nodup := by
  rw [h]
  generalize keysF fs = L at nd
  induction L with
  | nil => exact List.nodup_nil
  | cons x L ih =>
    rw [List.nodup_cons] at nd
    rw [List.map_cons, List.nodup_cons]
    refine ⟨fun m => ?_, ih nd.2⟩
    obtain ⟨y, hy, e⟩ := List.mem_map.mp m
    rw [kc_inj e] at hy
    exact nd.1 hy
theorem KF.val {kvs : List (List L2.Key × V)} {fs : Fs} (h : KF kvs fs) (nd : (keysF fs).Nodup) (kn : ∀ (i : Nat) (p : List L2.Key × V), kvs[i]? = some p → p.2 = V.int (i : Int)) {g : List Nat} (m : g ∈ keysF fs) : L2.valV kvs (kc g) = some (V.int ((ixF fs g : Nat) : Int)) := by
  have il := List.idxOf_lt_length_of_mem m
  have ig : (keysF fs)[ixF fs g]? = some g := by
    unfold ixF
    rw [List.getElem?_eq_getElem il, List.getElem_idxOf]
  have hk : (kvs.map (·.1))[ixF fs g]? = some (kc g) := by
    rw [h, List.getElem?_map, ig]
    rfl
  rw [List.getElem?_map] at hk
  cases e : kvs[ixF fs g]? with
  | none => rw [e] at hk; cases hk
  | some p =>
    rw [e] at hk
    have e1 : p.1 = kc g := Option.some.inj hk
    have e2 := kn _ _ e
    exact valV_at (h.nd nd) (j := ixF fs g) (by rw [e, ← e1, ← e2])
structure Nm (H : Hp) (cs : List (List Nat)) (dn fd rl ah : Addr) (hs rs es : List Addr) (fs : Fs) (kvs : List (List L2.Key × V)) (A : Nat → List Nat) (H' : Hp) : Prop where
  s : Same H H'
  fr : H dn = none ∧ H fd = none ∧ H rl = none ∧ H ah = none ∧ ∀ b ∈ hs, H b = none
  ne : fd ≠ rl ∧ fd ≠ ah ∧ rl ≠ ah ∧ hs.Nodup ∧ ∀ b ∈ hs, b ≠ fd ∧ b ≠ rl ∧ b ≠ ah
  hd : H' dn = some (.dT kvs)
  hf : H' fd = some (.lst (es.map V.ref))
  hr : H' rl = some (.lst (rs.map V.ref))
  ha : H' ah = some (.lst (hs.map V.ref))
  kf : KF kvs fs
  kn : ∀ (i : Nat) (p : List L2.Key × V), kvs[i]? = some p → p.2 = V.int (i : Int)
  tf : TpP H' es (keysF fs)
  tr : TpP H' rs (fs.map (·.2))
  hl : hs.length = cs.length
  hh : ∀ (j : Nat) (b : Addr), hs[j]? = some b → H' b = some (.lst (vi (A j)))
section
variable {H : Hp} {cs : List (List Nat)} {dn fd rl ah : Addr} {hs rs es : List Addr} {fs : Fs} {kvs : List (List L2.Key × V)} {A : Nat → List Nat} {H1 H2 : Hp}
theorem Nm.same (h : Nm H cs dn fd rl ah hs rs es fs kvs A H1) (s : Same H1 H2) : Nm H cs dn fd rl ah hs rs es fs kvs A H2 :=
  ⟨h.s.trans s, h.fr, h.ne, s _ _ h.hd, s _ _ h.hf, s _ _ h.hr, s _ _ h.ha, h.kf, h.kn, h.tf.same s, h.tr.same s, h.hl, fun j b e => s _ _ (h.hh j b e)⟩
/-- one more number is written down -/
theorem Nm.app (h : Nm H cs dn fd rl ah hs rs es fs kvs A H1) {j : Nat} {b : Addr} (e : hs[j]? = some b) (x : Nat) : Nm H cs dn fd rl ah hs rs es fs kvs (fun i => if i = j then A i ++ [x] else A i) (upd H1 b (.lst (vi (A j ++ [x])))) := by
  have hb := h.hh j b e
  have mb := List.mem_of_getElem? e
  have nt : ∀ xs, H1 b ≠ some (.tup xs) := fun xs z => by rw [hb] at z; cases z
  obtain ⟨n1, n2, n3⟩ := h.ne.2.2.2.2 b mb
  refine ⟨Same.upd h.s (h.fr.2.2.2.2 b mb), h.fr, h.ne, by rw [upd_ne (fun z => by rw [← z, h.hd] at hb; cases hb)]; exact h.hd, by rw [upd_ne n1.symm]; exact h.hf, by rw [upd_ne n2.symm]; exact h.hr, by rw [upd_ne n3.symm]; exact h.ha, h.kf, h.kn, h.tf.upd nt, h.tr.upd nt, h.hl, fun i c ec => ?_⟩
  by_cases z : i = j
  · subst z
    rw [e] at ec
    cases ec
    rw [upd_same, if_pos rfl]
  · rw [if_neg z, upd_ne]
    · exact h.hh i c ec
    · intro y
      subst y
      obtain ⟨l1, l2⟩ := List.getElem?_eq_some_iff.mp e
      obtain ⟨l3, l4⟩ := List.getElem?_eq_some_iff.mp ec
      have pw := List.pairwise_iff_getElem.mp h.ne.2.2.2.1
      rcases Nat.lt_trichotomy i j with y | y | y
      · exact pw i j l3 l1 y (l4.trans l2.symm)
      · exact z y
      · exact pw j i l1 l3 y (l2.trans l4.symm)
/-- one more change is found: the dict, the list of them, the row, the list of rows -/
theorem Nm.add (h : Nm H cs dn fd rl ah hs rs es fs kvs A H1) {t u : Addr} {g r : List Nat} (ht : H1 t = some (.tup (vi g)))
    (hu : upd (upd H1 dn (.dT (kvs ++ [(kc g, V.int (kvs.length : Int))]))) fd (.lst ((es ++ [t]).map V.ref)) u = none) :
    Nm H cs dn fd rl ah hs (rs ++ [u]) (es ++ [t]) (fs ++ [(g, r)]) (kvs ++ [(kc g, V.int (kvs.length : Int))]) A
      (upd (upd (upd (upd H1 dn (.dT (kvs ++ [(kc g, V.int (kvs.length : Int))]))) fd (.lst ((es ++ [t]).map V.ref))) u (.tup (vi r))) rl (.lst ((rs ++ [u]).map V.ref))) := by
  have dF : dn ≠ fd := fun z => by have := h.hd; rw [z, h.hf] at this; cases this
  have dR : dn ≠ rl := fun z => by have := h.hd; rw [z, h.hr] at this; cases this
  have dA : dn ≠ ah := fun z => by have := h.hd; rw [z, h.ha] at this; cases this
  have uF : u ≠ fd := fun z => by rw [z, upd_same] at hu; cases hu
  have uD : u ≠ dn := fun z => by rw [z, upd_ne dF, upd_same] at hu; cases hu
  have u0 : H1 u = none := by rwa [upd_ne uF, upd_ne uD] at hu
  have nu : ∀ {p : Addr} {o : HO}, H1 p = some o → u ≠ p := fun e z => by rw [z, e] at u0; cases u0
  -- what stands elsewhere
  have out : ∀ {p : Addr} {o : HO}, H1 p = some o → p ≠ dn → p ≠ fd → p ≠ rl → (upd (upd (upd (upd H1 dn (.dT (kvs ++ [(kc g, V.int (kvs.length : Int))]))) fd (.lst ((es ++ [t]).map V.ref))) u (.tup (vi r))) rl (.lst ((rs ++ [u]).map V.ref))) p = some o := fun e n1 n2 n3 => by
    rw [upd_ne n3, upd_ne (nu e).symm, upd_ne n2, upd_ne n1]
    exact e
  have outT : ∀ {p : Addr} {xs : List V}, H1 p = some (.tup xs) → (upd (upd (upd (upd H1 dn (.dT (kvs ++ [(kc g, V.int (kvs.length : Int))]))) fd (.lst ((es ++ [t]).map V.ref))) u (.tup (vi r))) rl (.lst ((rs ++ [u]).map V.ref))) p = some (.tup xs) := fun e =>
    out e (fun z => by rw [z, h.hd] at e; cases e) (fun z => by rw [z, h.hf] at e; cases e) (fun z => by rw [z, h.hr] at e; cases e)
  refine ⟨Same.upd (Same.upd (Same.upd (Same.upd h.s h.fr.1) h.fr.2.1) ?_) h.fr.2.2.1, h.fr, h.ne, ?_, ?_, upd_same, ?_, h.kf.add _ _ _, fun i p e => ?_, ?_, ?_, h.hl, fun j b e => ?_⟩
  · cases z : H u with
    | none => rfl
    | some o =>
      have := h.s _ _ z
      rw [u0] at this
      cases this
  · rw [upd_ne dR, upd_ne uD.symm, upd_ne dF, upd_same]
  · rw [upd_ne h.ne.1, upd_ne uF.symm, upd_same]
  · exact out h.ha dA.symm h.ne.2.1.symm h.ne.2.2.1.symm
  · rcases Nat.lt_or_ge i kvs.length with z | z
    · rw [List.getElem?_append_left z] at e
      exact h.kn i p e
    · rw [List.getElem?_append_right z] at e
      have : i - kvs.length = 0 := by
        have := (List.getElem?_eq_some_iff.mp e).1
        simp at this
        omega
      rw [this] at e
      cases e
      show V.int _ = V.int _
      rw [show i = kvs.length by omega]
  · have : keysF (fs ++ [(g, r)]) = keysF fs ++ [g] := by unfold keysF; rw [List.map_append]; rfl
    rw [this]
    exact tpp_snoc (tups_keep (fun b xs e => outT e) h.tf) (outT ht)
  · rw [show (fs ++ [(g, r)]).map (·.2) = fs.map (·.2) ++ [r] from by rw [List.map_append]; rfl]
    refine tpp_snoc (tups_keep (fun b xs e => outT e) h.tr) ?_
    rw [upd_ne (nu h.hr), upd_same]
  · have hb := h.hh j b e
    obtain ⟨n1, n2, n3⟩ := h.ne.2.2.2.2 b (List.mem_of_getElem? e)
    exact out hb (fun z => by rw [z, h.hd] at hb; cases hb) n1 n2
end
/-- a loop over the items of a list with their places -/
theorem for_enL {K : PySem.W.Frag} {k : Nat} {r : Addr} {es : List V} {g : TG} {tb : TS} {D : Ends} {σ : L2.St} {H : Hp} (hk : σ[k]? = some (some (.ref r))) (hr : SqL K H r es) (Pv : Nat → L2.St → Hp → Prop) (h0 : Pv 0 σ H) (hl : ∀ i σ H', Pv i σ H' → SqL K H' r es)
    (hs : ∀ (i : Nat) (x : V) (σ : L2.St) (G : Hp) (T : Addr), es[i]? = some x → Pv i σ G → G T = none → g (.ref T) σ (upd G T (.tup [.int (i : Nat), x])) fun σ2 H2 => tb { D with nx := Pv (i + 1), ct := Pv (i + 1), bk := D.nx } σ2 H2) (hd : ∀ σ H, Pv es.length σ H → D.nx σ H) :
    tFor (iEnum K (tCons (tVar k) tNil)) g tb D σ H := by
  refine ⟨_, hk, r, es, rfl, hr, for_it walk_enum Pv h0 (fun i σ H' _ p => hl i σ H' p) ?_ hd⟩
  rintro i y σ G H' hi p ⟨Tt, a1, b1, rfl, hT, rfl, ea, eb⟩
  cases ea
  exact hs i b1 σ G Tt eb p hT
theorem upd_cm {H : Hp} {a b : Addr} {x y : HO} (h : a ≠ b) : upd (upd H a x) b y = upd (upd H b y) a x := by
  funext p
  by_cases e : p = b
  · subst e
    rw [upd_same, upd_ne h.symm, upd_same]
  · rw [upd_ne e]
    by_cases f : p = a
    · subst f
      rw [upd_same, upd_same]
    · rw [upd_ne f, upd_ne f, upd_ne e]
/-- where the numbers of the next one are written -/
theorem num_step {cs : List (List Nat)} {fs fs' : Fs} {a j : Nat} {A : Nat → List Nat} {g0 : List Nat} {x : Nat} (hp : fs <+: fs') (hin : ∀ i < cs.length, ∀ g ∈ (keysF fs).take (if i < j then a + 1 else a), comp g (cs.getD i []) ∈ keysF fs) (ha : (keysF fs)[a]? = some g0) (hx : x = ixF fs' (comp g0 (cs.getD j [])))
    (h : ∀ i < cs.length, A i = ((keysF fs).take (if i < j then a + 1 else a)).map fun g => ixF fs (comp g (cs.getD i []))) :
    ∀ i < cs.length, (if i = j then A i ++ [x] else A i) = ((keysF fs').take (if i < j + 1 then a + 1 else a)).map fun g => ixF fs' (comp g (cs.getD i [])) := by
  intro i hi
  have al := (List.getElem?_eq_some_iff.mp ha).1
  have tk : ∀ m, m ≤ (keysF fs).length → (keysF fs').take m = (keysF fs).take m := fun m hm => by
    obtain ⟨t, rfl⟩ := hp
    unfold keysF at hm ⊢
    rw [List.map_append, List.take_append_of_le_length hm]
  have tr : ((keysF fs).take (if i < j then a + 1 else a)).map (fun g => ixF fs (comp g (cs.getD i []))) = ((keysF fs).take (if i < j then a + 1 else a)).map fun g => ixF fs' (comp g (cs.getD i [])) :=
    List.map_congr_left fun g hg => (ixF_pre hp (hin i hi g hg)).symm
  by_cases e : i = j
  · subst e
    rw [if_pos rfl, h i hi, tr, if_neg (Nat.lt_irrefl i), if_pos (Nat.lt_succ_self i), tk (a + 1) al, List.take_succ, ha, hx, List.map_append]
    rfl
  · rw [if_neg e, h i hi, tr]
    by_cases z : i < j
    · rw [if_pos z, if_pos (by omega), tk _ al]
    · rw [if_neg z, if_neg (by omega), tk _ (by omega)]
end KV

/-! the table of changes: mathematics -/
namespace KV
open PySem PySem.Spec PyProof.Rows L2 KC
theorem tab_rg (n : Nat) : tab n id = List.range n := List.map_id _
section
variable {n : Nat} {cs : List (List Nat)} {g e : List Nat}
theorem act_append (hc : ∀ c ∈ cs, Chg n c) {r : List Nat} (hr : Vld cs.length r) (s : List Nat) : Vld cs.length s → act n cs (r ++ s) = comp (act n cs r) (act n cs s) := by
  refine snoc_ind (P := fun s => Vld cs.length s → act n cs (r ++ s) = comp (act n cs r) (act n cs s)) (fun _ => ?_) (fun s k ih h => ?_) s
  · rw [List.append_nil, act_nil, comp_idle (act_chg hc hr)]
  · rw [← List.append_assoc, act_snoc, act_snoc, ih h.of_snoc.1, comp_assoc (act_chg hc hr) (act_chg hc h.of_snoc.1)]
theorem Rch.mul (hc : ∀ c ∈ cs, Chg n c) (a : Rch n cs g) (b : Rch n cs e) : Rch n cs (comp g e) := by
  obtain ⟨r, hr, rfl⟩ := a
  obtain ⟨s, hs, rfl⟩ := b
  exact ⟨r ++ s, fun k hk => (List.mem_append.mp hk).elim (hr k) (hs k), (act_append hc hr s hs).symm⟩
theorem pw_succ (hg : Chg n g) (m : Nat) : pw n g ((m + 1 : Nat) : Int) = comp (pw n g (m : Int)) g := by
  have := pw_add hg (m : Int) 1
  rw [pw_one hg] at this
  exact this.symm
theorem Rch.pwn (hc : ∀ c ∈ cs, Chg n c) (a : Rch n cs g) : ∀ m : Nat, Rch n cs (pw n g (m : Int))
  | 0 => by
    have : pw n g ((0 : Nat) : Int) = tab n id := pw_zero (a.chg hc)
    rw [this, tab_rg]
    exact Rch.one
  | m + 1 => by
    rw [pw_succ (a.chg hc)]
    exact (a.pwn hc m).mul hc a
theorem pw_red (hg : Chg n g) (k : Int) : pw n g k = pw n g (((k % (fac n : Int)).toNat : Nat) : Int) := by rw [pw_nat hg]; rfl
theorem Rch.pwz (hc : ∀ c ∈ cs, Chg n c) (a : Rch n cs g) (k : Int) : Rch n cs (pw n g k) := by
  rw [pw_red (a.chg hc)]
  exact a.pwn hc _
theorem pw_pwZ (hg : Chg n g) (a k : Int) : pw n (pw n g a) k = pw n g (a * k) := by
  have h2 : GP.Hom (gpm n) (fun k => pwm hg (a * k)) := ⟨by rw [Int.mul_zero]; exact (hom_pw hg).zero, fun i j => by rw [Int.mul_add]; exact (hom_pw hg).add _ _⟩
  have := (hom_pw (pw_chg hg a)).same h2 (Subtype.ext (by
    show pw n (pw n g a) 1 = pw n g (a * 1)
    rw [pw_one (pw_chg hg a), Int.mul_one])) k
  exact congrArg Subtype.val this
theorem pw_idl (k : Int) : pw n (List.range n) k = List.range n := by
  have h := Chg.range n
  have e : pw n (List.range n) 0 = List.range n := by rw [pw_zero h, tab_rg]
  have := pw_pwZ h 0 k
  rw [Int.zero_mul, e] at this
  exact this
theorem all_pairs (hc : ∀ c ∈ cs, Chg n c) {k : Int} (h : ∀ g, Rch n cs g → ∀ j < cs.length, pw n (comp g (cs.getD j [])) k = comp (pw n g k) (pw n (cs.getD j []) k)) (he : Rch n cs e) :
    ∀ g, Rch n cs g → pw n (comp g e) k = comp (pw n g k) (pw n e k) := by
  refine Rch.all (S := fun e => Rch n cs e ∧ ∀ g, Rch n cs g → pw n (comp g e) k = comp (pw n g k) (pw n e k)) ⟨Rch.one, fun g hg => ?_⟩ (fun e j ⟨re, ih⟩ hj => ⟨re.step hj, fun g hg => ?_⟩) he |>.2
  · rw [comp_idle (hg.chg hc), pw_idl, comp_idle (pw_chg (hg.chg hc) k)]
  · rw [← comp_assoc (hg.chg hc) (re.chg hc), h _ (hg.mul hc re) j hj, ih g hg, comp_assoc (pw_chg (hg.chg hc) k) (pw_chg (re.chg hc) k), h e re j hj]
end
/-- all changes, in the order in which they were found, with their rows -/
structure Cl (n : Nat) (cs : List (List Nat)) (fs : Fs) : Prop where
  gd : Gd n cs fs
  all : ∀ g, g ∈ keysF fs ↔ Rch n cs g
  hd : (keysF fs)[0]? = some (List.range n)
theorem grow_cl {n : Nat} {cs : List (List Nat)} {k : Nat} (h : (grow n cs k).length ≤ k) : Cl n cs (grow n cs k) :=
  ⟨grow_gd k, fun g => ⟨grow_reach, grow_all h⟩, by
    have := pre_at (grow_pre (n := n) (cs := cs) (i := 0) k (Nat.zero_le k)) (i := 0) (p := (List.range n, [])) rfl
    unfold keysF
    rw [List.getElem?_map, this]
    rfl⟩
def stp (fs : Fs) (cs : List (List Nat)) (j : Nat) : List Nat := (keysF fs).map fun g => ixF fs (comp g (cs.getD j []))
theorem ix_at {fs : Fs} {g : List Nat} (h : g ∈ keysF fs) : (keysF fs)[ixF fs g]? = some g := by
  have l := List.idxOf_lt_length_of_mem h
  unfold ixF
  rw [List.getElem?_eq_getElem l]
  exact congrArg some (List.getElem_idxOf l)
theorem ix_inj {fs : Fs} {g e : List Nat} (h : g ∈ keysF fs) (h' : e ∈ keysF fs) (z : ixF fs g = ixF fs e) : g = e := by
  have a := ix_at h
  rw [z, ix_at h'] at a
  exact (Option.some.inj a).symm
section
variable {n : Nat} {cs : List (List Nat)} {fs : Fs} {g e : List Nat}
theorem Cl.at_ix (C : Cl n cs fs) {i : Nat} (h : (keysF fs)[i]? = some g) : ixF fs g = i := by
  obtain ⟨l, rfl⟩ := List.getElem?_eq_some_iff.mp h
  exact C.gd.nd.idxOf_getElem i l
theorem Cl.one (C : Cl n cs fs) : ixF fs (List.range n) = 0 := C.at_ix C.hd
theorem Cl.pos (C : Cl n cs fs) : 0 < fs.length := by
  have := (List.getElem?_eq_some_iff.mp C.hd).1
  rwa [keysF_len] at this
theorem Cl.ix (C : Cl n cs fs) (h : Rch n cs g) : (keysF fs)[ixF fs g]? = some g := ix_at ((C.all g).mpr h)
theorem Cl.lt (C : Cl n cs fs) (h : Rch n cs g) : ixF fs g < fs.length := ixF_lt ((C.all g).mpr h)
theorem Cl.inj (C : Cl n cs fs) (h : Rch n cs g) (h' : Rch n cs e) : ixF fs g = ixF fs e ↔ g = e := ⟨ix_inj ((C.all g).mpr h) ((C.all e).mpr h'), fun z => by rw [z]⟩
theorem Cl.rch (C : Cl n cs fs) {i : Nat} (h : (keysF fs)[i]? = some g) : Rch n cs g := (C.all g).mp (List.mem_of_getElem? h)
theorem Cl.ex (C : Cl n cs fs) {i : Nat} (h : i < fs.length) : ∃ g, (keysF fs)[i]? = some g ∧ Rch n cs g ∧ ixF fs g = i := by
  have l : i < (keysF fs).length := by rw [keysF_len]; exact h
  exact ⟨_, List.getElem?_eq_getElem l, C.rch (List.getElem?_eq_getElem l), C.at_ix (List.getElem?_eq_getElem l)⟩
theorem Cl.stp (C : Cl n cs fs) (h : Rch n cs g) (j : Nat) : (KV.stp fs cs j)[ixF fs g]? = some (ixF fs (comp g (cs.getD j []))) := by
  unfold KV.stp
  rw [List.getElem?_map, C.ix h]
  rfl
theorem Cl.row (C : Cl n cs fs) {i : Nat} {r : List Nat} (h : (fs.map (·.2))[i]? = some r) : Vld cs.length r ∧ (keysF fs)[i]? = some (act n cs r) := by
  rw [List.getElem?_map] at h
  cases z : fs[i]? with
  | none => rw [z] at h; cases h
  | some p =>
    rw [z] at h
    cases h
    obtain ⟨a, b⟩ := C.gd.rw_ p (List.mem_of_getElem? z)
    refine ⟨a, ?_⟩
    unfold keysF
    rw [List.getElem?_map, z]
    show some p.1 = _
    rw [b]
/-- the numbers of a change's powers -/
def pws (fs : Fs) (n : Nat) (g : List Nat) (L : Nat) : List Nat := tab L fun j => ixF fs (pw n g (j : Int))
structure Rd (n : Nat) (cs : List (List Nat)) (fs : Fs) (i : Nat) (ps : List Nat) (pl : Nat) : Prop where
  ex : ∃ (g : List Nat) (L : Nat), Rch n cs g ∧ 0 < L ∧ L ≤ 1000 ∧ pw n g (L : Int) = tab n id ∧ ps = pws fs n g L ∧ pl < L ∧ (keysF fs)[i]? = some (pw n g (pl : Int))
theorem Rd.get (C : Cl n cs fs) (hc : ∀ c ∈ cs, Chg n c) {i pl : Nat} {ps : List Nat} (h : Rd n cs fs i ps pl) (k : Int) : 0 < ps.length ∧ ps.length ≤ 1000 ∧ atI (vi ps) ((pl : Int) * k % (ps.length : Int)) = some (V.int ((ixF fs (pw n ((keysF fs).getD i []) k) : Nat) : Int)) := by
  obtain ⟨g, L, hg, L0, L1, pL, rfl, hp, hi⟩ := h.ex
  have hl : (pws fs n g L).length = L := tab_len
  have gc := hg.chg hc
  rw [hl]
  refine ⟨L0, L1, ?_⟩
  have m0 := Int.emod_nonneg ((pl : Int) * k) (show (L : Int) ≠ 0 by omega)
  have m1 := Int.emod_lt_of_pos ((pl : Int) * k) (show (0 : Int) < (L : Int) by omega)
  obtain ⟨m, em⟩ : ∃ m : Nat, (pl : Int) * k % (L : Int) = (m : Int) := ⟨_, (Int.toNat_of_nonneg m0).symm⟩
  have eg : (keysF fs).getD i [] = pw n g (pl : Int) := by rw [List.getD_eq_getElem?_getD, hi]; rfl
  rw [eg, pw_pwZ gc, ← pw_mod gc L0 pL, em]
  refine atI_nat (vi_get ?_)
  exact tab_get (by omega)
/-- how far the walk along a change's powers has come -/
structure Wk (n : Nat) (cs : List (List Nat)) (fs : Fs) (g : List Nat) (m : Nat) : Prop where
  r : Rch n cs g
  m0 : 0 < m
  ne : ∀ j : Nat, 0 < j → j < m → pw n g (j : Int) ≠ tab n id
theorem Wk.nd (W : Wk n cs fs g m) (C : Cl n cs fs) (hc : ∀ c ∈ cs, Chg n c) : (pws fs n g m).Nodup := by
  unfold pws tab
  refine List.pairwise_map.mpr (List.pairwise_lt_range.imp_of_mem fun {a b} ha hb ab z => ?_)
  have gc := W.r.chg hc
  have e := (C.inj (W.r.pwn hc a) (W.r.pwn hc b)).mp z
  refine W.ne (b - a) (by omega) (by have := List.mem_range.mp hb; omega) ?_
  have e2 : pw n g ((b - a : Nat) : Int) = comp (pw n g (b : Int)) (pw n g (-(a : Int))) := by
    rw [pw_add gc]
    congr 1
    omega
  rw [e2, ← e, pw_add gc, Int.add_right_neg]
  exact pw_zero gc
theorem Wk.len (W : Wk n cs fs g m) (C : Cl n cs fs) (hc : ∀ c ∈ cs, Chg n c) : m ≤ fs.length := by
  have h1 := sub_len (L := (List.range m).map fun j : Nat => pw n g (j : Int)) (A := keysF fs) (by
    have h := W.nd C hc
    unfold pws tab List.Nodup at h
    rw [List.pairwise_map] at h
    exact List.pairwise_map.mpr (h.imp fun z e => z (by rw [e]))) (fun x hx => by
    obtain ⟨j, _, rfl⟩ := List.mem_map.mp hx
    exact (C.all _).mpr (W.r.pwn hc j))
  rw [keysF_len, List.length_map, List.length_range] at h1
  exact h1
end
end KV

/-! the table: its facts; walk, all followed by, powers -/
namespace KV
open PySem PySem.Spec PyProof.Rows L2 KC
/-- a method that lets nothing out -/
def MetC (P : Program) (w : World) (K : PySem.W.Frag) (mg : Str → Option Value) (base : Heap) (Z : CXT) (Ct : Addr) (k : Nat) (m : Str) (ps : List Str) (sp : Sp) : Prop :=
  ∃ (f : Addr) (fd : FuncData), FnOk P w K mg base Z k f fd ps sp ∧ Meth K Ct m f ∧ L2.Binds K fd ps []
section
variable {X : Cx} {k j : Nat} {m : Str} {Ct : Addr} {ps : List Str} {sp : Sp} {apos pos : Pos} {x e : Expr} {es : List Expr} {ta : TE} {t : TA} {pl : Sem Bool}
theorem pe_mt (C : MetC X.prog X.w X.K X.mg X.base CX0 Ct k m ps sp) (c : Cls X.K Ct) (hr : Room j X.A) (hj : k ≤ j) (he : PE X x ta) (ha : PA X (e :: es) t)
    (hst : starEach (e :: es) X.env = (false, eval e X.env) :: starEach es X.env := by rfl) (hpl : (backTo pos (starEach es X.env)).any (·.1) = false := by rfl)
    (ht : eval (.Call (.Attribute x m apos) (e :: es) [] pos) X.env = (do
      let ov ← eval x X.env
      standAt apos.atName
      let (f, first) ← holding [ov] (getMethod ov m pl)
      callWith pos f first (backTo pos (starEach (e :: es) X.env)) (backToKw pos (keywordEach [] X.env))) := by rfl) :
    PE X (.Call (.Attribute x m apos) (e :: es) [] pos) (tMeth Ct m sp [] E0 ta t) := by
  obtain ⟨f, fd, F, h1, h2⟩ := C
  exact pe_meth he c h1 F (hr.mono hj) h2 .nil pass0 ha hst hpl ht
theorem pe_mt0 (C : MetC X.prog X.w X.K X.mg X.base CX0 Ct k m ps sp) (c : Cls X.K Ct) (hr : Room j X.A) (hj : k ≤ j) (he : PE X x ta)
    (ht : eval (.Call (.Attribute x m apos) [] [] pos) X.env = (do
      let ov ← eval x X.env
      standAt apos.atName
      let (f, first) ← holding [ov] (getMethod ov m pl)
      callWith pos f first (backTo pos (starEach [] X.env)) (backToKw pos (keywordEach [] X.env))) := by rfl) :
    PE X (.Call (.Attribute x m apos) [] [] pos) (tMeth Ct m sp [] E0 ta tNil) := by
  obtain ⟨f, fd, F, h1, h2⟩ := C
  exact pe_meth0 he c h1 F (hr.mono hj) h2 .nil pass0 ht
end
/-- what the written part tells of the class -/
structure TCf (K : PySem.W.Frag) (Ct : Addr) : Prop where
  cl : Cls K Ct
  n1 : NoAttr K Ct "makers"
  n2 : NoAttr K Ct "changes"
  n3 : NoAttr K Ct "ahead"
  n4 : NoAttr K Ct "rows"
  n5 : NoAttr K Ct "rounds"
def MT : List Str := ["_found_rounds", "walk", "_all_followed_by", "powers", "fault", "splits"]
structure TFl (fl : List (Str × V)) (ah rl : Addr) : Prop where
  a : fl.lookup ("ahead" : Str) = some (.ref ah)
  r : fl.lookup ("rows" : Str) = some (.ref rl)
  m : ∀ m ∈ MT, fl.lookup m = none
/-- the table, as far as its numbers and rows go -/
structure T0 (Ct : Addr) (H : Hp) (x : Addr) (n : Nat) (cs : List (List Nat)) (fs : Fs) : Prop where
  c : Cl n cs fs
  hc : ∀ c ∈ cs, Chg n c
  c5 : cs.length ≤ 5
  n16 : n ≤ 16
  l4 : fs.length ≤ 400
  ex : ∃ (dx ah rl : Addr) (fl : List (Str × V)) (hs rs : List Addr), H x = some (.ins Ct dx fl) ∧ TFl fl ah rl ∧ H ah = some (.lst (hs.map V.ref)) ∧ hs.length = cs.length ∧ (∀ (j : Nat) (b : Addr), hs[j]? = some b → H b = some (.lst (vi (stp fs cs j)))) ∧ H rl = some (.lst (rs.map V.ref)) ∧ TpP H rs (fs.map (·.2))
section
variable {Ct x : Addr} {H H' : Hp} {n : Nat} {cs : List (List Nat)} {fs : Fs}
theorem tpp_same {H H' : Hp} (s : Same H H') : ∀ {es : List Addr} {Es : List (List Nat)}, TpP H es Es → TpP H' es Es
  | _, _, .nil => .nil
  | _, _, .cons h t => .cons (s _ _ h) (tpp_same s t)
theorem T0.same (h : T0 Ct H x n cs fs) (s : Same H H') : T0 Ct H' x n cs fs := by
  obtain ⟨dx, ah, rl, fl, hs, rs, h1, h2, h3, h4, h5, h6, h7⟩ := h.ex
  exact ⟨h.c, h.hc, h.c5, h.n16, h.l4, dx, ah, rl, fl, hs, rs, s _ _ h1, h2, s _ _ h3, h4, fun j b e => s _ _ (h5 j b e), s _ _ h6, tpp_same s h7⟩
/-- a step along a maker's table -/
theorem T0.step (h : T0 Ct H x n cs fs) {g : List Nat} (hg : Rch n cs g) {j : Nat} (hj : j < cs.length) : ∃ (dx ah b : Addr) (fl : List (Str × V)) (hs : List Addr), H x = some (.ins Ct dx fl) ∧ fl.lookup ("ahead" : Str) = some (.ref ah) ∧ H ah = some (.lst (hs.map V.ref)) ∧
    hs[j]? = some b ∧ H b = some (.lst (vi (stp fs cs j))) ∧ (stp fs cs j)[ixF fs g]? = some (ixF fs (comp g (cs.getD j []))) := by
  obtain ⟨dx, ah, rl, fl, hs, rs, h1, h2, h3, h4, h5, h6, h7⟩ := h.ex
  have hb : hs[j]? = some hs[j] := List.getElem?_eq_getElem (by omega)
  exact ⟨dx, ah, _, fl, hs, h1, h2.a, h3, hb, h5 j _ hb, h.c.stp hg j⟩
end
theorem Vld.take {m : Nat} {r : List Nat} (h : Vld m r) (i : Nat) : Vld m (r.take i) := fun x hx => h x (List.mem_of_mem_take hx)
section
variable {P : Program} {w : World} {K : PySem.W.Frag} {mg : Str → Option Value} {base : Heap} {Ct : Addr}
def spWalk (Ct : Addr) : Sp := fun vs H Q _ => ∃ (x a : Addr) (n : Nat) (cs : List (List Nat)) (fs : Fs) (g r : List Nat), vs = [.ref x, .int ((ixF fs g : Nat) : Int), .ref a] ∧ T0 Ct H x n cs fs ∧ Rch n cs g ∧ H a = some (.tup (vi r)) ∧ Vld cs.length r ∧ ∀ H', Same H H' → Q (.int ((ixF fs (comp g (act n cs r)) : Nat) : Int)) H'
theorem st2 : FnScope ["self", "start", "row", "at", "index"] ["self", "start", "row"] (defScope (mth 36 2)) := ⟨rfl, rfl, rfl, by decide +kernel, rfl, by decide +kernel, by decide +kernel⟩
theorem ok_walk {f : Addr} {fd : FuncData} (TC : TCf K Ct) (F : Fun K "walk" "Table.walk" (mth 36 2) f fd) : FnOk P w K mg base CX0 1 f fd ["self", "start", "row"] (spWalk Ct) := by
  refine F.ok st2 (fun vs H Q E h => ?_) (fun cdv A outer s H vs Q E hr h => ⟨_,
    (pss_cons (ps_set (i := 3) st2.nd rfl (.inl rfl) (pv 1))
    (pss_cons (ps_for PassesOwn.never rfl (pi_tup (pv 2)) (pg_name (i := 4) st2.nd rfl (.inl rfl)) (pss_one (ps_set (i := 3) st2.nd rfl (.inl rfl) (pe_ix ix_list (pe_ix ix_list (pe_fld (pv 0) (by rfl)) (pv 4) (fun _ _ => rfl)) (pv 3) (fun _ _ => rfl)))))
    (pss_one (ps_ret (pv 3))))), ?_⟩)
  · obtain ⟨x, a, n, cs, fs, g, r, rfl, _⟩ := h
    rfl
  obtain ⟨x, a, n, cs, fs, g, r, rfl, T, hg, ha, hr2, q⟩ := h
  refine ⟨_, rfl, ?_⟩
  refine ⟨_, rfl, a, rfl, ⟨_, SqT.of ha⟩, for_tup (xs := vi r) (fun i σ H' => Same H H' ∧ ∃ u : Option V, σ = [some (.ref x), some (.int ((ixF fs g : Nat) : Int)), some (.ref a), some (.int ((ixF fs (comp g (act n cs (r.take i))) : Nat) : Int)), u]) ⟨fun _ _ z => z, none, by rw [List.take_zero, act_nil, comp_idle (hg.chg T.hc)]; rfl⟩ (fun i σ H' _ z => SqT.of (z.1 _ _ ha)) ?_ ?_⟩
  · rintro i y σ H' hy ⟨s, u, rfl⟩
    obtain ⟨j, hj, rfl⟩ := vi_at hy
    have jl := hr2 j (List.mem_of_getElem? hj)
    have hra : Rch n cs (act n cs (r.take i)) := ⟨_, hr2.take i, rfl⟩
    obtain ⟨dx, ah, b, fl, hs, h1, h2, h3, h4, h5, h6⟩ := (T.same s).step (hg.mul T.hc hra) jl
    refine ⟨_, rfl, x, Ct, dx, fl, _, rfl, h1, TC.cl, TC.n3, h2, _, rfl, ah, _, _, .ref b, rfl, rfl, SqL.of h3, atI_nat (by rw [List.getElem?_map, h4]; rfl), _, rfl, b, _, _, _, rfl, rfl, SqL.of h5, atI_nat (vi_get h6), s, some (.int (j : Int)), ?_⟩
    rw [take_at3 hj, act_snoc, ← comp_assoc (hg.chg T.hc) (hra.chg T.hc)]
    rfl
  · rintro σ H' ⟨s, u, rfl⟩
    refine ⟨_, rfl, ?_⟩
    have := q H' s
    rwa [show (vi r).length = r.length from List.length_map .., List.take_length]
def spAfb (Ct : Addr) : Sp := fun vs H Q _ => ∃ (x : Addr) (n : Nat) (cs : List (List Nat)) (fs : Fs) (e : List Nat), vs = [.ref x, .int ((ixF fs e : Nat) : Int)] ∧ T0 Ct H x n cs fs ∧ Rch n cs e ∧ ∀ (l : Addr) (H' : Hp), Same H H' → H' l = some (.lst (vi ((keysF fs).map fun g => ixF fs (comp g e)))) → Q (.ref l) H'
theorem st3 : FnScope ["self", "number", "out", "index", "step", "at"] ["self", "number"] (defScope (mth 36 3)) := ⟨rfl, rfl, rfl, by decide +kernel, rfl, by decide +kernel, by decide +kernel⟩
theorem ok_afb {f : Addr} {fd : FuncData} (B : Bl mg) (TC : TCf K Ct) (F : Fun K "_all_followed_by" "Table._all_followed_by" (mth 36 3) f fd) : FnOk P w K mg base CX0 1 f fd ["self", "number"] (spAfb Ct) := by
  refine F.ok st3 (fun vs H Q E h => ?_) (fun cdv A outer s H vs Q E hr h => ⟨_,
    (pss_cons (ps_set (i := 2) st3.nd rfl (.inl rfl) (pe_listRg rfl (by rfl) B.list (prg_1 (by rfl) B.range (pe_callB call_len_seq (by rfl) B.len PySem.boot_len (pa_cons (pe_fld (pv 0) (by rfl)) pa_nil)))))
    (pss_cons (ps_for PassesOwn.never rfl (pi_tup (pe_ix ix_list (pe_fld (pv 0) (by rfl)) (pv 1) (fun _ _ => rfl))) (pg_name (i := 3) st3.nd rfl (.inl rfl)) (pss_cons (ps_set (i := 4) st3.nd rfl (.inr rfl) (pe_ix ix_list (pe_fld (pv 0) (by rfl)) (pv 3) (fun _ _ => rfl)))
    (pss_one (ps_setLc (i := 2) (own := [("at", 5)]) (g := gName 5) (tt := tYes) rfl st3.nd rfl rfl (sw_true rfl rfl rfl (by decide +kernel)) (pi_list (pv 2)) (blkOk_by (N := ["self", "number", "out", "index", "step", "at"]) (sc := defScope (mth 36 3)) (by decide +kernel))
        (fun _ _ _ _ _ => (pg_name (i := 5) st3.nd rfl (Or.inl rfl))) (fun _ _ _ _ _ => pts_nil) (fun _ _ _ _ _ => (pe_ix (r := rIxL K) ix_list (pv 4) (pv 5) (fun _ _ => rfl)))))))
    (pss_one (ps_ret (pv 2))))), ?_⟩)
  · obtain ⟨x, n, cs, fs, e, rfl, _⟩ := h
    rfl
  obtain ⟨x, n, cs, fs, e, rfl, T, he, q⟩ := h
  obtain ⟨dx, ah, rl, fl, hs, rs, h1, h2, h3, h4, h5, h6, h7⟩ := T.ex
  have lr : rs.length = fs.length := by rw [paired_len h7, List.length_map]
  have l4 := T.l4
  refine ⟨_, rfl, x, Ct, dx, fl, _, rfl, h1, TC.cl, TC.n4, h2.r, rl, _, rfl, .inl (SqL.of h6), _, rfl, RgOk.of_le (by decide) (by rw [List.length_map]; omega) (by decide) (by rw [List.length_map]; omega), fun l0 hl0 => ?_⟩
  rw [List.length_map, lr, rgV_vi]
  have sl := Same.new (o := .lst (vi (List.range fs.length))) hl0
  have e0 : upd H l0 (.lst (vi (List.range fs.length))) l0 = some (.lst (vi (List.range fs.length))) := upd_same
  generalize upd H l0 (.lst (vi (List.range fs.length))) = H1 at sl e0
  obtain ⟨r, hr1, hr2⟩ : ∃ r, (fs.map (·.2))[ixF fs e]? = some r ∧ e = act n cs r := by
    have lt := T.c.lt he
    obtain ⟨r0, z⟩ : ∃ r0, (fs.map (·.2))[ixF fs e]? = some r0 := ⟨_, List.getElem?_eq_getElem (by rw [List.length_map]; exact lt)⟩
    obtain ⟨_, z2⟩ := T.c.row z
    rw [T.c.ix he] at z2
    exact ⟨_, z, Option.some.inj z2⟩
  obtain ⟨ra, hra, hra2⟩ : ∃ ra, rs[ixF fs e]? = some ra ∧ H ra = some (.tup (vi r)) := by
    have lt := T.c.lt he
    have z : rs[ixF fs e]? = some rs[ixF fs e] := List.getElem?_eq_getElem (by omega)
    obtain ⟨c, y1, y2⟩ := paired_at h7 z
    rw [hr1] at y1
    cases y1
    exact ⟨_, z, y2⟩
  have vr := (T.c.row hr1).1
  refine ⟨_, rfl, x, Ct, dx, fl, _, rfl, sl _ _ h1, TC.cl, TC.n4, h2.r, _, rfl, rl, _, _, .ref ra, rfl, rfl, SqL.of (sl _ _ h6), atI_nat (by rw [List.getElem?_map, hra]; rfl), ra, rfl, ⟨_, SqT.of (sl _ _ hra2)⟩, for_tup (xs := vi r) (fun i σ H' => Same H H' ∧ ∃ (o : Addr) (u v : Option V), σ = [some (.ref x), some (.int ((ixF fs e : Nat) : Int)), some (.ref o), u, v, none] ∧ H' o = some (.lst (vi ((keysF fs).map fun g => ixF fs (comp g (act n cs (r.take i))))))) ⟨sl, l0, none, none, rfl, ?_⟩ (fun i σ H' _ z => SqT.of (z.1 _ _ hra2)) ?_ ?_⟩
  · rw [e0]
    congr 3
    refine List.ext_getElem? fun i => ?_
    by_cases il : i < fs.length
    · obtain ⟨g, hg, hg2, hg3⟩ := T.c.ex il
      rw [List.getElem?_range il, List.getElem?_map, hg]
      show some i = some (ixF fs (comp g (act n cs (r.take 0))))
      rw [List.take_zero, act_nil, comp_idle (hg2.chg T.hc), hg3]
    · rw [List.getElem?_eq_none (by rw [List.length_range]; omega), List.getElem?_eq_none (by rw [List.length_map, keysF_len]; omega)]
  · rintro i y σ G hy ⟨s, o, u, v, rfl, ho⟩
    obtain ⟨j, hj, rfl⟩ := vi_at hy
    have jl := vr j (List.mem_of_getElem? hj)
    have hra' : Rch n cs (act n cs (r.take i)) := ⟨_, vr.take i, rfl⟩
    have hb : hs[j]? = some hs[j] := List.getElem?_eq_getElem (by omega)
    have hb2 := s _ _ (h5 j _ hb)
    generalize hs[j] = b at hb hb2
    dsimp only [gName]
    refine ⟨_, rfl, x, Ct, dx, fl, _, rfl, s _ _ h1, TC.cl, TC.n3, h2.a, _, rfl, ah, _, _, .ref b, rfl, rfl, SqL.of (s _ _ h3), atI_nat (by rw [List.getElem?_map, hb]; rfl), ?_⟩
    refine ⟨_, rfl, o, rfl, ⟨_, SqL.of ho⟩, fun D hD => lc_list (xs := vi ((keysF fs).map fun g => ixF fs (comp g (act n cs (r.take i))))) (fun k H' => Same G H' ∧ H' D = some (.lst (vi (((keysF fs).map fun g => ixF fs (comp g (act n cs (r.take (i + 1))))).take k)))) ⟨Same.new hD, by rw [List.take_zero]; exact upd_same⟩ (fun k H' _ z => SqL.of (z.1 _ _ ho)) ?_ ?_⟩
    · rintro k z H' hz ⟨p1, p2⟩
      obtain ⟨m, hm, rfl⟩ := vi_at hz
      rw [List.getElem?_map] at hm
      obtain ⟨g, hg, hg2⟩ : ∃ g, (keysF fs)[k]? = some g ∧ m = ixF fs (comp g (act n cs (r.take i))) := by
        cases w : (keysF fs)[k]? with
        | none => rw [w] at hm; cases hm
        | some g => rw [w] at hm; exact ⟨g, rfl, (Option.some.inj hm).symm⟩
      subst hg2
      have rg := T.c.rch hg
      have kl : k < fs.length := by have := (List.getElem?_eq_some_iff.mp hg).1; rwa [keysF_len] at this
      have st := T.c.stp (rg.mul T.hc hra') j
      rw [comp_assoc (rg.chg T.hc) (hra'.chg T.hc), ← act_snoc, ← take_at3 hj] at st
      refine ⟨rfl, _, rfl, _, rfl, b, _, _, _, rfl, rfl, SqL.of (p1 _ _ hb2), atI_nat (vi_get st), _, p2, len_lt (by rw [show (vi (((keysF fs).map fun g => ixF fs (comp g (act n cs (r.take (i + 1))))).take k)).length = (((keysF fs).map fun g => ixF fs (comp g (act n cs (r.take (i + 1))))).take k).length from List.length_map .., List.length_take]; omega), Same.upd p1 hD, ?_⟩
      rw [upd_same, take_at3 (l := (keysF fs).map fun g => ixF fs (comp g (act n cs (r.take (i + 1))))) (by rw [List.getElem?_map, hg]; rfl)]
      simp [vi]
    · rintro H' ⟨p1, p2⟩
      rw [show (vi ((keysF fs).map fun g => ixF fs (comp g (act n cs (r.take i))))).length = ((keysF fs).map fun g => ixF fs (comp g (act n cs (r.take (i + 1))))).length from by simp [vi], List.take_length] at p2
      exact ⟨s.trans p1, D, _, _, rfl, p2⟩
  · rintro σ G ⟨s, o, u, v, rfl, ho⟩
    rw [show (vi r).length = r.length from List.length_map .., List.take_length, ← hr2] at ho
    exact ⟨_, rfl, q o G s ho⟩
/-- first_unlike(one, other): two lists of ints that are not alike -/
def spUnl : Sp := fun vs H Q _ => ∃ (a b : Addr) (xs ys : List Nat), vs = [.ref a, .ref b] ∧ H a = some (.lst (vi xs)) ∧ H b = some (.lst (vi ys)) ∧ xs.length = ys.length ∧ xs ≠ ys ∧ ∀ (i : Nat) (H' : Hp), Same H H' → i < xs.length → xs[i]? ≠ ys[i]? → (∀ j < i, xs[j]? = ys[j]?) → Q (.int (i : Int)) H'
theorem sn19 : FnScope ["one", "other", "state"] ["one", "other"] (defScope (top 19)) := ⟨rfl, rfl, rfl, by decide +kernel, rfl, by decide +kernel, by decide +kernel⟩
theorem ok_unl {f : Addr} {fd : FuncData} (F : Fun K "first_unlike" "first_unlike" (top 19) f fd) : FnOk P w K mg base CX0 1 f fd ["one", "other"] spUnl := by
  refine F.ok sn19 (fun vs H Q E h => ?_) (fun cdv A outer s H vs Q E hr h => ⟨_,
    (pss_cons (ps_set (i := 2) sn19.nd rfl (.inl rfl) pe_int)
    (pss_cons (ps_while PassesOwn.never (pt_cmpR op_eq (pe_ix ix_list (pv 0) (pv 2) (fun _ _ => rfl)) (pe_ix ix_list (pv 1) (pv 2) (fun _ _ => rfl)) (nomark _)) (pss_one (ps_aug (i := 2) sn19.nd rfl (.inl rfl) pe_int ip_add)))
    (pss_one (ps_ret (pv 2))))), ?_⟩)
  · obtain ⟨a, b, xs, ys, rfl, _⟩ := h
    rfl
  obtain ⟨a, b, xs, ys, rfl, ha, hb, hl, ne, q⟩ := h
  refine ⟨fun μ σ H' => H' = H ∧ ∃ i : Nat, σ = [some (.ref a), some (.ref b), some (.int (i : Int))] ∧ μ = xs.length - i ∧ i < xs.length ∧ ∀ j < i, xs[j]? = ys[j]?, ⟨_, rfl, 0, rfl, rfl, ?_, fun j hj => absurd hj (Nat.not_lt_zero j)⟩, ?_⟩
  · rcases Nat.eq_zero_or_pos xs.length with z | z
    · rw [z] at hl
      exact absurd ((List.eq_nil_of_length_eq_zero z).trans (List.eq_nil_of_length_eq_zero hl.symm).symm) ne
    · exact z
  rintro μ σ H' ⟨rfl, i, rfl, rfl, il, hj⟩
  have hx : xs[i]? = some xs[i] := List.getElem?_eq_getElem il
  have hy : ys[i]? = some ys[i] := List.getElem?_eq_getElem (by omega)
  refine ⟨_, rfl, _, rfl, a, _, _, _, rfl, rfl, SqL.of ha, atI_nat (vi_get hx), _, rfl, _, rfl, b, _, _, _, rfl, rfl, SqL.of hb, atI_nat (vi_get hy), rfl, _, rfl, ?_⟩
  by_cases z : xs[i] = ys[i]
  · refine iteP (by simp [z]) ⟨fun σ' H4 => ∃ μ', μ' < xs.length - i ∧ H4 = H' ∧ ∃ i : Nat, σ' = [some (.ref a), some (.ref b), some (.int (i : Int))] ∧ μ' = xs.length - i ∧ i < xs.length ∧ ∀ j < i, xs[j]? = ys[j]?, fun _ _ z => z, ?_⟩
    have all : ∀ j < i + 1, xs[j]? = ys[j]? := fun j h => by
      rcases Nat.lt_or_ge j i with y | y
      · exact hj j y
      · rw [show j = i by omega, hx, hy, z]
    have il2 : i + 1 < xs.length := by
      rcases Nat.lt_or_ge (i + 1) xs.length with y | y
      · exact y
      · refine absurd (List.ext_getElem? fun j => ?_) ne
        rcases Nat.lt_or_ge j (i + 1) with y2 | y2
        · exact all j y2
        · rw [List.getElem?_eq_none (by omega), List.getElem?_eq_none (by omega)]
    exact ⟨_, rfl, _, _, rfl, rfl, xs.length - (i + 1), by omega, rfl, i + 1, rfl, rfl, il2, all⟩
  · refine iteN (by simp; omega) ⟨_, rfl, q i _ (fun _ _ z => z) il (by rw [hx, hy]; exact fun y => z (Option.some.inj y)) hj⟩
end
end KV

/-! the table: the rounds, powers -/
namespace KV
open PySem PySem.Spec PyProof.Rows L2 KC
theorem for_enF {K : PySem.W.Frag} {ta : TA} {r : Addr} {es : List V} {g : TG} {tb : TS} {D : Ends} {σ : L2.St} {H : Hp} (hta : ∀ Q : List V → Hp → Prop, Q [.ref r] H → ta σ H Q) (hr : SqL K H r es) (Pv : Nat → L2.St → Hp → Prop) (h0 : Pv 0 σ H) (hl : ∀ i σ H', Pv i σ H' → SqL K H' r es)
    (hs : ∀ (i : Nat) (x : V) (σ : L2.St) (G : Hp) (T : Addr), es[i]? = some x → Pv i σ G → G T = none → g (.ref T) σ (upd G T (.tup [.int (i : Nat), x])) fun σ2 H2 => tb { D with nx := Pv (i + 1), ct := Pv (i + 1), bk := D.nx } σ2 H2) (hd : ∀ σ H, Pv es.length σ H → D.nx σ H) :
    tFor (iEnum K ta) g tb D σ H := by
  refine hta _ ⟨r, es, rfl, hr, for_it walk_enum Pv h0 (fun i σ H' _ p => hl i σ H' p) ?_ hd⟩
  rintro i y σ G H' hi p ⟨Tt, a1, b1, rfl, hT, rfl, ea, eb⟩
  cases ea
  exact hs i b1 σ G Tt eb p hT
/-- what stands at a number's place: the powers of a change, and which of them it is -/
def RdV (rd : Addr) (H : Hp) (n : Nat) (cs : List (List Nat)) (fs : Fs) (i : Nat) (v : V) : Prop := ∃ (b p : Addr) (ps : List Nat) (pl : Nat), v = .ref b ∧ p ≠ rd ∧ H b = some (.tup [.ref p, .int (pl : Int)]) ∧ H p = some (.lst (vi ps)) ∧ Rd n cs fs i ps pl
theorem RdV.keep {rd : Addr} {H H' : Hp} {n i : Nat} {cs : List (List Nat)} {fs : Fs} {v : V} {xs : List V} (h : RdV rd H n cs fs i v) (hx : H rd = some (.lst xs)) (k : KpM rd H H') : RdV rd H' n cs fs i v := by
  obtain ⟨b, p, ps, pl, rfl, h1, h2, h3, h4⟩ := h
  exact ⟨b, p, ps, pl, rfl, h1, k _ _ (fun z => by rw [z, hx] at h2; cases h2) h2, k _ _ h1 h3, h4⟩
theorem RdV.same {rd : Addr} {H H' : Hp} {n i : Nat} {cs : List (List Nat)} {fs : Fs} {v : V} (h : RdV rd H n cs fs i v) (k : Same H H') : RdV rd H' n cs fs i v := by
  obtain ⟨b, p, ps, pl, rfl, h1, h2, h3, h4⟩ := h
  exact ⟨b, p, ps, pl, rfl, h1, k _ _ h2, k _ _ h3, h4⟩
structure RdsI (rd : Addr) (H : Hp) (n : Nat) (cs : List (List Nat)) (fs : Fs) (xs : List V) : Prop where
  at_ : H rd = some (.lst xs)
  len : xs.length = fs.length
  ok : ∀ (i : Nat) (v : V), xs[i]? = some v → v = .non ∨ RdV rd H n cs fs i v
theorem KpM.trans {m : Addr} {H H' H2 : Hp} (a : KpM m H H') (b : KpM m H' H2) : KpM m H H2 := fun x o h z => b x o h (a x o h z)
theorem KpM.of {m : Addr} {H H' : Hp} (s : Same H H') : KpM m H H' := fun x o _ z => s x o z
theorem KpM.same {m : Addr} {H0 H H' : Hp} (k : KpM m H H') (s : Same H0 H) (hm : H0 m = none) : Same H0 H' := fun x o z => k x o (fun e => by rw [e, hm] at z; cases z) (s x o z)
theorem Wk.next {n : Nat} {cs : List (List Nat)} {fs : Fs} {g : List Nat} {m : Nat} (W : Wk n cs fs g m) (h : pw n g (m : Int) ≠ tab n id) : Wk n cs fs g (m + 1) := ⟨W.r, by omega, fun j j0 jm => by
  rcases Nat.lt_or_ge j m with y | y
  · exact W.ne j j0 y
  · rw [show j = m by omega]
    exact h⟩
theorem pws_succ {n : Nat} {fs : Fs} {g : List Nat} {m : Nat} : pws fs n g (m + 1) = pws fs n g m ++ [ixF fs (pw n g (m : Int))] := tab_succ
section
variable {P : Program} {w : World} {K : PySem.W.Frag} {mg : Str → Option Value} {base : Heap} {Ct : Addr}
def spFR (Ct : Addr) : Sp := fun vs H Q _ => ∃ (x : Addr) (n : Nat) (cs : List (List Nat)) (fs : Fs), vs = [.ref x] ∧ T0 Ct H x n cs fs ∧ ∀ (rd : Addr) (xs : List V) (H' : Hp), Same H H' → H rd = none → RdsI rd H' n cs fs xs → (∀ i : Nat, xs[i]? ≠ some V.non) → Q (.ref rd) H'
theorem st1 : FnScope ["self", "rounds", "number", "row", "powers", "at", "place", "power"] ["self"] (defScope (mth 36 1)) := ⟨rfl, rfl, rfl, by decide +kernel, rfl, by decide +kernel, by decide +kernel⟩
theorem ok_fr {f : Addr} {fd : FuncData} (B : Bl mg) (TC : TCf K Ct) (CW : MetC P w K mg base CX0 Ct 1 "walk" ["self", "start", "row"] (spWalk Ct)) (F : Fun K "_found_rounds" "Table._found_rounds" (mth 36 1) f fd) : FnOk P w K mg base CX0 2 f fd ["self"] (spFR Ct) := by
  refine F.ok st1 (fun vs H Q E h => ?_) (fun cdv A outer s H vs Q E hr h => ⟨_,
    (pss_cons (ps_set (i := 1) st1.nd rfl (.inl rfl) (pe_op op_rep (pe_lst (pa_cons pe_non pa_nil)) (pe_callB call_len_seq (by rfl) B.len PySem.boot_len (pa_cons (pe_fld (pv 0) (by rfl)) pa_nil))))
    (pss_cons (ps_for PassesOwn.never rfl (pi_enum (by rfl) B.enumerate (pa_cons (pe_fld (pv 0) (by rfl)) pa_nil)) (pg_tup rfl (pgs_cons (pg_name (i := 2) st1.nd rfl (.inl rfl)) (pgs_cons (pg_name (i := 3) st1.nd rfl (.inl rfl)) pgs_nil))) (pss_one (ps_if (pt_cmpR op_isN (pe_ix ix_list (pv 1) (pv 2) (fun _ _ => rfl)) pe_non (nomark _)) (pss_cons (ps_set (i := 4) st1.nd rfl (.inl rfl) (pe_lst (pa_cons pe_int pa_nil)))
    (pss_cons (ps_set (i := 5) st1.nd rfl (.inl rfl) (pv 2))
    (pss_cons (ps_while PassesOwn.never (pt_cmpR op_ne (pv 5) pe_int (nomark _)) (pss_cons (ps_expr (pe_bm PySem.F.plainAttrs_list PySem.F.slot_list_append PySem.F.type_list_append mt_append (pv 4) (pa_cons (pv 5) pa_nil)))
    (pss_one (ps_set (i := 5) st1.nd rfl (.inl rfl) (by exact (pe_mt CW TC.cl hr (by decide) (pv 0) (pa_cons (pv 5) (pa_cons (pv 3) pa_nil))))))))
    (pss_one (ps_for PassesOwn.never rfl (pi_enum (by rfl) B.enumerate (pa_cons (pv 4) pa_nil)) (pg_tup rfl (pgs_cons (pg_name (i := 6) st1.nd rfl (.inl rfl)) (pgs_cons (pg_name (i := 7) st1.nd rfl (.inl rfl)) pgs_nil))) (pss_one (ps_if (pt_cmpR op_isN (pe_ix ix_list (pv 1) (pv 7) (fun _ _ => rfl)) pe_non (nomark _)) (pss_one (ps_asg (pe_tup (pa_cons (pv 4) (pa_cons (pv 6) pa_nil))) (pg_sub (pv 1) (pv 7) set_list))) pss_nil))))))) pss_nil)))
    (pss_one (ps_ret (pv 1))))), ?_⟩)
  · obtain ⟨x, n, cs, fs, rfl, _⟩ := h
    rfl
  obtain ⟨x, n, cs, fs, rfl, T, q⟩ := h
  obtain ⟨dx, ah, rl, fl, hs, rs, h1, h2, h3, h4, h5, h6, h7⟩ := T.ex
  have lr : rs.length = fs.length := by rw [paired_len h7, List.length_map]
  have l4 := T.l4
  have lrv : (rs.map V.ref).length = fs.length := by rw [List.length_map]; exact lr
  refine ⟨(by show 1 ≤ sizeLine; decide), fun l hl => ⟨_, rfl, x, Ct, dx, fl, _, rfl, Same.mk1 hl _ _ h1, TC.cl, TC.n4, h2.r, rl, _, rfl, .inl (SqL.of (Same.mk1 hl _ _ h6)), l, _, _, rfl, rfl, upd_same, ?_, ?_, ?_, fun rd hrd => ?_⟩⟩
  · rw [lrv]; omega
  · rw [lrv]; omega
  · rw [lrv]
    show 1 * ((fs.length : Int)).toNat ≤ sizeLine
    exact Nat.le_of_lt (len_lt (by omega))
  have e0 : (List.replicate (((rs.map V.ref).length : Nat) : Int).toNat [V.non]).flatten = List.replicate fs.length V.non := by
    rw [lrv, rep_v]
    rfl
  rw [e0]
  have s1 : Same H (upd (upd H l (.lst [V.non])) rd (.lst (List.replicate fs.length V.non))) := (Same.mk1 hl).trans (Same.mk1 hrd)
  have m1 : upd (upd H l (.lst [V.non])) rd (.lst (List.replicate fs.length V.non)) rd = some (.lst (List.replicate fs.length V.non)) := upd_same
  have rn : H rd = none := (Same.mk1 hl).free hrd
  generalize upd (upd H l (.lst [V.non])) rd (.lst (List.replicate fs.length V.non)) = H1 at s1 m1 ⊢
  dsimp only [gName, tSeq]
  refine for_enF (r := rl) (es := rs.map V.ref) (fun Q q => by exact ⟨_, rfl, x, Ct, dx, fl, _, rfl, s1 _ _ h1, TC.cl, TC.n4, h2.r, q⟩) (SqL.of (s1 _ _ h6)) (fun i σ H' => Same H H' ∧ ∃ (u2 u3 u4 u5 u6 u7 : Option V) (xs : List V), σ = [some (.ref x), some (.ref rd), u2, u3, u4, u5, u6, u7] ∧ RdsI rd H' n cs fs xs ∧ ∀ j < i, xs[j]? ≠ some V.non)
    ⟨s1, _, _, _, _, _, _, _, rfl, ⟨m1, List.length_replicate, fun i v e => .inl ?_⟩, fun j hj => absurd hj (Nat.not_lt_zero j)⟩ (fun i σ H' z => SqL.of (z.1 _ _ h6)) ?_ ?_
  · rw [List.getElem?_replicate] at e
    split at e
    · exact (Option.some.inj e).symm
    · cases e
  · rintro i y σ G Tt hy ⟨sG, u2, u3, u4, u5, u6, u7, xs, rfl, R, hlo⟩ hT
    obtain ⟨b, hb, rfl⟩ := ref_at hy
    obtain ⟨r, hr1, hr2⟩ := paired_at h7 hb
    obtain ⟨vr, kr⟩ := T.c.row hr1
    have rg := T.c.rch kr
    have ei := T.c.at_ix kr
    have il : i < fs.length := by have := (List.getElem?_eq_some_iff.mp hb).1; omega
    generalize hge : act n cs r = g at kr rg ei
    have gc := rg.chg T.hc
    have sT := Same.new (o := .tup [V.int (i : Int), V.ref b]) hT
    refine ⟨Tt, _, rfl, SqT.of upd_same, rfl, _, _, rfl, _, _, rfl, rfl, ?_⟩
    have sG1 := sG.trans sT
    have R1 : RdsI rd (upd G Tt (.tup [V.int (i : Int), V.ref b])) n cs fs xs := ⟨sT _ _ R.at_, R.len, fun i v e => (R.ok i v e).imp id fun z => z.same sT⟩
    generalize upd G Tt (.tup [V.int (i : Int), V.ref b]) = G1 at sG1 R1
    clear sT hT R sG
    dsimp only [gName, gNil]
    obtain ⟨v, hv⟩ : ∃ v, xs[i]? = some v := ⟨_, List.getElem?_eq_getElem (by rw [R1.len]; exact il)⟩
    refine ⟨_, rfl, _, rfl, rd, xs, _, v, rfl, rfl, SqL.of R1.at_, atI_nat hv, rfl, _, rfl, ?_⟩
    by_cases hn : v = .non
    case neg =>
      refine iteN (by simp [hn]) ⟨sG1, _, _, _, _, _, _, xs, rfl, R1, fun j hj => ?_⟩
      rcases Nat.lt_or_ge j i with z | z
      · exact hlo j z
      · rw [show j = i by omega, hv]
        exact fun z => hn (Option.some.inj z)
    refine iteP (by simp [hn]) ⟨(by show 1 ≤ sizeLine; decide), fun p hp => ⟨_, rfl, ?_⟩⟩
    have Rp := rn
    have pr : p ≠ rd := fun z => by rw [z, R1.at_] at hp; cases hp
    dsimp only [gName]
    refine sq_cut (fun σ H' => ∃ m : Nat, σ = [some (.ref x), some (.ref rd), some (.int (i : Int)), some (.ref b), some (.ref p), some (.int 0), u6, u7] ∧ Same G1 H' ∧ H' p = some (.lst (vi (pws fs n g m))) ∧ Wk n cs fs g m ∧ pw n g (m : Int) = tab n id) (fun Z hZ => ?_) ?_
    · refine ⟨fun μ σ H' => ∃ m : Nat, μ = 401 - m ∧ σ = [some (.ref x), some (.ref rd), some (.int (i : Int)), some (.ref b), some (.ref p), some (.int ((ixF fs (pw n g (m : Int)) : Nat) : Int)), u6, u7] ∧ Same G1 H' ∧ H' p = some (.lst (vi (pws fs n g m))) ∧ Wk n cs fs g m, ⟨_, 1, rfl, ?_, Same.new hp, ?_, ⟨rg, by decide, fun j j0 j1 => absurd j1 (by omega)⟩⟩, ?_⟩
      · rw [show ((1 : Nat) : Int) = 1 from rfl, pw_one gc, ei]
        rfl
      · rw [upd_same]
        have e1 : pws fs n g 1 = [0] := by
          show [ixF fs (pw n g ((0 : Nat) : Int))] = [0]
          rw [show ((0 : Nat) : Int) = 0 from rfl, pw_zero gc, tab_rg, T.c.one]
        rw [e1]
        rfl
      rintro μ σ H' ⟨m, rfl, rfl, sm, hp2, W⟩
      have ml := W.len T.c T.hc
      refine ⟨_, rfl, rfl, _, rfl, ?_⟩
      by_cases e : pw n g (m : Int) = tab n id
      · have e2 : ixF fs (pw n g (m : Int)) = 0 := by rw [e, tab_rg, T.c.one]
        exact iteN (by simp [e2]) (hZ _ _ ⟨m, by rw [e2]; rfl, sm, hp2, W, e⟩)
      · have e2 : ixF fs (pw n g (m : Int)) ≠ 0 := fun z => e (by
          rw [tab_rg]
          exact (T.c.inj (rg.pwn T.hc m) Rch.one).mp (by rw [z, T.c.one]))
        have W2 := W.next e
        have ml2 := W2.len T.c T.hc
        refine iteP (by simp; omega) ⟨fun σ' H4 => ∃ μ', μ' < 401 - m ∧ ∃ m : Nat, μ' = 401 - m ∧ σ' = [some (.ref x), some (.ref rd), some (.int (i : Int)), some (.ref b), some (.ref p), some (.int ((ixF fs (pw n g (m : Int)) : Nat) : Int)), u6, u7] ∧ Same G1 H4 ∧ H4 p = some (.lst (vi (pws fs n g m))) ∧ Wk n cs fs g m, fun _ _ z => z, ?_⟩
        have lp : (vi (pws fs n g m)).length = m := by rw [show (vi (pws fs n g m)).length = (pws fs n g m).length from List.length_map ..]; exact tab_len
        refine ⟨_, rfl, .inl ⟨rfl, _, SqL.of hp2⟩, _, rfl, p, _, _, rfl, rfl, hp2, len_lt (by omega), ?_⟩
        have s3 : Same G1 (upd H' p (.lst (vi (pws fs n g m) ++ [V.int ((ixF fs (pw n g (m : Int)) : Nat) : Int)]))) := Same.upd sm hp
        have sH := sG1.trans s3
        refine ⟨_, rfl, x, dx, fl, rfl, sH _ _ h1, h2.m _ (by decide), _, rfl, _, rfl, x, b, n, cs, fs, pw n g (m : Int), r, rfl, T.same sH, rg.pwn T.hc m, sH _ _ hr2, vr, fun H5 s5 => ⟨401 - (m + 1), by omega, m + 1, rfl, ?_, s3.trans s5, s5 _ _ ?_, W2⟩⟩
        · rw [hge, pw_succ gc]
          rfl
        · rw [upd_same, pws_succ]
          simp [vi]
    rintro σ H' ⟨m, rfl, sm, hp2, W, eid⟩
    have ml := W.len T.c T.hc
    have R2 : RdsI rd H' n cs fs xs := ⟨sm _ _ R1.at_, R1.len, fun i v e => (R1.ok i v e).imp id fun z => z.same sm⟩
    have sH := sG1.trans sm
    have hix : ∀ j : Nat, (keysF fs)[ixF fs (pw n g (j : Int))]? = some (pw n g (j : Int)) := fun j => T.c.ix (rg.pwn T.hc j)
    have hlt : ∀ j : Nat, ixF fs (pw n g (j : Int)) < fs.length := fun j => T.c.lt (rg.pwn T.hc j)
    clear sm R1 sG1 hp
    refine for_enL (es := vi (pws fs n g m)) rfl (SqL.of hp2) (fun j σ H2 => KpM rd H' H2 ∧ ∃ (u6 u7 : Option V) (xs' : List V), σ = [some (.ref x), some (.ref rd), some (.int (i : Int)), some (.ref b), some (.ref p), some (.int 0), u6, u7] ∧ RdsI rd H2 n cs fs xs' ∧ (∀ k : Nat, xs'[k]? = some V.non → xs[k]? = some V.non) ∧ ∀ j' < j, xs'[ixF fs (pw n g ((j' : Nat) : Int))]? ≠ some V.non)
      ⟨KpM.refl, u6, u7, xs, rfl, R2, fun _ z => z, fun j hj => absurd hj (Nat.not_lt_zero j)⟩ (fun j σ H2 z => SqL.of (z.1 _ _ pr hp2)) ?_ ?_
    · rintro j y σ G2 T2 hy ⟨kp, u6, u7, xs', rfl, R3, hsub, hin⟩ hT2
      obtain ⟨k, hk, rfl⟩ := vi_at hy
      have jm : j < m := by have := (List.getElem?_eq_some_iff.mp hk).1; rwa [show (pws fs n g m).length = m from tab_len] at this
      have ek : k = ixF fs (pw n g (j : Int)) := by
        have : (pws fs n g m)[j]? = some (ixF fs (pw n g (j : Int))) := tab_get jm
        rw [hk] at this
        exact Option.some.inj this
      have kl : k < fs.length := by rw [ek]; exact hlt j
      have sT := Same.new (o := .tup [V.int (j : Int), V.int (k : Int)]) hT2
      refine ⟨T2, _, rfl, SqT.of upd_same, rfl, _, _, rfl, _, _, rfl, rfl, ?_⟩
      have kp1 : KpM rd H' (upd G2 T2 (.tup [V.int (j : Int), V.int (k : Int)])) := kp.trans (KpM.of sT)
      have R4 : RdsI rd (upd G2 T2 (.tup [V.int (j : Int), V.int (k : Int)])) n cs fs xs' := ⟨sT _ _ R3.at_, R3.len, fun i v e => (R3.ok i v e).imp id fun z => z.same sT⟩
      generalize upd G2 T2 (.tup [V.int (j : Int), V.int (k : Int)]) = G3 at kp1 R4
      clear sT hT2 R3 kp
      dsimp only [gName, gNil]
      obtain ⟨v2, hv2⟩ : ∃ v, xs'[k]? = some v := ⟨_, List.getElem?_eq_getElem (by rw [R4.len]; exact kl)⟩
      refine ⟨_, rfl, _, rfl, rd, xs', _, v2, rfl, rfl, SqL.of R4.at_, atI_nat hv2, rfl, _, rfl, ?_⟩
      by_cases hn2 : v2 = .non
      case neg =>
        refine iteN (by simp [hn2]) ⟨kp1, _, _, xs', rfl, R4, hsub, fun j' hj' => ?_⟩
        rcases Nat.lt_or_ge j' j with z | z
        · exact hin j' z
        · rw [show j' = j by omega, ← ek, hv2]
          exact fun z => hn2 (Option.some.inj z)
      refine iteP (by simp [hn2]) ⟨_, rfl, _, rfl, (by show 2 ≤ sizeLine; decide), fun y hy2 => ?_⟩
      have sy := Same.new (o := .tup [V.ref p, V.int (j : Int)]) hy2
      have yr : y ≠ rd := fun z => by rw [z, R4.at_] at hy2; cases hy2
      have lx : xs'.length = fs.length := R4.len
      refine ⟨_, rfl, _, rfl, rd, _, _, k, rfl, rfl, sy _ _ R4.at_, ix_ok (by omega), (kp1.trans (KpM.of sy)).upd_m, _, _, xs'.set k (.ref y), rfl, ⟨upd_same, by rw [List.length_set]; exact lx, fun i2 v e => ?_⟩, fun k2 e => ?_, fun j' hj' => ?_⟩
      · by_cases z : k = i2
        · subst z
          rw [List.getElem?_set_self (by omega)] at e
          cases e
          refine .inr ⟨y, p, pws fs n g m, j, rfl, pr, ?_, ?_, ⟨g, m, rg, W.m0, by omega, eid, rfl, jm, by rw [ek]; exact hix j⟩⟩
          · rw [upd_ne yr]
            exact upd_same
          · rw [upd_ne pr]
            exact sy _ _ (kp1 _ _ pr hp2)
        · rw [List.getElem?_set_ne z] at e
          exact (R4.ok i2 v e).imp id fun z => (z.same sy).keep (sy _ _ R4.at_) KpM.refl.upd_m
      · by_cases z : k = k2
        · subst z
          rw [List.getElem?_set_self (by omega)] at e
          cases e
        · rw [List.getElem?_set_ne z] at e
          exact hsub k2 e
      · by_cases z : k = ixF fs (pw n g ((j' : Nat) : Int))
        · rw [← z, List.getElem?_set_self (by omega)]
          exact fun z => by cases z
        · rw [List.getElem?_set_ne z]
          rcases Nat.lt_or_ge j' j with z2 | z2
          · exact hin j' z2
          · rw [show j' = j by omega] at z
            exact absurd ek z
    · rintro σ G2 ⟨kp, u6, u7, xs', rfl, R3, hsub, hin⟩
      rw [show (vi (pws fs n g m)).length = (pws fs n g m).length from List.length_map .., show (pws fs n g m).length = m from tab_len] at hin
      refine ⟨kp.same sH rn, _, _, _, _, _, _, xs', rfl, R3, fun j hj => ?_⟩
      rcases Nat.lt_or_ge j i with z | z
      · exact fun y => hlo j z (hsub j y)
      · have m0 := W.m0
        have := hin (1 % m) (Nat.mod_lt _ m0)
        have e1 : pw n g (((1 % m : Nat)) : Int) = g := by
          have z1 := pw_mod gc m0 eid 1
          rw [pw_one gc] at z1
          rw [← z1]
          congr 1
        rw [e1, ei] at this
        rw [show j = i by omega]
        exact this
  · rintro σ G ⟨sG, u2, u3, u4, u5, u6, u7, xs, rfl, R, hlo⟩
    rw [lrv] at hlo
    refine ⟨_, rfl, q rd xs G sG rn R fun i z => ?_⟩
    have := (List.getElem?_eq_some_iff.mp z).1
    rw [R.len] at this
    exact hlo i this z
/-- the table, whole -/
structure T1 (Ct : Addr) (H : Hp) (x : Addr) (n : Nat) (cs : List (List Nat)) (fs : Fs) : Prop where
  t : T0 Ct H x n cs fs
  ex : ∃ (dx rd l ch : Addr) (fl : List (Str × V)) (xs : List V) (bs es : List Addr), H x = some (.ins Ct dx fl) ∧ fl.lookup ("rounds" : Str) = some (.ref rd) ∧ H rd = some (.lst xs) ∧ xs.length = fs.length ∧ (∀ (i : Nat) (v : V), xs[i]? = some v → RdV rd H n cs fs i v) ∧
    fl.lookup ("makers" : Str) = some (.ref l) ∧ Gens H l n bs cs ∧ fl.lookup ("changes" : Str) = some (.ref ch) ∧ H ch = some (.lst (es.map V.ref)) ∧ TpP H es (keysF fs)
theorem T1.same {Ct x : Addr} {H H' : Hp} {n : Nat} {cs : List (List Nat)} {fs : Fs} (h : T1 Ct H x n cs fs) (s : Same H H') : T1 Ct H' x n cs fs := by
  obtain ⟨dx, rd, l, ch, fl, xs, bs, es, h1, h2, h3, h4, h5, h6, h7, h8, h9, h10⟩ := h.ex
  exact ⟨h.t.same s, dx, rd, l, ch, fl, xs, bs, es, s _ _ h1, h2, s _ _ h3, h4, fun i v e => (h5 i v e).same s, h6, h7.same s, h8, s _ _ h9, tpp_same s h10⟩
/-- the numbers of all changes' powers -/
def pwsK (n : Nat) (fs : Fs) (k : Int) : List Nat := (keysF fs).map fun g => ixF fs (pw n g k)
def spTP (Ct : Addr) : Sp := fun vs H Q _ => ∃ (x : Addr) (k : Int) (n : Nat) (cs : List (List Nat)) (fs : Fs), vs = [.ref x, .int k] ∧ T1 Ct H x n cs fs ∧ sm 400 k ∧ ∀ (l : Addr) (H' : Hp), Same H H' → H' l = some (.lst (vi (pwsK n fs k))) → Q (.ref l) H'
theorem st4 : FnScope ["self", "count", "powers", "place"] ["self", "count"] (defScope (mth 36 4)) := ⟨rfl, rfl, rfl, by decide +kernel, rfl, by decide +kernel, by decide +kernel⟩
theorem ok_tpw {f : Addr} {fd : FuncData} (B : Bl mg) (TC : TCf K Ct) (F : Fun K "powers" "Table.powers" (mth 36 4) f fd) : FnOk P w K mg base CX0 1 f fd ["self", "count"] (spTP Ct) := by
  refine F.ok st4 (fun vs H Q E h => ?_) (fun cdv A outer s H vs Q E hr h => ⟨_,
    (pss_one (ps_ret (pe_lc (own := [("powers", 2), ("place", 3)]) (g := gTup K 2 (gCons (gName 2) (gCons (gName 3) gNil))) (tt := tYes) rfl st4.nd (pi_list (pe_fld (pv 0) (by rfl))) (blkOk_by (N := ["self", "count", "powers", "place"]) (sc := defScope (mth 36 4)) (by decide +kernel))
        (fun _ _ _ _ _ => (pg_tup rfl (pgs_cons (pg_name (i := 2) st4.nd rfl (Or.inl rfl)) (pgs_cons (pg_name (i := 3) st4.nd rfl (Or.inl rfl)) pgs_nil)))) (fun _ _ _ _ _ => pts_nil) (fun _ _ _ _ _ => (pe_ix (r := rIxL K) ix_list (pv 2) (pe_op op_mod (pe_op op_mulW (pv 3) (pv 1)) (pe_callB (r := rLenQ K) call_lenQ (by rfl) B.len PySem.boot_len (pa_cons (pv 2) pa_nil))) (fun _ _ => rfl)))))), ?_⟩)
  · obtain ⟨x, k, n, cs, fs, rfl, _⟩ := h
    rfl
  obtain ⟨x, k, n, cs, fs, rfl, T, sk, q⟩ := h
  obtain ⟨dx, rd, l, ch, fl, xs, bs, es, h1, h2, h3, h4, h5, -⟩ := T.ex
  have l4 := T.t.l4
  refine ⟨_, rfl, x, Ct, dx, fl, _, rfl, h1, TC.cl, TC.n5, h2, rd, rfl, ⟨_, SqL.of h3⟩, fun D hD => lc_list (xs := xs) (fun i H' => Same H H' ∧ H' D = some (.lst (vi ((pwsK n fs k).take i)))) ⟨Same.new hD, by rw [List.take_zero]; exact upd_same⟩ (fun i H' _ z => SqL.of (z.1 _ _ h3)) ?_ ?_⟩
  · rintro i v H' hv ⟨p1, p2⟩
    obtain ⟨b, p, ps, pl, rfl, -, e1, e2, e3⟩ := h5 i v hv
    have il : i < fs.length := by have := (List.getElem?_eq_some_iff.mp hv).1; omega
    obtain ⟨g0, L, hg0, L0, L1, pL, hps, hpl, hi⟩ := e3.ex
    obtain ⟨q1, q2, q3⟩ := e3.get T.t.c T.t.hc k
    have lv : (vi ps).length = ps.length := List.length_map ..
    have hgi : (pwsK n fs k)[i]? = some (ixF fs (pw n ((keysF fs).getD i []) k)) := by
      unfold pwsK
      rw [List.getElem?_map, List.getD_eq_getElem?_getD, hi]
      rfl
    rw [← lv] at q3
    refine ⟨b, _, rfl, SqT.of (p1 _ _ e1), rfl, _, _, rfl, _, _, rfl, rfl, rfl, ?_⟩
    refine ⟨_, rfl, _, rfl, _, rfl, _, _, rfl, rfl, ?_, _, rfl, p, _, rfl, .inl (SqL.of (p1 _ _ e2)), _, _, rfl, rfl, ?_, p, _, _, _, rfl, rfl, SqL.of (p1 _ _ e2), q3, _, p2, len_lt ?_, Same.upd p1 hD, ?_⟩
    · have pl1 : pl < ps.length := by rw [hps, show (pws fs n g0 L).length = L from tab_len]; exact hpl
      exact mulW (sm_nat (k := 10) (Nat.lt_trans (Nat.lt_of_lt_of_le pl1 q2) (by decide))) sk (by decide) (by decide) (by decide)
    · rw [lv]; omega
    · rw [show (vi ((pwsK n fs k).take i)).length = ((pwsK n fs k).take i).length from List.length_map .., List.length_take]
      omega
    · rw [upd_same, take_at3 hgi]
      simp [vi]
  · rintro H' ⟨p1, p2⟩
    rw [h4, List.take_of_length_le (by unfold pwsK; rw [List.length_map, keysF_len]; exact Nat.le_refl _)] at p2
    exact q D H' p1 p2
end
end KV

/-! the program: numbered -/
namespace KV
open PySem PySem.Spec PyProof.Rows L2 KC
section
variable {P : Program} {w : World} {K : PySem.W.Frag} {mg : Str → Option Value} {base : Heap} {C fT : Addr} {uF : Tok}
/-- changes to begin with, perhaps none -/
structure GensE (H : Hp) (l : Addr) (n : Nat) (bs : List Addr) (cs : List (List Nat)) : Prop where
  lst : H l = some (.lst (bs.map V.ref))
  tups : Paired (fun b c => H b = some (.tup (vi c))) bs cs
  chg : ∀ c ∈ cs, Chg n c
  n0 : 0 < n
theorem Gens.e {H : Hp} {l : Addr} {n : Nat} {bs : List Addr} {cs : List (List Nat)} (h : Gens H l n bs cs) : GensE H l n bs cs := ⟨h.lst, h.tups, h.chg, h.n0⟩
def spNum (C : Addr) : Sp := fun vs H Q E => ∃ (l : Addr) (n : Nat) (bs : List Addr) (cs : List (List Nat)), vs = [.int (n : Int), .ref l] ∧ GensE H l n bs cs ∧ n ≤ 16 ∧ cs.length ≤ 20 ∧ (¬ Sz n cs 400 → BadN C 0 H E) ∧
  (Sz n cs 400 → ∀ (p dn ah rl : Addr) (hs rs : List Addr) (k : Nat) (kvs : List (List L2.Key × V)) (H' : Hp), Same H H' → H' p = some (.tup [.ref dn, .ref ah, .ref rl]) → (grow n cs k).length ≤ k → H' dn = some (.dT kvs) → KF kvs (grow n cs k) →
    H' rl = some (.lst (rs.map V.ref)) → TpP H' rs ((grow n cs k).map (·.2)) → H' ah = some (.lst (hs.map V.ref)) → hs.length = cs.length →
    (∀ (j : Nat) (b : Addr), hs[j]? = some b → H' b = some (.lst (vi ((keysF (grow n cs k)).map fun g => ixF (grow n cs k) (comp g (cs.getD j [])))))) → Q (.ref p) H')
theorem sc27 : FnScope ["states", "makers", "numbers", "found", "rows", "ahead", "at", "change", "index", "maker", "to", "number", "_", "state"] ["states", "makers"] (defScope (top 26)) := ⟨rfl, rfl, rfl, by decide +kernel, rfl, by decide +kernel, by decide +kernel⟩
set_option maxHeartbeats 4000000 in
theorem ok_num {f : Addr} {fd : FuncData} (B : Bl mg) (T : PySem.LowX.LowTxt K mg "Refused" "Refused.__init__" C fT) (gF : mg "MOST_CHANGES" = some (.int 400 uF)) (CI : Cal P w K mg base CX0 1 "idle_change" ["states"] spIdle) (F : Fun K "numbered" "numbered" (top 26) f fd) : FnOk P w K mg base (L2.CX P w) 2 f fd ["states", "makers"] (spNum C) := by
  refine F.okX sc27 (fun vs H Q E h => ?_) (fun cdv A outer s H vs Q E hr h => ⟨_,
    (pss_cons (ps_set (i := 2) sc27.nd rfl (.inl rfl) (pe_disp1 (Nat.lt_of_le_of_lt (Nat.add_le_add_left (show 1 ≤ 64 by decide) _) hr.units) (by exact (pe_cal CI hr (by decide) (pa_cons (pv 0) pa_nil))) pe_int))
    (pss_cons (ps_set (i := 3) sc27.nd rfl (.inl rfl) (pe_callTy (call_list_dT rfl) (by rfl) B.list (by decide +kernel) (pa_cons (pv 2) pa_nil)))
    (pss_cons (ps_set (i := 4) sc27.nd rfl (.inl rfl) (pe_lst (pa_cons (pe_tup pa_nil) pa_nil)))
    (pss_cons (ps_setLc (i := 5) (own := [("_", 12)]) (g := gName 12) (tt := tYes) rfl sc27.nd rfl rfl (sw_true rfl rfl rfl (by decide +kernel)) (pi_list (pv 1)) (blkOk_by (N := ["states", "makers", "numbers", "found", "rows", "ahead", "at", "change", "index", "maker", "to", "number", "_", "state"]) (sc := defScope (top 26)) (by decide +kernel))
        (fun _ _ _ _ _ => (pg_name (i := 12) sc27.nd rfl (Or.inl rfl))) (fun _ _ _ _ _ => pts_nil) (fun _ _ _ _ _ => (pe_lst pa_nil)))
    (pss_cons (ps_set (i := 6) sc27.nd rfl (.inl rfl) pe_int)
    (pss_cons (ps_while (passes_of rfl) (pt_cmpR op_lt (pv 6) (pe_callB call_len_seq (by rfl) B.len PySem.boot_len (pa_cons (pv 3) pa_nil)) (nomark _)) (pss_cons (ps_set (i := 7) sc27.nd rfl (.inl rfl) (pe_ix ix_list (pv 3) (pv 6) (fun _ _ => rfl)))
    (pss_cons (ps_for (passes_of rfl) rfl (pi_enum (by rfl) B.enumerate (pa_cons (pv 1) pa_nil)) (pg_tup rfl (pgs_cons (pg_name (i := 8) sc27.nd rfl (.inl rfl)) (pgs_cons (pg_name (i := 9) sc27.nd rfl (.inr rfl)) pgs_nil))) (pss_cons (ps_set (i := 10) sc27.nd rfl (.inl rfl) (pe_callTy call_tuple_of (by rfl) B.tuple (by decide +kernel) (pa_cons (pe_lc (own := [("state", 13)]) (g := gName 13) (tt := tYes) rfl sc27.nd (pi_tup (pv 7)) (blkOk_by (N := ["states", "makers", "numbers", "found", "rows", "ahead", "at", "change", "index", "maker", "to", "number", "_", "state"]) (sc := defScope (top 26)) (by decide +kernel))
        (fun _ _ _ _ _ => (pg_name (i := 13) sc27.nd rfl (Or.inl rfl))) (fun _ _ _ _ _ => pts_nil) (fun _ _ _ _ _ => (pe_ix (r := rIxT K) ix_tup (pv 9) (pv 13) (fun _ _ => rfl)))) pa_nil)))
    (pss_cons (ps_set (i := 11) sc27.nd rfl (.inl rfl) (pe_bm PySem.F.plainAttrs_dict PySem.F.slot_dict_setdefault PySem.F.type_dict_setdefault (mt_setdef hr.units) (pv 2) (pa_cons (pv 10) (pa_cons (pe_callB call_len_seq (by rfl) B.len PySem.boot_len (pa_cons (pv 3) pa_nil)) pa_nil))))
    (pss_cons (ps_if (pt_cmpR op_eq (pv 11) (pe_callB call_len_seq (by rfl) B.len PySem.boot_len (pa_cons (pv 3) pa_nil)) (nomark _)) (pss_cons (ps_if (pt_cmpR op_eq (pv 11) (pe_glob (v := .int 400) (by rfl) gF ⟨_, rfl⟩) (nomark _)) (pss_one (ps_raiseLow rfl T hr (takes_of rfl rfl rfl rfl) (by exact (pa_cons pe_int pa_nil)))) pss_nil)
    (pss_cons (ps_expr (pe_bm PySem.F.plainAttrs_list PySem.F.slot_list_append PySem.F.type_list_append mt_append (pv 3) (pa_cons (pv 10) pa_nil)))
    (pss_one (ps_expr (pe_bm PySem.F.plainAttrs_list PySem.F.slot_list_append PySem.F.type_list_append mt_append (pv 4) (pa_cons (pe_op op_catA (pe_ix ix_list (pv 4) (pv 6) (fun _ _ => rfl)) (pe_tup (pa_cons (pv 8) pa_nil))) pa_nil)))))) pss_nil)
    (pss_one (ps_expr (pe_bm PySem.F.plainAttrs_list PySem.F.slot_list_append PySem.F.type_list_append mt_append (pe_ix ix_list (pv 5) (pv 8) (fun _ _ => rfl)) (pa_cons (pv 11) pa_nil))))))))
    (pss_one (ps_aug (i := 6) sc27.nd rfl (.inl rfl) pe_int ip_add)))))
    (pss_one (ps_ret (pe_tup (pa_cons (pv 2) (pa_cons (pv 5) (pa_cons (pv 4) pa_nil)))))))))))), ?_⟩)
  · obtain ⟨l, n, bs, cs, rfl, _⟩ := h
    rfl
  obtain ⟨l, n, bs, cs, rfl, hG, n16, c5, q0, q⟩ := h
  refine fun dn hdn => ⟨_, rfl, n, rfl, n16, fun t0 H1 s1 ht0 e1 => ?_⟩
  refine ⟨_, _, kc (List.range n), _, rfl, rfl, s1 _ _ upd_same, by rw [← kc_vi]; exact e1, ?_⟩
  rw [putK_new _ valV_nil, List.nil_append]
  have s1' : Same H (upd H1 dn (.dT [(kc (List.range n), V.int 0)])) := Same.upd ((Same.new hdn).trans s1) hdn
  have e2 : (upd H1 dn (.dT [(kc (List.range n), V.int 0)])) t0 = some (.tup (vi (List.range n))) := by
    rw [upd_ne (fun z => by have := s1 _ _ (upd_same (H := H) (a := dn) (o := HO.dT [])); rw [← z, e1] at this; cases this)]
    exact e1
  have e3 : (upd H1 dn (.dT [(kc (List.range n), V.int 0)])) dn = some (.dT [(kc (List.range n), V.int 0)]) := upd_same
  generalize upd H1 dn (.dT [(kc (List.range n), V.int 0)]) = H2 at s1' e2 e3
  dsimp only [gName]
  refine ⟨_, rfl, dn, _, rfl, .inl e3, fun fd bs0 hfd ik => ?_⟩
  obtain ⟨b0, rfl, eb0⟩ : ∃ b0, bs0 = [b0] ∧ H2 b0 = some (.tup (vi (List.range n))) := by
    cases ik with
    | cons h t => cases t; exact ⟨_, rfl, by rw [kc_vi]; exact h⟩
  dsimp only [gName]
  refine ⟨(by show 0 ≤ sizeLine; decide), fun r0 hr0 => ⟨(by show 1 ≤ sizeLine; decide), fun rl hrl => ?_⟩⟩
  have s3 := Same.new (o := .lst ([b0].map V.ref)) hfd
  have s4 := s3.trans (Same.new (o := .tup []) hr0)
  have s5 := s4.trans (Same.new (o := .lst [V.ref r0]) hrl)
  have f1 : H fd = none := s1'.free hfd
  have f2 : H rl = none := (s1'.trans s4).free hrl
  have g1 := (Same.new (o := .tup []) hr0).trans (Same.new (o := .lst [V.ref r0]) hrl) _ _ (upd_same (H := H2) (a := fd) (o := .lst ([b0].map V.ref)))
  have g2 := (Same.new (o := .lst [V.ref r0]) hrl) _ _ (upd_same (H := upd H2 fd (.lst ([b0].map V.ref))) (a := r0) (o := .tup []))
  have g3 : upd (upd (upd H2 fd (.lst ([b0].map V.ref))) r0 (.tup [])) rl (.lst [V.ref r0]) rl = some (.lst [V.ref r0]) := upd_same
  have fr1 : fd ≠ rl := ne_of_none ((Same.new (o := .tup []) hr0) _ _ (upd_same (H := H2) (a := fd) (o := .lst ([b0].map V.ref)))) hrl
  generalize upd (upd (upd H2 fd (.lst ([b0].map V.ref))) r0 (.tup [])) rl (.lst [V.ref r0]) = H4 at s5 g1 g2 g3
  have s6 := s1'.trans s5
  dsimp only [gName]
  refine ⟨_, rfl, l, rfl, ⟨_, SqL.of (s6 _ _ hG.lst)⟩, fun ah hah => lc_list (xs := bs.map V.ref) (fun i H' => AccL H4 ah (fun _ => []) i H') (AccL.init hah) (fun i H' _ z => SqL.of (z.1 _ _ (s6 _ _ hG.lst))) (fun i x H' hx z => ⟨rfl, (by show 0 ≤ sizeLine; decide), fun t ht => z.step hah ht (by have := (List.getElem?_eq_some_iff.mp hx).1; rw [List.length_map, paired_len hG.tups] at this; omega)⟩) fun H5 z => ?_⟩
  rw [List.length_map] at z
  obtain ⟨s7, hs, h1, h2, h3, h4, h5⟩ := z
  have bl := paired_len hG.tups
  have N0 : Nm H cs dn fd rl ah hs [r0] [b0] (grow n cs 0) [(kc (List.range n), V.int 0)] (fun _ => []) H5 :=
    { s := s6.trans s7
      fr := ⟨hdn, f1, f2, s6.free hah, fun b hb => s6.free (h4 b hb).1⟩
      ne := ⟨fr1, ne_of_none g1 hah, ne_of_none g3 hah, h5, fun b hb => ⟨(ne_of_none g1 (h4 b hb).1).symm, (ne_of_none g3 (h4 b hb).1).symm, (h4 b hb).2⟩⟩
      hd := s7 _ _ (s5 _ _ e3)
      hf := s7 _ _ g1
      hr := s7 _ _ g3
      ha := h2
      kf := rfl
      kn := fun i p e => by
        cases i with
        | zero => cases e; rfl
        | succ i => cases e
      tf := .cons (s7 _ _ (s5 _ _ eb0)) .nil
      tr := .cons (s7 _ _ g2) .nil
      hl := h1.trans bl
      hh := h3 }
  clear s7 h2 h3 h4 h5 s6 s5 g1 g2 g3 s3 s4 e2 e3 eb0 hah hrl hr0 hfd ik f1 f2
  dsimp only [gName]
  refine sq_cut (fun σ H' => σ = [some (.int (n : Int)), some (.ref l), some (.ref dn), some (.ref fd), some (.ref rl), some (.ref ah), some (.int 0), none, none, none, none, none, none, none] ∧ H' = H5) (fun Z hZ => hZ _ _ ⟨rfl, rfl⟩) ?_
  rintro σ H6 ⟨rfl, rfl⟩
  obtain ⟨I, hI⟩ : ∃ I : Nat → L2.St → Hp → Prop, I = fun k σ H' => ∃ (a : Nat) (kvs : List (List L2.Key × V)) (es rs : List Addr) (A : Nat → List Nat) (v7 v8 v9 v10 v11 : Option V), σ = [some (.int (n : Int)), some (.ref l), some (.ref dn), some (.ref fd), some (.ref rl), some (.ref ah), some (.int (a : Int)), v7, v8, v9, v10, v11, none, none] ∧ Nm H cs dn fd rl ah hs rs es (grow n cs a) kvs A H' ∧ a ≤ (grow n cs a).length ∧ (grow n cs a).length ≤ 400 ∧ (∀ j < cs.length, A j = ((keysF (grow n cs a)).take a).map fun g => ixF (grow n cs a) (comp g (cs.getD j []))) ∧ k = 401 - a := ⟨_, rfl⟩
  refine sq_cut (fun σ H' => ∃ (a : Nat) (kvs : List (List L2.Key × V)) (es rs : List Addr) (A : Nat → List Nat) (v7 v8 v9 v10 v11 : Option V), σ = [some (.int (n : Int)), some (.ref l), some (.ref dn), some (.ref fd), some (.ref rl), some (.ref ah), some (.int (a : Int)), v7, v8, v9, v10, v11, none, none] ∧ Nm H cs dn fd rl ah hs rs es (grow n cs a) kvs A H' ∧ (grow n cs a).length ≤ a ∧ (grow n cs a).length ≤ 400 ∧ (∀ j < cs.length, A j = ((keysF (grow n cs a)).take a).map fun g => ixF (grow n cs a) (comp g (cs.getD j [])))) (fun Z hZ => ⟨I, ⟨_, by rw [hI]; exact ⟨0, _, _, _, _, none, none, none, none, none, rfl, N0, Nat.zero_le _, (by show 1 ≤ 400; decide), fun j _ => rfl, rfl⟩⟩, ?_⟩) ?_
  · intro k σ H6 hk
    rw [hI] at hk
    obtain ⟨a, kvs, es, rs, A, v7, v8, v9, v10, v11, rfl, N, a1, a2, a3, rfl⟩ := hk
    have le : es.length = (grow n cs a).length := by rw [paired_len N.tf, keysF_len]
    refine ⟨_, rfl, _, rfl, fd, _, rfl, .inl (SqL.of N.hf), _, _, rfl, rfl, _, rfl, ?_⟩
    by_cases z : a < es.length
    case neg => exact iteN (by simp; omega) (hZ _ _ ⟨a, kvs, es, rs, A, v7, v8, v9, v10, v11, rfl, N, by omega, a2, a3⟩)
    refine iteP (by simp; omega) ⟨fun σ H' => ∃ m', m' < 401 - a ∧ I m' σ H', fun _ _ z => z, ?_⟩
    obtain ⟨e, he⟩ : ∃ e, es[a]? = some e := ⟨_, List.getElem?_eq_getElem z⟩
    have hp : (grow n cs a)[a]? = some (grow n cs a)[a] := List.getElem?_eq_getElem (by omega)
    generalize (grow n cs a)[a] = p at hp
    have hgr := grow_at hp
    obtain ⟨hv, hpa⟩ := (grow_gd (n := n) (cs := cs) a).rw_ p (List.mem_of_getElem? hp)
    have hcp : Chg n p.1 := by rw [hpa]; exact act_chg hG.chg hv
    have hka : (keysF (grow n cs a))[a]? = some p.1 := by
      unfold keysF
      rw [List.getElem?_map, hp]
      rfl
    have hee : H6 e = some (.tup (vi p.1)) := by
      obtain ⟨c, h1, h2⟩ := paired_at N.tf he
      rw [hka] at h1
      cases h1
      exact h2
    refine ⟨_, rfl, _, rfl, fd, _, _, V.ref e, rfl, rfl, SqL.of N.hf, atI_nat (by rw [List.getElem?_map, he]; rfl), ?_⟩
    dsimp only [gName]
    refine sq_cut (fun σ H' => ∃ (kvs : List (List L2.Key × V)) (es rs : List Addr) (A : Nat → List Nat) (v8 v9 v10 v11 : Option V), σ = [some (.int (n : Int)), some (.ref l), some (.ref dn), some (.ref fd), some (.ref rl), some (.ref ah), some (.int (a : Int)), some (.ref e), v8, v9, v10, v11, none, none] ∧ Nm H cs dn fd rl ah hs rs es (grow n cs (a + 1)) kvs A H' ∧ (grow n cs (a + 1)).length ≤ 400 ∧ (∀ j < cs.length, A j = ((keysF (grow n cs (a + 1))).take (a + 1)).map fun g => ixF (grow n cs (a + 1)) (comp g (cs.getD j [])))) (fun Z2 hZ2 => ?_) ?_
    · refine for_enL (es := bs.map V.ref) rfl (SqL.of (N.s _ _ hG.lst)) (fun j σ H' => ∃ (kvs : List (List L2.Key × V)) (es rs : List Addr) (A : Nat → List Nat) (v8 v9 v10 v11 : Option V), σ = [some (.int (n : Int)), some (.ref l), some (.ref dn), some (.ref fd), some (.ref rl), some (.ref ah), some (.int (a : Int)), some (.ref e), v8, v9, v10, v11, none, none] ∧ Nm H cs dn fd rl ah hs rs es (exF cs p.1 p.2 j (grow n cs a)) kvs A H' ∧ H' e = some (.tup (vi p.1)) ∧ (exF cs p.1 p.2 j (grow n cs a)).length ≤ 400 ∧ (∀ i < cs.length, A i = ((keysF (exF cs p.1 p.2 j (grow n cs a))).take (if i < j then a + 1 else a)).map fun g => ixF (exF cs p.1 p.2 j (grow n cs a)) (comp g (cs.getD i [])))) ⟨kvs, es, rs, A, v8, v9, v10, v11, rfl, N, hee, a2, fun i hi => by rw [if_neg (Nat.not_lt_zero i)]; exact a3 i hi⟩ (fun j σ H' p => by obtain ⟨_, _, _, _, _, _, _, _, _, N, _⟩ := p; exact SqL.of (N.s _ _ hG.lst)) ?_ ?_
      · rintro j x σ G Tt hx ⟨kvs, es, rs, A, v8, v9, v10, v11, rfl, N, hee, a2, a3⟩ hT
        obtain ⟨b, hb, rfl⟩ := ref_at hx
        obtain ⟨c, hc, hb2⟩ := paired_at hG.tups hb
        have jl : j < cs.length := (List.getElem?_eq_some_iff.mp hc).1
        have ec : cs.getD j [] = c := by rw [List.getD_eq_getElem?_getD, hc]; rfl
        have hcc := hG.chg c (List.mem_of_getElem? hc)
        have sT := Same.new (o := .tup [V.int (j : Int), V.ref b]) hT
        refine ⟨Tt, _, rfl, SqT.of upd_same, rfl, _, _, rfl, _, _, rfl, rfl, ?_⟩
        have N1 := N.same sT
        have e1 := sT _ _ hee
        generalize upd G Tt (.tup [V.int (j : Int), V.ref b]) = G1 at N1 e1
        clear N hee sT hT
        dsimp only [gName, gNil]
        refine ⟨_, rfl, e, rfl, ⟨_, SqT.of e1⟩, fun D hD => lc_tup (xs := vi p.1) (fun i H' => Same G1 H' ∧ H' D = some (.lst (vi (comp (p.1.take i) c)))) ⟨Same.mk1 hD, upd_same⟩ (fun i H' _ p => SqT.of (p.1 _ _ e1)) ?_ ?_⟩
        · rintro i x H' hx ⟨p1, p2⟩
          obtain ⟨m, hm, rfl⟩ := vi_at hx
          have lt : m < c.length := by rw [hcc.len]; exact hcp.lt m (List.mem_of_getElem? hm)
          have il := (List.getElem?_eq_some_iff.mp hm).1
          rw [hcp.len] at il
          refine ⟨rfl, _, rfl, _, rfl, b, _, _, _, rfl, rfl, SqT.of (p1 _ _ (N1.s _ _ hb2)), atI_nat (vi_get (at_getD lt)), _, p2, len_lt (by simp only [vi, comp, List.length_map, List.length_take]; omega), Same.upd p1 hD, ?_⟩
          rw [upd_same, List.take_succ, hm]
          show some (HO.lst (vi (comp (p.1.take i) c) ++ [V.int ((c.getD m 0 : Nat) : Int)])) = some (HO.lst (vi (comp (p.1.take i ++ [m]) c)))
          simp only [vi, comp, List.map_append, List.map_cons, List.map_nil]
        rintro G2 ⟨p1, p2⟩
        have p2 : G2 D = some (.lst (vi (comp p.1 c))) := by
          have z := p2
          rw [show (vi p.1).length = p.1.length from List.length_map .., List.take_length] at z
          exact z
        refine ⟨D, _, rfl, .inl ⟨SqL.of p2, fun t ht => ?_⟩⟩
        have sD := p1.trans (Same.new (o := .tup (vi (comp p.1 c))) ht)
        have N2 := N1.same sD
        have e2 := sD _ _ e1
        have e3 : upd G2 t (.tup (vi (comp p.1 c))) t = some (.tup (vi (comp p.1 c))) := upd_same
        generalize upd G2 t (.tup (vi (comp p.1 c))) = G3 at N2 e2 e3
        clear sD p1 p2 N1 e1 ht
        dsimp only [gName]
        have hpre : grow n cs a <+: exF cs p.1 p.2 j (grow n cs a) := exF_pre j
        have hGd : Gd n cs (exF cs p.1 p.2 j (grow n cs a)) := by
          have := (grow_gd (n := n) (cs := cs) a).ex hv j (Nat.le_of_lt jl)
          rwa [← hpa] at this
        have hkj : (keysF (exF cs p.1 p.2 j (grow n cs a)))[a]? = some p.1 := by
          have := pre_at hpre hp
          unfold keysF
          rw [List.getElem?_map, this]
          rfl
        have hrj : ((exF cs p.1 p.2 j (grow n cs a)).map (·.2))[a]? = some p.2 := by
          rw [List.getElem?_map, pre_at hpre hp]
          rfl
        have hin : ∀ i < cs.length, ∀ g ∈ (keysF (exF cs p.1 p.2 j (grow n cs a))).take (if i < j then a + 1 else a), comp g (cs.getD i []) ∈ keysF (exF cs p.1 p.2 j (grow n cs a)) := by
          intro i hi g hg
          have low : ∀ g ∈ (keysF (exF cs p.1 p.2 j (grow n cs a))).take a, comp g (cs.getD i []) ∈ keysF (exF cs p.1 p.2 j (grow n cs a)) := fun g hg => by
            obtain ⟨m, hm⟩ := List.mem_iff_getElem?.mp hg
            rw [List.getElem?_take] at hm
            split at hm
            · rename_i ma
              have : (grow n cs a)[m]? = some (grow n cs a)[m] := List.getElem?_eq_getElem (by have := (List.getElem?_eq_some_iff.mp hp).1; omega)
              generalize (grow n cs a)[m] = y at this
              have e := pre_at hpre this
              unfold keysF at hm
              rw [List.getElem?_map, e] at hm
              cases hm
              exact keys_pre hpre (grow_closed this ma hi)
            · cases hm
          split at hg
          · rename_i ij
            rw [List.take_succ, hkj] at hg
            rcases List.mem_append.mp hg with y | y
            · exact low g y
            · rw [show g = p.1 from by simpa using y]
              exact exF_has ij
          · exact low g hg
        have le3 : es.length = (exF cs p.1 p.2 j (grow n cs a)).length := by rw [paired_len N2.tf, keysF_len]
        have lk3 : kvs.length = (exF cs p.1 p.2 j (grow n cs a)).length := N2.kf.len
        have lr3 : rs.length = (exF cs p.1 p.2 j (grow n cs a)).length := by rw [paired_len N2.tr, List.length_map]
        have hjs : ∃ bj, hs[j]? = some bj := ⟨_, List.getElem?_eq_getElem (by rw [N2.hl]; exact jl)⟩
        obtain ⟨bj, hbj⟩ := hjs
        have hAl : (A j).length ≤ 400 := by
          rw [a3 j jl, List.length_map, List.length_take, keysF_len]
          omega
        have hfin : ∀ (v10 v11 : Option V) (kvs' : List (List L2.Key × V)) (es' rs' : List Addr) (H' : Hp), Nm H cs dn fd rl ah hs rs' es' (exF cs p.1 p.2 (j + 1) (grow n cs a)) kvs' A H' → H' e = some (.tup (vi p.1)) → (exF cs p.1 p.2 (j + 1) (grow n cs a)).length ≤ 400 →
            ∃ (kvs : List (List L2.Key × V)) (es rs : List Addr) (A' : Nat → List Nat) (w8 w9 w10 w11 : Option V), [some (.int (n : Int)), some (.ref l), some (.ref dn), some (.ref fd), some (.ref rl), some (.ref ah), some (.int (a : Int)), some (.ref e), some (V.int (j : Int)), some (V.ref b), v10, v11, none, none] = [some (.int (n : Int)), some (.ref l), some (.ref dn), some (.ref fd), some (.ref rl), some (.ref ah), some (.int (a : Int)), some (.ref e), w8, w9, w10, w11, none, none] ∧ Nm H cs dn fd rl ah hs rs es (exF cs p.1 p.2 (j + 1) (grow n cs a)) kvs A' (upd H' bj (.lst (vi (A j ++ [ixF (exF cs p.1 p.2 (j + 1) (grow n cs a)) (comp p.1 (cs.getD j []))])))) ∧ (upd H' bj (.lst (vi (A j ++ [ixF (exF cs p.1 p.2 (j + 1) (grow n cs a)) (comp p.1 (cs.getD j []))])))) e = some (.tup (vi p.1)) ∧ (exF cs p.1 p.2 (j + 1) (grow n cs a)).length ≤ 400 ∧ (∀ i < cs.length, A' i = ((keysF (exF cs p.1 p.2 (j + 1) (grow n cs a))).take (if i < j + 1 then a + 1 else a)).map fun g => ixF (exF cs p.1 p.2 (j + 1) (grow n cs a)) (comp g (cs.getD i []))) := fun v10 v11 kvs' es' rs' H' N' he' hl' => by
          refine ⟨kvs', es', rs', _, _, _, _, _, rfl, N'.app hbj _, ?_, hl', num_step (exF_mono (j + 1) (Nat.le_succ j)) hin hkj rfl a3⟩
          rw [upd_ne (fun y => by have := N'.hh j bj hbj; rw [← y, he'] at this; cases this)]
          exact he'
        -- from the test on
        refine ⟨_, rfl, .inr (.inr (.inl ⟨rfl, .inr ⟨_, N2.hd⟩⟩)), _, rfl, _, rfl, fd, _, rfl, .inl (SqL.of N2.hf), dn, kvs, kc (comp p.1 c), t, _, rfl, rfl, N2.hd, by rw [← kc_vi]; exact e3, len_lt (by omega), fun v hvv => ?_, fun hvn => ?_⟩
        · have hm : comp p.1 c ∈ keysF (exF cs p.1 p.2 j (grow n cs a)) := by
            refine Classical.byContradiction fun y => ?_
            rw [N2.kf.none.mpr y] at hvv
            cases hvv
          rw [N2.kf.val hGd.nd N2.kn hm] at hvv
          cases hvv
          have lt := ixF_lt hm
          have ee : exF cs p.1 p.2 (j + 1) (grow n cs a) = exF cs p.1 p.2 j (grow n cs a) := by rw [exF_succ, addF_in (by rw [ec]; exact hm)]
          dsimp only [gName]
          refine ⟨_, rfl, _, rfl, fd, _, rfl, .inl (SqL.of N2.hf), rfl, _, rfl, iteN (by rw [List.length_map]; simp; omega) ?_⟩
          refine ⟨_, rfl, _, rfl, ah, _, _, V.ref bj, rfl, rfl, SqL.of N2.ha, atI_nat (by rw [List.getElem?_map, hbj]; rfl), .inl ⟨rfl, _, SqL.of (N2.hh j bj hbj)⟩, _, rfl, bj, _, _, rfl, rfl, N2.hh j bj hbj, len_lt (by rw [show (vi (A j)).length = (A j).length from List.length_map ..]; omega), ?_⟩
          have := hfin (some (.ref t)) (some (.int ((ixF (exF cs p.1 p.2 j (grow n cs a)) (comp p.1 c) : Nat) : Int))) kvs es rs G3 (by rw [ee]; exact N2) e2 (by rw [ee]; exact a2)
          rw [ee, ec, show vi (A j ++ [ixF (exF cs p.1 p.2 j (grow n cs a)) (comp p.1 c)]) = vi (A j) ++ [V.int ((ixF (exF cs p.1 p.2 j (grow n cs a)) (comp p.1 c) : Nat) : Int)] from by simp [vi]] at this
          rw [ee]
          exact this
        · have hm : comp p.1 c ∉ keysF (exF cs p.1 p.2 j (grow n cs a)) := N2.kf.none.mp hvn
          have el : (es.map V.ref).length = kvs.length := by rw [List.length_map]; omega
          rw [putK_new _ hvn, el]
          dsimp only [gName]
          have dF : dn ≠ fd := fun y => by have := N2.hd; rw [y, N2.hf] at this; cases this
          have dR : dn ≠ rl := fun y => by have := N2.hd; rw [y, N2.hr] at this; cases this
          have dA : dn ≠ ah := fun y => by have := N2.hd; rw [y, N2.ha] at this; cases this
          have hGa := hGd.add hv jl
          rw [← hpa, ec, addF_new hm] at hGa
          have lA : (exF cs p.1 p.2 j (grow n cs a) ++ [(comp p.1 c, p.2 ++ [j])]).length = kvs.length + 1 := by rw [List.length_append, lk3]; rfl
          have sHd : Same H (upd G3 dn (.dT (kvs ++ [(kc (comp p.1 c), V.int (kvs.length : Int))]))) := Same.upd N2.s N2.fr.1
          have ee : exF cs p.1 p.2 (j + 1) (grow n cs a) = exF cs p.1 p.2 j (grow n cs a) ++ [(comp p.1 c, p.2 ++ [j])] := by rw [exF_succ, ec, addF_new hm]
          refine sq_cut (fun σ H' => ∃ (u : Addr), σ = [some (.int (n : Int)), some (.ref l), some (.ref dn), some (.ref fd), some (.ref rl), some (.ref ah), some (.int (a : Int)), some (.ref e), some (V.int (j : Int)), some (V.ref b), some (.ref t), some (.int (kvs.length : Int)), none, none] ∧ Nm H cs dn fd rl ah hs (rs ++ [u]) (es ++ [t]) (exF cs p.1 p.2 (j + 1) (grow n cs a)) (kvs ++ [(kc (comp p.1 c), V.int (kvs.length : Int))]) A H' ∧ H' e = some (.tup (vi p.1)) ∧ kvs.length < 400) (fun Z3 hZ3 => ?_) ?_
          · refine ⟨_, rfl, _, rfl, fd, _, rfl, .inl (SqL.of (by rw [upd_ne dF.symm]; exact N2.hf)), rfl, _, rfl, iteP (by rw [el]; simp) ?_⟩
            refine sq_cut (fun σ H' => σ = [some (.int (n : Int)), some (.ref l), some (.ref dn), some (.ref fd), some (.ref rl), some (.ref ah), some (.int (a : Int)), some (.ref e), some (V.int (j : Int)), some (V.ref b), some (.ref t), some (.int (kvs.length : Int)), none, none] ∧ H' = upd G3 dn (.dT (kvs ++ [(kc (comp p.1 c), V.int (kvs.length : Int))])) ∧ kvs.length < 400) (fun Z4 hZ4 => ?_) ?_
            · refine ⟨_, rfl, rfl, _, rfl, ?_⟩
              by_cases z4 : kvs.length = 400
              · refine iteP (by rw [z4]; rfl) ⟨_, rfl, fun d hd => ?_⟩
                refine q0 (fun y => ?_) _ d sHd hd
                have := y _ hGa.nd fun g hg => by
                  obtain ⟨w, hw, rfl⟩ := List.mem_map.mp hg
                  obtain ⟨w1, w2⟩ := hGa.rw_ w hw
                  exact ⟨w.2, w1, w2⟩
                rw [keysF_len, lA] at this
                omega
              · exact iteN (by simp; omega) (hZ4 _ _ ⟨rfl, rfl, by omega⟩)
            rintro σ H7 ⟨rfl, rfl, l4⟩
            obtain ⟨r0, hr0⟩ : ∃ r0, rs[a]? = some r0 := ⟨_, List.getElem?_eq_getElem (by rw [lr3]; have := (List.getElem?_eq_some_iff.mp (pre_at hpre hp)).1; omega)⟩
            have hr1 : G3 r0 = some (.tup (vi p.2)) := by
              obtain ⟨c', h1, h2⟩ := paired_at N2.tr hr0
              rw [hrj] at h1
              cases h1
              exact h2
            have lp : p.2.length ≤ a := (grow_od (n := n) (cs := cs) a).len a p hp
            have al : a ≤ 400 := by have := (List.getElem?_eq_some_iff.mp (pre_at hpre hp)).1; omega
            have rD : r0 ≠ dn := fun y => by rw [y, N2.hd] at hr1; cases hr1
            have rF : r0 ≠ fd := fun y => by rw [y, N2.hf] at hr1; cases hr1
            have eD : e ≠ dn := fun y => by rw [y, N2.hd] at e2; cases e2
            have eF : e ≠ fd := fun y => by rw [y, N2.hf] at e2; cases e2
            have eR : e ≠ rl := fun y => by rw [y, N2.hr] at e2; cases e2
            have hfd' : (upd G3 dn (.dT (kvs ++ [(kc (comp p.1 c), V.int (kvs.length : Int))]))) fd = some (.lst (es.map V.ref)) := by rw [upd_ne dF.symm]; exact N2.hf
            refine ⟨_, rfl, .inl ⟨rfl, _, SqL.of hfd'⟩, _, rfl, fd, _, _, rfl, rfl, hfd', len_lt (by rw [el]; omega), ?_⟩
            have em : es.map V.ref ++ [V.ref t] = (es ++ [t]).map V.ref := by rw [List.map_append]; rfl
            rw [em]
            have hrl' : (upd (upd G3 dn (.dT (kvs ++ [(kc (comp p.1 c), V.int (kvs.length : Int))]))) fd (.lst ((es ++ [t]).map V.ref))) rl = some (.lst (rs.map V.ref)) := by rw [upd_ne N2.ne.1.symm, upd_ne dR.symm]; exact N2.hr
            have hr2 : (upd (upd G3 dn (.dT (kvs ++ [(kc (comp p.1 c), V.int (kvs.length : Int))]))) fd (.lst ((es ++ [t]).map V.ref))) r0 = some (.tup (vi p.2)) := by rw [upd_ne rF, upd_ne rD]; exact hr1
            have mm : ∀ x : Addr, rs.map V.ref ++ [V.ref x] = (rs ++ [x]).map V.ref := fun x => by rw [List.map_append]; rfl
            have ev : vi p.2 ++ [V.int (j : Int)] = vi (p.2 ++ [j]) := by simp [vi]
            refine ⟨_, rfl, .inl ⟨rfl, _, SqL.of hrl'⟩, _, rfl, _, rfl, rl, _, _, V.ref r0, rfl, rfl, SqL.of hrl', atI_nat (by rw [List.getElem?_map, hr0]; rfl), _, rfl, (by show 1 ≤ sizeLine; decide), fun z hz => ?_⟩
            have sz := Same.new (o := .tup [V.int (j : Int)]) hz
            have lv : (vi p.2).length = p.2.length := List.length_map ..
            refine ⟨r0, z, _, _, rfl, rfl, SqT.of (sz _ _ hr2), SqT.of upd_same, Nat.le_of_lt (len_lt (by rw [lv]; show p.2.length + 1 ≤ 1000; omega)), fun x0 => ?_, fun _ y => (by cases y), fun x0 _ u hu => ?_⟩
            · have N3 := N2.add (g := comp p.1 c) (r := p.2 ++ [j]) e3 hz
              have e0 : vi (p.2 ++ [j]) = [V.int (j : Int)] := by rw [← ev, x0]; rfl
              rw [e0] at N3
              refine ⟨rl, _, _, rfl, rfl, sz _ _ hrl', len_lt (by rw [List.length_map]; omega), hZ3 _ _ ⟨z, rfl, ?_, ?_, l4⟩⟩
              · rw [ee, mm]; exact N3
              · have zr := sz e _ (show (upd (upd G3 dn (.dT (kvs ++ [(kc (comp p.1 c), V.int (kvs.length : Int))]))) fd (.lst ((es ++ [t]).map V.ref))) e = some (.tup (vi p.1)) by rw [upd_ne eF, upd_ne eD]; exact e2)
                rw [upd_ne eR]
                exact zr
            · have zf : z ≠ fd := fun y => by rw [y, upd_same] at hz; cases hz
              have zd : z ≠ dn := fun y => by rw [y, upd_ne dF, upd_same] at hz; cases hz
              have hz3 : G3 z = none := by rwa [upd_ne zf, upd_ne zd] at hz
              have cm : upd (upd (upd G3 dn (.dT (kvs ++ [(kc (comp p.1 c), V.int (kvs.length : Int))]))) fd (.lst ((es ++ [t]).map V.ref))) z (.tup [V.int (j : Int)]) = upd (upd (upd G3 z (.tup [V.int (j : Int)])) dn (.dT (kvs ++ [(kc (comp p.1 c), V.int (kvs.length : Int))]))) fd (.lst ((es ++ [t]).map V.ref)) := by
                rw [upd_cm zf.symm, upd_cm zd.symm]
              have zr := sz e _ (show (upd (upd G3 dn (.dT (kvs ++ [(kc (comp p.1 c), V.int (kvs.length : Int))]))) fd (.lst ((es ++ [t]).map V.ref))) e = some (.tup (vi p.1)) by rw [upd_ne eF, upd_ne eD]; exact e2)
              have hrl3 := sz _ _ hrl'
              have sz3 := Same.new (o := .tup [V.int (j : Int)]) hz3
              rw [cm] at hu hrl3 zr
              rw [cm]
              have N3 := (N2.same sz3).add (g := comp p.1 c) (r := p.2 ++ [j]) (sz3 _ _ e3) hu
              have su := Same.new (o := .tup (vi p.2 ++ [V.int (j : Int)])) hu
              refine ⟨rl, _, _, rfl, rfl, su _ _ hrl3, len_lt (by rw [List.length_map]; omega), hZ3 _ _ ⟨u, rfl, ?_, ?_, l4⟩⟩
              · rw [ee, mm, show ([V.int (j : Int)] : List V) = vi [j] from rfl, show vi p.2 ++ vi [j] = vi (p.2 ++ [j]) from ev]; exact N3
              · rw [upd_ne eR]
                exact su _ _ zr
          · rintro σ H7 ⟨u, rfl, N3, e7, l4⟩
            have hfN := hfin (some (.ref t)) (some (.int (kvs.length : Int))) _ _ _ H7 N3 e7 (by rw [ee, lA]; omega)
            have ix : ixF (exF cs p.1 p.2 (j + 1) (grow n cs a)) (comp p.1 (cs.getD j [])) = kvs.length := by rw [ee, ec, ixF_new hm, ← lk3]
            rw [ix, show vi (A j ++ [kvs.length]) = vi (A j) ++ [V.int (kvs.length : Int)] from by simp [vi]] at hfN
            exact ⟨_, rfl, _, rfl, ah, _, _, V.ref bj, rfl, rfl, SqL.of N3.ha, atI_nat (by rw [List.getElem?_map, hbj]; rfl), .inl ⟨rfl, _, SqL.of (N3.hh j bj hbj)⟩, _, rfl, bj, _, _, rfl, rfl, N3.hh j bj hbj, len_lt (by rw [show (vi (A j)).length = (A j).length from List.length_map ..]; omega), hfN⟩
      · rintro σ G ⟨kvs, es, rs, A, v8, v9, v10, v11, rfl, N, hee, a2, a3⟩
        rw [List.length_map, bl, ← hgr] at N a2 a3
        exact hZ2 _ _ ⟨kvs, es, rs, A, v8, v9, v10, v11, rfl, N, a2, fun i hi => by have := a3 i hi; rwa [if_pos hi] at this⟩
    rintro σ G ⟨kvs, es, rs, A, v8, v9, v10, v11, rfl, N, a2, a3⟩
    have la := (grow_pre (n := n) (cs := cs) (a + 1) (Nat.le_succ a)).length_le
    refine ⟨_, rfl, _, _, rfl, rfl, 401 - (a + 1), by omega, ?_⟩
    rw [hI]
    exact ⟨a + 1, kvs, es, rs, A, _, _, _, _, _, rfl, N, by omega, a2, a3, rfl⟩
  · rintro σ G ⟨a, kvs, es, rs, A, v7, v8, v9, v10, v11, rfl, N, a1, a2, a3⟩
    have sz : Sz n cs 400 := (grow_sz a1).mono a2
    refine ⟨_, rfl, _, rfl, _, rfl, (by show 3 ≤ sizeLine; decide), fun p hp => ?_⟩
    have sp := Same.new (o := .tup [V.ref dn, V.ref ah, V.ref rl]) hp
    have N' := N.same sp
    refine q sz p dn ah rl hs rs a kvs _ N'.s upd_same a1 N'.hd N'.kf N'.hr N'.tr N'.ha N'.hl fun j b hb => ?_
    have := N'.hh j b hb
    rw [a3 j (by rw [← N'.hl]; exact (List.getElem?_eq_some_iff.mp hb).1), List.take_of_length_le (by rw [keysF_len]; exact a1)] at this
    exact this
end
end KV

/-! the program: command_changes -/
namespace KV
open PySem PySem.Spec PyProof.Rows L2 KC
section
variable {P : Program} {w : World} {K : PySem.W.Frag} {mg : Str → Option Value} {base : Heap}
def spCc (Cm : Addr) (K : PySem.W.Frag) : Sp := fun vs H Q _ => ∃ (x : Addr) (n : Nat) (cs : List (List Nat)), vs = [.ref x] ∧ Mc K Cm H x n cs ∧ n ≤ 16 ∧ cs.length ≤ 5 ∧ ∀ (l : Addr) (bs : List Addr) (H' : Hp), Same H H' → H l = none → H' l = some (.lst (bs.map V.ref)) → TpP H' bs cs → Q (.ref l) H'
theorem acc_tpp {H' : Hp} : ∀ {cs : List (List Nat)} {ts : List Addr}, ts.length = cs.length → (∀ (s : Nat) (b : Addr), ts[s]? = some b → H' b = some (.tup (vi (cs.getD s [])))) → TpP H' ts cs
  | [], [], _, _ => .nil
  | [], _ :: _, h, _ => by simp at h
  | _ :: _, [], h, _ => by simp at h
  | c :: cs, t :: ts, h, g => .cons (g 0 t rfl) (acc_tpp (by simpa using h) fun s b e => g (s + 1) b e)
theorem sc29 : FnScope ["machine", "command", "entry"] ["machine"] (defScope (top 30)) := ⟨rfl, rfl, rfl, by decide +kernel, rfl, by decide +kernel, by decide +kernel⟩
theorem ok_cc {f : Addr} {fd : FuncData} {Cm : Addr} (B : Bl mg) (F : Fun K "command_changes" "command_changes" (top 30) f fd) : FnOk P w K mg base CX0 1 f fd ["machine"] (spCc Cm K) := by
  refine F.ok sc29 (fun vs H Q E h => ?_) (fun cdv A outer s H vs Q E hr h => ⟨_,
    (pss_one (ps_ret (pe_lc (own := [("command", 1)]) (g := gName 1) (tt := tYes) rfl sc29.nd (pi_range1 (by rfl) B.range (pa_cons (pe_fld (pv 0) (by rfl)) pa_nil)) (blkOk_by (N := ["machine", "command", "entry"]) (sc := defScope (top 30)) (by decide +kernel))
        (fun _ _ _ _ _ => (pg_name (i := 1) sc29.nd rfl (Or.inr rfl))) (fun _ _ _ _ _ => pts_nil) (fun _ _ _ _ _ => (pe_callTy (r := rTupOf K) call_tupK (by rfl) B.tuple boot_tup (pa_cons (pe_lcN ["machine", "command", "entry"] (wi := iTup K (tFld K (tVar 0) "steps")) (own := [("entry", 2)]) (g := gName 2) (tt := tYes) rfl sc29.nd (by exact (pi_tup (pe_fld (pv 0) (by rfl)))) rfl (by decide +kernel)
        (fun _ _ _ _ _ => (pg_name (i := 2) sc29.nd rfl (Or.inl rfl))) (fun _ _ _ _ _ => pts_nil) (fun _ _ _ _ _ => (pe_ix (r := rIxT K) ix_tup (pv 2) (pv 1) (fun _ _ => rfl)))) pa_nil)))))), ?_⟩)
  · obtain ⟨x, n, cs, rfl, _⟩ := h
    rfl
  obtain ⟨x, n, cs, rfl, M, n16, c5, q⟩ := h
  obtain ⟨dx, t, ts, h1, h2, h3, h4⟩ := M.ex
  refine ⟨_, rfl, x, Cm, dx, _, _, rfl, h1, M.cl, M.na1, rfl, (cs.length : Int), rfl, by omega, by omega, fun D hD => lc_range (n := cs.length) (fun j H' => Acc H D (fun j => cs.getD j []) j H') (Acc.init hD) ?_ ?_⟩
  · rintro j G hj Ac
    refine ⟨rfl, _, rfl, x, Cm, dx, _, _, rfl, Ac.1 _ _ h1, M.cl, M.na3, rfl, t, rfl, ⟨_, SqT.of (Ac.1 _ _ h2)⟩, fun D2 hD2 => lc_tup (xs := ts.map V.ref) (fun i H' => Same G H' ∧ H' D2 = some (.lst (vi ((cs.getD j []).take i)))) ⟨Same.mk1 hD2, upd_same⟩ (fun i H' _ p => SqT.of (p.1 _ _ (Ac.1 _ _ h2))) ?_ ?_⟩
    · rintro i y H' hy ⟨p1, p2⟩
      obtain ⟨b, hb, rfl⟩ := ref_at hy
      have hb2 := h4 i b hb
      have il := (List.getElem?_eq_some_iff.mp hb).1
      have ce : cs[j]? = some (cs.getD j []) := by rw [List.getElem?_eq_getElem hj, cs_at hj]
      have cl : (cs.getD j []).length = n := by rw [cs_at hj]; exact (M.chg _ (List.getElem_mem hj)).len
      have hrow : (row cs i)[j]? = some ((cs.getD j []).getD i 0) := by
        unfold row
        rw [List.getElem?_map, ce]
        rfl
      refine ⟨rfl, _, rfl, _, rfl, b, _, _, _, rfl, rfl, SqT.of (p1 _ _ (Ac.1 _ _ hb2)), by rw [Int.zero_add]; exact atI_nat (vi_get hrow), _, p2, len_lt (by simp only [vi, List.length_map, List.length_take]; omega), Same.upd p1 hD2, ?_⟩
      rw [upd_same, List.take_succ, at_getD (show i < (cs.getD j []).length by omega)]
      simp [vi]
    · rintro H' ⟨p1, p2⟩
      have cl : (cs.getD j []).length = n := by rw [cs_at hj]; exact (M.chg _ (List.getElem_mem hj)).len
      rw [List.length_map, h3, List.take_of_length_le (by omega)] at p2
      exact ⟨D2, _, rfl, .inl ⟨SqL.of p2, fun t' ht => Ac.step hD (p1.trans (Same.new ht)) upd_same (by omega)⟩⟩
  · rintro G Ac
    obtain ⟨s1, ts', l1, l2, l3⟩ := Ac
    exact q D ts' G s1 hD l2 (acc_tpp l1 l3)
end
end KV

/-! the program: order_of -/
namespace KV
open PySem PySem.Spec PyProof.Rows L2 KC
theorem un_take {as : List (Addr × List Nat)} {i : Nat} {q : Addr × List Nat} (h : as[i]? = some q) {x : Nat} : Un (as.take (i + 1)) x ↔ Un (as.take i) x ∨ x ∈ q.2 := by
  unfold Un
  rw [List.take_succ, h]
  constructor
  · rintro ⟨r, hr, hx⟩
    rcases List.mem_append.mp hr with hr | hr
    · exact .inl ⟨r, hr, hx⟩
    · have : r = q := by simpa using hr
      rw [this] at hx
      exact .inr hx
  · rintro (⟨r, hr, hx⟩ | hx)
    · exact ⟨r, List.mem_append_left _ hr, hx⟩
    · exact ⟨q, by simp, hx⟩
theorem refs_at {as : List (Addr × List Nat)} {i : Nat} {x : V} (h : (as.map fun q => V.ref q.1)[i]? = some x) : ∃ q, as[i]? = some q ∧ x = .ref q.1 := by
  rw [List.getElem?_map] at h
  cases e : as[i]? with
  | none => rw [e] at h; cases h
  | some q => rw [e] at h; exact ⟨q, rfl, (Option.some.inj h).symm⟩
def rLcm : List V → Hp → VK → Prop := fun vs H Q => ∃ a b : Int, vs = [.int a, .int b] ∧ a.natAbs < 2 ^ 64 ∧ b.natAbs < 2 ^ 64 ∧ Q (.int ((Nat.lcm a.natAbs b.natAbs : Nat) : Int)) H
theorem cr_lcm {X : Cx} : CallR X (.builtin "math.lcm") rLcm := by
  intro pins s σ H vs us Q I r h
  obtain ⟨a, b, rfl, ha, hb, q⟩ := h
  obtain ⟨t, u, rfl⟩ := Vals.int2 r
  exact PySem.W.mc_lcm ha hb fun _ => ⟨.int _, H, I.tok _, ⟨_, rfl⟩, q⟩
theorem fac_small : ∀ {n : Nat}, n ≤ 16 → fac n < 2 ^ 60 := by
  have : ∀ n, n < 17 → fac n < 2 ^ 60 := by decide
  exact fun {n} h => this n (by omega)
def OrdOf (n : Nat) (c : List Nat) (L : Nat) : Prop := 0 < L ∧ ∀ m, (∀ x, x < n → it c m x = x) ↔ L ∣ m

section
variable {P : Program} {w : World} {K : PySem.W.Frag} {mg : Str → Option Value} {base : Heap} {C fI : Addr}
def spOrd : Sp := fun vs H Q _ => ∃ (a : Addr) (n : Nat) (c : List Nat), vs = [.ref a] ∧ H a = some (.tup (vi c)) ∧ Chg n c ∧ n ≤ 16 ∧ ∀ H' L, Same H H' → OrdOf n c L → Q (.int (L : Nat)) H'
end
end KV

/-! the program: common_order -/
namespace KV
open PySem PySem.Spec PyProof.Rows L2 KC
theorem tk_at {α : Type} {l : List α} {i : Nat} {x : α} (h : l[i]? = some x) : l.take (i + 1) = l.take i ++ [x] := by
  rw [List.take_add_one, h]
  rfl
/-- L tells which counts leave all of them as they were -/
def OrdAll (n : Nat) (cs : List (List Nat)) (L : Nat) : Prop := 0 < L ∧ ∀ m, (∀ c ∈ cs, ∀ x, x < n → it c m x = x) ↔ L ∣ m
theorem ord_fac {n : Nat} {c : List Nat} {L : Nat} (hc : Chg n c) (h : OrdOf n c L) : L ∣ fac n := (h.2 _).mp fun _ hx => it_fac hc hx
section
variable {P : Program} {w : World} {K : PySem.W.Frag} {mg : Str → Option Value} {base : Heap} {C fI : Addr}
def spCoO : Sp := fun vs H Q _ => ∃ (a : Addr) (n : Nat) (ts : List Addr) (cs : List (List Nat)), vs = [.ref a] ∧ H a = some (.tup (ts.map V.ref)) ∧ TpP H ts cs ∧ (∀ c ∈ cs, Chg n c) ∧ n ≤ 16 ∧ ∀ H' L, Same H H' → OrdAll n cs L → L ∣ fac n → Q (.int (L : Nat)) H'
end
end KV

/-! a dict comprehension whose keys are tuples -/
namespace KV
open PySem PySem.Spec PyProof.Rows L2
section
variable {X : Cx}
theorem d_dictSetT {pins : List (Addr × Obj)} {σ : L2.St} {H : Hp} {s : Shared} {E : Value → Shared → Prop} {D b : Addr} {kvs : List (List L2.Key × V)} {k : List L2.Key} {v : V} {u r : Value} {Q : Unit → Shared → Prop} (hu : X.A.units + 1 < cLine) (I : Inv X pins σ H s) (hD : H D = some (.dT kvs)) (hb : H b = some (.tup (k.map L2.kV))) (hz : kvs.length < sizeLine)
    (ry : RelV (.ref b) u) (rv : RelV v r) (h : ∀ s', Inv X pins σ (L2.upd H D (.dT (L2.putK kvs k v))) s' → Q () s') : wpAny (model X.prog X.w) X.A (dictSet D u r) Q E s := by
  cases ry
  obtain ⟨z, hs, xs, rl, dd⟩ := dt_of I.hok hD
  have hl : (L2.putK kvs k v).length ≤ sizeLine := Nat.le_trans (L2.length_putK kvs k v) hz
  refine wpAny_dictSet_heap (knd := tupleKind (mixKind X.prog X.w)) (hsz := by rw [← Paired.length rl]; exact z) (show (tupleKind (mixKind X.prog X.w)).room X.A from (by show X.A.units < cLine; omega)) (key_of I.hok hb) dd fun h' dd' sb => h _ ?_
  obtain ⟨q, es', ep', hq, g2, g3, g4, _, g5⟩ := dd'
  refine d_write I (by rw [hD]; exact True.intro) sb ⟨q, hq⟩ ⟨hl, hs, _, (rl.put k hb rv).keeps fun c ys ec => ?_, q, es', ep', hq, g2, g3, g4, g5⟩
  rw [upd_ne (ne_of ec hD (fun z => nomatch z))]
  exact ec
/-- {k: v for target in iter if ..}, the keys tuples: D the new dict -/
def tDcT (wi : TI) (g : TG) (tt : TT) (tk tv : TE) (vs : List Nat) : TE := fun σ H Q => wi σ H fun J H1 => ∀ D, H1 D = none → ∃ W : Nat → Nat → Hp → Prop, (∃ m, W 0 m (L2.upd H1 D (.dT []))) ∧ ∀ i m H, W i m H →
  (J.stop i H ∧ Q (.ref D) H) ∨ (J.go i H ∧ ∃ Nx : Hp → Prop, (∀ H', Nx H' → ∃ m', m' < m ∧ W (i + 1) m' H') ∧ ∀ x H', J.yld i H x H' → g x (wipe σ vs) H' fun σ2 H2 => wipe σ2 vs = wipe σ vs ∧ tt σ2 H2 fun b H3 =>
    if b = true then tk σ2 H3 fun y H4 => tv σ2 H4 fun z H5 => ∃ (kvs : List (List L2.Key × V)) (k : List L2.Key) (q : Addr), y = .ref q ∧ H5 q = some (.tup (k.map L2.kV)) ∧ H5 D = some (.dT kvs) ∧ kvs.length < sizeLine ∧ Nx (L2.upd H5 D (.dT (L2.putK kvs k z))) else Nx H3)
theorem dcT_core {pins : List (Addr × Obj)} {s : Shared} {σ : L2.St} {H : Hp} {Q : VK} {kx vx tg iter : Expr} {ifs : List Expr} {scope : Scope} {own : List (Str × Nat)} {pos pos' : Pos} {wi : TI} {g : TG} {tt : TT} {tk tv : TE} {use : Option (Value → Sem Unit)} {Qf : Value → Shared → Prop}
    (hu : X.A.units + 1 < cLine) (hc : X.calm = true) (hN : X.N.Nodup) (I : Inv X pins σ H s) (hi : PI X tg iter wi) (ok : BlkOk X.N X.env.scope scope own)
    (hg : ∀ (s : Shared) (H : Hp) (C : Addr) (cl : List (Str × Addr)) (fp : List Addr), PG (X.blk s H scope (compEnvC scope cl C X.env) fp) tg g) (ht : ∀ (s : Shared) (H : Hp) (C : Addr) (cl : List (Str × Addr)) (fp : List Addr), PTs (X.blk s H scope (compEnvC scope cl C X.env) fp) ifs tt)
    (hk : ∀ (s : Shared) (H : Hp) (C : Addr) (cl : List (Str × Addr)) (fp : List Addr), PE (X.blk s H scope (compEnvC scope cl C X.env) fp) kx tk) (he : ∀ (s : Shared) (H : Hp) (C : Addr) (cl : List (Str × Addr)) (fp : List Addr), PE (X.blk s H scope (compEnvC scope cl C X.env) fp) vx tv)
    (hs : ∀ x, foldedSetIterable iter X.env x = pure x) (h : tDcT wi g tt tk tv (own.map (·.2)) σ H Q)
    (hRR : ∀ D C s' m H', Inv X pins σ H' s' → Q (.ref D) H' → s'.heap.Ns C m → FpOk X pins H' C → compPost (model X.prog X.w) X.A X.xe use Qf (.ref D) C (.ok .next) s') :
    wpAny (model X.prog X.w) X.A (comprehension (.DictComp kx vx [⟨tg, iter, ifs, 0⟩] scope pos) scope X.env pos' newDict false (eval iter X.env) use) Qf X.xe s := by
  have hfree : ∀ y ∈ scope.names, y.2 = .free → ∃ c, X.env.cells.lookup y.1 = some c := fun y hy e => (ok.free y hy e).elim (fun k => I.ok.has _ (.inl k)) (fun k => I.ok.has _ (.inr k))
  refine wpAny_comprehension_free (use := use) rfl hs (closure_ok hfree) ok.kind (fun y hy e => by rw [ok.uniq y hy, e]) (thn (hi.run pins s σ H _ I h) fun xv s1 hx => thn hx fun itv s2 h2 => ?_)
  obtain ⟨it, fp, tn, J, H2, rfl, I2, T, st2, f2, q⟩ := h2
  refine wpAny_newObj_type (newEnv_comp ?_)
  generalize eD : s2.heap.objs.size = D
  obtain ⟨W, ⟨m0, w0⟩, turn⟩ := q D (I2.hok.fresh (Nat.le_of_eq eD))
  generalize e3 : ({ s2 with heap := s2.heap.push { cls := .type "dict", data := .dict #[] } } : Shared) = s3
  have h3 : s3.heap = s2.heap.push { cls := .type "dict", data := .dict #[] } := by rw [← e3]
  have I3 : Inv X pins σ (L2.upd H2 D (.dT [])) s3 := by
    rw [← e3]
    exact I2.laid (t' := s2.toks) (fun b o e => Heap.get?_push_of_some _ e) (Nat.le_of_eq eD) (by rw [← eD]; exact dt_empty s2.heap I2.big)
  have lt2 : ∀ b ∈ fp, b < s2.heap.objs.size := fun b hb => let ⟨_, e, _⟩ := T.obj _ _ st2 b hb; Heap.lt_size e
  have f3 : ∀ b ∈ fp, FpOk X pins (L2.upd H2 D (.dT [])) b ∧ b < s3.heap.objs.size := fun b hb =>
    ⟨⟨by rw [upd_ne (by rw [← eD]; exact Nat.ne_of_lt (lt2 b hb))]; exact (f2 b hb).1, (f2 b hb).2⟩, by rw [h3, Heap.size_push]; exact Nat.lt_succ_of_lt (lt2 b hb)⟩
  have st3 : tn 0 s3.heap := T.keep _ _ _ st2 fun b _ o e => by rw [h3]; exact Heap.get?_push_of_some _ e
  have I4 := block_start I3 ok hN f3
  have nfp : ∀ b ∈ fp, (L2.upd H2 D (.dT [])) b = none := fun b hb => (f3 b hb).1.1
  show codeAny _ _ (.compStart (.DictComp kx vx [⟨tg, iter, ifs, 0⟩] scope pos) 0 (.ref it) (.ref D) (compEnvC scope (cellsFrom (s3.heap.objs.size + 1) scope.names (cloFrom X.env.cells scope.names [])) s3.heap.objs.size X.env)) (compPost (model X.prog X.w) X.A X.xe use Qf (.ref D) s3.heap.objs.size) { s3 with heap := pushCells (s3.heap.push { cls := .type "dict", data := .dict #[] }) scope.names }
  generalize eH3 : L2.upd H2 D (.dT []) = H3 at I3 I4 w0 nfp f3
  have pg := hg s3 H3 s3.heap.objs.size (cellsFrom (s3.heap.objs.size + 1) scope.names (cloFrom X.env.cells scope.names [])) fp
  have pt := ht s3 H3 s3.heap.objs.size (cellsFrom (s3.heap.objs.size + 1) scope.names (cloFrom X.env.cells scope.names [])) fp
  have pk := hk s3 H3 s3.heap.objs.size (cellsFrom (s3.heap.objs.size + 1) scope.names (cloFrom X.env.cells scope.names [])) fp
  have pv := he s3 H3 s3.heap.objs.size (cellsFrom (s3.heap.objs.size + 1) scope.names (cloFrom X.env.cells scope.names [])) fp
  generalize ece : compEnvC scope (cellsFrom (s3.heap.objs.size + 1) scope.names (cloFrom X.env.cells scope.names [])) s3.heap.objs.size X.env = ce at I4 pg pt pk pv ⊢
  have cL : ce.locals = s3.heap.objs.size := by rw [← ece]; rfl
  generalize e4 : ({ s3 with heap := pushCells (s3.heap.push { cls := .type "dict", data := .dict #[] }) scope.names } : Shared) = s4 at I4 ⊢
  have st4 : tn 0 s4.heap := T.keep _ _ _ st3 fun b _ o e => by rw [← e4]; exact pushCells_keeps _ _ _ _ (Heap.get?_push_of_some _ e)
  have stat : ∀ {σ' : L2.St} {H' : Hp} {s' : Shared}, Inv (X.blk s3 H3 scope ce fp) [] σ' H' s' → (∀ b ∈ fp, H' b = none) → ∀ b ∈ fp, FpOk (X.blk s3 H3 scope ce fp) [] H' b := fun {σ' H' s'} I' hn b hb =>
    ⟨hn b hb, (I'.ok.exf b hb).1, I'.ok.exfs b hb, .inl hb, fun x c e => (I'.ok.exf b hb).2 x c e, fun p hp => absurd (show p ∈ ([] : List (Addr × Obj)) ++ [] from hp) (by simp)⟩
  suffices loop : codeAny (model X.prog X.w) X.A (.compLoop (.DictComp kx vx [⟨tg, iter, ifs, 0⟩] scope pos) 0 (.ref it) (.ref D) ce) (compPost (model X.prog X.w) X.A X.xe use Qf (.ref D) s3.heap.objs.size) s4 from codeAny_compStart_dict loop (T.self X.A 0 _ _ _ st4 loop)
  refine compLoop_anyD (fun n s' => ∃ i H', Inv (X.blk s3 H3 scope ce fp) [] (wipe σ (own.map (·.2))) H' s' ∧ tn i s'.heap ∧ (∀ b ∈ fp, H' b = none) ∧ W i n H') ?_ m0 ⟨0, H3, I4, st4, nfp, w0⟩
  rintro n s5 ⟨i, H5, I5, st5, n5, w5⟩
  rcases turn i n H5 w5 with ⟨stop, qq⟩ | ⟨go, Nx, hNx, step⟩
  · refine thnF (T.done (X.blk s3 H3 scope ce fp) rfl rfl rfl hc i [] s5 _ H5 (fun _ _ => False) I5 (stat I5 n5) st5 stop) fun r s6 ⟨hr, I6⟩ => ?_
    subst hr
    have I7 : Inv X pins σ H5 s6 := I3.call' (ch := fp) I6.os I6.base I6.hok I6.bare fun b hb => ⟨(f3 b hb).1.2.2.2.1, (f3 b hb).1.2.1, (f3 b hb).1.2.2.2.2.1, (f3 b hb).1.2.2.2.2.2⟩
    have nC : H5 ce.locals = none := I6.free
    obtain ⟨m, hn, _⟩ := I6.loc
    have hn : s6.heap.Ns ce.locals m := hn
    rw [cL] at hn nC
    exact hRR D s3.heap.objs.size s6 m H5 I7 qq hn (I3.fpOk (Nat.le_refl _) nC)
  · refine thnF (T.item (X.blk s3 H3 scope ce fp) rfl rfl rfl hc i [] s5 _ H5 (fun _ _ => False) I5 (stat I5 n5) st5 go) fun r s6 ⟨u, hr, h6⟩ => ?_
    subst hr
    refine thnF h6 fun _ s7 ⟨x, H7, I7, r7, y7, st7, n7⟩ => ?_
    refine thnF (pg.run _ s7 _ H7 x u _ (I7.pinned (stat I7 n7) (T.obj _ _ st7)) r7 (step x H7 y7)) fun _ s8 ⟨σ8, H8, I8, hw8, q8⟩ => thnF (pt.run _ s8 σ8 H8 _ I8 q8) fun b s9 ⟨H9, I9, q9⟩ => ?_
    have hl : (wipe σ (own.map (·.2))).length = σ8.length := by rw [← hw8, wipe_length]
    have fin : ∀ {s' : Shared} {H' : Hp}, Inv (X.blk s3 H3 scope ce fp) ([] ++ pinsAt fp s7.heap) σ8 H' s' → Nx H' → ∃ m, m < n ∧ ∃ i H', Inv (X.blk s3 H3 scope ce fp) [] (wipe σ (own.map (·.2))) H' s' ∧ tn i s'.heap ∧ (∀ b ∈ fp, H' b = none) ∧ W i m H' := fun {s' H'} I' nx => by
      obtain ⟨m', hm, w'⟩ := hNx H' nx
      have pin' : ∀ b ∈ fp, ∀ o, s7.heap.get? b = some o → s'.heap.get? b = some o ∧ H' b = none := fun b hb o e => let z := I'.pin (b, o) (List.mem_append_right _ (List.mem_append_right _ (mem_pinsAt hb e))); ⟨z.1, z.2.1⟩
      exact ⟨m', hm, i + 1, H', (I'.unpinned (pins := [])).weak hl (fun j v e => by rw [← hw8] at e; exact (wipe_some e).1), T.keep _ _ _ st7 fun b hb o e => (pin' b hb o e).1, fun b hb => (let ⟨o, e, _⟩ := T.obj _ _ st7 b hb; (pin' b hb o e).2), w'⟩
    cases b with
    | false =>
      rw [if_neg Bool.false_ne_true] at q9 ⊢
      exact fin I9 q9
    | true =>
      rw [if_pos rfl] at q9 ⊢
      refine thnF (pk.run _ s9 σ8 H9 _ I9 q9) fun z s10 ⟨yk, H10, I10, r10, q10⟩ => thnF (pv.run _ s10 σ8 H10 _ I10 q10) fun z2 s11 ⟨yv, H11, I11, r11, kvs, k, q, ek, hq11, hD11, hz11, nx⟩ => ?_
      subst ek
      exact d_dictSetT (X := X.blk s3 H3 scope ce fp) hu I11 hD11 hq11 hz11 r10 r11 fun s12 I12 => fin I12 nx
theorem pe_dcT {kx vx tg iter : Expr} {ifs : List Expr} {scope : Scope} {own : List (Str × Nat)} {pos : Pos} {wi : TI} {g : TG} {tt : TT} {tk tv : TE} (hu : X.A.units + 1 < cLine) (hc : X.calm = true) (hN : X.N.Nodup) (hi : PI X tg iter wi) (ok : BlkOk X.N X.env.scope scope own)
    (hg : ∀ (s : Shared) (H : Hp) (C : Addr) (cl : List (Str × Addr)) (fp : List Addr), PG (X.blk s H scope (compEnvC scope cl C X.env) fp) tg g) (ht : ∀ (s : Shared) (H : Hp) (C : Addr) (cl : List (Str × Addr)) (fp : List Addr), PTs (X.blk s H scope (compEnvC scope cl C X.env) fp) ifs tt)
    (hk : ∀ (s : Shared) (H : Hp) (C : Addr) (cl : List (Str × Addr)) (fp : List Addr), PE (X.blk s H scope (compEnvC scope cl C X.env) fp) kx tk) (he : ∀ (s : Shared) (H : Hp) (C : Addr) (cl : List (Str × Addr)) (fp : List Addr), PE (X.blk s H scope (compEnvC scope cl C X.env) fp) vx tv)
    (hs : ∀ x, foldedSetIterable iter X.env x = pure x := by intro _; rfl) : PE X (.DictComp kx vx [⟨tg, iter, ifs, 0⟩] scope pos) (tDcT wi g tt tk tv (own.map (·.2))) :=
  ⟨fun pins s σ H Q I h => by
    rw [arm_eval_DictComp]
    exact dcT_core hu hc hN I hi ok hg ht hk he hs h fun D C s' m H' I' q hn f => ⟨m, hn, fun h'' sb => ⟨.ref D, H', I'.turned (t' := s'.toks) (fun b o hb e => (sb.2 b hb).trans e) f.1 f.2.1 f.2.2.2.1 f.2.2.2.2.1 f.2.2.2.2.2, rfl, q⟩⟩⟩
end
end KV

/-! zip(dict, list), the dict's keys tuples -/
namespace KV
open PySem PySem.Spec PyProof.Rows L2
section
variable {prog : Program} {w : World} {A : Around} {E : Value → Shared → Prop} {s : Shared} {it d : Addr} {i ep : Nat} {od : Obj} {es : Array DictEntry}
theorem nextOf_key {en : DictEntry} {Q : Value → Shared → Prop} (hi : s.heap.IsKeyIter it d i es.size ep) (ho : s.heap.get? d = some od) (hd : od.data = .dict es ep) (he : es[i]? = some en)
    (hQ : ∀ h', h'.IsKeyIter it d (i + 1) es.size ep → Heap.SameBut it s.heap h' → Q en.key { s with heap := h' }) : wpAny (model prog w) A (Builtin.SmallTypes.nextOf (.ref it)) Q E s := by
  obtain ⟨oi, h1, h2, h3⟩ := id hi
  have own : Builtin.Dict_items.ownsTuple "dict_keyiterator" = false := by decide
  unfold Builtin.SmallTypes.nextOf
  refine wpAny_bind (wpAny_callSpecial?_slot (name := Str.ofString "__next__") hi.typeIs F.slot_dict_keyiterator_next (wpAny_call_entry F.slot_dict_keyiterator_next hi.typeIs F.entry_dict_keyiterator_next (wpAny_bind (wpAny_pure (wpAny_bind (wpAny_bind ?_)))) (F.args_dict_keyiterator_next_1 _)))
  refine wpAny_bind (wpAny_typeNameOfWhole_keyiter hi.typeIs (wpAny_pure (wpAny_bind (wpAny_fieldsOf h1 h3 ?_))))
  simp only [own, Bool.false_eq_true, if_false]
  show wpAny _ _ (if (Value.ref d == Value.none) = true then _ else _) _ _ s
  rw [if_neg (fun z : (Value.ref d == Value.none) = true => Bool.false_ne_true z)]
  refine wpAny_bind (wpAny_pure (wpAny_bind (wpAny_dictEntries ho hd ?_)))
  rw [if_neg (by simp)]
  refine wpAny_bind (wpAny_pure (wpAny_bind (wpAny_dictEpoch ho hd ?_)))
  rw [if_neg (by simp)]
  refine wpAny_pure ?_
  obtain ⟨lt, ee⟩ := Array.getElem?_eq_some_iff.mp he
  simp only [show ¬ (i : Int) < 0 by omega, if_false, Int.toNat_natCast, Array.getElem?_eq_getElem lt]
  refine wpAny_bind (wpAny_bind (wpAny_typeNameOfWhole_keyiter hi.typeIs (wpAny_pure ?_)))
  refine wpAny_bind (wpAny_isOneOf_keyiter hi.typeIs ?_)
  show wpAny _ _ (setField (.ref it) 1 (rawInt ((i : Int) + 1)) >>= _) _ _ s
  have hit' : (s.heap.update it (Obj.mapFields (·.setIfInBounds 1 (rawInt ((i : Int) + 1))))).IsKeyIter it d (i + 1) es.size ep := ⟨_, Heap.get?_update_self _ h1 (Obj.isFreed_of_fields (Obj.data_mapFields h3 _)), (Obj.cls_mapFields ..).trans h2, by rw [Obj.data_mapFields h3]; simp [rawInt]⟩
  refine wpAny_bind (wpAny_setField h1 h3 (by simp) (wpAny_bind (wpAny_holding ?_)))
  refine wpAny_bind (wpAny_isOneOf_keyiter (s := { s with heap := s.heap.update it (Obj.mapFields (·.setIfInBounds 1 (rawInt ((i : Int) + 1)))) }) hit'.typeIs ?_)
  show wpAny _ _ (pure es[i].key) _ _ _
  rw [ee]
  exact wpAny_pure (wpAny_pure ⟨_, rfl, wpAny_pure (hQ _ hit' (Heap.SameBut.update ..))⟩)
theorem nextOf_keyEnd {Q : Value → Shared → Prop} (hh : A.handled = none) (hi : s.heap.IsKeyIter it d i es.size ep) (ho : s.heap.get? d = some od) (hd : od.data = .dict es ep) (he : es.size ≤ i)
    (hE : ∀ h' e, Heap.ExtBut it s.heap h' → (∃ o, h'.get? e = some o ∧ o.cls = .type "StopIteration") → E (.ref e) { s with heap := h' }) : wpAny (model prog w) A (Builtin.SmallTypes.nextOf (.ref it)) Q E s := by
  obtain ⟨oi, h1, h2, h3⟩ := id hi
  have own : Builtin.Dict_items.ownsTuple "dict_keyiterator" = false := by decide
  unfold Builtin.SmallTypes.nextOf
  refine wpAny_bind (wpAny_callSpecial?_slot (name := Str.ofString "__next__") hi.typeIs F.slot_dict_keyiterator_next (wpAny_call_entry F.slot_dict_keyiterator_next hi.typeIs F.entry_dict_keyiterator_next (wpAny_bind (wpAny_pure (wpAny_bind (wpAny_bind ?_)))) (F.args_dict_keyiterator_next_1 _)))
  refine wpAny_bind (wpAny_typeNameOfWhole_keyiter hi.typeIs (wpAny_pure (wpAny_bind (wpAny_fieldsOf h1 h3 ?_))))
  simp only [own, Bool.false_eq_true, if_false]
  show wpAny _ _ (if (Value.ref d == Value.none) = true then _ else _) _ _ s
  rw [if_neg (fun z : (Value.ref d == Value.none) = true => Bool.false_ne_true z)]
  refine wpAny_bind (wpAny_pure (wpAny_bind (wpAny_dictEntries ho hd ?_)))
  rw [if_neg (by simp)]
  refine wpAny_bind (wpAny_pure (wpAny_bind (wpAny_dictEpoch ho hd ?_)))
  rw [if_neg (by simp)]
  refine wpAny_pure ?_
  simp only [show ¬ (i : Int) < 0 by omega, if_false, Int.toNat_natCast, Array.getElem?_eq_none he]
  refine wpAny_bind (wpAny_bind (wpAny_typeNameOfWhole_keyiter hi.typeIs (wpAny_pure ?_)))
  show wpAny _ _ (setField (.ref it) 0 .none >>= _) _ _ s
  refine wpAny_bind (wpAny_setField h1 h3 (by simp) ?_)
  show wpAny _ _ (newExc (.type "StopIteration") [] >>= _) _ _ _
  simp only [newExc, newTuple]
  refine wpAny_bind (wpAny_bind (wpAny_newObj_type (wpAny_bind (m := firstArgMember _ _) (wpAny_of_eq (a := Value.none) (by first | rfl | (simp only [firstArgMember]; rfl)) (wpAny_newObj_type ?_ (by size_fits)))) (by size_fits)))
  simp only [raiseNew]
  refine wpAny_bind (wpAny_handled ?_)
  first | rw [show A.in1.handled = none from hh] | rw [hh]
  exact wpAny_bind (wpAny_pure (wpAny_throw (hE _ _ (((Heap.SameBut.update ..).extBut.push _).push _) ⟨_, Heap.get?_push_size _ rfl, rfl⟩)))
end
theorem draws_keys {prog : Program} {w : World} {A : Around} (hh : A.handled = none) (it d : Addr) (hne : d ≠ it) {od : Obj} {es : Array DictEntry} {ep : Nat} (hd : od.data = .dict es ep) :
    Draws prog w A it [it, d] es.size (fun i v => ∃ en, es[i]? = some en ∧ v = en.key) (fun i h => h.IsKeyIter it d i es.size ep ∧ h.get? d = some od) where
  live := fun _ _ st => let ⟨o, ho, _⟩ := st.1; ⟨o, ho⟩
  frame := fun _ _ _ st hk => ⟨st.1.at fun o e => hk it (by simp) o e, hk d (by simp) _ st.2⟩
  item := fun i s Q E hi st hQ => nextOf_key st.1 st.2 hd (Array.getElem?_eq_getElem hi) fun h' k sb => hQ _ h' s.toks ⟨_, Array.getElem?_eq_getElem hi, rfl⟩ ⟨k, (sb.2 d hne).trans st.2⟩ sb
  done := fun s Q E st hE => nextOf_keyEnd hh st.1 st.2 hd (Nat.le_refl _) hE
end KV

/-! the same: the zip made, walked -/
namespace KV
open PySem PySem.Spec PyProof.Rows L2
abbrev zk1 (h : Heap) (d : Addr) (n ep : Nat) : Heap := h.push { cls := .type "dict_keyiterator", data := .fields #[.ref d, .int 0 0, .int n 0, .int ep 0] }
abbrev zk2 (h : Heap) (d l : Addr) (n ep : Nat) : Heap := (zk1 h d n ep).push { cls := .type "list_iterator", data := .fields #[.ref l, .int 0 0] }
abbrev zk3 (h : Heap) (d l : Addr) (n ep : Nat) : Heap := (zk2 h d l n ep).push { cls := .type "tuple", data := .seq #[.ref h.objs.size, .ref (zk1 h d n ep).objs.size] }
abbrev zk4 (h : Heap) (d l : Addr) (n ep : Nat) : Heap := (zk3 h d l n ep).push { cls := .type "tuple", data := .seq #[.none, .none] }
abbrev zk5 (h : Heap) (d l : Addr) (n ep : Nat) : Heap := (zk4 h d l n ep).push { cls := .type "zip", data := .fields #[.none, .bool false, .bool false, .ref (zk2 h d l n ep).objs.size, .ref (zk3 h d l n ep).objs.size] }
theorem meets_zk (d l : Addr) (od : Obj) (es : Array DictEntry) (ep : Nat) (ys : Array Value) :
    Meets (Builtin.«zip.__new__» ⟨[.type "zip", .ref d, .ref l], []⟩) (fun _ R s => (d == sysModules) = false ∧ s.heap.get? d = some od ∧ od.ExactDict ∧ od.data = .dict es ep ∧ s.heap.IsList l ys ∧
      R (.ok (.ret (.ref (zk4 s.heap d l es.size ep).objs.size))) { s with heap := zk5 s.heap d l es.size ep }) :=
  .of_wp fun prog w A R s h => by
    obtain ⟨hp, g, dr, tk, os⟩ := s
    obtain ⟨h1, h2, h3, h4, h5, h⟩ := h
    have hs := sub_zip
    have hL : Heap.IsList (Shared.heap ⟨zk1 hp d es.size ep, g, dr, tk, os⟩) l ys := Heap.IsList.push h5 _
    have h2' : (Shared.heap ⟨hp, g, dr, tk, os⟩).get? d = some od := h2
    wp_walk using L2.iter_keys h1 h2' h3 h4, wpAny_pyIter_list hL
    exact ⟨_, rfl, h⟩
section
variable {prog : Program} {w : World} {A : Around} {E : Value → Shared → Prop} {s : Shared}
theorem call_zk {d l : Addr} {od : Obj} {es : Array DictEntry} {ep : Nat} {ys : Array Value} {Q : Value → Shared → Prop} (h1 : (d == sysModules) = false) (h2 : s.heap.get? d = some od) (h3 : od.ExactDict) (h4 : od.data = .dict es ep) (h5 : s.heap.IsList l ys)
    (h : ∀ h', IsZip h' (s.heap.objs.size + 4) (s.heap.objs.size + 2) (s.heap.objs.size + 3) .none → IsTupOf2 h' (s.heap.objs.size + 2) (.ref s.heap.objs.size) (.ref (s.heap.objs.size + 1)) → IsTupOf2 h' (s.heap.objs.size + 3) .none .none →
      h'.IsKeyIter s.heap.objs.size d 0 es.size ep → h'.IsListIter (s.heap.objs.size + 1) l 0 → (∀ c o, s.heap.get? c = some o → h'.get? c = some o) → Q (.ref (s.heap.objs.size + 4)) { s with heap := h' }) :
    wpAny (model prog w) A (call (.type "zip") [.ref d, .ref l]) Q E s := by
  refine callType_new F.called_zip (by decide) (F.typeCall_zip_2 _ _) (F.newCall_zip_2 _ _) (fun obj => F.args_object_init_3 obj _ _) F.entry_zip_new (meets_zk d l od es ep ys) ⟨h1, h2, h3, h4, h5, ?_⟩
  generalize hn : es.size = n at h
  have z1 : (zk1 s.heap d n ep).objs.size = s.heap.objs.size + 1 := Heap.size_push ..
  have z2 : (zk2 s.heap d l n ep).objs.size = s.heap.objs.size + 2 := by rw [Heap.size_push, z1]
  have z3 : (zk3 s.heap d l n ep).objs.size = s.heap.objs.size + 3 := by rw [Heap.size_push, z2]
  have z4 : (zk4 s.heap d l n ep).objs.size = s.heap.objs.size + 4 := by rw [Heap.size_push, z3]
  have up : ∀ {h : Heap} {o : Obj} {c : Addr} {q : Obj}, h.get? c = some q → (h.push o).get? c = some q := fun e => Heap.get?_push_of_some _ e
  have g5 : (zk5 s.heap d l n ep).get? (zk4 s.heap d l n ep).objs.size = some _ := Heap.get?_push_size _ rfl
  have g4 : (zk5 s.heap d l n ep).get? (zk3 s.heap d l n ep).objs.size = some _ := up (Heap.get?_push_size _ rfl)
  have g3 : (zk5 s.heap d l n ep).get? (zk2 s.heap d l n ep).objs.size = some _ := up (up (Heap.get?_push_size _ rfl))
  have g2 : (zk5 s.heap d l n ep).get? (zk1 s.heap d n ep).objs.size = some _ := up (up (up (Heap.get?_push_size _ rfl)))
  have g1 : (zk5 s.heap d l n ep).get? s.heap.objs.size = some _ := up (up (up (up (Heap.get?_push_size _ rfl))))
  show _ ∧ _
  rw [z2, z3, z4] at g5
  rw [z1, z2] at g3
  rw [z3] at g4
  rw [z1] at g2
  rw [z4]
  exact ⟨⟨_, g5, rfl⟩, h _ g5 g3 g4 ⟨_, g1, rfl, rfl⟩ ⟨_, g2, rfl, rfl⟩ fun c o x => up (up (up (up (up x))))⟩
end
/-- the keys of the locked dict at d beside the list at b: new pairs -/
def Itzk (K : PySem.W.Frag) (d : Addr) (o : Obj) (kvs : List (List L2.Key × V)) (b : Addr) (ys : List V) : It :=
  ⟨fun i H => H d = some (.frz o (.dT kvs)) ∧ SqL K H b ys ∧ i < kvs.length,
    fun i H v H' => ∃ (T : Addr) (k : List L2.Key) (v0 y : V) (q : Addr), v = .ref T ∧ H T = none ∧ H' = upd H T (.tup [.ref q, y]) ∧ kvs[i]? = some (k, v0) ∧ H q = some (.tup (k.map L2.kV)) ∧ ys[i]? = some y,
    fun i H => H d = some (.frz o (.dT kvs)) ∧ SqL K H b ys ∧ kvs.length = i⟩
section
variable {P : Program} {w : World} {K : PySem.W.Frag} {elts : List Expr} {kk : Nat} {tpos : Pos} {d b z TI TO i1 i2 : Addr} {o : Obj} {es : Array DictEntry} {ep : Nat}
theorem turn_zk {kvs : List (List L2.Key × V)} {ys : List V} (S : ZipSep2 z TI TO i1 i2 [i1, d] [i2, b]) (nd : d ≠ i1) (nb : b ≠ i2) (hod : o.data = .dict es ep) (hl : ys.length = kvs.length) :
    Turn P w K (.Tuple elts kk tpos) (Itzk K d o kvs b ys) [z, TI, TO, i1, i2] z (fun i h => IsZip h z TI TO .none ∧ IsTupOf2 h TI (.ref i1) (.ref i2) ∧ (∃ x y, IsTupOf2 h TO x y) ∧ h.IsKeyIter i1 d i es.size ep ∧ h.IsListIter i2 b i) where
  mem := by simp
  obj := fun i h st c hc => by
    obtain ⟨hz, hTI, ⟨x, y, hTO⟩, ⟨o1, e1, _, d1⟩, ⟨o2, e2, _, d2⟩⟩ := st
    simp only [List.mem_cons, List.not_mem_nil, or_false] at hc
    rcases hc with rfl | rfl | rfl | rfl | rfl
    · exact ⟨_, hz, fun v q => nomatch q⟩
    · exact ⟨_, hTI, fun v q => nomatch q⟩
    · exact ⟨_, hTO, fun v q => nomatch q⟩
    · exact ⟨o1, e1, fun v q => by rw [d1] at q; cases q⟩
    · exact ⟨o2, e2, fun v q => by rw [d2] at q; cases q⟩
  keep := fun i h h' st k => by
    obtain ⟨hz, hTI, ⟨x, y, hTO⟩, h1, h2⟩ := st
    exact ⟨k z (by simp) _ hz, k TI (by simp) _ hTI, ⟨x, y, k TO (by simp) _ hTO⟩, h1.at fun o q => k i1 (by simp) o q, h2.at fun o q => k i2 (by simp) o q⟩
  item := by
    intro X hP hw hK hc i pins s σ H E I hf st hg
    subst hP hw hK
    obtain ⟨hz, hTI, ⟨x0, y0, hTO⟩, h1, h2⟩ := st
    obtain ⟨hfr, hqy, hik⟩ := hg
    obtain ⟨hs, hgd, hx, es', ep', hdt, hsz, ent⟩ := I.frzT hfr
    obtain ⟨rfl, rfl⟩ := dict_ep hod hdt
    obtain ⟨its, rv, p, _⟩ := I.list hqy
    obtain ⟨⟨k, v0⟩, hkv⟩ : ∃ p, kvs[i]? = some p := ⟨kvs[i], List.getElem?_eq_getElem hik⟩
    obtain ⟨en, q, hen, hkey, hq⟩ := ent i k v0 hkv
    obtain ⟨y, hy⟩ : ∃ y, ys[i]? = some y := ⟨_, List.getElem?_eq_getElem (by omega)⟩
    obtain ⟨u2, hu2, ru2⟩ := rv.get hy
    have zl : z < s.heap.objs.size := Heap.lt_size hz
    have rl := rv.length
    refine wpAny_pyNext_zipD2_item S (draws_keys (A := X.A.in1) (I.ok.hd hc) i1 d nd hod) (Draws.list (A := X.A.in1) (I.ok.hd hc) i2 b nb its.toArray) hz hTI hTO ⟨h1, hgd⟩ ⟨h2, p.isList⟩ (by omega) (by simp; omega) fun x1 x2 h' tk e1 e2 z' TO' h1' h2' hT hsz2 hk => ?_
    obtain ⟨en', q1, rfl⟩ := e1
    rw [hen] at q1
    cases q1
    have ex2 : x2 = u2 := by
      have z := e2
      rw [show its.toArray[i]? = its[i]? by simp, hu2] at z
      exact (Option.some.inj z).symm
    subst ex2
    refine ⟨_, rfl, wpAny_letOwnedTupleGo_zip (s := { s with heap := h', toks := tk }) z' fun h'' z'' sb => ?_⟩
    have hT2 : h''.get? s.heap.objs.size = some { cls := .type "tuple", data := .seq #[en.key, x2] } := (sb.2 _ (Nat.ne_of_gt zl)).trans hT
    have new : ObjOk X.prog X.w (upd H s.heap.objs.size (.tup [.ref q, y])) h'' s.heap.objs.size (.tup [.ref q, y]) := ⟨by show 2 ≤ sizeLine; decide, [en.key, x2], .cons hkey (.cons ru2 .nil), ⟨_, hT2, rfl, _, rfl⟩⟩
    have kp : ∀ c ob, c ∉ [z, TI, TO, i1, i2] → s.heap.get? c = some ob → h''.get? c = some ob := fun c ob hb e => by
      simp only [List.mem_cons, List.not_mem_nil, or_false, not_or] at hb
      exact (sb.2 c hb.1).trans (hk c ob hb.1 hb.2.2.1 hb.2.2.2.1 hb.2.2.2.2 e)
    have I1 : Inv X pins σ (upd H s.heap.objs.size (.tup [.ref q, y])) { s with heap := h'', toks := tk } := I.turnedNew (t' := tk) (ch := [z, TI, TO, i1, i2]) kp hf (Nat.le_refl _) new
    refine ⟨.ref s.heap.objs.size, _, I1, rfl, ⟨_, k, v0, y, q, rfl, I.hok.fresh (Nat.le_refl _), rfl, hkv, hq, hy⟩, ⟨z'', (sb.2 _ S.TIz).trans (hk _ _ S.TIz S.TITO S.TIi1 S.TIi2 hTI), ⟨_, _, (sb.2 _ S.TOz).trans TO'⟩, h1'.1.at fun ob e => (sb.2 _ S.zi1.symm).trans e, h2'.1.at fun ob e => (sb.2 _ S.zi2.symm).trans e⟩, fun c hcm => ?_⟩
    have lt : c < s.heap.objs.size := by
      simp only [List.mem_cons, List.not_mem_nil, or_false] at hcm
      rcases hcm with rfl | rfl | rfl | rfl | rfl
      · exact zl
      · exact Heap.lt_size hTI
      · exact Heap.lt_size hTO
      · obtain ⟨_, e1, _⟩ := h1; exact Heap.lt_size e1
      · obtain ⟨_, e2, _⟩ := h2; exact Heap.lt_size e2
    rw [upd_ne (Nat.ne_of_lt lt)]
    exact (hf c hcm).1
  done := by
    intro X hP hw hK hc i pins s σ H E I hf st hg
    subst hP hw hK
    obtain ⟨hz, hTI, ⟨x0, y0, hTO⟩, h1, h2⟩ := st
    obtain ⟨hfr, hqy, hik⟩ := hg
    obtain ⟨hs, hgd, hx, es', ep', hdt, hsz, ent⟩ := I.frzT hfr
    obtain ⟨rfl, rfl⟩ := dict_ep hod hdt
    obtain ⟨its, rv, p, _⟩ := I.list hqy
    have rl := rv.length
    exact wpAny_pyNext_zipD2_end S (draws_keys (A := X.A.in1) (I.ok.hd hc) i1 d nd hod) (Draws.list (A := X.A.in1) (I.ok.hd hc) i2 b nb its.toArray) hz hTI hTO ⟨h1, hgd⟩ ⟨h2, p.isList⟩ (by omega) (by simp; omega) (by omega) fun h' tk hk =>
      ⟨rfl, I.turnedL (t' := tk) (ch := [z, TI, TO, i1, i2]) (fun c ob hb e => by
        simp only [List.mem_cons, List.not_mem_nil, or_false, not_or] at hb
        exact hk c ob hb.1 hb.2.2.1 hb.2.2.2.1 hb.2.2.2.2 e) hf⟩
  self := fun A i s Q E st h => wpAny_pyIter_zip st.1 h
end
def iZipK (K : PySem.W.Frag) (ta : TA) : TI := fun σ H R => ta σ H fun vs H1 => ∃ (d b : Addr) (o : Obj) (kvs : List (List L2.Key × V)) (ys : List V), vs = [.ref d, .ref b] ∧ H1 d = some (.frz o (.dT kvs)) ∧ SqL K H1 b ys ∧ ys.length = kvs.length ∧ R (Itzk K d o kvs b ys) H1
theorem pi_zipK {X : Cx} {e e2 : Expr} {ta : TA} {p pos tpos : Pos} {elts : List Expr} {kk : Nat} (hg : Gl X "zip") (hm : X.mg "zip" = none) (ha : PA X [e, e2] ta)
    (hs : starEach [e, e2] X.env = (false, eval e X.env) :: starEach [e2] X.env := by rfl) (hpl : (backTo pos (starEach [e2] X.env)).any (·.1) = false := by rfl) : PI X (.Tuple elts kk tpos) (.Call (.Name "zip" p) [e, e2] [] pos) (iZipK X.K ta) := by
  refine ⟨fun pins s σ H R I h => Call_ (ld_blt I hg hm PyProof.Rows.boot_zip (PyProof.Rows.callWith_type1 (thn (ha.run pos pins s σ H _ I h) fun us s1 ⟨vs, H1, I1, r1, q1⟩ => ?_) hs hpl))⟩
  obtain ⟨d, b, o, kvs, ys, ex, hfr, hqy, hl, q⟩ := q1
  subst ex
  obtain ⟨u1, u2, rfl, r1, r2⟩ := vals2 r1
  cases r1
  cases r2
  obtain ⟨hs, hgd, hx, es, ep, hdt, hsz, ent⟩ := I1.frzT hfr
  obtain ⟨its, rv, pl, _⟩ := I1.list hqy
  have ld : d < s1.heap.objs.size := Heap.lt_size hgd
  have lb : b < s1.heap.objs.size := pl.lt
  refine call_zk hs hgd hx hdt pl.isList fun h' hz hTI hTO h1 h2 hk => wpAny_pyIter_zip hz ?_
  have I2 : Inv X pins σ H1 { s1 with heap := h' } := I1.kept (t' := s1.toks) hk
  refine ⟨s1.heap.objs.size + 4, [s1.heap.objs.size + 4, s1.heap.objs.size + 2, s1.heap.objs.size + 3, s1.heap.objs.size, s1.heap.objs.size + 1], _, _, H1, rfl, I2, turn_zk (zip_sep2 (fun c hc => by rw [List.mem_singleton.mp hc]; exact ld) (fun c hc => by rw [List.mem_singleton.mp hc]; exact lb)) (Nat.ne_of_lt ld) (Nat.ne_of_lt (Nat.lt_succ_of_lt lb)) hdt hl, ⟨hz, hTI, ⟨_, _, hTO⟩, h1, h2⟩, fun c hcm => ?_, q⟩
  have le : s1.heap.objs.size ≤ c := by
    simp only [List.mem_cons, List.not_mem_nil, or_false] at hcm
    rcases hcm with rfl | rfl | rfl | rfl | rfl
    · exact Nat.le_add_right _ _
    · exact Nat.le_add_right _ _
    · exact Nat.le_add_right _ _
    · exact Nat.le_refl _
    · exact Nat.le_add_right _ _
  exact I1.fpOk le (I1.hok.fresh le)
end KV

/-! the program: reached -/
namespace KV
open PySem PySem.Spec PyProof.Rows L2 KC
/-- a dict comprehension over zip(dict, list) -/
theorem dc_zk {K : PySem.W.Frag} {d b : Addr} {o : Obj} {kvs : List (List L2.Key × V)} {ys : List V} {g : TG} {tt : TT} {tk tv : TE} {vs : List Nat} {σ : L2.St} {H1 : Hp} {D : Addr} {Qd : Hp → Prop} (hl : ys.length = kvs.length) (Pv : Nat → Hp → Prop) (start : Pv 0 (L2.upd H1 D (.dT []))) (holds : ∀ i H, Pv i H → H d = some (.frz o (.dT kvs)) ∧ SqL K H b ys)
    (step : ∀ (i : Nat) (k : List L2.Key) (v0 y : V) (q T : Addr) (H : Hp), kvs[i]? = some (k, v0) → H q = some (.tup (k.map L2.kV)) → ys[i]? = some y → H T = none → Pv i H → g (.ref T) (wipe σ vs) (L2.upd H T (.tup [.ref q, y])) fun σ2 H2 => wipe σ2 vs = wipe σ vs ∧ tt σ2 H2 fun b H3 =>
      if b = true then tk σ2 H3 fun y H4 => tv σ2 H4 fun z H5 => ∃ (kvs : List (List L2.Key × V)) (k : List L2.Key) (q : Addr), y = .ref q ∧ H5 q = some (.tup (k.map L2.kV)) ∧ H5 D = some (.dT kvs) ∧ kvs.length < sizeLine ∧ Pv (i + 1) (L2.upd H5 D (.dT (L2.putK kvs k z))) else Pv (i + 1) H3) (fin : ∀ H, Pv kvs.length H → Qd H) :
    ∃ W : Nat → Nat → Hp → Prop, (∃ m, W 0 m (L2.upd H1 D (.dT []))) ∧ ∀ i m H, W i m H →
      ((Itzk K d o kvs b ys).stop i H ∧ Qd H) ∨ ((Itzk K d o kvs b ys).go i H ∧ ∃ Nx : Hp → Prop, (∀ H', Nx H' → ∃ m', m' < m ∧ W (i + 1) m' H') ∧ ∀ x H', (Itzk K d o kvs b ys).yld i H x H' → g x (wipe σ vs) H' fun σ2 H2 => wipe σ2 vs = wipe σ vs ∧ tt σ2 H2 fun b H3 =>
        if b = true then tk σ2 H3 fun y H4 => tv σ2 H4 fun z H5 => ∃ (kvs : List (List L2.Key × V)) (k : List L2.Key) (q : Addr), y = .ref q ∧ H5 q = some (.tup (k.map L2.kV)) ∧ H5 D = some (.dT kvs) ∧ kvs.length < sizeLine ∧ Nx (L2.upd H5 D (.dT (L2.putK kvs k z))) else Nx H3) := by
  refine ⟨fun i m H => m + i = kvs.length ∧ Pv i H, ⟨kvs.length, rfl, start⟩, ?_⟩
  rintro i m H ⟨em, p⟩
  obtain ⟨q1, q2⟩ := holds i H p
  by_cases more : i < kvs.length
  · refine .inr ⟨⟨q1, q2, more⟩, Pv (i + 1), fun H' p' => ⟨m - 1, by omega, by omega, p'⟩, ?_⟩
    rintro x H' ⟨T, k, v0, y, q, rfl, hT, rfl, h1, h2, h3⟩
    exact step i k v0 y q T H h1 h2 h3 hT p
  · have ei : kvs.length = i := by omega
    refine .inl ⟨⟨q1, q2, ei⟩, fin H (by rw [ei]; exact p)⟩
/-- the dict that tells each change's row -/
structure RowD (H : Hp) (kvs : List (List L2.Key × V)) (fs : Fs) : Prop where
  kf : KF kvs fs
  at_ : ∀ (i : Nat) (p : List Nat × List Nat), fs[i]? = some p → ∃ q : Addr, kvs[i]? = some (kc p.1, .ref q) ∧ H q = some (.tup (vi p.2))
theorem RowD.same {H H' : Hp} {kvs : List (List L2.Key × V)} {fs : Fs} (h : RowD H kvs fs) (s : Same H H') : RowD H' kvs fs := ⟨h.kf, fun i p e => by
  obtain ⟨q, h1, h2⟩ := h.at_ i p e
  exact ⟨q, h1, s _ _ h2⟩⟩
theorem RowD.val {H : Hp} {kvs : List (List L2.Key × V)} {fs : Fs} (h : RowD H kvs fs) (nd : (keysF fs).Nodup) {p : List Nat × List Nat} (hp : p ∈ fs) : ∃ q : Addr, L2.valV kvs (kc p.1) = some (.ref q) ∧ H q = some (.tup (vi p.2)) := by
  obtain ⟨i, hi⟩ := List.mem_iff_getElem?.mp hp
  obtain ⟨q, h1, h2⟩ := h.at_ i p hi
  refine ⟨q, valV_at ?_ h1, h2⟩
  rw [h.kf, List.nodup_iff_pairwise_ne, List.pairwise_map]
  exact (List.nodup_iff_pairwise_ne.mp nd).imp fun ne e => ne (kc_inj e)
theorem same_lock {H1 H2 : Hp} {d : Addr} {u : HO} (h : H1 d = some u) (s : ∀ b o, b ≠ d → H1 b = some o → H2 b = some o) : Same H1 (L2.upd H2 d u) := fun b o e => by
  by_cases z : b = d
  · subst z
    rw [upd_same, ← h, e]
  · rw [upd_ne z]
    exact s b o z e
section
variable {P : Program} {w : World} {K : PySem.W.Frag} {mg : Str → Option Value} {base : Heap} {C fT : Addr}
def spReach (C : Addr) : Sp := fun vs H Q E => ∃ (l : Addr) (n : Nat) (bs : List Addr) (cs : List (List Nat)), vs = [.int (n : Int), .ref l] ∧ GensE H l n bs cs ∧ n ≤ 16 ∧ cs.length ≤ 20 ∧ (¬ Sz n cs 400 → BadN C 0 H E) ∧
  (Sz n cs 400 → ∀ (D : Addr) (k : Nat) (kvs : List (List L2.Key × V)) (H' : Hp), Same H H' → H' D = some (.dT kvs) → (grow n cs k).length ≤ k → RowD H' kvs (grow n cs k) → Q (.ref D) H')
theorem sc28 : FnScope ["states", "makers", "numbers", "_", "rows", "change", "row"] ["states", "makers"] (defScope (top 27)) := ⟨rfl, rfl, rfl, by decide +kernel, rfl, by decide +kernel, by decide +kernel⟩
theorem ok_reach {f : Addr} {fd : FuncData} (B : Bl mg) (CN : Cal P w K mg base (L2.CX P w) 2 "numbered" ["states", "makers"] (spNum C)) (F : Fun K "reached" "reached" (top 27) f fd) : FnOk P w K mg base (L2.CX P w) 3 f fd ["states", "makers"] (spReach C) := by
  refine F.okX sc28 (fun vs H Q E h => ?_) (fun cdv A outer s H vs Q E hr h => ⟨_,
    (pss_cons (ps_asg (by exact (pe_calX CN hr (by decide) (takes_of rfl rfl rfl rfl) (fun _ _ _ _ z => z) (pa_cons (pv 0) (pa_cons (pv 1) pa_nil)))) (pg_tup rfl (pgs_cons (pg_name (i := 2) sc28.nd rfl (.inl rfl)) (pgs_cons (pg_name (i := 3) sc28.nd rfl (.inl rfl)) (pgs_cons (pg_name (i := 4) sc28.nd rfl (.inl rfl)) pgs_nil)))))
    (pss_one (ps_ret (pe_lock (pe_dcT (own := [("change", 5), ("row", 6)]) (g := gTup K 2 (gCons (gName 5) (gCons (gName 6) gNil))) (tt := tYes) (Nat.lt_of_le_of_lt (Nat.add_le_add_left (show 1 ≤ 64 by decide) _) hr.units) rfl sc28.nd (pi_zipK (by rfl) B.zip (pa_cons (pv 2) (pa_cons (pv 4) pa_nil))) (blkOk_by (N := ["states", "makers", "numbers", "_", "rows", "change", "row"]) (sc := defScope (top 27)) (by decide +kernel))
        (fun _ _ _ _ _ => (pg_tup rfl (pgs_cons (pg_name (i := 5) sc28.nd rfl (Or.inl rfl)) (pgs_cons (pg_name (i := 6) sc28.nd rfl (Or.inl rfl)) pgs_nil)))) (fun _ _ _ _ _ => pts_nil) (fun _ _ _ _ _ => (pv 5)) (fun _ _ _ _ _ => (pv 6))))))), ?_⟩)
  · obtain ⟨l, n, bs, cs, rfl, _⟩ := h
    rfl
  obtain ⟨l, n, bs, cs, rfl, hG, n16, c5, q0, q⟩ := h
  refine ⟨_, rfl, _, rfl, l, n, bs, cs, rfl, hG, n16, c5, q0, fun sz p dn ah rl hs rs k kvs H1 s1 e1 gk e2 kf e3 tr _ _ _ => ?_⟩
  have lk : kvs.length = (grow n cs k).length := kf.len
  have lr : rs.length = (grow n cs k).length := by rw [paired_len tr, List.length_map]
  have k400 : kvs.length ≤ 400 := by rw [lk]; exact sz.grow
  refine ⟨p, _, rfl, SqT.of e1, rfl, ?_⟩
  dsimp only [gName, gCons, gNil]
  refine ⟨_, _, rfl, _, _, rfl, _, _, rfl, rfl, ?_⟩
  refine ⟨dn, _, e2, trivial, fun od => ?_⟩
  refine ⟨_, rfl, _, rfl, dn, rl, od, kvs, rs.map V.ref, rfl, upd_same, SqL.of (by rw [upd_ne (fun z => by rw [z, e2] at e3; cases e3)]; exact e3), by rw [List.length_map]; omega, fun D hD => ?_⟩
  have dD : D ≠ dn := fun z => by rw [z, upd_same] at hD; cases hD
  have hD1 : H1 D = none := by rwa [upd_ne dD] at hD
  have nr : rl ≠ dn := fun z => by rw [z, e2] at e3; cases e3
  refine dc_zk (by rw [List.length_map]; omega) (fun i H' => ∃ kvs', H' D = some (.dT kvs') ∧ H' dn = some (.frz od (.dT kvs)) ∧ (∀ b o, b ≠ dn → H1 b = some o → H' b = some o) ∧ RowD H' kvs' ((grow n cs k).take i)) ⟨[], upd_same, by rw [upd_ne dD.symm]; exact upd_same, fun b o hb e => ?_, ⟨rfl, fun i p e => by simp at e⟩⟩ (fun i H' z => ?_) ?_ ?_
  · rw [upd_ne (fun z => by rw [z, hD1] at e; cases e), upd_ne hb]
    exact e
  · obtain ⟨kvs', z1, z2, z3, z4⟩ := z
    exact ⟨z2, SqL.of (z3 _ _ nr e3)⟩
  · rintro i kk v0 y q0 T G hkv hq0 hy hT ⟨kvs', z1, z2, z3, z4⟩
    have il : i < (grow n cs k).length := by have := (List.getElem?_eq_some_iff.mp hkv).1; omega
    have hp : (grow n cs k)[i]? = some (grow n cs k)[i] := List.getElem?_eq_getElem il
    generalize (grow n cs k)[i] = pp at hp
    have ekk : kk = kc pp.1 := by
      have z : (kvs.map (·.1))[i]? = some kk := by rw [List.getElem?_map, hkv]; rfl
      rw [show kvs.map (·.1) = (keysF (grow n cs k)).map kc from kf, List.getElem?_map, keysF, List.getElem?_map, hp] at z
      exact (Option.some.inj z).symm
    subst ekk
    obtain ⟨r0, hr0, rfl⟩ := ref_at hy
    have hr1 : H1 r0 = some (.tup (vi pp.2)) := by
      obtain ⟨c, h1, h2⟩ := paired_at tr hr0
      rw [List.getElem?_map, hp] at h1
      cases h1
      exact h2
    have sT := Same.new (o := .tup [V.ref q0, V.ref r0]) hT
    refine ⟨T, _, rfl, SqT.of upd_same, rfl, ?_⟩
    dsimp only [gName, gCons, gNil]
    refine ⟨_, _, rfl, _, _, rfl, rfl, rfl, ?_⟩
    refine ⟨_, rfl, _, rfl, kvs', kc pp.1, q0, rfl, sT _ _ hq0, sT _ _ z1, len_lt2 (by have := z4.kf.len; rw [List.length_take] at this; omega), ?_⟩
    have tk : (grow n cs k).take (i + 1) = (grow n cs k).take i ++ [pp] := tk_at hp
    have nd := (grow_gd (n := n) (cs := cs) k).nd
    have nk : pp.1 ∉ keysF ((grow n cs k).take i) := fun z => by
      have e : keysF (grow n cs k) = keysF ((grow n cs k).take i) ++ pp.1 :: keysF ((grow n cs k).drop (i + 1)) := by
        have e0 : grow n cs k = (grow n cs k).take i ++ pp :: (grow n cs k).drop (i + 1) := by
          have := List.take_append_drop (i + 1) (grow n cs k)
          rw [tk, List.append_assoc] at this
          exact this.symm
        have e1 := congrArg keysF e0
        rw [show keysF ((grow n cs k).take i ++ pp :: (grow n cs k).drop (i + 1)) = keysF ((grow n cs k).take i) ++ pp.1 :: keysF ((grow n cs k).drop (i + 1)) from by simp [keysF]] at e1
        exact e1
      rw [e, List.nodup_append] at nd
      exact nd.2.2 _ z _ (by simp) rfl
    have Dd : dn ≠ D := dD.symm
    rw [putK_new _ (z4.kf.none.mpr nk), tk]
    have rD : ∀ (x : Addr) (xs : List V), G x = some (.tup xs) → L2.upd (L2.upd G T (.tup [V.ref q0, V.ref r0])) D (.dT (kvs' ++ [(kc pp.1, V.ref r0)])) x = some (.tup xs) := fun x xs e => by
      rw [upd_ne (fun y => by rw [y, z1] at e; cases e)]
      exact sT _ _ e
    have rn : r0 ≠ dn := fun y => by rw [y, e2] at hr1; cases hr1
    refine ⟨kvs' ++ [(kc pp.1, V.ref r0)], upd_same, by rw [upd_ne Dd]; exact sT _ _ z2, fun b o hb e => ?_, ⟨z4.kf.add pp.1 pp.2 _, fun j p e => ?_⟩⟩
    · rw [upd_ne (fun y => by rw [y, hD1] at e; cases e)]
      exact sT _ _ (z3 b o hb e)
    · have lt : kvs'.length = i := by have := z4.kf.len; rw [List.length_take] at this; omega
      have lt2 : ((grow n cs k).take i).length = i := by rw [List.length_take]; omega
      by_cases hj : j < i
      · rw [List.getElem?_append_left (by omega)] at e
        obtain ⟨q, h1, h2⟩ := z4.at_ j p e
        exact ⟨q, by rw [List.getElem?_append_left (by omega)]; exact h1, rD _ _ h2⟩
      · rw [List.getElem?_append_right (by omega)] at e
        have ej : j = i := by
          have := (List.getElem?_eq_some_iff.mp e).1
          simp at this
          omega
        subst ej
        rw [lt2, Nat.sub_self] at e
        cases e
        exact ⟨r0, by rw [List.getElem?_append_right (by omega), lt, Nat.sub_self]; rfl, rD _ _ (z3 _ _ rn hr1)⟩
  · rintro G ⟨kvs', z1, z2, z3, z4⟩
    rw [lk, List.take_length] at z4
    refine ⟨z2, ?_⟩
    have sG : ∀ {x : Addr} {xs : List V}, G x = some (.tup xs) → L2.upd G dn (.dT kvs) x = some (.tup xs) := fun {x xs} e => by
      rw [upd_ne (fun y => by rw [y, z2] at e; cases e)]
      exact e
    exact q sz D k kvs' _ (s1.trans (same_lock e2 z3)) (by rw [upd_ne dD]; exact z1) gk ⟨z4.kf, fun i p e => (let ⟨r, h1, h2⟩ := z4.at_ i p e; ⟨r, h1, sG h2⟩)⟩
end
end KV

/-! the program: what commutes -/
namespace KV
open PySem PySem.Spec PyProof.Rows L2 KC
def cmB (c e : List Nat) : Bool := decide (comp c e = comp e c)
section
variable {P : Program} {w : World} {K : PySem.W.Frag} {mg : Str → Option Value} {base : Heap}
def spCm : Sp := fun vs H Q _ => ∃ (a b : Addr) (n : Nat) (c e : List Nat), vs = [.ref a, .ref b] ∧ H a = some (.tup (vi c)) ∧ H b = some (.tup (vi e)) ∧ Chg n c ∧ Chg n e ∧ n ≤ 16 ∧ ∀ H', Same H H' → Q (.bl (cmB c e)) H'
theorem sc24 : FnScope ["one", "other"] ["one", "other"] (defScope (top 23)) := ⟨rfl, rfl, rfl, by decide +kernel, rfl, by decide +kernel, by decide +kernel⟩
theorem ok_cm {f : Addr} {fd : FuncData} (CC : Cal P w K mg base CX0 1 "composed" ["one", "other"] spComp) (F : Fun K "commute" "commute" (top 23) f fd) : FnOk P w K mg base CX0 2 f fd ["one", "other"] spCm := by
  refine F.ok sc24 (fun vs H Q E h => ?_) (fun cdv A outer s H vs Q E hr h => ⟨_,
    (pss_one (ps_ret (pe_cmpR (op_eqD hr.units) (by exact (pe_cal (X := L2.Cx.nox _) CC hr (by decide) (pa_cons (pv 0) (pa_cons (pv 1) pa_nil)))) (by exact (pe_cal (X := L2.Cx.nox _) CC hr (by decide) (pa_cons (pv 1) (pa_cons (pv 0) pa_nil)))) (nomark _)))), ?_⟩)
  · obtain ⟨a, b, n, c, e, rfl, _⟩ := h
    rfl
  obtain ⟨a, b, n, c, e, rfl, ha, hb, hc, he, n16, q⟩ := h
  refine ⟨_, rfl, _, rfl, a, b, c, e, rfl, ha, hb, fun x hx => by rw [he.len]; exact hc.lt x hx, by rw [hc.len]; exact n16, fun t H1 s1 _ e1 => ?_⟩
  refine ⟨_, rfl, _, rfl, b, a, e, c, rfl, s1 _ _ hb, s1 _ _ ha, fun x hx => by rw [hc.len]; exact he.lt x hx, by rw [he.len]; exact n16, fun t2 H2 s2 _ e2 => ?_⟩
  exact eqT (s2 _ _ e1) e2 (q _ (s1.trans s2))
def spCwa : Sp := fun vs H Q _ => ∃ (a l : Addr) (n : Nat) (c : List Nat) (bs : List Addr) (cs : List (List Nat)), vs = [.ref a, .ref l] ∧ H a = some (.tup (vi c)) ∧ Chg n c ∧ n ≤ 16 ∧ H l = some (.lst (bs.map V.ref)) ∧ TpP H bs cs ∧ (∀ e ∈ cs, Chg n e) ∧ ∀ H', Same H H' → Q (.bl (cs.all (cmB c))) H'
theorem sc25 : FnScope ["change", "others", "other"] ["change", "others"] (defScope (top 24)) := ⟨rfl, rfl, rfl, by decide +kernel, rfl, by decide +kernel, by decide +kernel⟩
theorem ok_cwa {f : Addr} {fd : FuncData} (CC : Cal P w K mg base CX0 2 "commute" ["one", "other"] spCm) (F : Fun K "commute_with_all" "commute_with_all" (top 24) f fd) : FnOk P w K mg base CX0 3 f fd ["change", "others"] spCwa := by
  refine F.ok sc25 (fun vs H Q E h => ?_) (fun cdv A outer s H vs Q E hr h => ⟨_,
    (pss_cons (ps_for PassesOwn.never rfl (pi_list (pv 1)) (pg_name (i := 2) sc25.nd rfl (.inl rfl)) (pss_one (ps_if (pt_not (pt_val (by exact (pe_cal (X := L2.Cx.nox _) CC hr (by decide) (pa_cons (pv 0) (pa_cons (pv 2) pa_nil)))))) (pss_one (ps_ret pe_bl)) pss_nil)))
    (pss_one (ps_ret pe_bl))), ?_⟩)
  · obtain ⟨a, l, n, c, bs, cs, rfl, _⟩ := h
    rfl
  obtain ⟨a, l, n, c, bs, cs, rfl, ha, hc, n16, hl, hp, he, q⟩ := h
  refine sq_cut (fun σ H' => (∃ v2 : Option V, σ = [some (.ref a), some (.ref l), v2]) ∧ Same H H' ∧ cs.all (cmB c) = true) (fun Z hZ => ?_) ?_
  · refine ⟨_, rfl, l, rfl, ⟨_, SqL.of hl⟩, for_list (xs := bs.map V.ref) (fun i σ H' => (∃ v2 : Option V, σ = [some (.ref a), some (.ref l), v2]) ∧ Same H H' ∧ (cs.take i).all (cmB c) = true) ⟨⟨_, rfl⟩, Same.refl H, rfl⟩ (fun i σ H' _ p => SqL.of (p.2.1 _ _ hl)) ?_ ?_⟩
    · rintro i x σ G hx ⟨⟨v2, rfl⟩, s1, al⟩
      obtain ⟨b, hb, rfl⟩ := ref_at hx
      obtain ⟨e, hei, hbe⟩ := paired_at hp hb
      dsimp only [gName]
      refine ⟨_, rfl, _, rfl, a, b, n, c, e, rfl, s1 _ _ ha, s1 _ _ hbe, hc, he e (List.mem_of_getElem? hei), n16, fun G2 s2 => ⟨_, rfl, ?_⟩⟩
      cases z : cmB c e with
      | true =>
        refine iteN (by simp) ⟨⟨_, rfl⟩, s1.trans s2, ?_⟩
        rw [List.take_succ, hei, List.all_append, al]
        simp [z]
      | false =>
        refine iteP (by simp) ?_
        have : cs.all (cmB c) = false := List.all_eq_false.mpr ⟨e, List.mem_of_getElem? hei, by simp [z]⟩
        have q' := q _ (s1.trans s2)
        rw [this] at q'
        exact q'
    · rintro σ G ⟨hσ, s1, al⟩
      rw [List.length_map, paired_len hp, List.take_length] at al
      exact hZ _ _ ⟨hσ, s1, al⟩
  rintro σ G ⟨⟨v2, rfl⟩, s1, al⟩
  have q' := q _ s1
  rw [al] at q'
  exact q'
def spAc : Sp := fun vs H Q _ => ∃ (k l : Addr) (n : Nat) (ks : List Addr) (ds : List (List Nat)) (bs : List Addr) (cs : List (List Nat)), vs = [.ref k, .ref l] ∧ H k = some (.lst (ks.map V.ref)) ∧ TpP H ks ds ∧ (∀ e ∈ ds, Chg n e) ∧ n ≤ 16 ∧ H l = some (.lst (bs.map V.ref)) ∧ TpP H bs cs ∧ (∀ e ∈ cs, Chg n e) ∧ ∀ H', Same H H' → Q (.bl (ds.all fun d => cs.all (cmB d))) H'
theorem sc26 : FnScope ["some", "others", "change"] ["some", "others"] (defScope (top 25)) := ⟨rfl, rfl, rfl, by decide +kernel, rfl, by decide +kernel, by decide +kernel⟩
theorem ok_ac {f : Addr} {fd : FuncData} (CC : Cal P w K mg base CX0 3 "commute_with_all" ["change", "others"] spCwa) (F : Fun K "all_commute" "all_commute" (top 25) f fd) : FnOk P w K mg base CX0 4 f fd ["some", "others"] spAc := by
  refine F.ok sc26 (fun vs H Q E h => ?_) (fun cdv A outer s H vs Q E hr h => ⟨_,
    (pss_cons (ps_for PassesOwn.never rfl (pi_list (pv 0)) (pg_name (i := 2) sc26.nd rfl (.inl rfl)) (pss_one (ps_if (pt_not (pt_val (by exact (pe_cal (X := L2.Cx.nox _) CC hr (by decide) (pa_cons (pv 2) (pa_cons (pv 1) pa_nil)))))) (pss_one (ps_ret pe_bl)) pss_nil)))
    (pss_one (ps_ret pe_bl))), ?_⟩)
  · obtain ⟨k, l, n, ks, ds, bs, cs, rfl, _⟩ := h
    rfl
  obtain ⟨k, l, n, ks, ds, bs, cs, rfl, hk, hd, hde, n16, hl, hp, he, q⟩ := h
  refine sq_cut (fun σ H' => (∃ v2 : Option V, σ = [some (.ref k), some (.ref l), v2]) ∧ Same H H' ∧ (ds.all fun d => cs.all (cmB d)) = true) (fun Z hZ => ?_) ?_
  · refine ⟨_, rfl, k, rfl, ⟨_, SqL.of hk⟩, for_list (xs := ks.map V.ref) (fun i σ H' => (∃ v2 : Option V, σ = [some (.ref k), some (.ref l), v2]) ∧ Same H H' ∧ ((ds.take i).all fun d => cs.all (cmB d)) = true) ⟨⟨_, rfl⟩, Same.refl H, rfl⟩ (fun i σ H' _ p => SqL.of (p.2.1 _ _ hk)) ?_ ?_⟩
    · rintro i x σ G hx ⟨⟨v2, rfl⟩, s1, al⟩
      obtain ⟨b, hb, rfl⟩ := ref_at hx
      obtain ⟨e, hei, hbe⟩ := paired_at hd hb
      dsimp only [gName]
      refine ⟨_, rfl, _, rfl, b, l, n, e, bs, cs, rfl, s1 _ _ hbe, hde e (List.mem_of_getElem? hei), n16, s1 _ _ hl, hp.same s1, he, fun G2 s2 => ⟨_, rfl, ?_⟩⟩
      cases z : cs.all (cmB e) with
      | true =>
        refine iteN (by simp) ⟨⟨_, rfl⟩, s1.trans s2, ?_⟩
        rw [List.take_succ, hei, List.all_append, al]
        simp [z]
      | false =>
        refine iteP (by simp) ?_
        have : (ds.all fun d => cs.all (cmB d)) = false := List.all_eq_false.mpr ⟨e, List.mem_of_getElem? hei, by simp [z]⟩
        have q' := q _ (s1.trans s2)
        rw [this] at q'
        exact q'
    · rintro σ G ⟨hσ, s1, al⟩
      rw [List.length_map, paired_len hd, List.take_length] at al
      exact hZ _ _ ⟨hσ, s1, al⟩
  rintro σ G ⟨⟨v2, rfl⟩, s1, al⟩
  have q' := q _ s1
  rw [al] at q'
  exact q'
end
end KV

/-! the program: is_change, checked_change -/
namespace KV
open PySem PySem.Spec PyProof.Rows L2 KC
section
variable {P : Program} {w : World} {K : PySem.W.Frag} {mg : Str → Option Value} {base : Heap} {C fI : Addr}
end
end KV

/-! the program: rows_by_change, checked_known, changes, row_for, orders, middle -/
namespace KV
open PySem PySem.Spec PyProof.Rows L2 KC
theorem isCh_vi {n : Nat} {c : List Nat} (h : Chg n c) (h1 : 0 < n) : isCh (n : Int) (some (vi c)) = true := by
  have l : (vi c).length = n := by rw [show (vi c).length = c.length from List.length_map .., h.len]
  show (decide (((vi c).length : Int) = (n : Int)) && chB (vi c)) = true
  unfold chB
  rw [l, decide_eq_true rfl, decide_eq_true (show 1 ≤ n from h1), Bool.true_and, Bool.true_and, Bool.and_eq_true]
  refine ⟨List.all_eq_true.mpr fun x hx => ?_, decide_eq_true ?_⟩
  · obtain ⟨m, hm, rfl⟩ := List.mem_map.mp hx
    have := h.lt m hm
    show (decide ((0 : Int) ≤ (m : Int)) && decide ((m : Int) < (n : Int))) = true
    rw [decide_eq_true (by omega), decide_eq_true (by omega), Bool.true_and]
  · unfold List.Nodup vi
    rw [List.pairwise_map]
    exact h.nd.imp fun z e => z (by injection e with e; exact_mod_cast e)
theorem isCh_some {n : Nat} {xs : List V} (h : isCh (n : Int) (some xs) = true) : ∃ c, xs = vi c ∧ Chg n c := by
  have h : (decide ((xs.length : Int) = (n : Int)) && chB xs) = true := h
  unfold chB at h
  rw [Bool.and_eq_true, Bool.and_eq_true, Bool.and_eq_true] at h
  obtain ⟨h1, h2, h3, h4⟩ := h
  have h1 := of_decide_eq_true h1
  have h4 := of_decide_eq_true h4
  obtain ⟨ns, rfl⟩ := ints_bel h3
  rw [h1] at h3
  have hb : ∀ i ∈ ns, 0 ≤ i ∧ i < (n : Int) := fun i hi => by
    have z := List.all_eq_true.mp h3 (V.int i) (List.mem_map.mpr ⟨i, hi, rfl⟩)
    have z : (decide (0 ≤ i) && decide (i < (n : Int))) = true := z
    rw [Bool.and_eq_true] at z
    exact ⟨of_decide_eq_true z.1, of_decide_eq_true z.2⟩
  have e : ns.map V.int = vi (ns.map Int.toNat) := by
    unfold vi
    rw [List.map_map]
    refine List.map_congr_left fun i hi => ?_
    show V.int i = V.int ((i.toNat : Nat) : Int)
    rw [Int.toNat_of_nonneg (hb i hi).1]
  refine ⟨_, e, by rw [List.length_map] at h1 ⊢; exact_mod_cast h1, fun x hx => ?_, ?_⟩
  · obtain ⟨i, hi, rfl⟩ := List.mem_map.mp hx
    have := hb i hi
    omega
  · unfold List.Nodup
    rw [List.pairwise_map]
    refine (nodup_ints.mp h4).imp_of_mem fun {a b} ha hb' ne e => ne ?_
    have := hb a ha
    have := hb b hb'
    omega
theorem mc_gens {K : PySem.W.Frag} {Cm : Addr} {H H' : Hp} {x l : Addr} {n : Nat} {cs : List (List Nat)} {bs : List Addr} (M : Mc K Cm H x n cs) (n0 : 0 < n) (c0 : 0 < cs.length) (e : H' l = some (.lst (bs.map V.ref))) (t : TpP H' bs cs) : Gens H' l n bs cs := ⟨e, t, M.chg, n0, c0⟩
/-- a machine that is asked: its sizes -/
structure McS (K : PySem.W.Frag) (Cm : Addr) (H : Hp) (x : Addr) (n : Nat) (cs : List (List Nat)) : Prop where
  m : Mc K Cm H x n cs
  n16 : n ≤ 16
  c5 : cs.length ≤ 5
  n0 : 0 < n
  c0 : 0 < cs.length
theorem McS.same {K : PySem.W.Frag} {Cm : Addr} {H H' : Hp} {x : Addr} {n : Nat} {cs : List (List Nat)} (h : McS K Cm H x n cs) (s : Same H H') : McS K Cm H' x n cs := ⟨h.m.same s, h.n16, h.c5, h.n0, h.c0⟩
section
variable {P : Program} {w : World} {K : PySem.W.Frag} {mg : Str → Option Value} {base : Heap} {C CR fI : Addr}
def spRbc (K : PySem.W.Frag) (Cm CR : Addr) : Sp := fun vs H Q E => ∃ (x : Addr) (n : Nat) (cs : List (List Nat)), vs = [.ref x] ∧ McS K Cm H x n cs ∧ (¬ Sz n cs 400 → BadN CR 0 H E) ∧
  (Sz n cs 400 → ∀ (D : Addr) (k : Nat) (kvs : List (List L2.Key × V)) (H' : Hp), Same H H' → H' D = some (.dT kvs) → (grow n cs k).length ≤ k → RowD H' kvs (grow n cs k) → Q (.ref D) H')
theorem sc30 : FnScope ["machine"] ["machine"] (defScope (top 31)) := ⟨rfl, rfl, rfl, by decide +kernel, rfl, by decide +kernel, by decide +kernel⟩
theorem ok_rbc {f : Addr} {fd : FuncData} {Cm : Addr} (CC : Cal P w K mg base CX0 1 "command_changes" ["machine"] (spCc Cm K)) (CR' : Cal P w K mg base (L2.CX P w) 3 "reached" ["states", "makers"] (spReach CR)) (F : Fun K "rows_by_change" "rows_by_change" (top 31) f fd) : FnOk P w K mg base (L2.CX P w) 4 f fd ["machine"] (spRbc K Cm CR) := by
  refine F.okX sc30 (fun vs H Q E h => ?_) (fun cdv A outer s H vs Q E hr h => ⟨_,
    (pss_one (ps_ret (by exact (pe_calX CR' hr (by decide) (takes_of rfl rfl rfl rfl) (fun _ _ _ _ z => z) (pa_cons (pe_fld (pv 0) (by rfl)) (pa_cons (pe_cal CC hr (by decide) (pa_cons (pv 0) pa_nil)) pa_nil)))))), ?_⟩)
  · obtain ⟨x, n, cs, rfl, _⟩ := h
    rfl
  obtain ⟨x, n, cs, rfl, M, q0, q⟩ := h
  obtain ⟨dx, t, ts, h1, h2, h3, h4⟩ := M.m.ex
  refine ⟨_, rfl, x, Cm, dx, _, _, rfl, h1, M.m.cl, M.m.na2, rfl, _, rfl, x, n, cs, rfl, M.m, M.n16, M.c5, fun l bs H1 s1 _ e1 tp => ?_⟩
  exact ⟨l, n, bs, cs, rfl, (mc_gens M.m M.n0 M.c0 e1 tp).e, M.n16, Nat.le_trans M.c5 (by decide), fun z => (q0 z).same s1, fun z D k kvs H' s2 e2 gk rd => q z D k kvs H' (s1.trans s2) e2 gk rd⟩
/-- the value is one of the changes -/
def Kn (ms : Option (List V)) (fs : Fs) : Prop := ∃ c ∈ keysF fs, ms = some (vi c)
def spCkn (K : PySem.W.Frag) (Cm C : Addr) : Sp := fun vs H Q E => ∃ (x D : Addr) (n : Nat) (cs : List (List Nat)) (v : V) (ms : Option (List V)) (kvs : List (List L2.Key × V)) (fs : Fs), vs = [.ref x, .ref D, v] ∧ McS K Cm H x n cs ∧ H D = some (.dT kvs) ∧ KF kvs fs ∧ (∀ g ∈ keysF fs, Chg n g) ∧ ValT K H v ms ∧
  (Kn ms fs → ∀ H', Same H H' → Q v H') ∧ (¬ Kn ms fs → Bad C H E)
def spChs (K : PySem.W.Frag) (Cm CR : Addr) : Sp := fun vs H Q E => ∃ (x : Addr) (n : Nat) (cs : List (List Nat)), vs = [.ref x] ∧ McS K Cm H x n cs ∧ (¬ Sz n cs 400 → BadN CR 0 H E) ∧
  (Sz n cs 400 → ∀ (t : Addr) (ds : List Addr) (L : List (List Nat)) (H' : Hp), Same H H' → H t = none → H' t = some (.tup (ds.map V.ref)) → TpP H' ds L → Lot n cs L → Q (.ref t) H')
theorem sc32 : FnScope ["machine"] ["machine"] (defScope (top 32)) := ⟨rfl, rfl, rfl, by decide +kernel, rfl, by decide +kernel, by decide +kernel⟩
theorem ok_ch {f : Addr} {fd : FuncData} {Cm : Addr} (B : Bl mg) (CB : Cal P w K mg base (L2.CX P w) 4 "rows_by_change" ["machine"] (spRbc K Cm CR)) (F : Fun K "changes" "changes" (top 32) f fd) : FnOk P w K mg base (L2.CX P w) 5 f fd ["machine"] (spChs K Cm CR) := by
  refine F.okX sc32 (fun vs H Q E h => ?_) (fun cdv A outer s H vs Q E hr h => ⟨_,
    (pss_one (ps_ret (pe_callTy call_tuple_of (by rfl) B.tuple (by decide +kernel) (pa_cons (pe_callB (cr_sortedDS rfl hr.units) (by rfl) B.sorted (by decide +kernel) (pa_cons (by exact (pe_calX CB hr (by decide) (takes_of rfl rfl rfl rfl) (fun _ _ _ _ z => z) (pa_cons (pv 0) pa_nil))) pa_nil)) pa_nil)))), ?_⟩)
  · obtain ⟨x, n, cs, rfl, _⟩ := h
    rfl
  obtain ⟨x, n, cs, rfl, M, q0, q⟩ := h
  refine ⟨_, rfl, x, n, cs, rfl, M, q0, fun sz D k kvs H1 s1 hD gk rd => ?_⟩
  refine ⟨D, kvs, n, (n : Int), rfl, hD, by rw [rd.kf.len]; exact Nat.le_trans sz.grow (by decide), M.n0, fun p hp => ?_, fun bs cs' p ik pe pw hp => ?_⟩
  · obtain ⟨c, hm, e⟩ := rd.kf.mem hp
    have hc := (grow_reach hm).chg M.m.chg
    refine ⟨zi c, by rw [e, kc_zi], by unfold zi; rw [List.length_map]; exact hc.len, fun m hm => ?_⟩
    obtain ⟨x, hx, rfl⟩ := List.mem_map.mp hm
    have := hc.lt x hx
    omega
  · obtain ⟨G, g1, g2⟩ := paired_perm pe (keys_perm ik rd.kf)
    refine ⟨p, _, rfl, .inl ⟨SqL.of upd_same, fun t ht => ?_⟩⟩
    have s2 := (Same.new (o := .lst (cs'.map V.ref)) hp).trans (Same.new (o := .tup (cs'.map V.ref)) ht)
    exact q sz t cs' G _ (s1.trans s2) (s1.free ((Same.new hp).free ht)) upd_same (TpP.same g2 s2) ⟨zs_sorted g2 pw, g1.nodup_iff.mpr (grow_gd k).nd, fun g => by rw [g1.mem_iff]; exact ⟨fun z => grow_reach z, fun z => grow_all gk z⟩⟩
/-- the row that is told of a change -/
def FstRow (n : Nat) (cs : List (List Nat)) (g r : List Nat) : Prop := ∃ k, (grow n cs k).length ≤ k ∧ (g, r) ∈ grow n cs k
def spRow (K : PySem.W.Frag) (Cm C CR : Addr) : Sp := fun vs H Q E => ∃ (x : Addr) (n : Nat) (cs : List (List Nat)) (v : V) (ms : Option (List V)), vs = [.ref x, v] ∧ McS K Cm H x n cs ∧ ValT K H v ms ∧ (¬ Sz n cs 400 → BadN CR 0 H E) ∧
  (Sz n cs 400 → (∀ g r, ms = some (vi g) → FstRow n cs g r → ∀ (t : Addr) (H' : Hp), Same H H' → H' t = some (.tup (vi r)) → Q (.ref t) H') ∧ ((¬ ∃ g, ms = some (vi g) ∧ Rch n cs g) → Bad C H E))
def spOrds (K : PySem.W.Frag) (Cm CR : Addr) : Sp := fun vs H Q E => ∃ (x : Addr) (n : Nat) (cs : List (List Nat)), vs = [.ref x] ∧ McS K Cm H x n cs ∧ (¬ Sz n cs 400 → BadN CR 0 H E) ∧
  (Sz n cs 400 → ∀ (o : Nat) (L : List (List Nat)) (H' : Hp), Same H H' → Lot n cs L → OrdAll n L o → o ∣ fac n → Q (.int (o : Int)) H')
def spMid (K : PySem.W.Frag) (Cm CR : Addr) : Sp := fun vs H Q E => ∃ (x : Addr) (n : Nat) (cs : List (List Nat)), vs = [.ref x] ∧ McS K Cm H x n cs ∧ (¬ Sz n cs 400 → BadN CR 0 H E) ∧
  (Sz n cs 400 → ∀ (t : Addr) (ds : List Addr) (L : List (List Nat)) (H' : Hp), Same H H' → H t = none → H' t = some (.tup (ds.map V.ref)) → TpP H' ds (L.filter fun c => cs.all (cmB c)) → Lot n cs L → Q (.ref t) H')
theorem sc35 : FnScope ["machine", "makers", "change"] ["machine"] (defScope (top 33)) := ⟨rfl, rfl, rfl, by decide +kernel, rfl, by decide +kernel, by decide +kernel⟩
theorem ok_mid {f : Addr} {fd : FuncData} {Cm : Addr} (B : Bl mg) (CC : Cal P w K mg base CX0 1 "command_changes" ["machine"] (spCc Cm K)) (CH : Cal P w K mg base (L2.CX P w) 5 "changes" ["machine"] (spChs K Cm CR)) (CW : Cal P w K mg base CX0 3 "commute_with_all" ["change", "others"] spCwa) (F : Fun K "middle" "middle" (top 33) f fd) :
    FnOk P w K mg base (L2.CX P w) 6 f fd ["machine"] (spMid K Cm CR) := by
  refine F.okX sc35 (fun vs H Q E h => ?_) (fun cdv A outer s H vs Q E hr h => ⟨_,
    (pss_cons (ps_set (i := 1) sc35.nd rfl (.inr rfl) (by exact (pe_cal CC hr (by decide) (pa_cons (pv 0) pa_nil))))
    (pss_one (ps_ret (pe_callTy call_tuple_of (by rfl) B.tuple (by decide +kernel) (pa_cons (pe_lc (own := [("change", 2)]) (g := gName 2) rfl sc35.nd (pi_tup (by exact (pe_calX CH hr (by decide) (takes_of rfl rfl rfl rfl) (fun _ _ _ _ z => z) (pa_cons (pv 0) pa_nil)))) (blkOk_by (N := ["machine", "makers", "change"]) (sc := defScope (top 33)) (by decide +kernel))
        (fun _ _ _ _ _ => (pg_name (i := 2) sc35.nd rfl (Or.inl rfl))) (fun _ _ _ _ _ => pts_one (pt_val (pe_cal CW hr (by decide) (pa_cons (pv 2) (pa_cons (pv 1) pa_nil))))) (fun _ _ _ _ _ => (pv 2))) pa_nil))))), ?_⟩)
  · obtain ⟨x, n, cs, rfl, _⟩ := h
    rfl
  obtain ⟨x, n, cs, rfl, M, q0, q⟩ := h
  refine ⟨_, rfl, x, n, cs, rfl, M.m, M.n16, M.c5, fun l bs H1 s1 _ e1 tpl => ?_⟩
  dsimp only [gName]
  refine ⟨_, rfl, x, n, cs, rfl, M.same s1, fun z => (q0 z).same s1, fun sz t ds L H2 s2 _ e2 tp lt => ?_⟩
  refine ⟨t, rfl, ⟨_, SqT.of e2⟩, fun D hD => lc_tup (xs := ds.map V.ref) (fun i H' => Same H2 H' ∧ ∃ fs : List Addr, H' D = some (.lst (fs.map V.ref)) ∧ TpP H' fs ((L.take i).filter fun c => cs.all (cmB c))) ⟨Same.mk1 hD, [], upd_same, .nil⟩ (fun i H' _ p => SqT.of (p.1 _ _ e2)) ?_ ?_⟩
  · rintro i y H' hy ⟨p1, fs, p2, p3⟩
    obtain ⟨b, hb, rfl⟩ := ref_at hy
    obtain ⟨c, hc, hb2⟩ := paired_at tp hb
    have hcc := ((lt.all c).mp (List.mem_of_getElem? hc)).chg M.m.chg
    have tk : L.take (i + 1) = L.take i ++ [c] := tk_at hc
    refine ⟨rfl, _, rfl, _, rfl, b, l, n, c, bs, cs, rfl, p1 _ _ hb2, hcc, M.n16, p1 _ _ (s2 _ _ e1), (tpl.same s2).same p1, M.m.chg, fun H3 s3 => ⟨_, rfl, ?_⟩⟩
    cases ec : cs.all (cmB c) with
    | false =>
      refine iteF ⟨p1.trans s3, fs, s3 _ _ p2, ?_⟩
      rw [tk, List.filter_append, List.filter_cons_of_neg (by rw [ec]; exact Bool.false_ne_true), List.filter_nil, List.append_nil]
      exact p3.same s3
    | true =>
      have lf : fs.length ≤ i := by
        rw [paired_len p3]
        exact Nat.le_trans (List.length_filter_le _ _) (by rw [List.length_take]; exact Nat.min_le_left _ _)
      have li : i < 400 := by
        have := (List.getElem?_eq_some_iff.mp hc).1
        have := lt.len sz
        omega
      refine iteT ⟨_, rfl, _, s3 _ _ p2, len_lt2 (by rw [List.length_map]; omega), Same.upd (p1.trans s3) hD, fs ++ [b], by rw [upd_same, List.map_append]; rfl, ?_⟩
      have nt : ∀ xs, H3 D ≠ some (.tup xs) := fun xs z => by rw [s3 _ _ p2] at z; cases z
      rw [tk, List.filter_append, List.filter_cons_of_pos (by exact ec), List.filter_nil]
      exact tpp_snoc ((p3.same s3).upd nt) (by rw [upd_ne (fun z => nt _ (by rw [← z]; exact s3 _ _ (p1 _ _ hb2)))]; exact s3 _ _ (p1 _ _ hb2))
  · rintro H' ⟨p1, fs, p2, p3⟩
    rw [List.length_map, paired_len tp, List.take_length] at p3
    exact ⟨D, _, rfl, .inl ⟨SqL.of p2, fun t' ht => q sz t' fs L _ ((s1.trans s2).trans (p1.trans (Same.new ht))) ((s1.trans s2).free (p1.free ht)) upd_same (p3.same (Same.new ht)) lt⟩⟩
end
end KV

/-! the table: fault, splits -/
namespace KV
open PySem PySem.Spec PyProof.Rows L2 KC
/-- the count is a batch number -/
def Bt (n : Nat) (cs : List (List Nat)) (k : Int) : Prop := ∀ g e, Rch n cs g → Rch n cs e → pw n (comp g e) k = comp (pw n g k) (pw n e k)
section
variable {n : Nat} {cs : List (List Nat)} {fs : Fs} {k : Int}
theorem mk_rch (hc : ∀ c ∈ cs, Chg n c) {j : Nat} (hj : j < cs.length) : Rch n cs (cs.getD j []) := by
  have := (Rch.one (n := n) (cs := cs)).step hj
  rwa [idle_comp (by rw [cs_at hj]; exact hc _ (List.getElem_mem _))] at this
theorem Bt.of (hc : ∀ c ∈ cs, Chg n c) (h : ∀ j < cs.length, ∀ g, Rch n cs g → pw n (comp g (cs.getD j [])) k = comp (pw n g k) (pw n (cs.getD j []) k)) : Bt n cs k := fun g e hg he => all_pairs hc (fun g hg j hj => h j hj g hg) he g hg
theorem pwsK_at (C : Cl n cs fs) {g : List Nat} (h : Rch n cs g) (k : Int) : (pwsK n fs k)[ixF fs g]? = some (ixF fs (pw n g k)) := by
  unfold pwsK
  rw [List.getElem?_map, C.ix h]
  rfl
end
section
variable {P : Program} {w : World} {K : PySem.W.Frag} {mg : Str → Option Value} {base : Heap} {Ct : Addr}
def spTF (Ct : Addr) : Sp := fun vs H Q _ => ∃ (x : Addr) (k : Int) (n : Nat) (cs : List (List Nat)) (fs : Fs), vs = [.ref x, .int k] ∧ T1 Ct H x n cs fs ∧ sm 400 k ∧ (Bt n cs k → ∀ H', Same H H' → Q .non H') ∧
  ∀ (i j : Nat) (g : List Nat), (keysF fs)[i]? = some g → j < cs.length → pw n (comp g (cs.getD j [])) k ≠ comp (pw n g k) (pw n (cs.getD j []) k) → ∀ (t : Addr) (H' : Hp), Same H H' → H' t = some (.tup [.int (i : Int), .int (j : Int)]) → Q (.ref t) H'
theorem st8 : FnScope ["self", "count", "powers", "index", "step", "last", "together", "apart", "at"] ["self", "count"] (defScope (mth 36 8)) := ⟨rfl, rfl, rfl, by decide +kernel, rfl, by decide +kernel, by decide +kernel⟩
set_option maxHeartbeats 4000000 in
theorem ok_tfa {f : Addr} {fd : FuncData} (B : Bl mg) (TC : TCf K Ct) (CP : MetC P w K mg base CX0 Ct 1 "powers" ["self", "count"] (spTP Ct)) (CAF : MetC P w K mg base CX0 Ct 1 "_all_followed_by" ["self", "number"] (spAfb Ct)) (CU : Cal P w K mg base CX0 1 "first_unlike" ["one", "other"] spUnl)
    (F : Fun K "fault" "Table.fault" (mth 36 8) f fd) : FnOk P w K mg base CX0 2 f fd ["self", "count"] (spTF Ct) := by
  refine F.ok st8 (fun vs H Q E h => ?_) (fun cdv A outer s H vs Q E hr h => ⟨_,
    (pss_cons (ps_set (i := 2) st8.nd rfl (.inr rfl) (by exact (pe_mt CP TC.cl hr (by decide) (pv 0) (pa_cons (pv 1) pa_nil))))
    (pss_cons (ps_for PassesOwn.never rfl (pi_enum (by rfl) B.enumerate (pa_cons (pe_fld (pv 0) (by rfl)) pa_nil)) (pg_tup rfl (pgs_cons (pg_name (i := 3) st8.nd rfl (.inl rfl)) (pgs_cons (pg_name (i := 4) st8.nd rfl (.inl rfl)) pgs_nil))) (pss_cons (ps_set (i := 5) st8.nd rfl (.inr rfl) (by exact (pe_mt CAF TC.cl hr (by decide) (pv 0) (pa_cons (pe_ix ix_list (pv 2) (pe_ix ix_list (pv 4) pe_int (fun _ _ => rfl)) (fun _ _ => rfl)) pa_nil))))
    (pss_cons (ps_setLc (i := 6) (own := [("at", 8)]) (g := gName 8) (tt := tYes) rfl st8.nd rfl rfl (sw_true rfl rfl rfl (by decide +kernel)) (pi_list (pv 4)) (blkOk_by (N := ["self", "count", "powers", "index", "step", "last", "together", "apart", "at"]) (sc := defScope (mth 36 8)) (by decide +kernel))
        (fun _ _ _ _ _ => (pg_name (i := 8) st8.nd rfl (Or.inl rfl))) (fun _ _ _ _ _ => pts_nil) (fun _ _ _ _ _ => (pe_ix (r := rIxL K) ix_list (pv 2) (pv 8) (fun _ _ => rfl))))
    (pss_cons (ps_setLc (i := 7) (own := [("at", 8)]) (g := gName 8) (tt := tYes) rfl st8.nd rfl rfl (sw_true rfl rfl rfl (by decide +kernel)) (pi_list (pv 2)) (blkOk_by (N := ["self", "count", "powers", "index", "step", "last", "together", "apart", "at"]) (sc := defScope (mth 36 8)) (by decide +kernel))
        (fun _ _ _ _ _ => (pg_name (i := 8) st8.nd rfl (Or.inl rfl))) (fun _ _ _ _ _ => pts_nil) (fun _ _ _ _ _ => (pe_ix (r := rIxL K) ix_list (pv 5) (pv 8) (fun _ _ => rfl))))
    (pss_one (ps_if (pt_cmpR (op_neD hr.units) (pv 6) (pv 7) (nomark _)) (pss_one (ps_ret (pe_tup (pa_cons (by exact (pe_cal (X := L2.Cx.nox _) CU hr (by decide) (pa_cons (pv 6) (pa_cons (pv 7) pa_nil)))) (pa_cons (pv 3) pa_nil))))) pss_nil))))))
    (pss_one (ps_ret pe_non)))), ?_⟩)
  · obtain ⟨x, k, n, cs, fs, rfl, _⟩ := h
    rfl
  obtain ⟨x, k, n, cs, fs, rfl, T, sk, q1, q2⟩ := h
  obtain ⟨dx, ah, rl, fl, hs, rs, h1, h2, h3, h4, h5, h6, h7⟩ := T.t.ex
  have C := T.t.c
  have hc := T.t.hc
  have l4 := T.t.l4
  have c5 := T.t.c5
  refine ⟨_, rfl, x, dx, fl, rfl, h1, h2.m _ (by decide), _, rfl, x, k, n, cs, fs, rfl, T, sk, fun pl H1 s1 hpl => ?_⟩
  dsimp only [gName, tSeq]
  refine for_enF (r := ah) (es := hs.map V.ref) (fun Q q => by exact ⟨_, rfl, x, Ct, dx, fl, _, rfl, s1 _ _ h1, TC.cl, TC.n3, h2.a, q⟩) (SqL.of (s1 _ _ h3)) (fun i σ H' => Same H H' ∧ H' pl = some (.lst (vi (pwsK n fs k))) ∧ (∃ (u3 u4 u5 u6 u7 : Option V), σ = [some (.ref x), some (.int k), some (.ref pl), u3, u4, u5, u6, u7, none]) ∧ ∀ j < i, ∀ g, Rch n cs g → pw n (comp g (cs.getD j [])) k = comp (pw n g k) (pw n (cs.getD j []) k))
    ⟨s1, hpl, ⟨_, _, _, _, _, rfl⟩, fun j hj => absurd hj (Nat.not_lt_zero j)⟩ (fun i σ H' z => SqL.of (z.1 _ _ h3)) ?_ ?_
  · rintro j y σ G Tt hy ⟨sG, hp, ⟨u3, u4, u5, u6, u7, rfl⟩, hlo⟩ hT
    obtain ⟨b, hb, rfl⟩ := ref_at hy
    have jl : j < cs.length := by have := (List.getElem?_eq_some_iff.mp hb).1; omega
    have sT := Same.new (o := .tup [V.int (j : Int), V.ref b]) hT
    refine ⟨Tt, _, rfl, SqT.of upd_same, rfl, _, _, rfl, _, _, rfl, rfl, ?_⟩
    have s2 := sG.trans sT
    have hp2 := sT _ _ hp
    generalize upd G Tt (.tup [V.int (j : Int), V.ref b]) = G1 at s2 hp2
    clear sT hT hp sG
    dsimp only [gName, gNil]
    have eR := mk_rch hc jl
    generalize he : cs.getD j [] = e at eR hlo
    have ec := eR.chg hc
    have b2 := s2 _ _ (h5 j b hb)
    have st0 : (stp fs cs j)[0]? = some (ixF fs e) := by
      have := C.stp Rch.one j
      rwa [C.one, he, idle_comp ec] at this
    refine ⟨_, rfl, x, dx, fl, rfl, s2 _ _ h1, h2.m _ (by decide), _, rfl, _, rfl, b, _, _, _, rfl, rfl, SqL.of b2, atI_nat (j := 0) (vi_get st0), pl, _, _, _, rfl, rfl, SqL.of hp2, atI_nat (vi_get (pwsK_at C eR k)), ?_⟩
    refine ⟨x, n, cs, fs, pw n e k, rfl, T.t.same s2, eR.pwz hc k, fun la G2 s3 hla => ?_⟩
    have s4 := s2.trans s3
    have hp3 := s3 _ _ hp2
    have b3 := s3 _ _ b2
    clear s3 s2 b2 hp2
    dsimp only [gName]
    have eK : ∀ {i : Nat} {L : List Nat} {f : List Nat → Nat} {m : Nat}, ((keysF fs).map f)[i]? = some m → ∃ g, (keysF fs)[i]? = some g ∧ Rch n cs g ∧ m = f g ∧ i < fs.length := fun {i L f m} h => by
      rw [List.getElem?_map] at h
      cases w : (keysF fs)[i]? with
      | none => rw [w] at h; cases h
      | some g =>
        rw [w] at h
        have := (List.getElem?_eq_some_iff.mp w).1
        rw [keysF_len] at this
        exact ⟨g, rfl, C.rch w, (Option.some.inj h).symm, this⟩
    have lk : ∀ f : List Nat → Nat, ((keysF fs).map f).length = fs.length := fun f => by rw [List.length_map, keysF_len]
    have lt : ∀ (f : List Nat → Nat) (i : Nat), (vi (((keysF fs).map f).take i)).length ≤ 400 := fun f i => by
      rw [show (vi (((keysF fs).map f).take i)).length = (((keysF fs).map f).take i).length from List.length_map .., List.length_take, lk]
      omega
    refine ⟨_, rfl, b, rfl, ⟨_, SqL.of b3⟩, fun D hD => lc_list (xs := vi (stp fs cs j)) (fun i H' => Same G2 H' ∧ H' D = some (.lst (vi (((keysF fs).map fun g => ixF fs (pw n (comp g e) k)).take i)))) ⟨Same.new hD, by rw [List.take_zero]; exact upd_same⟩ (fun i H' _ z => SqL.of (z.1 _ _ b3)) ?_ ?_⟩
    · rintro i y H' hy ⟨p1, p2⟩
      obtain ⟨m, hm, rfl⟩ := vi_at hy
      obtain ⟨g, hg, rg, rfl, il⟩ := eK (L := []) hm
      rw [he]
      refine ⟨rfl, _, rfl, _, rfl, pl, _, _, _, rfl, rfl, SqL.of (p1 _ _ hp3), atI_nat (vi_get (pwsK_at C (rg.mul hc eR) k)), _, p2, len_lt (Nat.le_trans (lt _ _) (show 400 ≤ 1000 by decide)), Same.upd p1 hD, ?_⟩
      rw [upd_same, take_at3 (l := (keysF fs).map fun g => ixF fs (pw n (comp g e) k)) (by rw [List.getElem?_map, hg]; rfl)]
      simp [vi]
    rintro G3 ⟨p1, p2⟩
    rw [show (vi (stp fs cs j)).length = ((keysF fs).map fun g => ixF fs (pw n (comp g e) k)).length from by rw [show (vi (stp fs cs j)).length = (stp fs cs j).length from List.length_map .., lk]; exact lk _, List.take_length] at p2
    have s5 := s4.trans p1
    have hp4 := p1 _ _ hp3
    have la4 := p1 _ _ hla
    clear p1 s4 hp3 b3 hla
    dsimp only [gName]
    refine ⟨_, rfl, pl, rfl, ⟨_, SqL.of hp4⟩, fun D2 hD2 => lc_list (xs := vi (pwsK n fs k)) (fun i H' => Same G3 H' ∧ H' D2 = some (.lst (vi (((keysF fs).map fun g => ixF fs (comp (pw n g k) (pw n e k))).take i)))) ⟨Same.new hD2, by rw [List.take_zero]; exact upd_same⟩ (fun i H' _ z => SqL.of (z.1 _ _ hp4)) ?_ ?_⟩
    · rintro i y H' hy ⟨p1, p3⟩
      obtain ⟨m, hm, rfl⟩ := vi_at hy
      obtain ⟨g, hg, rg, rfl, il⟩ := eK (L := []) hm
      have a2 : ((keysF fs).map fun g => ixF fs (comp g (pw n e k)))[ixF fs (pw n g k)]? = some (ixF fs (comp (pw n g k) (pw n e k))) := by
        rw [List.getElem?_map, C.ix (rg.pwz hc k)]
        rfl
      refine ⟨rfl, _, rfl, _, rfl, la, _, _, _, rfl, rfl, SqL.of (p1 _ _ la4), atI_nat (vi_get a2), _, p3, len_lt (Nat.le_trans (lt _ _) (show 400 ≤ 1000 by decide)), Same.upd p1 hD2, ?_⟩
      rw [upd_same, take_at3 (l := (keysF fs).map fun g => ixF fs (comp (pw n g k) (pw n e k))) (by rw [List.getElem?_map, hg]; rfl)]
      simp [vi]
    rintro G4 ⟨p1, p3⟩
    rw [show (vi (pwsK n fs k)).length = ((keysF fs).map fun g => ixF fs (comp (pw n g k) (pw n e k))).length from by rw [show (vi (pwsK n fs k)).length = (pwsK n fs k).length from List.length_map .., lk]; exact lk _, List.take_length] at p3
    have p2' := p1 _ _ p2
    have s6 := s5.trans p1
    have hp5 := p1 _ _ hp4
    clear p1 s5 hp4 la4 p2
    dsimp only [gName]
    have e1 := p2'
    have e2 := p3
    rw [vi_zi] at e1 e2
    refine ⟨_, rfl, _, rfl, neL (SqL.of e1) (SqL.of e2) ⟨_, rfl, ?_⟩⟩
    by_cases z : ((keysF fs).map fun g => ixF fs (pw n (comp g e) k)) = (keysF fs).map fun g => ixF fs (comp (pw n g k) (pw n e k))
    · refine iteN (by rw [z]; simp) ⟨s6, hp5, ⟨_, _, _, _, _, rfl⟩, fun j' hj' g hg => ?_⟩
      rcases Nat.lt_or_ge j' j with y | y
      · exact hlo j' y g hg
      · rw [show j' = j by omega, he]
        have a1 := congrArg (fun l : List Nat => l[ixF fs g]?) z
        have a2 : some (ixF fs (pw n (comp g e) k)) = some (ixF fs (comp (pw n g k) (pw n e k))) := by
          have := a1
          simp only [List.getElem?_map, C.ix hg, Option.map_some] at this
          exact this
        exact (C.inj ((hg.mul hc eR).pwz hc k) ((hg.pwz hc k).mul hc (eR.pwz hc k))).mp (Option.some.inj a2)
    · refine iteP (by rw [Bool.not_eq_true', decide_eq_false_iff_not]; exact fun y => z (zi_inj.mp y)) ⟨_, rfl, _, rfl, _, _, _, _, rfl, p2', p3, by rw [lk, lk], z, fun i H' s7 il hne hall => ⟨_, rfl, (by show 2 ≤ sizeLine; decide), fun t ht => ?_⟩⟩
      rw [lk] at il
      obtain ⟨g, hg, rg, _⟩ := C.ex il
      refine q2 i j g hg jl (fun y => hne ?_) t _ ((s6.trans s7).trans (Same.new ht)) upd_same
      rw [he] at y
      rw [List.getElem?_map, List.getElem?_map, hg]
      show some (ixF fs (pw n (comp g e) k)) = some (ixF fs (comp (pw n g k) (pw n e k)))
      rw [y]
  · rintro σ G ⟨sG, hp, ⟨u3, u4, u5, u6, u7, rfl⟩, hlo⟩
    rw [List.length_map, h4] at hlo
    exact q1 (Bt.of hc hlo) G sG
def spSp (Ct : Addr) : Sp := fun vs H Q _ => ∃ (x : Addr) (k : Int) (n : Nat) (cs : List (List Nat)) (fs : Fs), vs = [.ref x, .int k] ∧ T1 Ct H x n cs fs ∧ sm 400 k ∧ ∀ (b : Bool) (H' : Hp), (b = true ↔ Bt n cs k) → Same H H' → Q (.bl b) H'
theorem st9 : FnScope ["self", "count"] ["self", "count"] (defScope (mth 36 9)) := ⟨rfl, rfl, rfl, by decide +kernel, rfl, by decide +kernel, by decide +kernel⟩
theorem ok_tsp {f : Addr} {fd : FuncData} (TC : TCf K Ct) (CF : MetC P w K mg base CX0 Ct 2 "fault" ["self", "count"] (spTF Ct)) (F : Fun K "splits" "Table.splits" (mth 36 9) f fd) : FnOk P w K mg base CX0 3 f fd ["self", "count"] (spSp Ct) := by
  refine F.ok st9 (fun vs H Q E h => ?_) (fun cdv A outer s H vs Q E hr h => ⟨_,
    (pss_one (ps_ret (pe_cmpR op_isN (by exact (pe_mt CF TC.cl hr (by decide) (pv 0) (pa_cons (pv 1) pa_nil))) pe_non (nomark _)))), ?_⟩)
  · obtain ⟨x, k, n, cs, fs, rfl, _⟩ := h
    rfl
  obtain ⟨x, k, n, cs, fs, rfl, T, sk, q⟩ := h
  obtain ⟨dx, ah, rl, fl, hs, rs, h1, h2, -⟩ := T.t.ex
  refine ⟨_, rfl, x, dx, fl, rfl, h1, h2.m _ (by decide), _, rfl, x, k, n, cs, fs, rfl, T, sk, fun bt H' s => ⟨rfl, q _ H' (by simp [bt]) s⟩, fun i j g hg hj hne t H' s ht => ⟨rfl, q _ H' ⟨fun z => by simp at z, fun bt => (hne (bt g _ (T.t.c.rch hg) (mk_rch T.t.hc hj))).elim⟩ s⟩⟩
end
end KV
/-! the table: made -/
namespace KV
open PySem PySem.Spec PyProof.Rows L2 KC
section
variable {P : Program} {w : World} {K : PySem.W.Frag} {mg : Str → Option Value} {base : Heap} {Ct Cm C : Addr}
def spTI (Ct C : Addr) : Sp := fun vs H Q E => ∃ (x dx l : Addr) (n : Nat) (bs : List Addr) (cs : List (List Nat)), vs = [.ref x, .int (n : Int), .ref l] ∧ H x = some (.ins Ct dx []) ∧ Gens H l n bs cs ∧ n ≤ 16 ∧ cs.length ≤ 5 ∧ (¬ Sz n cs 400 → BadN C 0 H E) ∧
  (Sz n cs 400 → ∀ (fs : Fs) (H' : Hp), Kx x H H' → T1 Ct H' x n cs fs → Q .non H')
theorem tpp_keys {H : Hp} : ∀ {bs : List Addr} {kvs : List (List L2.Key × V)}, L2.IsKeys H kvs bs → ∀ {ks : List (List Nat)}, kvs.map (·.1) = ks.map kc → TpP H bs ks
  | _, _, .nil, [], _ => .nil
  | _, _, .nil, _ :: _, h => by cases h
  | _, _, .cons a t, [], h => by cases h
  | _, _, .cons a t, k :: ks, h => by
    rw [List.map_cons, List.map_cons, List.cons.injEq] at h
    exact .cons (by rw [kc_vi, ← h.1]; exact a) (tpp_keys t h.2)
theorem lenF {f : Str} {v : V} {m : Nat} : ∀ {fs : List (Str × V)}, fs.length < m → (putF f v fs).length < m + 1
  | [], h => by show 1 < m + 1; have : 0 < m := h; omega
  | (g, y) :: r, h => by
    have := lenF (f := f) (v := v) (fs := r) (m := m - 1) (by have : r.length + 1 < m := h; omega)
    unfold putF
    split
    · show r.length + 1 < m + 1; have : r.length + 1 < m := h; omega
    · show (putF f v r).length + 1 < m + 1; have : r.length + 1 < m := h; omega
theorem Kx.same {x : Addr} {H H' H2 : Hp} (k : Kx x H H') (s : Same H' H2) : Kx x H H2 := fun b o h e => s b o (k b o h e)
theorem st0 : FnScope ["self", "states", "makers", "numbers", "ahead", "rows"] ["self", "states", "makers"] (defScope (mth 36 0)) := ⟨rfl, rfl, rfl, by decide +kernel, rfl, by decide +kernel, by decide +kernel⟩
theorem ok_tin {f : Addr} {fd : FuncData} (B : Bl mg) (TC : TCf K Ct) (CN : Cal P w K mg base (L2.CX P w) 2 "numbered" ["states", "makers"] (spNum C)) (CFR : MetC P w K mg base CX0 Ct 2 "_found_rounds" ["self"] (spFR Ct)) (F : Fun K "__init__" "Table.__init__" (mth 36 0) f fd) :
    FnOk P w K mg base (L2.CX P w) 3 f fd ["self", "states", "makers"] (spTI Ct C) := by
  refine F.okX st0 (fun vs H Q E h => ?_) (fun cdv A outer s H vs Q E hr h => ⟨_,
    (pss_cons (ps_asg (by exact (pe_calX CN hr (by decide) (takes_of rfl rfl rfl rfl) (fun _ _ _ _ z => z) (pa_cons (pv 1) (pa_cons (pv 2) pa_nil)))) (pg_tup rfl (pgs_cons (pg_name (i := 3) st0.nd rfl (.inl rfl)) (pgs_cons (pg_name (i := 4) st0.nd rfl (.inl rfl)) (pgs_cons (pg_name (i := 5) st0.nd rfl (.inl rfl)) pgs_nil)))))
    (pss_cons (ps_fld (pv 0) (pv 2) (by rfl))
    (pss_cons (ps_fld (pv 0) (pe_callTy (call_list_dT rfl) (by rfl) B.list (by decide +kernel) (pa_cons (pv 3) pa_nil)) (by rfl))
    (pss_cons (ps_fld (pv 0) (pv 4) (by rfl))
    (pss_cons (ps_fld (pv 0) (pv 5) (by rfl))
    (pss_one (ps_fld (pv 0) (by exact (pe_mt0 CFR TC.cl hr (by decide) (pv 0))) (by rfl)))))))), ?_⟩)
  · obtain ⟨x, dx, l, n, bs, cs, rfl, _⟩ := h
    rfl
  obtain ⟨x, dx, l, n, bs, cs, rfl, hx, hG, n16, c5, q0, q⟩ := h
  refine ⟨_, rfl, _, rfl, l, n, bs, cs, rfl, hG.e, n16, Nat.le_trans c5 (by decide), q0, fun sz p dn ah rl hs rs k kvs H1 s1 e1 gk e2 kf e3 tr e4 hl e6 => ?_⟩
  refine ⟨p, _, rfl, SqT.of e1, rfl, ?_⟩
  dsimp only [gName, gCons, gNil]
  refine ⟨_, _, rfl, _, _, rfl, _, _, rfl, rfl, ?_⟩
  have C := grow_cl gk
  have hsz := sz.grow (k := k)
  generalize grow n cs k = fs at *
  have hx1 := s1 _ _ hx
  refine ⟨_, rfl, _, rfl, x, Ct, dx, _, rfl, hx1, TC.cl, TC.n1, (by decide), ?_⟩
  have k2 : Kx x H (upd H1 x (.ins Ct dx (putF "makers" (.ref l) []))) := fun b o ne e => by rw [upd_ne ne]; exact s1 _ _ e
  have nx : ∀ {b : Addr} {o : HO}, H1 b = some o → (∀ dx fl, o ≠ .ins Ct dx fl) → b ≠ x := fun h no z => by rw [z, hx1] at h; exact no _ _ (Option.some.inj h).symm
  have keep : ∀ {b : Addr} {o : HO}, H1 b = some o → (∀ dx fl, o ≠ .ins Ct dx fl) → upd H1 x (.ins Ct dx (putF "makers" (.ref l) [])) b = some o := fun h no => by rw [upd_ne (nx h no)]; exact h
  have E2 := keep e2 (fun _ _ z => by cases z)
  have E3 := keep e3 (fun _ _ z => by cases z)
  have E4 := keep e4 (fun _ _ z => by cases z)
  have E6 : ∀ (j : Nat) (b : Addr), hs[j]? = some b → upd H1 x (.ins Ct dx (putF "makers" (.ref l) [])) b = some (.lst (vi (stp fs cs j))) := fun j b h => keep (e6 j b h) (fun _ _ z => by cases z)
  have TR : TpP (upd H1 x (.ins Ct dx (putF "makers" (.ref l) []))) rs (fs.map (·.2)) := tups_keep (fun b xs h => keep h (fun _ _ z => by cases z)) tr
  have hG2 : Gens (upd H1 x (.ins Ct dx (putF "makers" (.ref l) []))) l n bs cs := ⟨keep (s1 _ _ hG.lst) (fun _ _ z => by cases z), tups_keep (fun b xs h => keep (s1 _ _ h) (fun _ _ z => by cases z)) hG.tups, hG.chg, hG.n0, hG.c0⟩
  have X2 : upd H1 x (.ins Ct dx (putF "makers" (.ref l) [])) x = some (.ins Ct dx (putF "makers" (.ref l) [])) := upd_same
  generalize upd H1 x (.ins Ct dx (putF "makers" (.ref l) [])) = H2 at *
  clear e1 e2 e3 e4 e6 tr nx keep hx1 s1
  refine ⟨_, rfl, dn, _, rfl, .inl E2, fun ch es hch ik => ⟨_, rfl, x, Ct, dx, _, rfl, Same.mk1 hch _ _ X2, TC.cl, TC.n2, (by simp [putF]), ?_⟩⟩
  have sc := Same.new (o := .lst (es.map V.ref)) hch
  have TK : TpP H2 es (keysF fs) := tpp_keys ik kf
  have cx : ch ≠ x := fun z => by rw [z, X2] at hch; cases hch
  refine ⟨_, rfl, _, rfl, x, Ct, dx, _, rfl, upd_same, TC.cl, TC.n3, Nat.lt_of_lt_of_le (lenF (lenF (show ([] : List (Str × V)).length < 1 by decide))) (by decide), ?_⟩
  refine ⟨_, rfl, _, rfl, x, Ct, dx, _, rfl, upd_same, TC.cl, TC.n4, Nat.lt_of_lt_of_le (lenF (lenF (lenF (show ([] : List (Str × V)).length < 1 by decide)))) (by decide), ?_⟩
  rw [upd_upd, upd_upd]
  obtain ⟨fl, hfl⟩ : ∃ fl, fl = putF "rows" (.ref rl) (putF "ahead" (.ref ah) (putF "changes" (.ref ch) (putF "makers" (.ref l) []))) := ⟨_, rfl⟩
  have dif : ∀ m ∈ MT, m ≠ ("rows" : Str) ∧ m ≠ ("ahead" : Str) ∧ m ≠ ("changes" : Str) ∧ m ≠ ("makers" : Str) ∧ m ≠ ("rounds" : Str) := by decide +kernel
  have fa : fl.lookup ("ahead" : Str) = some (.ref ah) := by rw [hfl, lookup_putF, if_neg (by decide), lookup_putF, if_pos rfl]
  have fr : fl.lookup ("rows" : Str) = some (.ref rl) := by rw [hfl, lookup_putF, if_pos rfl]
  have fc : fl.lookup ("changes" : Str) = some (.ref ch) := by rw [hfl, lookup_putF, if_neg (by decide), lookup_putF, if_neg (by decide), lookup_putF, if_pos rfl]
  have fm : fl.lookup ("makers" : Str) = some (.ref l) := by rw [hfl, lookup_putF, if_neg (by decide), lookup_putF, if_neg (by decide), lookup_putF, if_neg (by decide), lookup_putF, if_pos rfl]
  have fn : ∀ m ∈ MT, fl.lookup m = none := fun m hm => by
    obtain ⟨d1, d2, d3, d4, _⟩ := dif m hm
    rw [hfl, lookup_putF, if_neg d1, lookup_putF, if_neg d2, lookup_putF, if_neg d3, lookup_putF, if_neg d4]
    rfl
  have flen : fl.length < 1000 := by rw [hfl]; exact Nat.lt_of_lt_of_le (lenF (lenF (lenF (lenF (show ([] : List (Str × V)).length < 1 by decide))))) (by decide)
  rw [← hfl]
  have keep : ∀ {b : Addr} {o : HO}, H2 b = some o → (∀ dx fl, o ≠ .ins Ct dx fl) → upd (upd H2 ch (.lst (es.map V.ref))) x (.ins Ct dx fl) b = some o := fun {b o} h no => by
    rw [upd_ne (fun z => by rw [z, X2] at h; exact no _ _ (Option.some.inj h).symm)]
    exact sc _ _ h
  have k5 : Kx x H (upd (upd H2 ch (.lst (es.map V.ref))) x (.ins Ct dx fl)) := fun b o ne e => by
    rw [upd_ne ne]
    exact sc _ _ (k2 b o ne e)
  have G5 : Gens (upd (upd H2 ch (.lst (es.map V.ref))) x (.ins Ct dx fl)) l n bs cs := ⟨keep hG2.lst (fun _ _ z => by cases z), tups_keep (fun b xs h => keep h (fun _ _ z => by cases z)) hG2.tups, hG.chg, hG.n0, hG.c0⟩
  have C5 : upd (upd H2 ch (.lst (es.map V.ref))) x (.ins Ct dx fl) ch = some (.lst (es.map V.ref)) := by rw [upd_ne cx]; exact upd_same
  have A5 := keep E4 (fun _ _ z => by cases z)
  have L5 := keep E3 (fun _ _ z => by cases z)
  have S5 : ∀ (j : Nat) (b : Addr), hs[j]? = some b → upd (upd H2 ch (.lst (es.map V.ref))) x (.ins Ct dx fl) b = some (.lst (vi (stp fs cs j))) := fun j b h => keep (E6 j b h) (fun _ _ z => by cases z)
  have R5 : TpP (upd (upd H2 ch (.lst (es.map V.ref))) x (.ins Ct dx fl)) rs (fs.map (·.2)) := tups_keep (fun b xs h => keep h (fun _ _ z => by cases z)) TR
  have K5 : TpP (upd (upd H2 ch (.lst (es.map V.ref))) x (.ins Ct dx fl)) es (keysF fs) := tups_keep (fun b xs h => keep h (fun _ _ z => by cases z)) TK
  have X5 : upd (upd H2 ch (.lst (es.map V.ref))) x (.ins Ct dx fl) x = some (.ins Ct dx fl) := upd_same
  generalize upd (upd H2 ch (.lst (es.map V.ref))) x (.ins Ct dx fl) = H5 at *
  have T5 : T0 Ct H5 x n cs fs := ⟨C, hG.chg, c5, n16, hsz, dx, ah, rl, fl, hs, rs, X5, ⟨fa, fr, fn⟩, A5, hl, S5, L5, R5⟩
  refine ⟨_, rfl, x, dx, fl, rfl, X5, fn _ (by decide), x, n, cs, fs, rfl, T5, fun rd xs H6 s6 hrd RI hnn => ⟨_, rfl, x, Ct, dx, _, rfl, s6 _ _ X5, TC.cl, TC.n5, flen, ?_⟩⟩
  have X6 := s6 _ _ X5
  have k7 : Kx x H (upd H6 x (.ins Ct dx (putF "rounds" (.ref rd) fl))) := fun b o ne e => by
    rw [upd_ne ne]
    exact s6 _ _ (k5 b o ne e)
  have keep6 : ∀ {b : Addr} {o : HO}, H6 b = some o → (∀ dx fl, o ≠ .ins Ct dx fl) → upd H6 x (.ins Ct dx (putF "rounds" (.ref rd) fl)) b = some o := fun {b o} h no => by
    rw [upd_ne (fun z => by rw [z, X6] at h; exact no _ _ (Option.some.inj h).symm)]
    exact h
  refine q sz fs _ k7 ⟨⟨C, hG.chg, c5, n16, hsz, dx, ah, rl, _, hs, rs, upd_same, ⟨by rw [lookup_putF, if_neg (by decide)]; exact fa, by rw [lookup_putF, if_neg (by decide)]; exact fr, fun m hm => by rw [lookup_putF, if_neg (dif m hm).2.2.2.2]; exact fn m hm⟩,
    keep6 (s6 _ _ A5) (fun _ _ z => by cases z), hl, fun j b h => keep6 (s6 _ _ (S5 j b h)) (fun _ _ z => by cases z), keep6 (s6 _ _ L5) (fun _ _ z => by cases z), tups_keep (fun b xs h => keep6 (s6 _ _ h) (fun _ _ z => by cases z)) R5⟩,
    dx, rd, l, ch, _, xs, bs, es, upd_same, by rw [lookup_putF, if_pos rfl], keep6 RI.at_ (fun _ _ z => by cases z), RI.len, fun i v e => ?_, by rw [lookup_putF, if_neg (by decide)]; exact fm,
    ⟨keep6 (s6 _ _ G5.lst) (fun _ _ z => by cases z), tups_keep (fun b xs h => keep6 (s6 _ _ h) (fun _ _ z => by cases z)) G5.tups, hG.chg, hG.n0, hG.c0⟩, by rw [lookup_putF, if_neg (by decide)]; exact fc, keep6 (s6 _ _ C5) (fun _ _ z => by cases z), tups_keep (fun b xs h => keep6 (s6 _ _ h) (fun _ _ z => by cases z)) K5⟩
  rcases RI.ok i v e with z | ⟨b, p, ps, pl, rfl, y1, y2, y3, y4⟩
  · rw [z] at e
    exact (hnn i e).elim
  · exact ⟨b, p, ps, pl, rfl, y1, keep6 y2 (fun _ _ z => by cases z), keep6 y3 (fun _ _ z => by cases z), y4⟩
/-- what the written part tells of the class, with what it wants to be made -/
structure TMF (K : PySem.W.Frag) (Ct fI : Addr) : Prop where
  f : TCf K Ct
  mkr : Mk K Ct fI
def spTab (K : PySem.W.Frag) (Cm Ct C : Addr) : Sp := fun vs H Q E => ∃ (m : Addr) (n : Nat) (cs : List (List Nat)), vs = [.ref m] ∧ McS K Cm H m n cs ∧ (¬ Sz n cs 400 → BadN C 0 H E) ∧
  (Sz n cs 400 → ∀ (t : Addr) (fs : Fs) (H' : Hp), Same H H' → T1 Ct H' t n cs fs → Q (.ref t) H')
theorem sn37 : FnScope ["machine"] ["machine"] (defScope (top 37)) := ⟨rfl, rfl, rfl, by decide +kernel, rfl, by decide +kernel, by decide +kernel⟩
theorem ok_tab {f fI : Addr} {fd fdI : FuncData} (M : TMF K Ct fI) (gT : mg "Table" = some (.ref Ct)) (FI : FnOk P w K mg base (L2.CX P w) 3 fI fdI ["self", "states", "makers"] (spTI Ct C)) (BI : L2.Binds K fdI ["self", "states", "makers"] []) (CC : Cal P w K mg base CX0 1 "command_changes" ["machine"] (spCc Cm K))
    (F : Fun K "table_of" "table_of" (top 37) f fd) : FnOk P w K mg base (L2.CX P w) 5 f fd ["machine"] (spTab K Cm Ct C) := by
  refine F.okX sn37 (fun vs H Q E h => ?_) (fun cdv A outer s H vs Q E hr h => ⟨_,
    (pss_one (ps_ret (pe_make M.mkr FI (hr.mono (by decide)) (by rfl) gT BI .nil (passes_call (takes_of rfl rfl rfl rfl) (fun _ _ _ _ z => z)) (pa_cons (pe_fld (pv 0) (by rfl)) (pa_cons (by exact (pe_cal CC hr (by decide) (pa_cons (pv 0) pa_nil))) pa_nil))))), ?_⟩)
  · obtain ⟨m, n, cs, rfl, _⟩ := h
    rfl
  obtain ⟨m, n, cs, rfl, MS, q0, q⟩ := h
  obtain ⟨dm, tt, ts, h1, -⟩ := MS.m.ex
  refine ⟨_, rfl, m, Cm, dm, _, _, rfl, h1, MS.m.cl, MS.m.na2, rfl, _, rfl, m, n, cs, rfl, MS.m, MS.n16, MS.c5, fun l bs H1 s1 hl0 hl ht x dx hx hdx ne => ?_⟩
  have s2 : Same H (upd (upd H1 dx (.own x)) x (.ins Ct dx [])) := s1.trans ((Same.new hdx).trans (Same.new (by rw [upd_ne ne.symm]; exact hx)))
  have s3 : Same H1 (upd (upd H1 dx (.own x)) x (.ins Ct dx [])) := (Same.new hdx).trans (Same.new (by rw [upd_ne ne.symm]; exact hx))
  have hn := s1.free hx
  refine ⟨x, dx, l, n, bs, cs, rfl, upd_same, ⟨s3 _ _ hl, tups_keep (fun b xs h => s3 _ _ h) ht, MS.m.chg, MS.n0, MS.c0⟩, MS.n16, MS.c5, fun ns => (q0 ns).same s2, fun sz fs H3 kx T => ⟨rfl, q sz x fs H3 (fun b o e => kx b o (fun z => by rw [z, hn] at e; cases e) (s2 _ _ e)) T⟩⟩
def spIB (K : PySem.W.Frag) (Cm C : Addr) : Sp := fun vs H Q E => ∃ (m : Addr) (k : Int) (n : Nat) (cs : List (List Nat)), vs = [.ref m, .int k] ∧ McS K Cm H m n cs ∧ sm 400 k ∧ (¬ Sz n cs 400 → BadN C 0 H E) ∧
  (Sz n cs 400 → ∀ (b : Bool) (H' : Hp), Same H H' → (b = true ↔ Bt n cs k) → Q (.bl b) H')
theorem sn39 : FnScope ["machine", "count"] ["machine", "count"] (defScope (top 39)) := ⟨rfl, rfl, rfl, by decide +kernel, rfl, by decide +kernel, by decide +kernel⟩
theorem ok_ib {f : Addr} {fd : FuncData} (TC : TCf K Ct) (CT : Cal P w K mg base (L2.CX P w) 5 "table_of" ["machine"] (spTab K Cm Ct C)) (CS : MetC P w K mg base CX0 Ct 3 "splits" ["self", "count"] (spSp Ct))
    (F : Fun K "is_batch_number" "is_batch_number" (top 39) f fd) : FnOk P w K mg base (L2.CX P w) 6 f fd ["machine", "count"] (spIB K Cm C) := by
  refine F.okX sn39 (fun vs H Q E h => ?_) (fun cdv A outer s H vs Q E hr h => ⟨_,
    (pss_one (ps_ret (by exact (pe_mt CS TC.cl hr (by decide) (by exact (pe_calX CT hr (by decide) (takes_of rfl rfl rfl rfl) (fun _ _ _ _ z => z) (pa_cons (pv 0) pa_nil))) (pa_cons (pv 1) pa_nil))))), ?_⟩)
  · obtain ⟨m, k, n, cs, rfl, _⟩ := h
    rfl
  obtain ⟨m, k, n, cs, rfl, MS, sk, q0, q⟩ := h
  refine ⟨_, rfl, m, n, cs, rfl, MS, q0, fun sz t fs H1 s1 T => ?_⟩
  obtain ⟨dx, ah, rl, fl, hs, rs, h1, h2, -⟩ := T.t.ex
  exact ⟨t, dx, fl, rfl, h1, h2.m _ (by decide), _, rfl, t, k, n, cs, fs, rfl, T, sk, fun b H2 hb s2 => q sz b H2 (s1.trans s2) hb⟩
end
end KV

/-! batch numbers: mathematics -/
namespace GP
section
variable {G : Type} {g : Gp G} {A B C E : Int → G}
theorem Tri.along (t : Tri g A B C) (u : Tri g B A E) {k : Int} (h1 : Sui g A B C k) (h2 : Sui g B A E k) : g.mul (A (k - 1)) (B k) = g.mul (B k) (A (k - 1)) := by
  have e := t.conj u k
  rw [show E k = g.mul (B k) (A k) from h2, show C k = g.mul (A k) (B k) from h1] at e
  have e2 : g.mul (A (-1)) (g.mul (g.mul (A k) (B k)) (A 1)) = g.mul (g.mul (A (k - 1)) (B k)) (A 1) := by
    rw [← g.assoc, ← g.assoc, ← t.a.add, show -1 + k = k - 1 by omega]
  rw [e2] at e
  have e3 : g.mul (B k) (A k) = g.mul (g.mul (B k) (A (k - 1))) (A 1) := by rw [g.assoc, ← t.a.add, show k - 1 + 1 = k by omega]
  rw [e3] at e
  exact (t.a.canR e).symm
theorem Tri.next (t : Tri g A B C) {k : Int} (h : Sui g A B C k) : Sui g A B C (k + 1) ↔ g.mul (B k) (A 1) = g.mul (A 1) (B k) := by
  unfold Sui at *
  rw [t.c.add, t.a.add, t.b.add, h, t.one]
  have e1 : g.mul (g.mul (A k) (B k)) (g.mul (A 1) (B 1)) = g.mul (A k) (g.mul (g.mul (B k) (A 1)) (B 1)) := by simp only [g.assoc]
  have e2 : g.mul (g.mul (A k) (A 1)) (g.mul (B k) (B 1)) = g.mul (A k) (g.mul (g.mul (A 1) (B k)) (B 1)) := by simp only [g.assoc]
  rw [e1, e2]
  exact ⟨fun z => t.b.canR (t.a.canL z), fun z => by rw [z]⟩
end
end GP
namespace KV
open PySem PySem.Spec PyProof.Rows L2 KC
section
variable {n : Nat} {cs L : List (List Nat)} {k m : Int} {g e : List Nat}
theorem bt_sui (hc : ∀ c ∈ cs, Chg n c) : Bt n cs k ↔ ∀ g e, Rch n cs g → Rch n cs e → sui n g e k = true := ⟨fun h g e a b => decide_eq_true (h g e a b), fun h g e a b => of_decide_eq_true (h g e a b)⟩
theorem bt0 (hc : ∀ c ∈ cs, Chg n c) : Bt n cs 0 := (bt_sui hc).mpr fun g e a b => sui0 (a.chg hc) (b.chg hc)
theorem bt1 (hc : ∀ c ∈ cs, Chg n c) : Bt n cs 1 := (bt_sui hc).mpr fun g e a b => sui1 (a.chg hc) (b.chg hc)
theorem bt_neg (hc : ∀ c ∈ cs, Chg n c) (h : Bt n cs k) : Bt n cs (1 - k) := (bt_sui hc).mpr fun g e a b => by rw [sui_swap (b.chg hc) (a.chg hc)]; exact (bt_sui hc).mp h e g b a
theorem bt_mul (hc : ∀ c ∈ cs, Chg n c) (h : Bt n cs m) (h2 : Bt n cs k) : Bt n cs (m * k) := fun g e a b => by
  have gc := a.chg hc
  have ec := b.chg hc
  rw [← pw_pwZ (chg_comp gc ec), h g e a b, h2 _ _ (a.pwz hc m) (b.pwz hc m), pw_pwZ gc, pw_pwZ ec]
theorem bt_along (hc : ∀ c ∈ cs, Chg n c) (h : Bt n cs k) (a : Rch n cs g) (b : Rch n cs e) : comp (pw n g k) (pw n e (k - 1)) = comp (pw n e (k - 1)) (pw n g k) := by
  have t := tri_pw (b.chg hc) (a.chg hc)
  have u := tri_pw (a.chg hc) (b.chg hc)
  have z := t.along u ((sui_iff (b.chg hc) (a.chg hc)).mp ((bt_sui hc).mp h e g b a)) ((sui_iff (a.chg hc) (b.chg hc)).mp ((bt_sui hc).mp h g e a b))
  exact (congrArg Subtype.val z).symm
theorem bt_next (hc : ∀ c ∈ cs, Chg n c) (h : Bt n cs k) : Bt n cs (k + 1) ↔ ∀ g e, Rch n cs g → Rch n cs e → comp (pw n g k) e = comp e (pw n g k) := by
  have key : ∀ g e, Rch n cs g → Rch n cs e → (sui n e g (k + 1) = true ↔ comp (pw n g k) e = comp e (pw n g k)) := fun g e a b => by
    have gc := a.chg hc
    have ec := b.chg hc
    have t := tri_pw ec gc
    rw [sui_iff ec gc, t.next ((sui_iff ec gc).mp ((bt_sui hc).mp h e g b a))]
    constructor
    · intro z
      have z := congrArg Subtype.val z
      have z : comp (pw n g k) (pw n e 1) = comp (pw n e 1) (pw n g k) := z
      rwa [pw_one ec] at z
    · intro z
      refine Subtype.ext ?_
      show comp (pw n g k) (pw n e 1) = comp (pw n e 1) (pw n g k)
      rwa [pw_one ec]
  rw [bt_sui hc]
  exact ⟨fun z g e a b => (key g e a b).mp (z e g b a), fun z g e a b => (key e g b a).mpr (z e g b a)⟩
theorem bt_three (hc : ∀ c ∈ cs, Chg n c) (h0 : Bt n cs (k - 1)) (h1 : Bt n cs k) (h2 : Bt n cs (k + 1)) (a : Rch n cs g) (b : Rch n cs e) : comp g e = comp e g := by
  have gc := a.chg hc
  have ec := b.chg hc
  have z1 := (bt_next hc h1).mp h2 g e a b
  have z0 := (bt_next hc h0).mp (by rw [show k - 1 + 1 = k by omega]; exact h1) g e a b
  have pc := pw_chg gc (k - 1)
  have ek : pw n g k = comp (pw n g (k - 1)) g := by
    have := pw_add gc (k - 1) 1
    rw [pw_one gc, show k - 1 + 1 = k by omega] at this
    exact this.symm
  rw [ek, comp_assoc pc gc, ← comp_assoc ec pc, ← z0, comp_assoc pc ec] at z1
  exact comp_left_inj pc (chg_comp gc ec) (chg_comp ec gc) z1
theorem bt_two (hc : ∀ c ∈ cs, Chg n c) (h : Bt n cs 2) (a : Rch n cs g) (b : Rch n cs e) : comp g e = comp e g := by
  have z := h
  exact bt_three (k := 1) hc (by rw [show (1 : Int) - 1 = 0 by omega]; exact bt0 hc) (bt1 hc) (by rw [show (1 : Int) + 1 = 2 by omega]; exact h) a b
theorem bt_closed (hc : ∀ c ∈ cs, Chg n c) (h : Bt n cs k) (a : Rch n cs g) (b : Rch n cs e) : ∃ x, Rch n cs x ∧ comp (pw n g k) (pw n e k) = pw n x k := ⟨_, a.mul hc b, (h g e a b).symm⟩
theorem bt_closed1 (hc : ∀ c ∈ cs, Chg n c) (h : Bt n cs k) (a : Rch n cs g) (b : Rch n cs e) : ∃ x, Rch n cs x ∧ comp (pw n g (k - 1)) (pw n e (k - 1)) = pw n x (k - 1) := by
  have gc := a.chg hc
  have ec := b.chg hc
  have z := bt_neg hc h _ _ (a.pwz hc (-1)) (b.pwz hc (-1))
  rw [pw_pwZ gc, pw_pwZ ec, show (-1 : Int) * (1 - k) = k - 1 by omega] at z
  have r := (a.pwz hc (-1)).mul hc (b.pwz hc (-1))
  refine ⟨_, r.pwz hc (-1), ?_⟩
  rw [← z, pw_pwZ (r.chg hc)]
  congr 1
  omega
/-- the order of all changes -/
theorem pw_all (hc : ∀ c ∈ cs, Chg n c) (LT : Lot n cs L) {o : Nat} (h : OrdAll n L o) (a : Rch n cs g) (k : Int) : pw n g (k % (o : Int)) = pw n g k := by
  have gc := a.chg hc
  refine pw_mod gc h.1 ?_ k
  rw [pw_nat gc]
  exact tab_congr fun i hi => (h.2 o).mpr (Nat.dvd_refl _) g ((LT.all g).mpr a) i hi
theorem bt_congr (hc : ∀ c ∈ cs, Chg n c) (LT : Lot n cs L) {o : Nat} (h : OrdAll n L o) (e : k % (o : Int) = m % (o : Int)) : Bt n cs k ↔ Bt n cs m := by
  have key : ∀ g, Rch n cs g → pw n g k = pw n g m := fun g a => by rw [← pw_all hc LT h a k, e, pw_all hc LT h a m]
  constructor
  · intro z g e a b
    rw [← key _ (a.mul hc b), ← key _ a, ← key _ b]
    exact z g e a b
  · intro z g e a b
    rw [key _ (a.mul hc b), key _ a, key _ b]
    exact z g e a b
theorem bt_mod (hc : ∀ c ∈ cs, Chg n c) (LT : Lot n cs L) {o : Nat} (h : OrdAll n L o) (k : Int) : Bt n cs (k % (o : Int)) ↔ Bt n cs k := bt_congr hc LT h (Int.emod_emod ..)
end
end KV

/-! powers, orders -/
namespace KV
open PySem PySem.Spec PyProof.Rows L2 KC
section
variable {P : Program} {w : World} {K : PySem.W.Frag} {mg : Str → Option Value} {base : Heap} {C fI : Addr}
/-- raised(change, count) -/
def spRai : Sp := fun vs H Q _ => ∃ (a : Addr) (n : Nat) (c : List Nat) (k : Int), vs = [.ref a, .int k] ∧ H a = some (.tup (vi c)) ∧ Chg n c ∧ n ≤ 16 ∧ ∀ t H', Same H H' → H t = none → H' t = some (.tup (vi (pw n c k))) → Q (.ref t) H'
theorem sk15 : FnScope ["change", "count", "out", "cycle", "shift", "state", "to"] ["change", "count"] (defScope (top 22)) := ⟨rfl, rfl, rfl, by decide +kernel, rfl, by decide +kernel, by decide +kernel⟩
theorem ok_rai {f : Addr} {fd : FuncData} (B : Bl mg) (CC : Cal P w K mg base CX0 2 "_cycles" ["change"] spCyc) (F : Fun K "raised" "raised" (top 22) f fd) : FnOk P w K mg base CX0 3 f fd ["change", "count"] spRai := by
  refine F.ok sk15 (fun vs H Q E h => ?_) (fun cdv A outer s H vs Q E hr h => ⟨_,
    pss_cons (ps_set (i := 2) sk15.nd rfl (.inl rfl) (pe_op op_rep (pe_lst (pa_cons pe_int pa_nil)) (pe_callB call_len_seq (by rfl) B.len PySem.boot_len (pa_cons (pv 0) pa_nil))))
    (pss_cons (ps_for PassesOwn.never rfl (pi_list (pe_cal (X := L2.Cx.nox _) CC hr (by decide) (pa_cons (pv 0) pa_nil))) (pg_name (i := 3) sk15.nd rfl (.inl rfl))
      (pss_cons (ps_set (i := 4) sk15.nd rfl (.inl rfl) (pe_op op_mod (pv 1) (pe_callB call_len_seq (by rfl) B.len PySem.boot_len (pa_cons (pv 3) pa_nil))))
      (pss_one (ps_for PassesOwn.never rfl (pi_zip (by rfl) B.zip (pa_cons (pv 3) (pa_cons (pe_op op_cat (pe_slice sl_list (pv 3) (po_some (pv 4)) po_none) (pe_slice sl_list (pv 3) po_none (po_some (pv 4)))) pa_nil)))
        (pg_tup rfl (pgs_cons (pg_name (i := 5) sk15.nd rfl (.inl rfl)) (pgs_cons (pg_name (i := 6) sk15.nd rfl (.inl rfl)) pgs_nil)))
        (pss_one (ps_asg (pv 6) (pg_sub (pv 2) (pv 5) set_list)))))))
    (pss_one (ps_ret (pe_callTy call_tuple_of (by rfl) B.tuple (by decide +kernel) (pa_cons (pv 2) pa_nil))))), ?_⟩)
  · obtain ⟨a, n, c, k, rfl, _⟩ := h
    rfl
  obtain ⟨a, n, c, cnt, rfl, ha, hc, hn, q⟩ := h
  have lc : (vi c).length = n := by rw [List.length_map]; exact hc.len
  refine ⟨(by show 1 ≤ sizeLine; decide), fun l hl => ⟨_, rfl, a, _, rfl, .inr (SqT.of (Same.mk1 hl _ _ ha)), l, _, _, rfl, rfl, upd_same, ?_, ?_, ?_, fun o ho => ?_⟩⟩
  · rw [lc]; omega
  · rw [lc]; omega
  · rw [lc]
    show 1 * ((n : Int)).toNat ≤ sizeLine
    exact Nat.le_of_lt (len_lt (by omega))
  have e0 : (List.replicate (((vi c).length : Nat) : Int).toNat [V.int 0]).flatten = vi (List.replicate n 0) := by
    rw [lc, vi_rep, rep_v]
    rfl
  rw [e0]
  have s1 : Same H (upd (upd H l (.lst [V.int 0])) o (.lst (vi (List.replicate n 0)))) := (Same.mk1 hl).trans (Same.mk1 ho)
  have o1 : upd (upd H l (.lst [V.int 0])) o (.lst (vi (List.replicate n 0))) o = some (.lst (vi (List.replicate n 0))) := upd_same
  have on : H o = none := (Same.mk1 hl).free ho
  generalize upd (upd H l (.lst [V.int 0])) o (.lst (vi (List.replicate n 0))) = H1 at s1 o1 ⊢
  refine ⟨_, rfl, a, n, c, rfl, s1 _ _ ha, hc, hn, fun p Hc as sc pn hp hea hcov hlen => ⟨p, rfl, ⟨_, SqL.of hp⟩, ?_⟩⟩
  have po : p ≠ o := fun z => by rw [z, o1] at pn; cases pn
  have sH : Same H Hc := s1.trans sc
  refine for_list (K := K) (a := p) (xs := as.map fun q => V.ref q.1) (fun i σ H' => (∃ u3 u4 u5 u6 : Option V, σ = [some (.ref a), some (.int cnt), some (.ref o), u3, u4, u5, u6]) ∧ KpM o Hc H' ∧ ∃ es : List Nat, H' o = some (.lst (vi es)) ∧ es.length = n ∧ ∀ x, Un (as.take i) x → es[x]? = some (it c (cnt % (fac n : Int)).toNat x))
    ⟨⟨none, none, none, none, rfl⟩, KpM.refl, List.replicate n 0, sc _ _ o1, List.length_replicate, fun x ⟨q, hq, _⟩ => by simp at hq⟩ (fun i σ H' _ z => SqL.of (z.2.1 _ _ po hp)) ?_ ?_
  · rintro i x σ H2 hx ⟨⟨u3, u4, u5, u6, rfl⟩, hK, es, p2, p3, p4⟩
    obtain ⟨q, hq, rfl⟩ := refs_at hx
    obtain ⟨hq1, hq2, hq3⟩ := hea q (List.mem_of_getElem? hq)
    have qo : q.1 ≠ o := fun z => by rw [z, o1] at hq3; cases hq3
    have hy := hK _ _ qo hq1
    have pos := hq2.pos
    have lv : (vi q.2).length = q.2.length := List.length_map ..
    have ld := hq2.le hc
    refine ⟨_, rfl, _, rfl, q.1, _, rfl, .inl (SqL.of hy), _, _, rfl, rfl, (by rw [lv]; show (0 : Int) < _; omega), ?_⟩
    dsimp only [gName]
    rw [lv]
    have t0 := Int.emod_nonneg cnt (show (q.2.length : Int) ≠ 0 by omega)
    have t1 := Int.emod_lt_of_pos cnt (show (0 : Int) < (q.2.length : Int) by omega)
    obtain ⟨sh, esh⟩ := Int.eq_ofNat_of_zero_le t0
    have turn := fun (j x : Nat) (h : q.2[j]? = some x) => hq2.turn hc cnt h
    rw [esh] at turn t1 ⊢
    have shl : sh ≤ q.2.length := by omega
    refine ⟨_, rfl, _, rfl, _, rfl, _, rfl, q.1, _, rfl, SqL.of hy, fun d1 hd1 => ⟨_, rfl, _, rfl, _, rfl, q.1, _, rfl, SqL.of (Same.mk1 hd1 _ _ hy), fun d2 hd2 => ?_⟩⟩
    rw [cut_from (by rw [lv]; exact shl), cut_to (by rw [lv]; exact shl)]
    have e1 : (vi q.2).drop sh = vi (q.2.drop sh) := List.map_drop.symm
    have e2 : (vi q.2).take sh = vi (q.2.take sh) := List.map_take.symm
    have hd2 : upd H2 d1 (.lst (vi (q.2.drop sh))) d2 = none := by
      rw [← e1, ← cut_from (by rw [lv]; exact shl)]
      exact hd2
    rw [e1, e2]
    refine ⟨d1, d2, _, _, rfl, rfl, Same.mk1 hd2 _ _ upd_same, upd_same, ?_, fun d3 hd3 => ?_⟩
    · simp only [vi, List.length_map, List.length_drop, List.length_take]
      exact Nat.le_of_lt (len_lt (by omega))
    have sd := ((Same.mk1 (o := .lst (vi (q.2.drop sh))) hd1).trans (Same.mk1 (o := .lst (vi (q.2.take sh))) hd2)).trans (Same.mk1 (o := .lst (vi (q.2.drop sh) ++ vi (q.2.take sh))) hd3)
    have d3v : upd (upd (upd H2 d1 (.lst (vi (q.2.drop sh)))) d2 (.lst (vi (q.2.take sh)))) d3 (.lst (vi (q.2.drop sh) ++ vi (q.2.take sh))) d3 = some (.lst (vi (q.2.drop sh ++ q.2.take sh))) := by rw [upd_same]; simp only [vi, List.map_append]
    have d3n : H2 d3 = none := ((Same.mk1 (o := .lst (vi (q.2.drop sh))) hd1).trans (Same.mk1 (o := .lst (vi (q.2.take sh))) hd2)).free hd3
    generalize upd (upd (upd H2 d1 (.lst (vi (q.2.drop sh)))) d2 (.lst (vi (q.2.take sh)))) d3 (.lst (vi (q.2.drop sh) ++ vi (q.2.take sh))) = H3 at sd d3v ⊢
    have d3o : d3 ≠ o := (ne_of_none p2 d3n).symm
    have k3 : KpM o Hc H3 := fun b u hb z => sd _ _ (hK b u hb z)
    refine ⟨q.1, d3, vi q.2, vi (q.2.drop sh ++ q.2.take sh), rfl, SqL.of (sd _ _ hy), SqL.of d3v, RZ.for_zipL (xs := vi q.2) (ys := vi (q.2.drop sh ++ q.2.take sh)) ?_
      (fun j σ H' => (∃ u5 u6 : Option V, σ = [some (.ref a), some (.int cnt), some (.ref o), some (.ref q.1), some (.int (sh : Int)), u5, u6]) ∧ KpM o H3 H' ∧ ∃ es : List Nat, H' o = some (.lst (vi es)) ∧ es.length = n ∧ ∀ x, (Un (as.take i) x ∨ x ∈ q.2.take j) → es[x]? = some (it c (cnt % (fac n : Int)).toNat x))
      ⟨⟨u5, u6, rfl⟩, KpM.refl, es, sd _ _ p2, p3, fun x hx => p4 x (hx.elim id fun z => by simp at z)⟩ (fun j σ H' z => ⟨SqL.of (z.2.1 _ _ qo (sd _ _ hy)), SqL.of (z.2.1 _ _ d3o d3v)⟩) ?_ ?_⟩
    · simp only [vi, List.length_map, List.length_append, List.length_drop, List.length_take]
      omega
    · rintro j x y T σ H4 hx hy' ⟨⟨u5, u6, rfl⟩, k4, es, r2, r3, r4⟩ hT
      obtain ⟨xm, hxm, rfl⟩ := vi_at hx
      obtain ⟨ym, hym, rfl⟩ := vi_at hy'
      have ey : ym = it c (cnt % (fac n : Int)).toNat xm := by
        have z := turn j xm hxm
        rw [show ((sh : Nat) : Int).toNat = sh from rfl, hym] at z
        exact Option.some.inj z
      have xn : xm < n := hq2.lt hc (List.mem_of_getElem? hxm)
      have le : (vi es).length = n := by rw [List.length_map]; exact r3
      have oT : o ≠ T := ne_of_none r2 hT
      refine ⟨T, _, rfl, SqT.of upd_same, rfl, _, _, rfl, _, _, rfl, rfl, ?_⟩
      refine ⟨_, rfl, _, rfl, _, rfl, o, _, _, xm, rfl, rfl, Same.mk1 hT _ _ r2, ix_ok (by rw [le]; exact xn), ⟨_, _, rfl⟩, ?_, es.set xm ym, ?_, by rw [List.length_set]; exact r3, ?_⟩
      · exact (k4.new hT oT.symm).upd_m
      · rw [upd_same]
        show some (HO.lst ((es.map fun (n : Nat) => V.int (n : Int)).set xm (V.int (ym : Int)))) = some (HO.lst ((es.set xm ym).map fun (n : Nat) => V.int (n : Int)))
        rw [List.map_set]
      · intro x hx
        by_cases e : x = xm
        · subst e
          rw [List.getElem?_set_self (by rw [r3]; exact xn), ey]
        · rw [List.getElem?_set_ne (Ne.symm e)]
          refine r4 x (hx.imp id fun z => ?_)
          rw [List.take_succ, hxm] at z
          rcases List.mem_append.mp z with z | z
          · exact z
          · exact absurd (by simpa using z) e
    · rintro σ H4 ⟨⟨u5, u6, rfl⟩, k4, es, r2, r3, r4⟩
      refine ⟨⟨_, _, _, _, rfl⟩, fun b u hb z => k4 b u hb (k3 b u hb z), es, r2, r3, fun x hx => r4 x ?_⟩
      rw [lv, List.take_length]
      exact (un_take hq).mp hx
  · rintro σ H2 ⟨⟨u3, u4, u5, u6, rfl⟩, hK, es, p2, p3, p4⟩
    have s2 : Same H H2 := fun b u z => hK b u (fun y => by rw [y, on] at z; cases z) (sH b u z)
    have ees : es = pw n c cnt := by
      unfold pw
      refine List.ext_getElem? fun x => ?_
      by_cases hx : x < n
      · rw [tab_get hx]
        refine p4 x ?_
        rw [show (as.map fun q => V.ref q.1).length = as.length from List.length_map .., List.take_length]
        exact hcov x hx
      · rw [List.getElem?_eq_none (by omega), List.getElem?_eq_none (by rw [tab_len]; omega)]
    subst ees
    exact ⟨_, rfl, o, _, rfl, .inl ⟨SqL.of p2, fun t ht => q t _ (s2.trans (Same.mk1 ht)) (s2.free ht) upd_same⟩⟩
end
end KV

/-! the law: what a row does -/
namespace KV
open PySem PySem.Spec PyProof.Rows L2 KC
section
variable {P : Program} {w : World} {K : PySem.W.Frag} {mg : Str → Option Value} {base : Heap}
def spDone : Sp := fun vs H Q _ => ∃ (l a : Addr) (n : Nat) (bs : List Addr) (cs : List (List Nat)) (r : List Nat), vs = [.ref l, .ref a] ∧ Gens H l n bs cs ∧ n ≤ 16 ∧ H a = some (.tup (vi r)) ∧ Vld cs.length r ∧ ∀ t H', Same H H' → H' t = some (.tup (vi (act n cs r))) → Q (.ref t) H'
end
end KV

/-! back -/
namespace KV
open PySem PySem.Spec PyProof.Rows L2 KC
section
variable {P : Program} {w : World} {K : PySem.W.Frag} {mg : Str → Option Value} {base : Heap}
theorem sbk33 : FnScope ["_law_one", "_law_found", "_law_state", "_law_to"] ["_law_one"] (defScope (top 50)) := ⟨rfl, rfl, rfl, by decide +kernel, rfl, by decide +kernel, by decide +kernel⟩
theorem ok_backL {f : Addr} {fd : FuncData} (B : Bl mg) (F : Fun K "_law_back" "_law_back" (top 50) f fd) : FnOk P w K mg base CX0 1 f fd ["_law_one"] spUnd := by
  refine F.ok sbk33 (fun vs H Q E h => ?_) (fun cdv A outer s H vs Q E hr h => ⟨_,
    pss_cons (ps_set (i := 1) sbk33.nd rfl (.inl rfl) (pe_op op_rep (pe_lst (pa_cons pe_int pa_nil)) (pe_callB call_len_seq (by rfl) B.len PySem.boot_len (pa_cons (pv 0) pa_nil))))
    (pss_cons (ps_for PassesOwn.never rfl (pi_enumT (by rfl) B.enumerate (pa_cons (pv 0) pa_nil)) (pg_tup rfl (pgs_cons (pg_name (i := 2) sbk33.nd rfl (.inl rfl)) (pgs_cons (pg_name (i := 3) sbk33.nd rfl (.inl rfl)) pgs_nil)))
      (pss_one (ps_asg (pv 2) (pg_sub (pv 1) (pv 3) set_list))))
    (pss_one (ps_ret (pe_callTy call_tuple_of (by rfl) B.tuple (by decide +kernel) (pa_cons (pv 1) pa_nil))))), ?_⟩)
  · obtain ⟨a, n, c, rfl, _⟩ := h
    rfl
  obtain ⟨a, n, c, rfl, ha, hc, hn, q⟩ := h
  have lc : (vi c).length = n := by rw [List.length_map]; exact hc.len
  refine ⟨(by show 1 ≤ sizeLine; decide), fun l hl => ⟨_, rfl, a, _, rfl, .inr (SqT.of (Same.mk1 hl _ _ ha)), l, _, _, rfl, rfl, upd_same, ?_, ?_, ?_, fun o ho => ?_⟩⟩
  · rw [lc]; omega
  · rw [lc]; omega
  · rw [lc]
    show 1 * ((n : Int)).toNat ≤ sizeLine
    exact Nat.le_of_lt (len_lt (by omega))
  have e0 : (List.replicate (((vi c).length : Nat) : Int).toNat [V.int 0]).flatten = vi (List.replicate n 0) := by
    rw [lc, vi_rep, rep_v]
    rfl
  rw [e0]
  have s1 : Same H (upd (upd H l (.lst [V.int 0])) o (.lst (vi (List.replicate n 0)))) := (Same.mk1 hl).trans (Same.mk1 ho)
  have o1 : upd (upd H l (.lst [V.int 0])) o (.lst (vi (List.replicate n 0))) o = some (.lst (vi (List.replicate n 0))) := upd_same
  have on : H o = none := (Same.mk1 hl).free ho
  generalize upd (upd H l (.lst [V.int 0])) o (.lst (vi (List.replicate n 0))) = H1 at s1 o1 ⊢
  refine ⟨_, rfl, a, _, rfl, SqT.of (s1 _ _ ha), for_enumT (xs := vi c) (fun i σ H' => (∃ u v : Option V, σ = [some (.ref a), some (.ref o), u, v]) ∧ Same H H' ∧ ∃ es : List Nat, H' o = some (.lst (vi es)) ∧ es.length = n ∧ ∀ j, j < i → es[c.getD j 0]? = some j)
    ⟨⟨none, none, rfl⟩, s1, List.replicate n 0, o1, List.length_replicate, fun j hj => absurd hj (Nat.not_lt_zero j)⟩ (fun i σ H' _ p => SqT.of (p.2.1 _ _ ha)) ?_ ?_⟩
  · rintro i x σ H' T hx ⟨⟨u, v, rfl⟩, p1, es, p2, p3, p4⟩ hT
    obtain ⟨m, hm, rfl⟩ := vi_at hx
    have hi : i < n := by rw [← hc.len]; exact (List.getElem?_eq_some_iff.mp hm).1
    have em : c.getD i 0 = m := getD_at hm
    have lt : m < es.length := by rw [p3, ← em]; exact hc.at_lt hi
    have oT : o ≠ T := ne_of_none p2 hT
    refine ⟨T, _, rfl, SqT.of upd_same, rfl, _, _, rfl, _, _, rfl, rfl, ?_⟩
    refine ⟨_, rfl, _, rfl, _, rfl, o, _, _, m, rfl, rfl, Same.mk1 hT _ _ p2, by rw [show (vi es).length = es.length from List.length_map ..]; exact ix_ok lt, ⟨_, _, rfl⟩, ?_, es.set m i, ?_, by rw [List.length_set]; exact p3, ?_⟩
    · intro b z hb
      rw [upd_ne (ne_of_none hb on)]
      exact (p1.trans (Same.mk1 hT)) b z hb
    · rw [upd_same]
      show some (HO.lst ((es.map fun (n : Nat) => V.int (n : Int)).set m (V.int (i : Int)))) = some (HO.lst ((es.set m i).map fun (n : Nat) => V.int (n : Int)))
      rw [List.map_set]
    · rw [← em]
      exact set_walk hc hi p3 p4
  · rintro σ H' ⟨⟨u, v, rfl⟩, p1, es, p2, p3, p4⟩
    rw [lc] at p4
    exact ⟨_, rfl, o, _, rfl, .inl ⟨SqL.of p2, fun t ht => q t _ es (p1.trans (Same.mk1 ht)) (p1.free ht) upd_same ⟨p3, p4⟩⟩⟩
end
end KV

/-! the law's powers -/
namespace KV
open PySem PySem.Spec PyProof.Rows L2 KC
theorem vi_rg (n : Nat) : rgV 0 (n : Int) = vi (tab n id) := by
  unfold rgV vi tab
  rw [List.map_map, show ((n : Int) - 0).toNat = n by omega]
  refine List.map_congr_left fun i _ => ?_
  show V.int (0 + (i : Int)) = V.int (i : Int)
  rw [Int.zero_add]
section
variable {P : Program} {w : World} {K : PySem.W.Frag} {mg : Str → Option Value} {base : Heap}
def spPwL : Sp := fun vs H Q _ => ∃ (a : Addr) (n : Nat) (c : List Nat) (k : Int), vs = [.ref a, .int k] ∧ H a = some (.tup (vi c)) ∧ Chg n c ∧ n ≤ 16 ∧ ∀ t H', Same H H' → H t = none → H' t = some (.tup (vi (pw n c k))) → Q (.ref t) H'
theorem spw34 : FnScope ["_law_one", "_law_count", "_law_step", "_law_left", "_law_found"] ["_law_one", "_law_count"] (defScope (top 51)) := ⟨rfl, rfl, rfl, by decide +kernel, rfl, by decide +kernel, by decide +kernel⟩
/-- the loop's state: what is found, the step, what is left -/
def PwW (n : Nat) (e : List Nat) (T : Nat) (a : Addr) (k : Int) (H : Hp) (m : Nat) (σ : L2.St) (H' : Hp) : Prop := ∃ (x b : Nat) (s f : Addr), σ = [some (.ref a), some (.int k), some (.ref s), some (.int (m : Int)), some (.ref f)] ∧ H' s = some (.tup (vi (tab n (it e b)))) ∧ H' f = some (.tup (vi (tab n (it e x)))) ∧ H f = none ∧ x + b * m = T ∧ Same H H'
theorem ok_pwL {f : Addr} {fd : FuncData} (B : Bl mg) (CT : Cal P w K mg base CX0 1 "_law_then" ["_law_one", "_law_other"] spComp) (CB : Cal P w K mg base CX0 1 "_law_back" ["_law_one"] spUnd) (F : Fun K "_law_power" "_law_power" (top 51) f fd) :
    FnOk P w K mg base CX0 2 f fd ["_law_one", "_law_count"] spPwL := by
  refine F.ok spw34 (fun vs H Q E h => ?_) (fun cdv A outer s H vs Q E hr h => ⟨_,
    pss_cons (ps_asg (pe_ifExp (pt_cmpR op_lt (pv 1) pe_int (nomark _)) (pe_tup (pa_cons (by exact (pe_cal (X := L2.Cx.nox _) CB hr (by decide) (pa_cons (pv 0) pa_nil))) (pa_cons (pe_op op_sub pe_int (pv 1)) pa_nil))) (pe_tup (pa_cons (pv 0) (pa_cons (pv 1) pa_nil))))
      (pg_tup rfl (pgs_cons (pg_name (i := 2) spw34.nd rfl (.inl rfl)) (pgs_cons (pg_name (i := 3) spw34.nd rfl (.inl rfl)) pgs_nil))))
    (pss_cons (ps_set (i := 4) spw34.nd rfl (.inl rfl) (pe_callTy call_tuple_of (by rfl) B.tuple (by decide +kernel) (pa_cons (pe_listRg rfl (by rfl) B.list (prg_1 (by rfl) B.range (pe_callB call_len_seq (by rfl) B.len PySem.boot_len (pa_cons (pv 0) pa_nil)))) pa_nil)))
    (pss_cons (ps_while PassesOwn.never (pt_cmpR op_gt (pv 3) pe_int (nomark _))
      (pss_cons (ps_if (pt_cmpR op_eq (pe_op op_mod (pe_callTy call_int1 (by rfl) B.int PyProof.Rows.boot_int (pa_cons (pv 3) pa_nil)) pe_int) pe_int (nomark _))
        (pss_one (ps_set (i := 4) spw34.nd rfl (.inl rfl) (by exact (pe_cal (X := L2.Cx.nox _) CT hr (by decide) (pa_cons (pv 4) (pa_cons (pv 2) pa_nil)))))) pss_nil)
      (pss_one (ps_par (i := 2) (j := 3) rfl spw34.nd rfl rfl (by decide) rfl rfl (pa_cons (by exact (pe_cal (X := L2.Cx.nox _) CT hr (by decide) (pa_cons (pv 2) (pa_cons (pv 2) pa_nil)))) (pa_cons (pe_op op_fdivW (pv 3) pe_int) pa_nil)) (by rfl)))))
    (pss_one (ps_ret (pv 4))))), ?_⟩)
  · obtain ⟨a, n, c, k, rfl, _⟩ := h
    rfl
  obtain ⟨a, n, c, k, rfl, ha, hc, hn, q⟩ := h
  refine sq_cut (fun σ H' => ∃ (s : Addr) (e : List Nat) (m : Nat), σ = [some (.ref a), some (.int k), some (.ref s), some (.int (m : Int)), none] ∧ H' s = some (.tup (vi e)) ∧ Chg n e ∧ pw n c k = tab n (it e m) ∧ Same H H') (fun Z hZ => ⟨_, rfl, _, _, rfl, rfl, _, rfl, ?_⟩) ?_
  · by_cases k0 : k < 0
    · refine iteP (by simpa using k0) ⟨_, rfl, a, n, c, rfl, ha, hc, hn, fun t H1 e s1 t0 t1 u => ⟨_, rfl, _, _, rfl, rfl, (by show 2 ≤ sizeLine; decide), fun T hT => ⟨T, _, rfl, SqT.of upd_same, rfl, _, _, rfl, _, _, rfl, rfl, ?_⟩⟩⟩
      have sT : Same H1 (upd H1 T (.tup [.ref t, (fun i j => V.int (i - j)) 0 k])) := Same.mk1 hT
      refine hZ _ _ ⟨t, e, (-k).toNat, ?_, sT _ _ t1, u.chg hc, ?_, s1.trans sT⟩
      · have ek : ((-k).toNat : Int) = 0 - k := by omega
        rw [ek]
        rfl
      · rw [← pw_neg hc u]
        congr 1
        omega
    · refine iteN (by simpa using k0) ⟨_, rfl, _, rfl, (by show 2 ≤ sizeLine; decide), fun T hT => ⟨T, _, rfl, SqT.of upd_same, rfl, _, _, rfl, _, _, rfl, rfl, ?_⟩⟩
      have sT : Same H (upd H T (.tup [.ref a, .int k])) := Same.mk1 hT
      have ek : (k.toNat : Int) = k := by omega
      refine hZ _ _ ⟨a, c, k.toNat, by rw [ek]; rfl, sT _ _ ha, hc, ?_, sT⟩
      rw [← pw_nat hc, ek]
  · rintro σ H1 ⟨s, e, m, rfl, hs, he, ep, s1⟩
    have lc : (vi c).length = n := by rw [List.length_map]; exact hc.len
    refine ⟨_, rfl, a, _, rfl, .inr (SqT.of (s1 _ _ ha)), _, rfl, RgOk.of_le (Int.le_refl 0) (by rw [lc]; omega) (by decide) (by omega), fun l hl => ⟨l, _, rfl, .inl ⟨SqL.of upd_same, fun f hf => ?_⟩⟩⟩
    rw [lc] at hf ⊢
    have sl : Same H1 (upd H1 l (.lst (rgV 0 (n : Int)))) := Same.mk1 hl
    have sf : Same H1 (upd (upd H1 l (.lst (rgV 0 (n : Int)))) f (.tup (rgV 0 (n : Int)))) := sl.trans (Same.mk1 hf)
    have e1 : tab n (it e 1) = e := by
      rw [← pw_nat he]
      exact pw_one he
    have h0 : PwW n e m a k H m [some (.ref a), some (.int k), some (.ref s), some (.int (m : Int)), some (.ref f)] (upd (upd H1 l (.lst (rgV 0 (n : Int)))) f (.tup (rgV 0 (n : Int)))) :=
      ⟨0, 1, s, f, rfl, by rw [e1]; exact sf _ _ hs, by rw [upd_same, vi_rg]; rfl, s1.free (sl.free hf), by omega, s1.trans sf⟩
    generalize upd (upd H1 l (.lst (rgV 0 (n : Int)))) f (.tup (rgV 0 (n : Int))) = H3 at h0
    dsimp only [gName]
    refine sq_cut (PwW n e m a k H 0) (fun Z hZ => ⟨PwW n e m a k H, ⟨_, h0⟩, ?_⟩) ?_
    · rintro i σ H4 ⟨x, b, s, f, rfl, g1, g2, g3, g4, g5⟩
      refine ⟨_, rfl, _, _, rfl, rfl, _, rfl, ?_⟩
      by_cases i0 : i = 0
      · subst i0
        exact iteN (by simp) (hZ _ _ ⟨x, b, s, f, rfl, g1, g2, g3, g4, g5⟩)
      refine iteP (by simp only [decide_eq_true_eq]; omega) ⟨fun σ H' => ∃ m', m' < i ∧ PwW n e m a k H m' σ H', fun _ _ z => z, ?_⟩
      refine sq_cut (fun σ H' => ∃ (x b : Nat) (s f : Addr), σ = [some (.ref a), some (.int k), some (.ref s), some (.int (i : Int)), some (.ref f)] ∧ H' s = some (.tup (vi (tab n (it e b)))) ∧ H' f = some (.tup (vi (tab n (it e x)))) ∧ H f = none ∧ x + b * (i - i % 2) = m ∧ Same H H') (fun Z2 hZ2 => ?_) ?_
      · refine ⟨_, rfl, .inl ⟨_, rfl, _, _, rfl, rfl, (by show (0 : Int) < 2; decide), rfl, _, rfl, ?_⟩⟩
        by_cases od : i % 2 = 1
        · have hlt : ∀ y ∈ tab n (it e x), y < (tab n (it e b)).length := fun y hy => by
            rw [tab_len]
            obtain ⟨j, hj, rfl⟩ := mem_tab.mp hy
            exact it_lt he hj _
          refine iteP ?_ ⟨_, rfl, _, rfl, f, s, _, _, rfl, g2, g1, hlt, by rw [tab_len]; exact hn, fun t H5 s5 t0 t5 => hZ2 _ _ ⟨b + x, b, s, t, rfl, s5 _ _ g1, ?_, g5.free t0, ?_, g5.trans s5⟩⟩
          · show decide (V.int (((i : Nat) : Int) % 2) = V.int 1) = true
            rw [decide_eq_true_eq, V.int.injEq]
            omega
          · rw [t5, comp_tab (fun j hj => it_lt he hj _)]
            congr 2
            refine congrArg _ (tab_congr fun j _ => ?_)
            rw [it_add]
          · rw [od]
            have z : b * i = b * (i - 1) + b := by
              have : i = i - 1 + 1 := by omega
              rw [this, Nat.mul_succ]
              rfl
            omega
        · have ev : i % 2 = 0 := by omega
          refine iteN ?_ (hZ2 _ _ ⟨x, b, s, f, rfl, g1, g2, g3, by rw [ev]; exact g4, g5⟩)
          show ¬ decide (V.int (((i : Nat) : Int) % 2) = V.int 1) = true
          rw [decide_eq_true_eq, V.int.injEq]
          omega
      · rintro σ H5 ⟨x, b, s, f, rfl, g1, g2, g3, g4, g5⟩
        have hlt : ∀ y ∈ tab n (it e b), y < (tab n (it e b)).length := fun y hy => by
          rw [tab_len]
          obtain ⟨j, hj, rfl⟩ := mem_tab.mp hy
          exact it_lt he hj _
        refine ⟨_, rfl, _, rfl, s, s, _, _, rfl, g1, g1, hlt, by rw [tab_len]; exact hn, fun t H6 s6 t0 t6 => ⟨_, rfl, _, _, rfl, rfl, ?_, _, _, rfl, i / 2, ?_, x, b + b, t, f, ?_, ?_, s6 _ _ g2, g3, ?_, g5.trans s6⟩⟩
        · exact divW (k := 3) (by decide) (by decide) (by decide) (by decide)
        · omega
        · rfl
        · rw [t6, comp_tab (fun j hj => it_lt he hj _)]
          refine congrArg _ (congrArg _ (congrArg _ (tab_congr fun j _ => ?_)))
          rw [it_add]
        · have z : i - i % 2 = i / 2 + i / 2 := by omega
          rw [z] at g4
          rw [Nat.add_mul, ← Nat.mul_add]
          exact g4
    · rintro σ H4 ⟨x, b, s, f, rfl, g1, g2, g3, g4, g5⟩
      refine ⟨_, rfl, q f H4 g5 g3 ?_⟩
      rw [g2, ep]
      have : x = m := by omega
      rw [this]
end
end KV

/-! the powers of many changes: sets of tuples, sorted; few makers -/
namespace KV
open PySem PySem.Spec PyProof.Rows L2 KC
theorem code_lexF {B : Int} : ∀ {a b : List Int}, a.length = b.length → TS.Bd B a → TS.Bd B b → TS.code B a ≤ TS.code B b → HT.lexLt b a = false
  | [], [], _, _, _, _ => rfl
  | [], _ :: _, h, _, _, _ => by cases h
  | _ :: _, [], h, _, _, _ => by cases h
  | x :: r, y :: s, h, h1, h2, h3 => by
    have hl : r.length = s.length := by simpa using h
    rw [HT.lexLt_cons]
    by_cases e : y = x
    · subst e
      rw [if_pos rfl]
      refine code_lexF hl h1.tail h2.tail (Int.not_lt.mp fun z => ?_)
      have := (TS.code_same (B := B) (d := y) hl.symm).mpr z
      omega
    · rw [if_neg e]
      refine decide_eq_false fun z => ?_
      have := TS.code_lt (B := B) hl.symm h2.tail h1.tail z
      omega
/-- the powers of these changes, each once, in order -/
structure PwS (n : Nat) (gs : List (List Nat)) (k : Int) (out : List (List Nat)) : Prop where
  srt : SrtC out
  nd : out.Nodup
  all : ∀ c, c ∈ out ↔ ∃ g ∈ gs, c = pw n g k
theorem PwS.uniq {n : Nat} {gs hs : List (List Nat)} {k : Int} {a b : List (List Nat)} (h : PwS n gs k a) (h' : PwS n hs k b) (e : ∀ g, g ∈ gs ↔ g ∈ hs) : a = b := srt_eq (perm_of_nd h.nd h'.nd fun c => by
  rw [h.all, h'.all]
  exact ⟨fun ⟨g, x, y⟩ => ⟨g, (e g).mp x, y⟩, fun ⟨g, x, y⟩ => ⟨g, (e g).mpr x, y⟩⟩) h.srt h'.srt
def unzi (c : List Int) : List Nat := c.map Int.toNat
theorem unzi_zi (c : List Nat) : unzi (zi c) = c := by
  unfold unzi zi
  rw [List.map_map]
  exact List.map_id _
theorem ks_of {H : Hp} : ∀ {ts : List Addr} {L : List (List Nat)}, TpP H ts L → ∃ ks : List (Addr × List Int), ks.map (·.1) = ts ∧ ks.map (·.2) = L.map zi ∧ ∀ p ∈ ks, H p.1 = some (.tup (p.2.map V.int)) ∧ ∃ c ∈ L, p.2 = zi c
  | [], [], .nil => ⟨[], rfl, rfl, fun _ h => by cases h⟩
  | t :: ts, c :: L, .cons h r => by
    obtain ⟨ks, h1, h2, h3⟩ := ks_of r
    refine ⟨(t, zi c) :: ks, by rw [List.map_cons, h1], by rw [List.map_cons, h2]; rfl, fun p hp => ?_⟩
    rcases List.mem_cons.mp hp with z | z
    · subst z
      exact ⟨by rw [← vi_zi]; exact h, c, List.mem_cons_self .., rfl⟩
    · obtain ⟨a, e, b1, b2⟩ := h3 p z
      exact ⟨a, e, List.mem_cons_of_mem _ b1, b2⟩
theorem tpp_of {H : Hp} : ∀ {L : List (Addr × List Int)}, (∀ p ∈ L, H p.1 = some (.tup (p.2.map V.int)) ∧ ∃ c, p.2 = zi c) → TpP H (L.map (·.1)) (L.map fun p => unzi p.2)
  | [], _ => .nil
  | p :: L, h => by
    obtain ⟨a, c, e⟩ := h p (List.mem_cons_self ..)
    refine .cons ?_ (tpp_of fun q hq => h q (List.mem_cons_of_mem _ hq))
    show H p.1 = some (.tup (vi (unzi p.2)))
    rw [a, e, unzi_zi, ← vi_zi]
theorem srt_set {K : PySem.W.Frag} {P : Program} {w : World} {H : Hp} {D : Addr} {ts : List Addr} {n : Nat} {L : List (List Nat)} {Q : VK} (hD : H D = some (.lst (ts.map V.ref))) (tp : TpP H ts L) (hc : ∀ c ∈ L, Chg n c) (n0 : 0 < n) (hl : L.length < 64)
    (q : ∀ (p : Addr) (bs : List Addr) (out : List (List Nat)) (H' : Hp), Same H H' → H' p = some (.lst (bs.map V.ref)) → TpP H' bs out → SrtC out → out.Nodup → (∀ c, c ∈ out ↔ c ∈ L) → Q (.ref p) H') :
    rSetOfT K P w [.ref D] H fun x H1 => rSortedT K P w [x] H1 Q := by
  obtain ⟨ks, k1, k2, k3⟩ := ks_of tp
  have kl : ks.length = L.length := by
    have := congrArg List.length k2
    simpa using this
  refine ⟨D, ks, rfl, ?_, fun p hp => SqT.of (k3 p hp).1, by omega, fun a S ha hsub hall => ?_⟩
  · have e : (ks.map fun p => V.ref p.1) = ts.map V.ref := by rw [← k1, List.map_map]; rfl
    rw [e]
    exact SqL.of hD
  have sa := Same.new (o := SetTO P w a S) ha
  refine ⟨a, S, n, (n : Int), rfl, upd_same, fun p hp => SqT.of (sa _ _ (k3 p (hsub p hp)).1), n0, fun p hp => ?_, fun S' p pm nd lt pw hp => ?_⟩
  · obtain ⟨_, c, hcL, e⟩ := k3 p (hsub p hp)
    rw [e]
    refine ⟨by unfold zi; rw [List.length_map]; exact (hc c hcL).len, fun m hm => ?_⟩
    obtain ⟨x, hx, rfl⟩ := List.mem_map.mp hm
    have := (hc c hcL).lt x hx
    omega
  have sp := Same.new (o := .lst (S'.map fun q => V.ref q.1)) hp
  have hS' : ∀ p ∈ S', p ∈ ks := fun p hp => hsub p (pm.mem_iff.mp hp)
  have zq : ∀ p ∈ S', zi (unzi p.2) = p.2 := fun p hp => by
    obtain ⟨_, c, _, e⟩ := k3 p (hS' p hp)
    rw [e, unzi_zi]
  have bd : ∀ p ∈ S', p.2.length = n ∧ TS.Bd (n : Int) p.2 := fun p hp => by
    obtain ⟨_, c, hcL, e⟩ := k3 p (hS' p hp)
    rw [e]
    refine ⟨by unfold zi; rw [List.length_map]; exact (hc c hcL).len, fun m hm => ?_⟩
    obtain ⟨x, hx, rfl⟩ := List.mem_map.mp hm
    have := (hc c hcL).lt x hx
    omega
  refine q p (S'.map (·.1)) (S'.map fun p => unzi p.2) _ (sa.trans sp) (by rw [upd_same, List.map_map]; rfl) (tpp_of fun p hp => ?_) ?_ ?_ fun c => ?_
  · obtain ⟨a1, c, _, e⟩ := k3 p (hS' p hp)
    exact ⟨sp _ _ (sa _ _ a1), c, e⟩
  · unfold SrtC
    rw [List.pairwise_map]
    refine pw.imp_of_mem fun {x y} hx hy h => ?_
    rw [zq x hx, zq y hy]
    exact code_lexF ((bd x hx).1.trans (bd y hy).1.symm) (bd x hx).2 (bd y hy).2 h
  · unfold List.Nodup at nd ⊢
    rw [List.pairwise_map] at nd ⊢
    exact nd.imp_of_mem fun {x y} hx hy h e => h (by rw [← zq x hx, ← zq y hy, e])
  · constructor
    · intro h
      obtain ⟨p, hp, rfl⟩ := List.mem_map.mp h
      obtain ⟨_, c, hcL, e⟩ := k3 p (hS' p hp)
      rw [e, unzi_zi]
      exact hcL
    · intro h
      have : zi c ∈ ks.map (·.2) := by rw [k2]; exact List.mem_map.mpr ⟨c, h, rfl⟩
      obtain ⟨p, hp, e⟩ := List.mem_map.mp this
      have h2 := hall p hp
      obtain ⟨r, hr, er⟩ := List.mem_map.mp h2
      refine List.mem_map.mpr ⟨r, pm.mem_iff.mpr hr, ?_⟩
      show unzi r.2 = c
      have e1 : r.2 = zi c := er.trans e
      rw [e1, unzi_zi]
section
variable {P : Program} {w : World} {K : PySem.W.Frag} {mg : Str → Option Value} {base : Heap} {C fT : Addr}
/-- the powers of these changes -/
def spPo (tp : Bool) : Sp := fun vs H Q _ => ∃ (a : Addr) (k : Int) (n : Nat) (es : List Addr) (gs : List (List Nat)), vs = [.ref a, .int k] ∧ H a = some (if tp then .tup (es.map V.ref) else .lst (es.map V.ref)) ∧ TpP H es gs ∧ (∀ g ∈ gs, Chg n g) ∧ 0 < n ∧ n ≤ 16 ∧ gs.length < 64 ∧
  ∀ (l : Addr) (bs : List Addr) (out : List (List Nat)) (H' : Hp), Same H H' → H' l = some (.lst (bs.map V.ref)) → TpP H' bs out → PwS n gs k out → Q (.ref l) H'
theorem sn43 : FnScope ["group", "count", "change"] ["group", "count"] (defScope (top 43)) := ⟨rfl, rfl, rfl, by decide +kernel, rfl, by decide +kernel, by decide +kernel⟩
theorem ok_po {f : Addr} {fd : FuncData} (B : Bl mg) (CR : Cal P w K mg base CX0 3 "raised" ["change", "count"] spRai) (F : Fun K "powers_of" "powers_of" (top 43) f fd) : FnOk P w K mg base CX0 4 f fd ["group", "count"] (spPo true) := by
  refine F.ok sn43 (fun vs H Q E h => ?_) (fun cdv A outer s H vs Q E hr h => ⟨_,
    (pss_one (ps_ret (pe_callB (cr_sortedT rfl) (by rfl) B.sorted (by decide +kernel) (pa_cons (pe_callTy (cr_setOfT rfl hr.units) (by rfl) B.set (by decide +kernel) (pa_cons (pe_lc (own := [("change", 2)]) (g := gName 2) (tt := tYes) rfl sn43.nd (pi_tup (pv 0)) (blkOk_by (N := ["group", "count", "change"]) (sc := defScope (top 43)) (by decide +kernel))
        (fun _ _ _ _ _ => (pg_name (i := 2) sn43.nd rfl (Or.inl rfl))) (fun _ _ _ _ _ => pts_nil) (fun _ _ _ _ _ => (pe_cal CR hr (by decide) (pa_cons (pv 2) (pa_cons (pv 1) pa_nil))))) pa_nil)) pa_nil)))), ?_⟩)
  · obtain ⟨a, k, n, es, gs, rfl, _⟩ := h
    rfl
  obtain ⟨a, k, n, es, gs, rfl, ha, tp, hc, n0, n16, h64, q⟩ := h
  have ha' : H a = some (.tup (es.map V.ref)) := ha
  have le : es.length = gs.length := paired_len tp
  refine ⟨_, rfl, a, rfl, ⟨_, SqT.of ha'⟩, fun D hD => lc_tup (xs := es.map V.ref) (fun i H' => Same H H' ∧ ∃ ts : List Addr, H' D = some (.lst (ts.map V.ref)) ∧ TpP H' ts ((gs.take i).map fun g => pw n g k)) ⟨Same.new hD, [], upd_same, by rw [List.take_zero]; exact .nil⟩ (fun i H' _ z => SqT.of (z.1 _ _ ha')) ?_ ?_⟩
  · rintro i y G hy ⟨p1, ts, p2, p3⟩
    obtain ⟨b, hb, rfl⟩ := ref_at hy
    obtain ⟨g, hg, hb2⟩ := paired_at tp hb
    have lt : ts.length ≤ i := by
      rw [paired_len p3, List.length_map, List.length_take]
      exact Nat.min_le_left _ _
    have il := (List.getElem?_eq_some_iff.mp hg).1
    refine ⟨rfl, _, rfl, _, rfl, b, n, g, k, rfl, p1 _ _ hb2, hc g (List.mem_of_getElem? hg), n16, fun t G2 s2 t0 t1 => ⟨_, s2 _ _ p2, len_lt (by rw [List.length_map]; omega), Same.upd (p1.trans s2) hD, ts ++ [t], by rw [upd_same, List.map_append]; rfl, ?_⟩⟩
    have nt : ∀ xs, G2 D ≠ some (.tup xs) := fun xs z => by rw [s2 _ _ p2] at z; cases z
    rw [tk_at hg, List.map_append]
    refine tups_keep (fun b xs h => by rw [upd_ne (fun z => nt xs (by rw [← z]; exact h))]; exact h) (tpp_snoc (TpP.same p3 s2) t1)
  · rintro G ⟨p1, ts, p2, p3⟩
    rw [show (es.map V.ref).length = gs.length from by rw [List.length_map]; exact le, List.take_length] at p3
    refine srt_set p2 p3 (fun c h => ?_) n0 (by rw [List.length_map]; exact h64) fun p bs out H' s' h1 h2 h3 h4 h5 => q p bs out H' (p1.trans s') h1 h2 ⟨h3, h4, fun c => ?_⟩
    · obtain ⟨g, hg, rfl⟩ := List.mem_map.mp h
      exact pw_chg (hc g hg) k
    · rw [h5, List.mem_map]
      exact ⟨fun ⟨g, x, y⟩ => ⟨g, x, y.symm⟩, fun ⟨g, x, y⟩ => ⟨g, x, y.symm⟩⟩
theorem sn59 : FnScope ["_law_lot_here", "_law_count", "_law_one"] ["_law_lot_here", "_law_count"] (defScope (top 59)) := ⟨rfl, rfl, rfl, by decide +kernel, rfl, by decide +kernel, by decide +kernel⟩
theorem ok_lra {f : Addr} {fd : FuncData} (B : Bl mg) (CR : Cal P w K mg base CX0 2 "_law_power" ["_law_one", "_law_count"] spPwL) (F : Fun K "_law_raised" "_law_raised" (top 59) f fd) : FnOk P w K mg base CX0 4 f fd ["_law_lot_here", "_law_count"] (spPo false) := by
  refine F.ok sn59 (fun vs H Q E h => ?_) (fun cdv A outer s H vs Q E hr h => ⟨_,
    (pss_one (ps_ret (pe_callB (cr_sortedT rfl) (by rfl) B.sorted (by decide +kernel) (pa_cons (pe_callTy (cr_setOfT rfl hr.units) (by rfl) B.set (by decide +kernel) (pa_cons (pe_lc (own := [("_law_one", 2)]) (g := gName 2) (tt := tYes) rfl sn59.nd (pi_list (pv 0)) (blkOk_by (N := ["_law_lot_here", "_law_count", "_law_one"]) (sc := defScope (top 59)) (by decide +kernel))
        (fun _ _ _ _ _ => (pg_name (i := 2) sn59.nd rfl (Or.inl rfl))) (fun _ _ _ _ _ => pts_nil) (fun _ _ _ _ _ => (pe_cal CR hr (by decide) (pa_cons (pv 2) (pa_cons (pv 1) pa_nil))))) pa_nil)) pa_nil)))), ?_⟩)
  · obtain ⟨a, k, n, es, gs, rfl, _⟩ := h
    rfl
  obtain ⟨a, k, n, es, gs, rfl, ha, tp, hc, n0, n16, h64, q⟩ := h
  have ha' : H a = some (.lst (es.map V.ref)) := ha
  have le : es.length = gs.length := paired_len tp
  refine ⟨_, rfl, a, rfl, ⟨_, SqL.of ha'⟩, fun D hD => lc_list (xs := es.map V.ref) (fun i H' => Same H H' ∧ ∃ ts : List Addr, H' D = some (.lst (ts.map V.ref)) ∧ TpP H' ts ((gs.take i).map fun g => pw n g k)) ⟨Same.new hD, [], upd_same, by rw [List.take_zero]; exact .nil⟩ (fun i H' _ z => SqL.of (z.1 _ _ ha')) ?_ ?_⟩
  · rintro i y G hy ⟨p1, ts, p2, p3⟩
    obtain ⟨b, hb, rfl⟩ := ref_at hy
    obtain ⟨g, hg, hb2⟩ := paired_at tp hb
    have lt : ts.length ≤ i := by
      rw [paired_len p3, List.length_map, List.length_take]
      exact Nat.min_le_left _ _
    have il := (List.getElem?_eq_some_iff.mp hg).1
    refine ⟨rfl, _, rfl, _, rfl, b, n, g, k, rfl, p1 _ _ hb2, hc g (List.mem_of_getElem? hg), n16, fun t G2 s2 t0 t1 => ⟨_, s2 _ _ p2, len_lt (by rw [List.length_map]; omega), Same.upd (p1.trans s2) hD, ts ++ [t], by rw [upd_same, List.map_append]; rfl, ?_⟩⟩
    have nt : ∀ xs, G2 D ≠ some (.tup xs) := fun xs z => by rw [s2 _ _ p2] at z; cases z
    rw [tk_at hg, List.map_append]
    refine tups_keep (fun b xs h => by rw [upd_ne (fun z => nt xs (by rw [← z]; exact h))]; exact h) (tpp_snoc (TpP.same p3 s2) t1)
  · rintro G ⟨p1, ts, p2, p3⟩
    rw [show (es.map V.ref).length = gs.length from by rw [List.length_map]; exact le, List.take_length] at p3
    refine srt_set p2 p3 (fun c h => ?_) n0 (by rw [List.length_map]; exact h64) fun p bs out H' s' h1 h2 h3 h4 h5 => q p bs out H' (p1.trans s') h1 h2 ⟨h3, h4, fun c => ?_⟩
    · obtain ⟨g, hg, rfl⟩ := List.mem_map.mp h
      exact pw_chg (hc g hg) k
    · rw [h5, List.mem_map]
      exact ⟨fun ⟨g, x, y⟩ => ⟨g, x, y.symm⟩, fun ⟨g, x, y⟩ => ⟨g, x, y.symm⟩⟩
/-- a lot of few changes out of which all of them come -/
def spGr (pr : Bool) : Sp := fun vs H Q E => ∃ (l : Addr) (n : Nat) (bs : List Addr) (gs : List (List Nat)), vs = [.int (n : Int), .ref l] ∧ H l = some (.lst (bs.map V.ref)) ∧ TpP H bs gs ∧ (∀ g ∈ gs, Chg n g) ∧ 0 < n ∧ n ≤ 16 ∧ gs.length ≤ 20 ∧ (∀ F : List (List Nat), (∀ f ∈ F, f ∈ gs) → Sz n F 400) ∧
  ∀ (p : Addr) (l2 D : Addr) (fs : List Addr) (F : List (List Nat)) (H' : Hp), Same H H' → (if pr then H' p = some (.tup [.ref l2, .ref D]) else p = l2) → H' l2 = some (.lst (fs.map V.ref)) → TpP H' fs F → (∀ f ∈ F, f ∈ gs) → (∀ g ∈ gs, Rch n F g) → Q (.ref p) H'
theorem Rch.mono {n : Nat} {cs ds : List (List Nat)} {g : List Nat} (h : Rch n cs g) (p : cs <+: ds) : Rch n ds g := by
  refine h.all (S := fun g => Rch n ds g) Rch.one fun g k hg hk => ?_
  obtain ⟨t, rfl⟩ := p
  have e : cs.getD k [] = (cs ++ t).getD k [] := by
    rw [List.getD_eq_getElem?_getD, List.getD_eq_getElem?_getD, List.getElem?_append_left hk]
  rw [e]
  exact hg.step (by rw [List.length_append]; omega)
theorem sn28 : FnScope ["states", "group", "few", "made", "change"] ["states", "group"] (defScope (top 28)) := ⟨rfl, rfl, rfl, by decide +kernel, rfl, by decide +kernel, by decide +kernel⟩
theorem ok_gr {f : Addr} {fd : FuncData} (CR : Cal P w K mg base (L2.CX P w) 3 "reached" ["states", "makers"] (spReach C)) (F : Fun K "grown" "grown" (top 28) f fd) : FnOk P w K mg base (L2.CX P w) 4 f fd ["states", "group"] (spGr true) := by
  refine F.okX sn28 (fun vs H Q E h => ?_) (fun cdv A outer s H vs Q E hr h => ⟨_,
    (pss_cons (ps_set (i := 2) sn28.nd rfl (.inl rfl) (pe_lst pa_nil))
    (pss_cons (ps_set (i := 3) sn28.nd rfl (.inl rfl) (by exact (pe_calX CR hr (by decide) (takes_of rfl rfl rfl rfl) (fun _ _ _ _ z => z) (pa_cons (pv 0) (pa_cons (pv 2) pa_nil)))))
    (pss_cons (ps_for (passes_of rfl) rfl (pi_list (pv 1)) (pg_name (i := 4) sn28.nd rfl (.inl rfl)) (pss_one (ps_if (pt_cmp (pc_dnotin (Nat.lt_of_le_of_lt (Nat.add_le_add_left (show 1 ≤ 64 by decide) _) hr.units) (pv 4) (pv 3))) (pss_cons (ps_expr (pe_bm PySem.F.plainAttrs_list PySem.F.slot_list_append PySem.F.type_list_append mt_append (pv 2) (pa_cons (pv 4) pa_nil)))
    (pss_one (ps_set (i := 3) sn28.nd rfl (.inl rfl) (by exact (pe_calX CR hr (by decide) (takes_of rfl rfl rfl rfl) (fun _ _ _ _ z => z) (pa_cons (pv 0) (pa_cons (pv 2) pa_nil))))))) pss_nil)))
    (pss_one (ps_ret (pe_tup (pa_cons (pv 2) (pa_cons (pv 3) pa_nil)))))))), ?_⟩)
  · obtain ⟨l, n, bs, gs, rfl, _⟩ := h
    rfl
  obtain ⟨l, n, bs, gs, rfl, hl, tp, hc, n0, n16, g20, hsz, q⟩ := h
  have lb : bs.length = gs.length := paired_len tp
  refine ⟨(by show 0 ≤ sizeLine; decide), fun w hw => ?_⟩
  have sw := Same.new (o := .lst []) hw
  refine ⟨_, rfl, _, rfl, w, n, [], [], rfl, ⟨upd_same, .nil, fun c h => (by cases h), n0⟩, n16, by decide, fun z => absurd (hsz [] (fun f h => (by cases h))) z, fun _ D k kvs H1 s1 hD gk rd => ?_⟩
  refine ⟨_, rfl, l, rfl, ⟨_, SqL.of ((sw.trans s1) _ _ hl)⟩, for_list (xs := bs.map V.ref) (fun i σ H' => Same H H' ∧ ∃ (D : Addr) (k : Nat) (kvs : List (List L2.Key × V)) (fs : List Addr) (F : List (List Nat)) (u4 : Option V), σ = [some (.int (n : Int)), some (.ref l), some (.ref w), some (.ref D), u4] ∧ H' w = some (.lst (fs.map V.ref)) ∧ TpP H' fs F ∧ F.length ≤ i ∧ H' D = some (.dT kvs) ∧ (grow n F k).length ≤ k ∧ KF kvs (grow n F k) ∧ (∀ f ∈ F, f ∈ gs) ∧ ∀ g ∈ gs.take i, Rch n F g)
    ⟨sw.trans s1, D, k, kvs, [], [], none, rfl, s1 _ _ upd_same, .nil, Nat.le_refl _, hD, gk, rd.kf, fun f h => (by cases h), fun g h => (by simp at h)⟩ (fun i σ H' _ z => SqL.of (z.1 _ _ hl)) ?_ ?_⟩
  · rintro i y σ G hy ⟨sG, D, k, kvs, fs, F, u4, rfl, hw2, tpF, lF, hD, gk, kf, hF, hR⟩
    obtain ⟨b, hb, rfl⟩ := ref_at hy
    obtain ⟨g, hg, hb2⟩ := paired_at tp hb
    have il := (List.getElem?_eq_some_iff.mp hg).1
    have gm := List.mem_of_getElem? hg
    have hb3 := sG _ _ hb2
    dsimp only [gName]
    refine ⟨_, rfl, _, rfl, D, _, rfl, DGet.t hD (by rw [← kc_vi]; exact hb3), _, rfl, ?_⟩
    cases ev : L2.valV kvs (kc g) with
    | some v =>
      refine iteF ⟨sG, D, k, kvs, fs, F, _, rfl, hw2, tpF, by omega, hD, gk, kf, hF, fun g' h => ?_⟩
      rw [tk_at hg] at h
      rcases List.mem_append.mp h with z | z
      · exact hR g' z
      · rw [show g' = g by simpa using z]
        exact Classical.byContradiction fun y => by
          rw [kf.none.mpr fun m => y (grow_reach m)] at ev
          cases ev
    | none =>
      have lf : fs.length = F.length := paired_len tpF
      have nt : ∀ xs, G w ≠ some (.tup xs) := fun xs z => by rw [hw2] at z; cases z
      refine iteT ⟨_, rfl, .inl ⟨rfl, _, SqL.of hw2⟩, _, rfl, w, _, _, rfl, rfl, hw2, len_lt (by rw [List.length_map]; omega), ?_⟩
      have em : fs.map V.ref ++ [V.ref b] = (fs ++ [b]).map V.ref := by rw [List.map_append]; rfl
      rw [em]
      have sH : Same H (upd G w (.lst ((fs ++ [b]).map V.ref))) := Same.upd sG hw
      have tp2 : TpP (upd G w (.lst ((fs ++ [b]).map V.ref))) (fs ++ [b]) (F ++ [g]) := tups_keep (fun b xs h => by rw [upd_ne (fun z => nt xs (by rw [← z]; exact h))]; exact h) (tpp_snoc tpF hb3)
      have hF2 : ∀ f ∈ F ++ [g], f ∈ gs := fun f h => (List.mem_append.mp h).elim (hF f) fun z => by rw [show f = g by simpa using z]; exact gm
      refine ⟨_, rfl, _, rfl, w, n, fs ++ [b], F ++ [g], rfl, ⟨upd_same, tp2, fun c h => hc c (hF2 c h), n0⟩, n16, by rw [List.length_append]; show F.length + 1 ≤ 20; omega, fun z => absurd (hsz _ hF2) z, fun _ D2 k2 kvs2 H2 s2 hD2 gk2 rd2 => ?_⟩
      refine ⟨sH.trans s2, D2, k2, kvs2, fs ++ [b], F ++ [g], _, rfl, s2 _ _ upd_same, TpP.same tp2 s2, by rw [List.length_append]; show F.length + 1 ≤ i + 1; omega, hD2, gk2, rd2.kf, hF2, fun g' h => ?_⟩
      rw [tk_at hg] at h
      rcases List.mem_append.mp h with z | z
      · exact (hR g' z).mono (List.prefix_append _ _)
      · rw [show g' = g by simpa using z]
        have gc := hc g gm
        have := (Rch.one (n := n) (cs := F ++ [g])).step (k := F.length) (by rw [List.length_append]; exact Nat.lt_succ_self _)
        have e : (F ++ [g]).getD F.length [] = g := by
          rw [List.getD_eq_getElem?_getD, List.getElem?_append_right (Nat.le_refl _)]
          simp
        rwa [e, idle_comp gc] at this
  · rintro σ G ⟨sG, D, k, kvs, fs, F, u4, rfl, hw2, tpF, lF, hD, gk, kf, hF, hR⟩
    rw [List.length_map, lb, List.take_length] at hR
    refine ⟨_, rfl, _, rfl, (by show 2 ≤ sizeLine; decide), fun p hp => ?_⟩
    have sp := Same.new (o := .tup [V.ref w, V.ref D]) hp
    exact q p w D fs F _ (sG.trans sp) upd_same (sp _ _ hw2) (TpP.same tpF sp) hF hR
theorem sn29 : FnScope ["states", "group"] ["states", "group"] (defScope (top 29)) := ⟨rfl, rfl, rfl, by decide +kernel, rfl, by decide +kernel, by decide +kernel⟩
theorem ok_fm {f : Addr} {fd : FuncData} (CG : Cal P w K mg base (L2.CX P w) 4 "grown" ["states", "group"] (spGr true)) (F : Fun K "few_makers" "few_makers" (top 29) f fd) : FnOk P w K mg base (L2.CX P w) 5 f fd ["states", "group"] (spGr false) := by
  refine F.okX sn29 (fun vs H Q E h => ?_) (fun cdv A outer s H vs Q E hr h => ⟨_,
    (pss_one (ps_ret (pe_ix ix_tup (by exact (pe_calX CG hr (by decide) (takes_of rfl rfl rfl rfl) (fun _ _ _ _ z => z) (pa_cons (pv 0) (pa_cons (pv 1) pa_nil)))) pe_int (fun _ _ => rfl)))), ?_⟩)
  · obtain ⟨l, n, bs, gs, rfl, _⟩ := h
    rfl
  obtain ⟨l, n, bs, gs, rfl, hl, tp, hc, n0, n16, g20, hsz, q⟩ := h
  exact ⟨_, rfl, _, rfl, l, n, bs, gs, rfl, hl, tp, hc, n0, n16, g20, hsz, fun p l2 D fs F H' s hp h2 t2 hF hR => ⟨p, _, _, V.ref l2, rfl, rfl, SqT.of hp, at0, q l2 l2 D fs F H' s rfl h2 t2 hF hR⟩⟩
end
end KV

/-! the law: the first rows, longer and longer -/
namespace KV
open PySem PySem.Spec PyProof.Rows L2 KC
/-- amid the walk over the fresh ones -/
structure LR (f r lt : Addr) (H : Hp) (kvs : List (List L2.Key × V)) (fs : Fs) (es ls : List Addr) (Es Ls : List (List Nat)) (H' : Hp) : Prop where
  s : Same H H'
  f0 : H f = none
  l0 : H lt = none
  ne : f ≠ lt ∧ f ≠ r ∧ lt ≠ r
  hf : H' f = some (.dT kvs)
  hr : H' r = some (.lst (es.map V.ref))
  hl : H' lt = some (.lst (ls.map V.ref))
  rd : RowD H' kvs fs
  fe : TpP H' es Es
  fl : TpP H' ls Ls
theorem LR.same {f r lt : Addr} {H H1 H2 : Hp} {kvs : List (List L2.Key × V)} {fs : Fs} {es ls : List Addr} {Es Ls : List (List Nat)} (h : LR f r lt H kvs fs es ls Es Ls H1) (s : Same H1 H2) : LR f r lt H kvs fs es ls Es Ls H2 :=
  ⟨h.s.trans s, h.f0, h.l0, h.ne, s _ _ h.hf, s _ _ h.hr, s _ _ h.hl, h.rd.same s, h.fe.same s, h.fl.same s⟩
theorem RowD.upd {H : Hp} {kvs : List (List L2.Key × V)} {fs : Fs} {p : Addr} {o : HO} (h : RowD H kvs fs) (hp : ∀ xs, H p ≠ some (.tup xs)) : RowD (L2.upd H p o) kvs fs := ⟨h.kf, fun i q e => by
  obtain ⟨x, h1, h2⟩ := h.at_ i q e
  exact ⟨x, h1, by rw [upd_ne (fun z => hp _ (by rw [← z]; exact h2))]; exact h2⟩⟩
theorem RowD.add {H : Hp} {kvs : List (List L2.Key × V)} {fs : Fs} {g r : List Nat} {u : Addr} (h : RowD H kvs fs) (hu : H u = some (.tup (vi r))) : RowD H (kvs ++ [(kc g, .ref u)]) (fs ++ [(g, r)]) := by
  refine ⟨h.kf.add g r _, fun i p e => ?_⟩
  have l := h.kf.len
  by_cases z : i < fs.length
  · rw [List.getElem?_append_left z] at e
    obtain ⟨q, h1, h2⟩ := h.at_ i p e
    exact ⟨q, by rw [List.getElem?_append_left (by omega)]; exact h1, h2⟩
  · rw [List.getElem?_append_right (by omega)] at e
    have ej : i = fs.length := by
      have := (List.getElem?_eq_some_iff.mp e).1
      simp at this
      omega
    subst ej
    rw [Nat.sub_self] at e
    cases e
    exact ⟨u, by rw [List.getElem?_append_right (by omega), l, Nat.sub_self]; rfl, hu⟩
theorem LR.add {f r lt t u : Addr} {H H1 : Hp} {kvs : List (List L2.Key × V)} {fs : Fs} {es ls : List Addr} {Es Ls : List (List Nat)} {c rw_ : List Nat} (h : LR f r lt H kvs fs es ls Es Ls H1) (ht : H1 t = some (.tup (vi c))) (hu : H1 u = some (.tup (vi rw_))) :
    LR f r lt H (kvs ++ [(kc c, .ref u)]) (fs ++ [(c, rw_)]) es (ls ++ [t]) Es (Ls ++ [c]) (L2.upd (L2.upd H1 f (.dT (kvs ++ [(kc c, .ref u)]))) lt (.lst ((ls ++ [t]).map V.ref))) := by
  have nf : ∀ xs, H1 f ≠ some (.tup xs) := fun xs z => by rw [h.hf] at z; cases z
  have nl : ∀ (o : HO) xs, (L2.upd H1 f o) lt ≠ some (.tup xs) := fun o xs z => by
    rw [upd_ne h.ne.1.symm, h.hl] at z
    cases z
  have ft : ∀ o : HO, TpP (L2.upd H1 f o) (ls ++ [t]) (Ls ++ [c]) := fun o => tpp_snoc (h.fl.upd nf) (by rw [upd_ne (fun y => nf _ (by rw [← y]; exact ht))]; exact ht)
  exact ⟨Same.upd (Same.upd h.s h.f0) h.l0, h.f0, h.l0, h.ne, by rw [upd_ne h.ne.1, upd_same], by rw [upd_ne h.ne.2.2.symm, upd_ne h.ne.2.1.symm]; exact h.hr, upd_same, ((h.rd.add hu).upd nf).upd (nl _), (h.fe.upd nf).upd (nl _), (ft _).upd (nl _)⟩
/-- what stands at the head of the while -/
structure LWR (f r : Addr) (H : Hp) (kvs : List (List L2.Key × V)) (fs : Fs) (es : List Addr) (Es : List (List Nat)) (H' : Hp) : Prop where
  s : Same H H'
  f0 : H f = none
  r0 : H r = none
  hf : H' f = some (.dT kvs)
  hr : H' r = some (.lst (es.map V.ref))
  rd : RowD H' kvs fs
  fr : TpP H' es Es
section
variable {P : Program} {w : World} {K : PySem.W.Frag} {mg : Str → Option Value} {base : Heap}
def spFrs : Sp := fun vs H Q _ => ∃ (l : Addr) (n : Nat) (bs : List Addr) (cs : List (List Nat)) (most : Nat), vs = [.ref l] ∧ Gens H l n bs cs ∧ n ≤ 16 ∧ cs.length ≤ 5 ∧ most ≤ 200 ∧ Sz n cs most ∧
  ∀ (D : Addr) (k : Nat) (kvs : List (List L2.Key × V)) (H' : Hp), Same H H' → H' D = some (.dT kvs) → (grow n cs k).length ≤ k → RowD H' kvs (grow n cs k) → Q (.ref D) H'
end
end KV

/-! the law: the common multiple of all orders, by trying -/
namespace KV
open PySem PySem.Spec PyProof.Rows L2 KC
theorem least_of {P : Nat → Prop} : ∀ n, P n → ∃ m, P m ∧ ∀ k, k < m → ¬ P k := by
  intro n
  induction n using Nat.strongRecOn with
  | ind n ih =>
    intro h
    by_cases z : ∃ k, k < n ∧ P k
    · obtain ⟨k, k1, k2⟩ := z
      exact ih k k1 k2
    · exact ⟨n, h, fun k hk hp => z ⟨k, hk, hp⟩⟩
theorem ord_ex {n : Nat} {c : List Nat} (hc : Chg n c) : ∃ L, OrdOf n c L := by
  obtain ⟨L, ⟨l0, l1⟩, l2⟩ := least_of (P := fun m => 0 < m ∧ ∀ x, x < n → it c m x = x) (fac n) ⟨fac_pos n, fun _ hx => it_fac hc hx⟩
  refine ⟨L, l0, fun m => ⟨fun h => ?_, ?_⟩⟩
  · refine Nat.dvd_of_mod_eq_zero (Classical.byContradiction fun z => ?_)
    exact l2 (m % L) (Nat.mod_lt _ l0) ⟨Nat.pos_of_ne_zero z, fun x hx => by rw [it_mod (l1 x hx), h x hx]⟩
  · rintro ⟨q, rfl⟩ x hx
    exact it_mul (l1 x hx) q
theorem ord_uniq {n : Nat} {cs : List (List Nat)} {a b : Nat} (h : OrdAll n cs a) (g : OrdAll n cs b) : a = b :=
  Nat.dvd_antisymm ((h.2 b).mp ((g.2 b).mpr (Nat.dvd_refl _))) ((g.2 a).mp ((h.2 a).mpr (Nat.dvd_refl _)))
theorem tab_range {n : Nat} {c : List Nat} {m : Nat} : tab n (it c m) = List.range n ↔ ∀ x, x < n → it c m x = x := by
  constructor
  · intro h x hx
    have e := tab_get (f := it c m) hx
    rw [h, List.getElem?_range hx] at e
    exact (Option.some.inj e).symm
  · intro h
    rw [tab_congr (g := fun x => x) fun i hi => h i hi]
    exact List.map_id _
section
variable {P : Program} {w : World} {K : PySem.W.Frag} {mg : Str → Option Value} {base : Heap}
def spEvr : Sp := fun vs H Q _ => ∃ (l : Addr) (n : Nat) (ds : List Addr) (L : List (List Nat)), vs = [.ref l] ∧ H l = some (.lst (ds.map V.ref)) ∧ TpP H ds L ∧ (∀ c ∈ L, Chg n c) ∧ n ≤ 16 ∧ (∃ t, L = List.range n :: t) ∧ ∀ H' o, Same H H' → OrdAll n L o → o ∣ fac n → Q (.int (o : Nat)) H'
theorem sc48 : FnScope ["_law_lot_here", "_law_every_here", "_law_one", "_law_count", "_law_step", "_law_whole"] ["_law_lot_here"] (defScope (top 58)) := ⟨rfl, rfl, rfl, by decide +kernel, rfl, by decide +kernel, by decide +kernel⟩
theorem ok_evr {f : Addr} {fd : FuncData} (B : Bl mg) (CT : Cal P w K mg base CX0 1 "_law_then" ["_law_one", "_law_other"] spComp) (F : Fun K "_law_every" "_law_every" (top 58) f fd) : FnOk P w K mg base CX0 2 f fd ["_law_lot_here"] spEvr := by
  refine F.ok sc48 (fun vs H Q E h => ?_) (fun cdv A outer s H vs Q E hr h => ⟨_,
    (pss_cons (ps_set (i := 1) sc48.nd rfl (.inl rfl) pe_int)
    (pss_cons (ps_for PassesOwn.never rfl (pi_list (pv 0)) (pg_name (i := 2) sc48.nd rfl (.inl rfl)) (pss_cons (ps_par (i := 3) (j := 4) rfl sc48.nd rfl rfl (by decide) rfl rfl (pa_cons pe_int (pa_cons (pv 2) pa_nil)) (by rfl))
    (pss_cons (ps_while PassesOwn.never (pt_cmpR (op_neD hr.units) (pv 4) (pe_ix ix_list (pv 0) pe_int (fun _ _ => rfl)) (nomark _)) (pss_one (ps_par (i := 4) (j := 3) rfl sc48.nd rfl rfl (by decide) rfl rfl (pa_cons (by exact (pe_cal (X := L2.Cx.nox _) CT hr (by decide) (pa_cons (pv 4) (pa_cons (pv 2) pa_nil)))) (pa_cons (pe_op op_add (pv 3) pe_int) pa_nil)) (by rfl))))
    (pss_cons (ps_set (i := 5) sc48.nd rfl (.inl rfl) (pv 1))
    (pss_cons (ps_while PassesOwn.never (pt_cmpR op_ne (pe_op op_modN (pe_callTy call_int1 (by rfl) B.int PyProof.Rows.boot_int (pa_cons (pv 5) pa_nil)) (pv 3)) pe_int (nomark _)) (pss_one (ps_set (i := 5) sc48.nd rfl (.inl rfl) (pe_op op_add (pv 5) (pv 1)))))
    (pss_one (ps_set (i := 1) sc48.nd rfl (.inl rfl) (pv 5))))))))
    (pss_one (ps_ret (pv 1))))), ?_⟩)
  · obtain ⟨l, n, ds, L, rfl, _⟩ := h
    rfl
  obtain ⟨l, n, ds, L, rfl, hl, tp, hg, n16, ⟨tl, eL⟩, q⟩ := h
  have n0 : 0 < n ∨ n = 0 := by omega
  obtain ⟨d0, dr, ed, hd0⟩ : ∃ d0 dr, ds = d0 :: dr ∧ H d0 = some (.tup (vi (List.range n))) := by
    rw [eL] at tp
    cases tp with
    | cons h t => exact ⟨_, _, rfl, h⟩
  refine ⟨_, rfl, l, rfl, ⟨_, SqL.of hl⟩, for_list (xs := ds.map V.ref) (fun i σ H' => Same H H' ∧ ∃ (o : Nat) (v2 v3 v4 v5 : Option V), σ = [some (.ref l), some (.int (o : Int)), v2, v3, v4, v5] ∧ OrdAll n (L.take i) o ∧ o ∣ fac n) ⟨Same.refl H, 1, none, none, none, none, rfl, ⟨by decide, fun m => ⟨fun _ => Nat.one_dvd _, fun _ c hc => by simp at hc⟩⟩, Nat.one_dvd _⟩ (fun i σ H' _ z => SqL.of (z.1 _ _ hl)) ?_ ?_⟩
  · rintro i x σ G hx ⟨s1, o, v2, v3, v4, v5, rfl, ho, od⟩
    obtain ⟨b, hb, rfl⟩ := ref_at hx
    obtain ⟨c, hci, hcb⟩ := paired_at tp hb
    have hc := hg c (List.mem_of_getElem? hci)
    obtain ⟨p, hp⟩ := ord_ex hc
    have pf := ord_fac hc hp
    dsimp only [gName]
    refine ⟨_, rfl, _, _, rfl, ?_⟩
    dsimp only [List.set]
    refine sq_cut (fun σ H' => Same G H' ∧ ∃ st : Addr, σ = [some (.ref l), some (.int (o : Int)), some (.ref b), some (.int (p : Int)), some (.ref st), v5]) (fun Z hZ => ?_) ?_
    · refine ⟨fun k σ H' => ∃ (m : Nat) (st : Addr), σ = [some (.ref l), some (.int (o : Int)), some (.ref b), some (.int (m : Int)), some (.ref st), v5] ∧ Same G H' ∧ H' st = some (.tup (vi (tab n (it c m)))) ∧ 0 < m ∧ m ≤ p ∧ k = p - m, ⟨_, 1, b, rfl, Same.refl G, ?_, by decide, hp.1, rfl⟩, ?_⟩
      · rw [show tab n (it c 1) = c from ?_]
        · exact s1 _ _ hcb
        · exact (eq_tab hc.len).symm
      · rintro k σ H2 ⟨m, st, rfl, s2, hst, m0, mp, rfl⟩
        refine ⟨_, rfl, _, rfl, l, _, _, V.ref d0, rfl, rfl, SqL.of (s2 _ _ (s1 _ _ hl)), by rw [ed]; exact atI_zero, ?_⟩
        refine neT hst (s2 _ _ (s1 _ _ hd0)) ⟨_, rfl, ?_⟩
        by_cases z : tab n (it c m) = List.range n
        · have := (hp.2 m).mp (tab_range.mp z)
          have em : m = p := Nat.le_antisymm mp (Nat.le_of_dvd m0 this)
          subst em
          exact iteN (by simp [z]) (hZ _ _ ⟨s2, st, rfl⟩)
        · have lt : m < p := by
            rcases Nat.lt_or_eq_of_le mp with y | y
            · exact y
            · exact absurd (tab_range.mpr (by rw [y]; exact (hp.2 p).mpr (Nat.dvd_refl _))) z
          refine iteP (by simp [z]) ⟨fun σ H' => ∃ m', m' < p - m ∧ ∃ (m2 : Nat) (st : Addr), σ = [some (.ref l), some (.int (o : Int)), some (.ref b), some (.int (m2 : Int)), some (.ref st), v5] ∧ Same G H' ∧ H' st = some (.tup (vi (tab n (it c m2)))) ∧ 0 < m2 ∧ m2 ≤ p ∧ m' = p - m2, fun _ _ z => z, ?_⟩
          have ct := chg_it hc m
          refine ⟨_, rfl, _, rfl, st, b, _, c, rfl, hst, s2 _ _ (s1 _ _ hcb), fun x hx => by rw [hc.len]; exact ct.lt x hx, by rw [ct.len]; exact n16, fun t H3 s3 _ e3 => ⟨_, rfl, _, _, rfl, rfl, _, _, rfl, ?_⟩⟩
          refine ⟨p - (m + 1), by omega, m + 1, t, rfl, s2.trans s3, ?_, by omega, lt, rfl⟩
          rw [e3]
          have : comp (tab n (it c m)) c = tab n (it c (m + 1)) := by
            unfold comp tab
            rw [List.map_map]
            rfl
          rw [this]
    rintro σ H2 ⟨s2, st, rfl⟩
    refine ⟨_, rfl, ?_⟩
    dsimp only [gName, List.set]
    have p0 := hp.1
    have lo := Nat.lcm_dvd od pf
    have l0 := Nat.lcm_pos ho.1 p0
    obtain ⟨j0, ej⟩ := Nat.dvd_lcm_left o p
    refine sq_cut (fun σ H' => Same H2 H' ∧ σ = [some (.ref l), some (.int (o : Int)), some (.ref b), some (.int (p : Int)), some (.ref st), some (.int ((Nat.lcm o p : Nat) : Int))]) (fun Z hZ => ?_) ?_
    · refine ⟨fun k σ H' => ∃ j : Nat, σ = [some (.ref l), some (.int (o : Int)), some (.ref b), some (.int (p : Int)), some (.ref st), some (.int ((o * j : Nat) : Int))] ∧ Same H2 H' ∧ 0 < j ∧ j ≤ j0 ∧ k = j0 - j, ⟨_, 1, by rw [Nat.mul_one], Same.refl H2, by decide, ?_, rfl⟩, ?_⟩
      · refine Nat.pos_of_ne_zero fun z => ?_
        rw [z, Nat.mul_zero] at ej
        omega
      · rintro k σ H3 ⟨j, rfl, s3, j1, jl, rfl⟩
        refine ⟨_, rfl, .inl ⟨_, rfl, _, rfl, _, _, rfl, rfl, by omega, rfl, _, rfl, ?_⟩⟩
        have em : (((o * j : Nat) : Int)).fmod ((p : Nat) : Int) = ((o * j % p : Nat) : Int) := by
          rw [Int.fmod_eq_emod_of_nonneg _ (by omega)]
          exact (Int.natCast_emod _ _).symm
        by_cases z : o * j % p = 0
        · have d1 := Nat.lcm_dvd (Nat.dvd_mul_right o j) (Nat.dvd_of_mod_eq_zero z)
          have e1 : o * j = Nat.lcm o p := by
            refine Nat.dvd_antisymm ?_ d1
            rw [ej]
            have := Nat.le_of_dvd (Nat.mul_pos ho.1 j1) d1
            rw [ej] at this
            have : j0 ≤ j := Nat.le_of_mul_le_mul_left this ho.1
            rw [Nat.le_antisymm jl this]
            exact Nat.dvd_refl _
          refine iteN (by show ¬ (!decide (V.int (((o * j : Nat) : Int).fmod ((p : Nat) : Int)) = V.int 0)) = true; rw [em]; simp [z]) (hZ _ _ ⟨s3, by rw [e1]⟩)
        · have lt : j < j0 := by
            rcases Nat.lt_or_eq_of_le jl with y | y
            · exact y
            · refine absurd ?_ z
              rw [y, ← ej]
              exact Nat.mod_eq_zero_of_dvd (Nat.dvd_lcm_right o p)
          refine iteP (by show (!decide (V.int (((o * j : Nat) : Int).fmod ((p : Nat) : Int)) = V.int 0)) = true; rw [em]; simp only [Bool.not_eq_true', decide_eq_false_iff_not, V.int.injEq]; omega) ⟨fun σ H' => ∃ m', m' < j0 - j ∧ ∃ j : Nat, σ = [some (.ref l), some (.int (o : Int)), some (.ref b), some (.int (p : Int)), some (.ref st), some (.int ((o * j : Nat) : Int))] ∧ Same H2 H' ∧ 0 < j ∧ j ≤ j0 ∧ m' = j0 - j, fun _ _ z => z, ?_⟩
          refine ⟨_, rfl, _, rfl, _, _, rfl, rfl, j0 - (j + 1), by omega, j + 1, ?_, s3, by omega, lt, rfl⟩
          rw [Nat.mul_succ]
          rfl
    rintro σ H3 ⟨s3, rfl⟩
    refine ⟨_, rfl, (s1.trans s2).trans s3, Nat.lcm o p, _, _, _, _, rfl, ⟨l0, fun m => ?_⟩, lo⟩
    rw [Nat.lcm_dvd_iff, ← ho.2, ← hp.2, tk_at hci]
    constructor
    · exact fun z => ⟨fun d hd => z d (List.mem_append_left _ hd), z c (by simp)⟩
    · rintro ⟨z1, z2⟩ d hd
      rcases List.mem_append.mp hd with y | y
      · exact z1 d y
      · rw [List.mem_singleton.mp y]
        exact z2
  · rintro σ G ⟨s1, o, v2, v3, v4, v5, rfl, ho, od⟩
    rw [List.length_map, paired_len tp, List.take_length] at ho
    exact ⟨_, rfl, q _ o s1 ho od⟩
end
end KV

/-! repr of nested sequences -/
namespace KV
open PySem PySem.Spec PyProof.Rows L2
theorem shownAll_mp {α : Type} (g : α → PyData) : ∀ xs : List α, PyData.shownAll (xs.map g) = xs.map fun x => (g x).shown
  | [] => rfl
  | x :: r => by
    show (g x).shown :: PyData.shownAll (r.map g) = _
    rw [shownAll_mp g r]
    rfl
theorem piled_cap {c : Nat} : ∀ ts : List Str, (∀ t ∈ ts, t.length ≤ c) → piled ts ≤ (c + 2) * ts.length
  | [], _ => Nat.zero_le _
  | t :: r, h => by
    have a := h t List.mem_cons_self
    have b := piled_cap r fun u hu => h u (List.mem_cons_of_mem _ hu)
    rw [piled_cons, List.length_cons, Nat.mul_add, Nat.mul_one]
    omega
theorem tupText_cap {c : Nat} (ts : List Str) (h : ∀ t ∈ ts, t.length ≤ c) : (tupleText ts).length ≤ (c + 2) * ts.length + 3 := by
  have hp := piled_cap ts h
  unfold tupleText
  rw [strLen_append, strLen_append]
  have e1 : (("(" : String) : Str).length = 1 := rfl
  have e2 : (((if (ts.length == 1) = true then ",)" else ")" : String)) : Str).length ≤ 2 := by
    split <;> decide
  have hj : (Str.join ", " ts).length ≤ (c + 2) * ts.length := by
    cases ts with
    | nil => show 0 ≤ _; omega
    | cons n r =>
      have := join_length_add (n :: r) (by simp)
      omega
  omega
/-- a tuple of small numbers -/
def tpN (ns : List Nat) : PyData := .tuple (ns.map fun n => .int (n : Nat))
/-- what shows: it may be shown, no deeper than e, no longer than c -/
structure ShB (t : PyData) (e c : Nat) : Prop where
  sh : t.showable = true
  nd : t.hasDict = false
  dp : t.depth ≤ e
  ln : t.shown.length ≤ c
theorem ShB.all {c e : Nat} : ∀ {ts : List PyData}, (∀ t ∈ ts, ShB t e c) → PyData.showableAll ts = true ∧ PyData.hasDictAll ts = false ∧ PyData.depthAll ts ≤ e
  | [], _ => ⟨rfl, rfl, Nat.zero_le _⟩
  | t :: r, h => by
    obtain ⟨h1, h2, h3⟩ := ShB.all fun u hu => h u (List.mem_cons_of_mem _ hu)
    have g := h t List.mem_cons_self
    refine ⟨by simp only [PyData.showableAll, g.sh, h1, Bool.and_self], by simp only [PyData.hasDictAll, g.nd, h2, Bool.or_self], ?_⟩
    simp only [PyData.depthAll]
    have := g.dp
    omega
theorem ShB.tup {c e : Nat} {ts : List PyData} (h : ∀ t ∈ ts, ShB t e c) : ShB (.tuple ts) (e + 5) ((c + 2) * ts.length + 3) := by
  obtain ⟨h1, h2, h3⟩ := ShB.all h
  refine ⟨by simp only [PyData.showable]; exact h1, by simp only [PyData.hasDict]; exact h2, by simp only [PyData.depth]; omega, ?_⟩
  show (tupleText (PyData.shownAll ts)).length ≤ _
  have e := shownAll_mp (fun t : PyData => t) ts
  rw [List.map_id'] at e
  rw [e]
  have := tupText_cap (c := c) (ts.map fun x => x.shown) fun t ht => by
    obtain ⟨u, hu, rfl⟩ := List.mem_map.mp ht
    exact (h u hu).ln
  rw [List.length_map] at this
  exact this
theorem ShB.int {i : Int} (h : i.natAbs.log2 < 1920) : ShB (.int i) 0 1921 := ⟨by simp only [PyData.showable, h, decide_true], rfl, by simp only [PyData.depth]; exact Nat.le_refl _, int_text_len_1921 h⟩
theorem ShB.nat {n : Nat} (h : n ≤ 1000) : ShB (.int (n : Nat)) 0 1921 := ShB.int (by
  show (n : Nat).log2 < 1920
  have := Nat.log2_le_self n
  omega)
theorem ShB.mono {t : PyData} {e c e2 c2 : Nat} (h : ShB t e c) (he : e ≤ e2) (hc : c ≤ c2) : ShB t e2 c2 := ⟨h.sh, h.nd, Nat.le_trans h.dp he, Nat.le_trans h.ln hc⟩
theorem ShB.tpN {ns : List Nat} (h : ∀ n ∈ ns, n ≤ 1000) (hl : ns.length ≤ 1000) : ShB (tpN ns) 5 2000000 := (ShB.tup fun t ht => by
  obtain ⟨n, hn, rfl⟩ := List.mem_map.mp ht
  exact ShB.nat (h n hn)).mono (Nat.le_refl _) (by rw [List.length_map]; omega)
def rReprD (K : PySem.W.Frag) : List V → Hp → VK → Prop := fun xs H Q =>
  ∃ (a : Addr) (t : PyData) (e c : Nat), xs = [.ref a] ∧ Dp K H (.ref a) t ∧ ShB t e c ∧ e ≤ 30 ∧ c ≤ sizeLine ∧ Q (.str t.shown) H
theorem call_reprD {X : Cx} (hg : X.A.guards = some []) (hu : X.A.units + 64 < cLine) : CallR X (.builtin "repr") (rReprD X.K) := by
  intro pins s σ H xs us Q I r h
  obtain ⟨a, t, e, c, rfl, hd, h1, h3, h4, q⟩ := h
  obtain ⟨u, rfl, r1⟩ := vals1 r
  have r2 : RelV (.ref a) u := r1
  obtain ⟨as, rd⟩ := Dp.reads I t (.ref a) u hd r2
  have h5 := h1.dp
  cases r1
  refine repr_of_reads' rd h1.sh (fun z => ?_) hg (by omega) (fun _ _ z => z) (fun h' u tk kk => ?_) (Nat.le_trans h1.ln h4)
  · rw [h1.nd] at z
    cases z
  · exact ⟨.str _, H, I.kept kk, ⟨_, rfl⟩, q⟩
theorem dp_nats {K : PySem.W.Frag} {H : Hp} : ∀ ns : List Nat, DpAll K H (vi ns) (ns.map fun n => PyData.int (n : Nat))
  | [] => .nil
  | n :: r => .cons (.int n) (dp_nats r)
theorem dp_tpN {K : PySem.W.Frag} {H : Hp} {a : Addr} {ns : List Nat} (h : SqT K H a (vi ns)) : Dp K H (.ref a) (tpN ns) := .tup h (dp_nats ns)
/-- a tuple of tuples of small numbers -/
def tpR (rows : List (List Nat)) : PyData := .tuple (rows.map tpN)
theorem dpA_rows {K : PySem.W.Frag} {H : Hp} : ∀ (ts : List Addr) (rows : List (List Nat)), ts.length = rows.length → (∀ (s : Nat) (b : Addr), ts[s]? = some b → ∃ ro, rows[s]? = some ro ∧ H b = some (.tup (vi ro))) → DpAll K H (ts.map V.ref) (rows.map tpN)
  | [], [], _, _ => .nil
  | [], _ :: _, h, _ => by cases h
  | _ :: _, [], h, _ => by cases h
  | t :: ts, ro :: rows, h, g => by
    obtain ⟨r2, e, z⟩ := g 0 t rfl
    have : ro = r2 := Option.some.inj e
    subst this
    exact .cons (dp_tpN (SqT.of z)) (dpA_rows ts rows (Nat.succ.inj h) fun s b e => g (s + 1) b e)
theorem ShB.tpR {rows : List (List Nat)} (h : ∀ ro ∈ rows, (∀ n ∈ ro, n ≤ 1000) ∧ ro.length ≤ 4) (hl : rows.length ≤ 12) : ShB (tpR rows) 10 200000 := (ShB.tup (e := 5) (c := 7700) fun t ht => by
  obtain ⟨ro, hr, rfl⟩ := List.mem_map.mp ht
  refine (ShB.tup (e := 0) (c := 1921) fun t ht => ?_).mono (Nat.le_refl _) (by rw [List.length_map]; have := (h ro hr).2; omega)
  obtain ⟨n, hn, rfl⟩ := List.mem_map.mp ht
  exact ShB.nat ((h ro hr).1 n hn)).mono (Nat.le_refl _) (by rw [List.length_map]; omega)
/-- the triple that the law shows -/
def tp3 (m n : Nat) (rows : List (List Nat)) : PyData := .tuple [.int (m : Nat), .int (n : Nat), tpR rows]
theorem ShB.tp3 {m n : Nat} {rows : List (List Nat)} (hm : m ≤ 1000) (hn : n ≤ 1000) (h : ∀ ro ∈ rows, (∀ n ∈ ro, n ≤ 1000) ∧ ro.length ≤ 4) (hl : rows.length ≤ 12) : ShB (tp3 m n rows) 15 1000000 := (ShB.tup (e := 10) (c := 200000) (ts := [.int (m : Nat), .int (n : Nat), KV.tpR rows]) fun t ht => by
  simp only [List.mem_cons, List.not_mem_nil, or_false] at ht
  rcases ht with rfl | rfl | rfl
  · exact (ShB.nat hm).mono (by decide) (by decide)
  · exact (ShB.nat hn).mono (by decide) (by decide)
  · exact ShB.tpR h hl).mono (Nat.le_refl _) (by show (200000 + 2) * 3 + 3 ≤ 1000000; decide)
theorem dp_tp3 {K : PySem.W.Frag} {H : Hp} {p t : Addr} {ts : List Addr} {m n : Nat} {rows : List (List Nat)} (hp : H p = some (.tup [.int (m : Nat), .int (n : Nat), .ref t])) (ht : H t = some (.tup (ts.map V.ref))) (hl : ts.length = rows.length) (g : ∀ (s : Nat) (b : Addr), ts[s]? = some b → ∃ ro, rows[s]? = some ro ∧ H b = some (.tup (vi ro))) : Dp K H (.ref p) (tp3 m n rows) :=
  .tup (SqT.of hp) (.cons (.int _) (.cons (.int _) (.cons (.tup (SqT.of ht) (dpA_rows ts rows hl g)) .nil)))
end KV

/-! the law: lists of changes as data -/
namespace KV
open PySem PySem.Spec PyProof.Rows L2 KC
theorem units65 {k : Nat} {A : Around} (r : Room k A) : A.units + 65 < cLine := by
  have := r.un
  omega
theorem dp_tpp {K : PySem.W.Frag} {H : Hp} {ds : List Addr} {L : List (List Nat)} (h : TpP H ds L) : DpAll K H (ds.map V.ref) (L.map tpN) := by
  induction h with
  | nil => exact .nil
  | cons h t ih => exact .cons (dp_tpN (SqT.of h)) ih
theorem canLay_nats : ∀ ns : List Nat, PyData.canLayAll0 (ns.map fun n => PyData.int (n : Nat)) = true
  | [] => rfl
  | n :: r => by simp only [List.map_cons, PyData.canLayAll0, PyData.canLay0, canLay_nats r, Bool.and_self]
theorem depth_nats : ∀ ns : List Nat, PyData.depthAll (ns.map fun n => PyData.int (n : Nat)) = 0
  | [] => rfl
  | n :: r => by simp only [List.map_cons, PyData.depthAll, PyData.depth, depth_nats r, Nat.max_self]
theorem tpn_lay (c : List Nat) : (tpN c).canLay0 = true ∧ (tpN c).depth ≤ 5 := by
  unfold tpN
  refine ⟨?_, ?_⟩
  · simp only [PyData.canLay0, canLay_nats]
  · simp only [PyData.depth, depth_nats]
    omega
theorem tpns_lay : ∀ L : List (List Nat), PyData.canLayAll0 (L.map tpN) = true ∧ PyData.depthAll (L.map tpN) ≤ 5
  | [] => ⟨rfl, by decide⟩
  | c :: L => by
    obtain ⟨h1, h2⟩ := tpn_lay c
    obtain ⟨h3, h4⟩ := tpns_lay L
    refine ⟨?_, ?_⟩
    · simp only [List.map_cons, PyData.canLayAll0, h1, h3, Bool.and_self]
    · simp only [List.map_cons, PyData.depthAll]
      omega
theorem shaped_tpN (c : List Nat) : SeqAt.shaped (tpN c) = true := by
  unfold SeqAt.shaped
  obtain ⟨h1, h2⟩ := tpn_lay c
  rw [h1, decide_eq_true (by omega)]
  rfl
theorem shaped_lst (L : List (List Nat)) : SeqAt.shaped (.list (L.map tpN)) = true := by
  unfold SeqAt.shaped
  obtain ⟨h1, h2⟩ := tpns_lay L
  rw [Bool.and_eq_true]
  refine ⟨by simp only [PyData.canLay0, h1], decide_eq_true ?_⟩
  simp only [PyData.depth]
  omega
theorem eqv_tpN (c e : List Nat) : PyData.eqv (tpN c) (tpN e) = decide (c = e) := by
  have h : ∀ ns : List Nat, (ns.map fun n => PyData.int (n : Nat)) = (zi ns).map PyData.int := fun ns => by
    unfold zi
    rw [List.map_map]
    rfl
  show PyData.eqvAll (c.map fun n => PyData.int (n : Nat)) (e.map fun n => PyData.int (n : Nat)) = _
  rw [h, h, eqv_ints, decide_eq_decide]
  exact zi_inj
theorem eqv_tpNs : ∀ L M : List (List Nat), PyData.eqvAll (L.map tpN) (M.map tpN) = decide (L = M)
  | [], [] => rfl
  | [], _ :: _ => rfl
  | _ :: _, [] => rfl
  | c :: L, e :: M => by
    show (PyData.eqv (tpN c) (tpN e) && PyData.eqvAll (L.map tpN) (M.map tpN)) = _
    rw [eqv_tpNs L M, eqv_tpN]
    by_cases z : c = e <;> by_cases y : L = M <;> simp [z, y]
theorem eqLL {K : PySem.W.Frag} {H : Hp} {a b : Addr} {ds es : List Addr} {L M : List (List Nat)} {Q : VK} (h1 : H a = some (.lst (ds.map V.ref))) (t1 : TpP H ds L) (h2 : H b = some (.lst (es.map V.ref))) (t2 : TpP H es M) (q : Q (.bl (decide (L = M))) H) : rEqD K (.ref a) (.ref b) H Q :=
  ⟨_, _, .lst (SqL.of h1) (dp_tpp t1), .lst (SqL.of h2) (dp_tpp t2), shaped_lst _, shaped_lst _, by
    rw [show PyData.eqv (.list (L.map tpN)) (.list (M.map tpN)) = decide (L = M) from eqv_tpNs L M]
    exact q⟩
theorem notInLL {K : PySem.W.Frag} {H : Hp} {a b : Addr} {es : List Addr} {c : List Nat} {M : List (List Nat)} {Q : VK} (h1 : H a = some (.tup (vi c))) (h2 : H b = some (.lst (es.map V.ref))) (t2 : TpP H es M) (q : Q (.bl (!decide (c ∈ M))) H) : rNotInD K (.ref a) (.ref b) H Q :=
  ⟨_, _, dp_tpN (SqT.of h1), .lst (SqL.of h2) (dp_tpp t2), shaped_tpN _, shaped_lst _, by
    have e : ((M.map tpN).any fun z => PyData.eqv z (tpN c)) = decide (c ∈ M) := by
      rw [List.any_map]
      have : ((fun z => PyData.eqv z (tpN c)) ∘ tpN) = fun e => decide (e = c) := funext fun e => eqv_tpN e c
      rw [this]
      by_cases z : c ∈ M
      · rw [decide_eq_true z, List.any_eq_true]
        exact ⟨c, z, decide_eq_true rfl⟩
      · rw [decide_eq_false z, List.any_eq_false]
        intro x hx e
        exact z (by rw [← of_decide_eq_true e]; exact hx)
    rw [e]
    exact q⟩
/-- the text of a tuple of changes -/
def txL (L : List (List Nat)) : Str := (PyData.tuple (L.map tpN)).shown
theorem reprLL {K : PySem.W.Frag} {σ : L2.St} {H : Hp} {t : Addr} {n : Nat} {ds : List Addr} {L : List (List Nat)} {Q : VK} (h : H t = some (.tup (ds.map V.ref))) (tp : TpP H ds L) (hc : ∀ c ∈ L, Chg n c) (hn : n ≤ 16) (hL : L.length ≤ 200) (q : Q (.str (txL L)) H) : tNil σ H fun xs H2 => rReprD K (V.ref t :: xs) H2 Q := by
  refine ⟨t, _, _, _, rfl, .tup (SqT.of h) (dp_tpp tp), ShB.tup (e := 5) (c := 40000) (ts := L.map tpN) fun x hx => ?_, by decide, ?_, q⟩
  · obtain ⟨c, hm, rfl⟩ := List.mem_map.mp hx
    have g := hc c hm
    have := ShB.tup (e := 0) (c := 1921) (ts := c.map fun n => PyData.int (n : Nat)) fun y hy => by
      obtain ⟨m, hm, rfl⟩ := List.mem_map.mp hy
      exact ShB.nat (by have := g.lt m hm; omega)
    refine this.mono (by decide) ?_
    rw [List.length_map, g.len]
    omega
  · rw [List.length_map, sizeLine_eq]
    omega
theorem strN {K : PySem.W.Frag} {H : Hp} {a b : Addr} {z : Str} {i : Int} {Q : VK} (hz : PyData.strOk z = true) (h1 : H a = some (.lst [.str z, .int i])) (h2 : H b = some (.lst [.str z, .int i])) (q : Q (.bl false) H) : rNeD K (.ref a) (.ref b) H Q := by
  have sh : SeqAt.shaped (.list [.str z, .int i]) = true := by
    simp only [SeqAt.shaped, PyData.canLay0, PyData.canLayAll0, PyData.depth, PyData.depthAll, hz]
    rfl
  refine ⟨_, _, .lst (SqL.of h1) (.cons (.str _) (.cons (.int _) .nil)), .lst (SqL.of h2) (.cons (.str _) (.cons (.int _) .nil)), sh, sh, ?_⟩
  have e : PyData.eqv (.list [.str z, .int i]) (.list [.str z, .int i]) = true := by
    show ((z == z) && ((i == i) && true)) = true
    simp
  rw [e]
  exact q
theorem itm_vi {c : List Nat} : ∀ x ∈ vi c, Itm x := fun x hx => by
  obtain ⟨m, _, rfl⟩ := List.mem_map.mp hx
  exact .inl ⟨_, rfl⟩
/-- what is no change of a row -/
def Odd (d c : Addr) (n : Nat) (H : Hp) (v : V) : Prop :=
  (∃ (a : Addr) (xs : List V), v = .ref a ∧ H a = some (.tup xs) ∧ (∀ x ∈ xs, Itm x) ∧ xs.length ≤ 16 ∧ ∀ g, Chg n g → xs ≠ vi g) ∨ (∃ (a : Addr) (xs : List V), v = .ref a ∧ a ≠ d ∧ a ≠ c ∧ H a = some (.lst xs)) ∨ v = .non ∨ ∃ z, v = .str z
theorem Odd.same {d c : Addr} {n : Nat} {H H' : Hp} {v : V} (h : Odd d c n H v) (s : Same H H') : Odd d c n H' v := by
  rcases h with ⟨a, xs, e, h1, h2⟩ | ⟨a, xs, e, n1, n2, h1⟩ | h | h
  · exact .inl ⟨a, xs, e, s _ _ h1, h2⟩
  · exact .inr (.inl ⟨a, xs, e, n1, n2, s _ _ h1⟩)
  · exact .inr (.inr (.inl h))
  · exact .inr (.inr (.inr h))
theorem Odd.kp {d c : Addr} {n : Nat} {H H' : Hp} {v : V} (h : Odd d c n H v) (D : Dl H d c) (k : Kp d c H H') : Odd d c n H' v := by
  rcases h with ⟨a, xs, e, h1, h2⟩ | ⟨a, xs, e, n1, n2, h1⟩ | h | h
  · exact .inl ⟨a, xs, e, D.kT k h1, h2⟩
  · exact .inr (.inl ⟨a, xs, e, n1, n2, k _ _ n1 n2 h1⟩)
  · exact .inr (.inr (.inl h))
  · exact .inr (.inr (.inr h))
theorem Odd.val {K : PySem.W.Frag} {d c : Addr} {n : Nat} {cs : List (List Nat)} {H : Hp} {v : V} (hc : ∀ e ∈ cs, Chg n e) (h : Odd d c n H v) : ∃ ms, ValT K H v ms ∧ ¬ ∃ g, ms = some (vi g) ∧ Rch n cs g := by
  rcases h with ⟨a, xs, rfl, h1, h2, h3, h4⟩ | ⟨a, xs, rfl, _, _, h1⟩ | rfl | ⟨z, rfl⟩
  · refine ⟨some xs, ⟨a, rfl, h1, h2, h3⟩, ?_⟩
    rintro ⟨g, e, hg⟩
    exact h4 g (hg.chg hc) (Option.some.inj e)
  · exact ⟨none, ⟨"list", .base (.lst h1), .inl rfl⟩, fun ⟨g, e, _⟩ => by cases e⟩
  · exact ⟨none, ⟨"NoneType", .base .non, .inr (.inl rfl)⟩, fun ⟨g, e, _⟩ => by cases e⟩
  · exact ⟨none, ⟨"str", .base (.str z), .inr (.inr (.inr rfl))⟩, fun ⟨g, e, _⟩ => by cases e⟩
theorem odd_len {n : Nat} {xs : List V} (h : xs.length ≠ n) : ∀ g, Chg n g → xs ≠ vi g := fun g hg e => h (by rw [e, show (vi g).length = g.length from List.length_map .., hg.len])
theorem odd_bl {n : Nat} {xs : List V} {b : Bool} (h : V.bl b ∈ xs) : ∀ g, Chg n g → xs ≠ vi g := fun g hg e => by
  rw [e] at h
  obtain ⟨m, _, z⟩ := List.mem_map.mp h
  cases z
end KV

/-! the law: batch numbers by its own road -/
namespace KV
open PySem PySem.Spec PyProof.Rows L2 KC
/-- what the law holds: the changes to begin with, all of them -/
structure LWs (H : Hp) (lo l : Addr) (n : Nat) (ds bs : List Addr) (L cs : List (List Nat)) : Prop where
  hlo : H lo = some (.lst (ds.map V.ref))
  tp : TpP H ds L
  lot : Lot n cs L
  g : Gens H l n bs cs
  n16 : n ≤ 16
  c5 : cs.length ≤ 5
  len : L.length ≤ 12
section
variable {H H' : Hp} {lo l : Addr} {n : Nat} {ds bs : List Addr} {L cs : List (List Nat)}
theorem LWs.same (h : LWs H lo l n ds bs L cs) (s : Same H H') : LWs H' lo l n ds bs L cs := ⟨s _ _ h.hlo, TpP.same h.tp s, h.lot, h.g.same s, h.n16, h.c5, h.len⟩
theorem LWs.kp {d c : Addr} (h : LWs H lo l n ds bs L cs) (D : Dl H d c) (k : Kp d c H H') (n1 : lo ≠ d ∧ lo ≠ c) (n2 : l ≠ d ∧ l ≠ c) : LWs H' lo l n ds bs L cs := ⟨k _ _ n1.1 n1.2 h.hlo, tups_keep (fun b xs e => D.kT k e) h.tp, h.lot, h.g.kp D k n2, h.n16, h.c5, h.len⟩
theorem LWs.rch (h : LWs H lo l n ds bs L cs) {g : List Nat} (m : g ∈ L) : Rch n cs g := (h.lot.all g).mp m
theorem LWs.chg (h : LWs H lo l n ds bs L cs) {g : List Nat} (m : g ∈ L) : Chg n g := (h.rch m).chg h.g.chg
end
theorem keys_map {L : List (List Nat)} {f : List Nat → List Nat} : keysF (L.map fun g => (g, f g)) = L := by
  unfold keysF
  rw [List.map_map]
  exact List.map_id _
theorem comp_args {n : Nat} {c e : List Nat} (hc : Chg n c) (he : Chg n e) (n16 : n ≤ 16) : (∀ m ∈ c, m < e.length) ∧ c.length ≤ 1000 := ⟨fun v hv => by rw [he.len]; exact hc.lt v hv, by rw [hc.len]; omega⟩
section
variable {P : Program} {w : World} {K : PySem.W.Frag} {mg : Str → Option Value} {base : Heap}
def spIsB : Sp := fun vs H Q _ => ∃ (lo l : Addr) (k : Int) (n : Nat) (ds bs : List Addr) (L cs : List (List Nat)), vs = [.ref lo, .ref l, .int k] ∧ LWs H lo l n ds bs L cs ∧ ∀ (b : Bool) (H' : Hp), Same H H' → (b = true ↔ Bt n cs k) → Q (.bl b) H'
theorem sn57 : FnScope ["_law_lot_here", "_law_some", "_law_n", "_law_raised_here", "_law_one", "_law_other"] ["_law_lot_here", "_law_some", "_law_n"] (defScope (top 57)) := ⟨rfl, rfl, rfl, by decide +kernel, rfl, by decide +kernel, by decide +kernel⟩
set_option maxHeartbeats 4000000 in
theorem ok_isb {f : Addr} {fd : FuncData} (CP : Cal P w K mg base CX0 2 "_law_power" ["_law_one", "_law_count"] spPwL) (CT : Cal P w K mg base CX0 1 "_law_then" ["_law_one", "_law_other"] spComp) (F : Fun K "_law_is_batch" "_law_is_batch" (top 57) f fd) : FnOk P w K mg base CX0 3 f fd ["_law_lot_here", "_law_some", "_law_n"] spIsB := by
  refine F.ok sn57 (fun vs H Q E h => ?_) (fun cdv A outer s H vs Q E hr h => ⟨_,
    (pss_cons (ps_set (i := 3) sn57.nd rfl (.inl rfl) pe_dnewT)
    (pss_cons (ps_for PassesOwn.never rfl (pi_list (pv 0)) (pg_name (i := 4) sn57.nd rfl (.inl rfl)) (pss_one (ps_asg (by exact (pe_cal (X := L2.Cx.nox _) CP hr (by decide) (pa_cons (pv 4) (pa_cons (pv 2) pa_nil)))) (pg_sub (pv 3) (pv 4) (set_dict (Nat.lt_of_le_of_lt (Nat.add_le_add_left (show 1 ≤ 64 by decide) _) hr.units))))))
    (pss_cons (ps_for PassesOwn.never rfl (pi_list (pv 0)) (pg_name (i := 4) sn57.nd rfl (.inl rfl)) (pss_one (ps_for PassesOwn.never rfl (pi_list (pv 1)) (pg_name (i := 5) sn57.nd rfl (.inl rfl)) (pss_one (ps_if (pt_cmpR (op_neD hr.units) (pe_dget (Nat.lt_of_le_of_lt (Nat.add_le_add_left (show 1 ≤ 64 by decide) _) hr.units) (pv 3) (by exact (pe_cal (X := L2.Cx.nox _) CT hr (by decide) (pa_cons (pv 4) (pa_cons (pv 5) pa_nil)))) (fun _ _ => rfl)) (by exact (pe_cal (X := L2.Cx.nox _) CT hr (by decide) (pa_cons (pe_dget (Nat.lt_of_le_of_lt (Nat.add_le_add_left (show 1 ≤ 64 by decide) _) hr.units) (pv 3) (pv 4) (fun _ _ => rfl)) (pa_cons (pe_dget (Nat.lt_of_le_of_lt (Nat.add_le_add_left (show 1 ≤ 64 by decide) _) hr.units) (pv 3) (pv 5) (fun _ _ => rfl)) pa_nil)))) (nomark _)) (pss_one (ps_ret pe_bl)) pss_nil)))))
    (pss_one (ps_ret pe_bl))))), ?_⟩)
  · obtain ⟨lo, l, k, n, ds, bs, L, cs, rfl, _⟩ := h
    rfl
  obtain ⟨lo, l, k, n, ds, bs, L, cs, rfl, W, q⟩ := h
  have hc := W.g.chg
  have n16 := W.n16
  have ll := W.len
  refine fun D hD => ?_
  dsimp only [gName]
  refine sq_cut (fun σ H' => Same H H' ∧ ∃ (u4 : Option V) (kvs : List (List L2.Key × V)), σ = [some (.ref lo), some (.ref l), some (.int k), some (.ref D), u4, none] ∧ H' D = some (.dT kvs) ∧ RowD H' kvs (L.map fun g => (g, pw n g k))) (fun Z hZ => ?_) ?_
  · refine ⟨_, rfl, lo, rfl, ⟨_, SqL.of (Same.new hD _ _ W.hlo)⟩, for_list (xs := ds.map V.ref) (fun i σ H' => Same H H' ∧ ∃ (u4 : Option V) (kvs : List (List L2.Key × V)), σ = [some (.ref lo), some (.ref l), some (.int k), some (.ref D), u4, none] ∧ H' D = some (.dT kvs) ∧ RowD H' kvs ((L.take i).map fun g => (g, pw n g k)))
      ⟨Same.new hD, none, [], rfl, upd_same, ⟨rfl, fun i p e => (by simp at e)⟩⟩ (fun i σ H' _ z => SqL.of (z.1 _ _ W.hlo)) ?_ ?_⟩
    · rintro i y σ G hy ⟨sG, u4, kvs, rfl, hd, rd⟩
      obtain ⟨b, hb, rfl⟩ := ref_at hy
      obtain ⟨g, hg, hb2⟩ := paired_at W.tp hb
      have gm := List.mem_of_getElem? hg
      have gc := W.chg gm
      have il := (List.getElem?_eq_some_iff.mp hg).1
      dsimp only [gName]
      refine ⟨_, rfl, _, rfl, b, n, g, k, rfl, sG _ _ hb2, gc, n16, fun t G2 s2 t0 t1 => ?_⟩
      have hd2 := s2 _ _ hd
      have kl : kvs.length = i := by rw [rd.kf.len, List.length_map, List.length_take]; omega
      refine ⟨_, rfl, _, rfl, D, _, rfl, DPut.t hd2 (by rw [← kc_vi]; exact s2 _ _ (sG _ _ hb2)) (len_lt (by omega)), Same.upd (sG.trans s2) hD, _, kvs ++ [(kc g, .ref t)], rfl, ?_, ?_⟩
      · rw [upd_same, putK_new]
        refine rd.kf.none.mpr ?_
        rw [keys_map]
        intro m
        obtain ⟨j, hj⟩ := List.mem_iff_getElem?.mp m
        rw [List.getElem?_take] at hj
        split at hj
        · rename_i ji
          obtain ⟨h1, h2⟩ := List.getElem?_eq_some_iff.mp hj
          obtain ⟨h3, h4⟩ := List.getElem?_eq_some_iff.mp hg
          have a1 := W.lot.nd.idxOf_getElem j h1
          have a2 := W.lot.nd.idxOf_getElem i h3
          rw [h2] at a1
          rw [h4] at a2
          omega
        · cases hj
      · rw [tk_at hg, List.map_append]
        exact ((rd.same s2).add t1).upd (fun xs z => by rw [hd2] at z; cases z)
    · rintro σ G ⟨sG, u4, kvs, rfl, hd, rd⟩
      rw [List.length_map, paired_len W.tp, List.take_length] at rd
      exact hZ _ _ ⟨sG, u4, kvs, rfl, hd, rd⟩
  rintro σ H1 ⟨s1, u4, kvs, rfl, hd, rd⟩
  have val : ∀ {H' : Hp} {g : List Nat} {t : Addr}, Same H1 H' → g ∈ L → H' t = some (.tup (vi g)) → ∃ q : Addr, DGet H' D (.ref t) (some (.ref q)) ∧ H' q = some (.tup (vi (pw n g k))) := fun {H' g t} s hg ht => by
    obtain ⟨q, h1, h2⟩ := (rd.same s).val (by rw [keys_map]; exact W.lot.nd) (p := (g, pw n g k)) (List.mem_map.mpr ⟨g, hg, rfl⟩)
    exact ⟨q, by rw [← h1]; exact DGet.t (s _ _ hd) (by rw [← kc_vi]; exact ht), h2⟩
  refine ⟨_, rfl, lo, rfl, ⟨_, SqL.of (s1 _ _ W.hlo)⟩, for_list (xs := ds.map V.ref) (fun i σ H' => Same H1 H' ∧ (∃ (u4 u5 : Option V), σ = [some (.ref lo), some (.ref l), some (.int k), some (.ref D), u4, u5]) ∧ ∀ g ∈ L.take i, ∀ j < cs.length, pw n (comp g (cs.getD j [])) k = comp (pw n g k) (pw n (cs.getD j []) k))
      ⟨fun _ _ z => z, ⟨_, _, rfl⟩, fun g hg => (by simp at hg)⟩ (fun i σ H' _ z => SqL.of (z.1 _ _ (s1 _ _ W.hlo))) ?_ ?_⟩
  · rintro i y σ G hy ⟨sG, ⟨v4, v5, rfl⟩, hall⟩
    obtain ⟨b, hb, rfl⟩ := ref_at hy
    obtain ⟨g, hg, hb2⟩ := paired_at W.tp hb
    have gm := List.mem_of_getElem? hg
    have gr := W.rch gm
    have gc := W.chg gm
    have s2 := s1.trans sG
    dsimp only [gName]
    refine ⟨_, rfl, l, rfl, ⟨_, SqL.of (s2 _ _ W.g.lst)⟩, for_list (xs := bs.map V.ref) (fun j σ H' => Same G H' ∧ (∃ (u5 : Option V), σ = [some (.ref lo), some (.ref l), some (.int k), some (.ref D), some (.ref b), u5]) ∧ ∀ j' < j, pw n (comp g (cs.getD j' [])) k = comp (pw n g k) (pw n (cs.getD j' []) k))
      ⟨fun _ _ z => z, ⟨_, rfl⟩, fun j hj => absurd hj (Nat.not_lt_zero j)⟩ (fun i σ H' _ z => SqL.of (z.1 _ _ (s2 _ _ W.g.lst))) ?_ ?_⟩
    · rintro j y σ G2 hy ⟨sG2, ⟨u5, rfl⟩, hj⟩
      obtain ⟨a, ha, rfl⟩ := ref_at hy
      obtain ⟨e, he, ha2⟩ := paired_at W.g.tups ha
      have jl := (List.getElem?_eq_some_iff.mp he).1
      have ej : cs.getD j [] = e := by rw [List.getD_eq_getElem?_getD, he]; rfl
      have er : Rch n cs e := by rw [← ej]; exact mk_rch hc jl
      have ec := er.chg hc
      have s3 := s2.trans sG2
      have s13 := sG.trans sG2
      dsimp only [gName]
      obtain ⟨p1, p2⟩ := comp_args gc ec n16
      refine ⟨_, rfl, _, rfl, _, rfl, b, a, g, e, rfl, s3 _ _ hb2, s3 _ _ ha2, p1, by rw [gc.len]; omega, fun t G3 s4 _ t1 => ?_⟩
      have s14 := s13.trans s4
      obtain ⟨x1, d1, e1⟩ := val s14 ((W.lot.all _).mpr (gr.mul hc er)) t1
      obtain ⟨x2, d2, e2⟩ := val s14 gm ((s3.trans s4) _ _ hb2)
      obtain ⟨x3, d3, e3⟩ := val s14 ((W.lot.all _).mpr er) ((s3.trans s4) _ _ ha2)
      obtain ⟨p3, p4⟩ := comp_args (pw_chg gc k) (pw_chg ec k) n16
      refine ⟨D, _, rfl, d1, _, rfl, _, rfl, D, _, rfl, d2, _, rfl, _, rfl, D, _, rfl, d3, x2, x3, pw n g k, pw n e k, rfl, e2, e3, p3, by rw [(pw_chg gc k).len]; omega, fun t2 G4 s5 _ t3 => neT (s5 _ _ e1) t3 ⟨_, rfl, ?_⟩⟩
      by_cases z : pw n (comp g e) k = comp (pw n g k) (pw n e k)
      · refine iteN (by simp [z]) ⟨sG2.trans (s4.trans s5), ⟨_, rfl⟩, fun j' hj' => ?_⟩
        rcases Nat.lt_or_ge j' j with y | y
        · exact hj j' y
        · rw [show j' = j by omega, ej]
          exact z
      · exact iteP (by simp [z]) (q false _ (s3.trans (s4.trans s5)) ⟨fun y => (by cases y), fun y => (z (y g e gr er)).elim⟩)
    · rintro σ G2 ⟨sG2, ⟨u5, rfl⟩, hj⟩
      rw [List.length_map, paired_len W.g.tups] at hj
      refine ⟨sG.trans sG2, ⟨_, _, rfl⟩, fun g' h' => ?_⟩
      rw [tk_at hg] at h'
      rcases List.mem_append.mp h' with z | z
      · exact hall g' z
      · rw [show g' = g by simpa using z]
        exact hj
  · rintro σ G ⟨sG, ⟨v4, v5, rfl⟩, hall⟩
    rw [List.length_map, paired_len W.tp, List.take_length] at hall
    exact q true G (s1.trans sG) ⟨fun _ => Bt.of hc fun j hj g hg => hall g ((W.lot.all g).mpr hg) j hj, fun _ => rfl⟩
def spAl : Sp := fun vs H Q _ => ∃ (a b : Addr) (n : Nat) (as bs : List Addr) (A Bs : List (List Nat)), vs = [.ref a, .ref b] ∧ H a = some (.lst (as.map V.ref)) ∧ TpP H as A ∧ H b = some (.lst (bs.map V.ref)) ∧ TpP H bs Bs ∧ (∀ x ∈ A, Chg n x) ∧ (∀ x ∈ Bs, Chg n x) ∧ n ≤ 16 ∧
  ∀ (t : Bool) (H' : Hp), Same H H' → (t = true ↔ ∀ x ∈ A, ∀ y ∈ Bs, comp x y = comp y x) → Q (.bl t) H'
theorem sn60 : FnScope ["_law_ones", "_law_others", "_law_one", "_law_other"] ["_law_ones", "_law_others"] (defScope (top 60)) := ⟨rfl, rfl, rfl, by decide +kernel, rfl, by decide +kernel, by decide +kernel⟩
theorem ok_along {f : Addr} {fd : FuncData} (CT : Cal P w K mg base CX0 1 "_law_then" ["_law_one", "_law_other"] spComp) (F : Fun K "_law_along" "_law_along" (top 60) f fd) : FnOk P w K mg base CX0 2 f fd ["_law_ones", "_law_others"] spAl := by
  refine F.ok sn60 (fun vs H Q E h => ?_) (fun cdv A outer s H vs Q E hr h => ⟨_,
    (pss_cons (ps_for PassesOwn.never rfl (pi_list (pv 0)) (pg_name (i := 2) sn60.nd rfl (.inl rfl)) (pss_one (ps_for PassesOwn.never rfl (pi_list (pv 1)) (pg_name (i := 3) sn60.nd rfl (.inl rfl)) (pss_one (ps_if (pt_cmpR (op_neD hr.units) (by exact (pe_cal (X := L2.Cx.nox _) CT hr (by decide) (pa_cons (pv 2) (pa_cons (pv 3) pa_nil)))) (by exact (pe_cal (X := L2.Cx.nox _) CT hr (by decide) (pa_cons (pv 3) (pa_cons (pv 2) pa_nil)))) (nomark _)) (pss_one (ps_ret pe_bl)) pss_nil)))))
    (pss_one (ps_ret pe_bl))), ?_⟩)
  · obtain ⟨a, b, n, as, bs, A, Bs, rfl, _⟩ := h
    rfl
  obtain ⟨a, b, n, as, bs, A, Bs, rfl, ha, ta, hb, tb, ca, cb, n16, q⟩ := h
  refine ⟨_, rfl, a, rfl, ⟨_, SqL.of ha⟩, for_list (xs := as.map V.ref) (fun i σ H' => Same H H' ∧ (∃ (u2 u3 : Option V), σ = [some (.ref a), some (.ref b), u2, u3]) ∧ ∀ x ∈ A.take i, ∀ y ∈ Bs, comp x y = comp y x)
      ⟨fun _ _ z => z, ⟨none, none, rfl⟩, fun g hg => (by simp at hg)⟩ (fun i σ H' _ z => SqL.of (z.1 _ _ ha)) ?_ ?_⟩
  · rintro i y σ G hy ⟨sG, ⟨v4, v5, rfl⟩, hall⟩
    obtain ⟨u, hu, rfl⟩ := ref_at hy
    obtain ⟨g, hg, hu2⟩ := paired_at ta hu
    have gm := List.mem_of_getElem? hg
    have gc := ca g gm
    dsimp only [gName]
    refine ⟨_, rfl, b, rfl, ⟨_, SqL.of (sG _ _ hb)⟩, for_list (xs := bs.map V.ref) (fun j σ H' => Same G H' ∧ (∃ (u5 : Option V), σ = [some (.ref a), some (.ref b), some (.ref u), u5]) ∧ ∀ y ∈ Bs.take j, comp g y = comp y g)
      ⟨fun _ _ z => z, ⟨_, rfl⟩, fun j hj => (by simp at hj)⟩ (fun i σ H' _ z => SqL.of (z.1 _ _ (sG _ _ hb))) ?_ ?_⟩
    · rintro j y σ G2 hy ⟨sG2, ⟨u5, rfl⟩, hj⟩
      obtain ⟨v, hv, rfl⟩ := ref_at hy
      obtain ⟨e, he, hv2⟩ := paired_at tb hv
      have em := List.mem_of_getElem? he
      have ec := cb e em
      have s3 := sG.trans sG2
      dsimp only [gName]
      obtain ⟨p1, p2⟩ := comp_args gc ec n16
      obtain ⟨p3, p4⟩ := comp_args ec gc n16
      refine ⟨_, rfl, _, rfl, u, v, g, e, rfl, s3 _ _ hu2, s3 _ _ hv2, p1, by rw [gc.len]; omega, fun t G3 s4 _ t1 => ?_⟩
      refine ⟨_, rfl, _, rfl, v, u, e, g, rfl, (s3.trans s4) _ _ hv2, (s3.trans s4) _ _ hu2, p3, by rw [ec.len]; omega, fun t2 G4 s5 _ t3 => neT (s5 _ _ t1) t3 ⟨_, rfl, ?_⟩⟩
      by_cases z : comp g e = comp e g
      · refine iteN (by simp [z]) ⟨sG2.trans (s4.trans s5), ⟨_, rfl⟩, fun y hy => ?_⟩
        rw [tk_at he] at hy
        rcases List.mem_append.mp hy with w | w
        · exact hj y w
        · rw [show y = e by simpa using w]
          exact z
      · exact iteP (by simp [z]) (q false _ (s3.trans (s4.trans s5)) ⟨fun y => (by cases y), fun y => (z (y g gm e em)).elim⟩)
    · rintro σ G2 ⟨sG2, ⟨u5, rfl⟩, hj⟩
      rw [List.length_map, paired_len tb, List.take_length] at hj
      refine ⟨sG.trans sG2, ⟨_, _, rfl⟩, fun g' h' => ?_⟩
      rw [tk_at hg] at h'
      rcases List.mem_append.mp h' with z | z
      · exact hall g' z
      · rw [show g' = g by simpa using z]
        exact hj
  · rintro σ G ⟨sG, ⟨v4, v5, rfl⟩, hall⟩
    rw [List.length_map, paired_len ta, List.take_length] at hall
    exact q true G sG ⟨fun _ => hall, fun _ => rfl⟩
def spCl : Sp := fun vs H Q _ => ∃ (a : Addr) (n : Nat) (as : List Addr) (A : List (List Nat)), vs = [.ref a] ∧ H a = some (.lst (as.map V.ref)) ∧ TpP H as A ∧ (∀ x ∈ A, Chg n x) ∧ n ≤ 16 ∧ (∀ x ∈ A, ∀ y ∈ A, comp x y ∈ A) ∧ ∀ H', Same H H' → Q (.bl true) H'
theorem sn64 : FnScope ["_law_ones", "_law_one", "_law_other"] ["_law_ones"] (defScope (top 64)) := ⟨rfl, rfl, rfl, by decide +kernel, rfl, by decide +kernel, by decide +kernel⟩
theorem ok_closed {f : Addr} {fd : FuncData} (CT : Cal P w K mg base CX0 1 "_law_then" ["_law_one", "_law_other"] spComp) (F : Fun K "_law_closed" "_law_closed" (top 64) f fd) : FnOk P w K mg base CX0 2 f fd ["_law_ones"] spCl := by
  refine F.ok sn64 (fun vs H Q E h => ?_) (fun cdv A outer s H vs Q E hr h => ⟨_,
    (pss_cons (ps_for PassesOwn.never rfl (pi_list (pv 0)) (pg_name (i := 1) sn64.nd rfl (.inl rfl)) (pss_one (ps_for PassesOwn.never rfl (pi_list (pv 0)) (pg_name (i := 2) sn64.nd rfl (.inl rfl)) (pss_one (ps_if (pt_cmpR (op_notInD (units65 hr)) (by exact (pe_cal (X := L2.Cx.nox _) CT hr (by decide) (pa_cons (pv 1) (pa_cons (pv 2) pa_nil)))) (pv 0) (by with_unfolding_all rfl)) (pss_one (ps_ret pe_bl)) pss_nil)))))
    (pss_one (ps_ret pe_bl))), ?_⟩)
  · obtain ⟨a, n, as, A, rfl, _⟩ := h
    rfl
  obtain ⟨a, n, as, A, rfl, ha, ta, ca, n16, hcl, q⟩ := h
  refine ⟨_, rfl, a, rfl, ⟨_, SqL.of ha⟩, for_list (xs := as.map V.ref) (fun i σ H' => Same H H' ∧ (∃ (u2 u3 : Option V), σ = [some (.ref a), u2, u3]))
      ⟨fun _ _ z => z, ⟨none, none, rfl⟩⟩ (fun i σ H' _ z => SqL.of (z.1 _ _ ha)) ?_ ?_⟩
  · rintro i y σ G hy ⟨sG, ⟨v4, v5, rfl⟩⟩
    obtain ⟨u, hu, rfl⟩ := ref_at hy
    obtain ⟨g, hg, hu2⟩ := paired_at ta hu
    have gm := List.mem_of_getElem? hg
    have gc := ca g gm
    dsimp only [gName]
    refine ⟨_, rfl, a, rfl, ⟨_, SqL.of (sG _ _ ha)⟩, for_list (xs := as.map V.ref) (fun j σ H' => Same G H' ∧ (∃ (u5 : Option V), σ = [some (.ref a), some (.ref u), u5]))
      ⟨fun _ _ z => z, ⟨_, rfl⟩⟩ (fun i σ H' _ z => SqL.of (z.1 _ _ (sG _ _ ha))) ?_ ?_⟩
    · rintro j y σ G2 hy ⟨sG2, ⟨u5, rfl⟩⟩
      obtain ⟨v, hv, rfl⟩ := ref_at hy
      obtain ⟨e, he, hv2⟩ := paired_at ta hv
      have em := List.mem_of_getElem? he
      have ec := ca e em
      have s3 := sG.trans sG2
      dsimp only [gName]
      obtain ⟨p1, p2⟩ := comp_args gc ec n16
      refine ⟨_, rfl, _, rfl, u, v, g, e, rfl, s3 _ _ hu2, s3 _ _ hv2, p1, by rw [gc.len]; omega, fun t G3 s4 _ t1 => ?_⟩
      refine ⟨_, rfl, notInLL t1 ((s3.trans s4) _ _ ha) (TpP.same ta (s3.trans s4)) ⟨_, rfl, ?_⟩⟩
      exact iteN (by simp [hcl g gm e em]) ⟨sG2.trans s4, ⟨_, rfl⟩⟩
    · rintro σ G2 ⟨sG2, ⟨u5, rfl⟩⟩
      exact ⟨sG.trans sG2, ⟨_, _, rfl⟩⟩
  · rintro σ G ⟨sG, ⟨v4, v5, rfl⟩⟩
    exact q G sG
def spSb : Sp := fun vs H Q _ => ∃ (d c lo l : Addr) (n : Nat) (ds bs : List Addr) (L cs : List (List Nat)), vs = [.ref d, .ref lo, .ref l] ∧ Dl H d c ∧ LWs H lo l n ds bs L cs ∧ (lo ≠ d ∧ lo ≠ c) ∧ (l ≠ d ∧ l ≠ c) ∧ ∀ (k : Int) (H' : Hp), Bt n cs k → sm 120 k → Dl H' d c → Kp d c H H' → Q (.int k) H'
theorem ints_at {ns : List Int} {j : Nat} {x : V} (h : (ns.map V.int)[j]? = some x) : ∃ k ∈ ns, x = .int k := by
  rw [List.getElem?_map] at h
  cases z : ns[j]? with
  | none => rw [z] at h; cases h
  | some k =>
    rw [z] at h
    exact ⟨k, List.mem_of_getElem? z, (Option.some.inj h).symm⟩
theorem sn61 : FnScope ["_law_deal", "_law_lot_here", "_law_some", "_law_every_here", "_law_turn", "_law_n"] ["_law_deal", "_law_lot_here", "_law_some"] (defScope (top 61)) := ⟨rfl, rfl, rfl, by decide +kernel, rfl, by decide +kernel, by decide +kernel⟩
set_option maxHeartbeats 4000000 in
theorem ok_sb {f : Addr} {fd : FuncData} (B : Bl mg) (CE : Cal P w K mg base CX0 2 "_law_every" ["_law_lot_here"] spEvr) (CO : Cal P w K mg base CX0 2 "_law_of" ["_law_deal", "_law_some"] (spOf K)) (CA : Cal P w K mg base CX0 1 "_law_any" ["_law_deal", "_law_bound"] spAny) (CI : Cal P w K mg base CX0 3 "_law_is_batch" ["_law_lot_here", "_law_some", "_law_n"] spIsB)
    (F : Fun K "_law_some_batch" "_law_some_batch" (top 61) f fd) : FnOk P w K mg base CX0 4 f fd ["_law_deal", "_law_lot_here", "_law_some"] spSb := by
  refine F.ok sn61 (fun vs H Q E h => ?_) (fun cdv A outer s H vs Q E hr h => ⟨_,
    (pss_cons (ps_set (i := 3) sn61.nd rfl (.inl rfl) (by exact (pe_cal (X := L2.Cx.nox _) CE hr (by decide) (pa_cons (pv 1) pa_nil))))
    (pss_cons (ps_for PassesOwn.never rfl (pi_range1 (by rfl) B.range (pa_cons pe_int pa_nil)) (pg_name (i := 4) sn61.nd rfl (.inl rfl)) (pss_cons (ps_set (i := 5) sn61.nd rfl (.inl rfl) (by exact (pe_cal (X := L2.Cx.nox _) CO hr (by decide) (pa_cons (pv 0) (pa_cons (pe_lst (pa_cons pe_int (pa_cons pe_int (pa_cons pe_int (pa_cons pe_int (pa_cons pe_int (pa_cons pe_int (pa_cons pe_int (pa_cons pe_int (pa_cons pe_int (pa_cons pe_int (pa_cons pe_int (pa_cons pe_int (pa_cons pe_int pa_nil)))))))))))))) pa_nil)))))
    (pss_cons (ps_set (i := 5) sn61.nd rfl (.inl rfl) (pe_ifExp (pt_cmpR op_eq (by exact (pe_cal (X := L2.Cx.nox _) CA hr (by decide) (pa_cons (pv 0) (pa_cons pe_int pa_nil)))) pe_int (nomark _)) (pv 5) (pe_op op_sub pe_int (pv 5))))
    (pss_one (ps_if (pt_val (by exact (pe_cal (X := L2.Cx.nox _) CI hr (by decide) (pa_cons (pv 1) (pa_cons (pv 2) (pa_cons (pv 5) pa_nil)))))) (pss_one (ps_ret (pv 5))) pss_nil)))))
    (pss_one (ps_ret (by exact (pe_cal (X := L2.Cx.nox _) CO hr (by decide) (pa_cons (pv 0) (pa_cons (pe_lst (pa_cons pe_int (pa_cons pe_int (pa_cons (pv 3) (pa_cons (pe_op op_add (pv 3) pe_int) (pa_cons (pe_op op_sub pe_int (pv 3)) (pa_cons (pe_op op_sub pe_int (pv 3)) (pa_cons (pe_op op_add (pe_op op_mulW (pv 3) (pe_op op_pow pe_int pe_int)) pe_int) pa_nil)))))))) pa_nil)))))))), ?_⟩)
  · obtain ⟨d, c, lo, l, n, ds, bs, L, cs, rfl, _⟩ := h
    rfl
  obtain ⟨d, c, lo, l, n, ds, bs, L, cs, rfl, hD, W, no, nl, q⟩ := h
  have hc := W.g.chg
  refine ⟨_, rfl, lo, n, ds, L, rfl, W.hlo, W.tp, fun g hg => W.chg hg, W.n16, W.lot.head hc, fun H1 o s1 oa od => ?_⟩
  have o60 : (o : Int) < 2 ^ 60 := by
    have h1 := Nat.le_of_dvd (fac_pos n) od
    have h2 := fac_small W.n16
    have : o < 2 ^ 60 := by omega
    exact_mod_cast this
  have o0 := oa.1
  have W1 := W.same s1
  have D1 := hD.same s1
  have k1 : Kp d c H H1 := Kp.of s1
  clear s1 W hD
  dsimp only [gName]
  refine sq_cut (fun σ H' => (∃ (u4 u5 : Option V), σ = [some (.ref d), some (.ref lo), some (.ref l), some (.int (o : Int)), u4, u5]) ∧ Dl H' d c ∧ Kp d c H H') (fun Z hZ => ?_) ?_
  · refine ⟨4, rfl, by decide, by decide, for_range (n := 4) (fun i σ H' => (∃ (u4 u5 : Option V), σ = [some (.ref d), some (.ref lo), some (.ref l), some (.int (o : Int)), u4, u5]) ∧ Dl H' d c ∧ LWs H' lo l n ds bs L cs ∧ Kp d c H H') ⟨⟨none, none, rfl⟩, D1, W1, k1⟩ ?_ ?_⟩
    · rintro i σ G hi ⟨⟨u4, u5, rfl⟩, DG, WG, kG⟩
      dsimp only [gName]
      refine ⟨_, rfl, (by show 13 ≤ sizeLine; decide), fun a ha => ?_⟩
      have na := DG.ne ha
      have sa := Same.new (o := .lst (([3, 4, 6, 10, 12, 7, 9, 16, 21, 13, 15, 5, 24] : List Int).map V.int)) ha
      refine ⟨d, c, a, ([3, 4, 6, 10, 12, 7, 9, 16, 21, 13, 15, 5, 24] : List Int).map V.int, rfl, DG.same sa, na.1, na.2, SqL.of upd_same, by decide, by decide, fun j y H2 hy D2 k2 => ?_⟩
      obtain ⟨x, hx, rfl⟩ := ints_at hy
      have xb : 0 ≤ x ∧ x < 32 := by
        have : ∀ x ∈ ([3, 4, 6, 10, 12, 7, 9, 16, 21, 13, 15, 5, 24] : List Int), 0 ≤ x ∧ x < 32 := by decide
        exact this x hx
      have W2 := (WG.same sa).kp (DG.same sa) k2 no nl
      have kk := kG.trans ((Kp.of sa).trans k2)
      clear hy hx k2 sa ha na
      dsimp only [gName]
      refine sq_cut (fun σ H' => ∃ x : Int, (-40 < x ∧ x < 40) ∧ σ = [some (.ref d), some (.ref lo), some (.ref l), some (.int (o : Int)), some (.int (0 + (i : Int))), some (.int x)] ∧ Dl H' d c ∧ LWs H' lo l n ds bs L cs ∧ Kp d c H H') (fun Z2 hZ2 => ?_) ?_
      · refine ⟨_, rfl, d, c, 2, rfl, D2, by decide, by decide, fun r H3 r0 r1 D3 k3 => ⟨rfl, _, rfl, ?_⟩⟩
        have W3 := W2.kp D2 k3 no nl
        by_cases z : r = 0
        · exact iteP (by simp [z]) ⟨_, rfl, hZ2 _ _ ⟨x, by omega, rfl, D3, W3, kk.trans k3⟩⟩
        · exact iteN (by simp [z]) ⟨_, rfl, _, _, rfl, rfl, hZ2 _ _ ⟨1 - x, by omega, rfl, D3, W3, kk.trans k3⟩⟩
      rintro σ H3 ⟨x, xb, rfl, D3, W3, k3⟩
      refine ⟨_, rfl, _, rfl, _, rfl, lo, l, x, n, ds, bs, L, cs, rfl, W3, fun b H4 s4 hb => ⟨b, rfl, ?_⟩⟩
      cases b with
      | false => exact iteF ⟨⟨_, _, rfl⟩, D3.same s4, W3.same s4, k3.trans (Kp.of s4)⟩
      | true => exact iteT ⟨_, rfl, q x H4 (hb.mp rfl) (sm_abs (m := 40) (by omega) (sm_of (by decide) (by decide))) (D3.same s4) (k3.trans (Kp.of s4))⟩
    · rintro σ G ⟨⟨u4, u5, rfl⟩, DG, WG, kG⟩
      exact hZ _ _ ⟨⟨_, _, rfl⟩, DG, kG⟩
  rintro σ G ⟨⟨u4, u5, rfl⟩, DG, kG⟩
  refine ⟨_, rfl, _, rfl, _, rfl, _, _, rfl, rfl, _, rfl, _, _, rfl, rfl, _, rfl, _, _, rfl, rfl, _, rfl, _, _, rfl, rfl, ⟨by decide, by decide, by decide⟩, _, _, rfl, rfl, ?_, _, _, rfl, rfl, (by show 7 ≤ sizeLine; decide), fun a ha => ?_⟩
  · exact mulW (sm_of (k := 60) (by omega) o60) (sm_of (k := 60) (by decide) (by decide)) (by decide) (by decide) (by decide)
  have na := DG.ne ha
  have sa := Same.new (o := .lst (([0, 1, (o : Int), (o : Int) + 1, 0 - (o : Int), 1 - (o : Int), (o : Int) * 10 ^ 13 + 1] : List Int).map V.int)) ha
  refine ⟨d, c, a, ([0, 1, (o : Int), (o : Int) + 1, 0 - (o : Int), 1 - (o : Int), (o : Int) * 10 ^ 13 + 1] : List Int).map V.int, rfl, DG.same sa, na.1, na.2, SqL.of upd_same, (by show 0 < 7; decide), (by show 7 ≤ 1000; decide), fun j y H2 hy D2 k2 => ?_⟩
  obtain ⟨x, hx, rfl⟩ := ints_at hy
  have key : (∃ q : Int, x = 0 + (o : Int) * q ∨ x = 1 + (o : Int) * q) ∧ x.natAbs < 2 ^ 120 := by
    simp only [List.mem_cons, List.not_mem_nil, or_false] at hx
    rcases hx with rfl | rfl | rfl | rfl | rfl | rfl | rfl
    · exact ⟨⟨0, by omega⟩, by decide⟩
    · exact ⟨⟨0, by omega⟩, by decide⟩
    · exact ⟨⟨1, by omega⟩, by omega⟩
    · exact ⟨⟨1, by omega⟩, by omega⟩
    · exact ⟨⟨-1, by omega⟩, by omega⟩
    · exact ⟨⟨-1, by omega⟩, by omega⟩
    · exact ⟨⟨10 ^ 13, by omega⟩, by omega⟩
  obtain ⟨⟨t, et⟩, b120⟩ := key
  refine q x H2 ?_ b120 D2 (kG.trans ((Kp.of sa).trans k2))
  rcases et with e | e
  · refine (bt_congr hc W1.lot oa ?_).mpr (bt0 hc)
    rw [e, Int.add_mul_emod_self_left]
  · refine (bt_congr hc W1.lot oa ?_).mpr (bt1 hc)
    rw [e, Int.add_mul_emod_self_left]
end
end KV

/-! the program: powers, go_along -/
namespace KV
open PySem PySem.Spec PyProof.Rows L2 KC
theorem Sz.sub {n m : Nat} {cs F : List (List Nat)} (hc : ∀ c ∈ cs, Chg n c) (h : Sz n cs m) (hF : ∀ f ∈ F, Rch n cs f) : Sz n F m := fun L nd hL => h L nd fun g hg => by
  refine (hL g hg).all (S := fun g => Rch n cs g) Rch.one fun g k hg hk => hg.mul hc ?_
  rw [cs_at hk]
  exact hF _ (List.getElem_mem _)
theorem comm_gen {n : Nat} {F : List (List Nat)} {b : List Nat} (hF : ∀ f ∈ F, Chg n f) (hb : Chg n b) (h : ∀ f ∈ F, comp f b = comp b f) {g : List Nat} (hg : Rch n F g) : comp g b = comp b g := by
  refine (hg.all (S := fun g => Chg n g ∧ comp g b = comp b g) ⟨Chg.range n, by rw [idle_comp hb, comp_idle hb]⟩ fun g k ⟨gc, e⟩ hk => ?_).2
  rw [cs_at hk]
  have fc := hF _ (List.getElem_mem hk)
  exact ⟨chg_comp gc fc, by rw [comp_assoc gc fc, h _ (List.getElem_mem _), ← comp_assoc gc hb, e, comp_assoc hb gc]⟩
theorem PwS.len {n m : Nat} {cs L out : List (List Nat)} {k : Int} (hc : ∀ c ∈ cs, Chg n c) (h : PwS n L k out) (LT : Lot n cs L) (z : Sz n cs m) : out.length ≤ m := z out h.nd fun g hg => by
  obtain ⟨x, hx, rfl⟩ := (h.all g).mp hg
  exact ((LT.all x).mp hx).pwz hc k
theorem PwS.rch {n : Nat} {cs L out : List (List Nat)} {k : Int} (hc : ∀ c ∈ cs, Chg n c) (h : PwS n L k out) (LT : Lot n cs L) : ∀ g ∈ out, Rch n cs g := fun g hg => by
  obtain ⟨x, hx, rfl⟩ := (h.all g).mp hg
  exact ((LT.all x).mp hx).pwz hc k
section
variable {P : Program} {w : World} {K : PySem.W.Frag} {mg : Str → Option Value} {base : Heap} {Cm CR CQ fQ : Addr}
def spCkI (K : PySem.W.Frag) (CQ : Addr) : Sp := fun vs H Q E => ∃ (v : V) (at_ : Int), vs = [v, .int at_] ∧ AnyV K H v ∧ (((∃ k, v = .int k) ∧ Q .non H) ∨ (isI v = false ∧ BadN CQ at_ H E))
theorem sn10 : FnScope ["value", "at"] ["value", "at"] (defScope (top 10)) := ⟨rfl, rfl, rfl, by decide +kernel, rfl, by decide +kernel, by decide +kernel⟩
theorem ok_cki {f : Addr} {fd : FuncData} (T : PySem.LowX.LowTxt K mg "InvalidQuestion" "InvalidQuestion.__init__" CQ fQ) (CI : Cal P w K mg base CX0 1 "is_integer" ["value"] (spIsI2 K)) (F : Fun K "check_integer" "check_integer" (top 10) f fd) : FnOk P w K mg base (L2.CX P w) 2 f fd ["value", "at"] (spCkI K CQ) := by
  refine F.okX sn10 (fun vs H Q E h => ?_) (fun cdv A outer s H vs Q E hr h => ⟨_,
    (pss_one (ps_if (pt_not (pt_val (by exact (pe_cal CI hr (by decide) (pa_cons (pv 0) pa_nil))))) (pss_one (ps_raiseLow rfl T hr (takes_of rfl rfl rfl rfl) (by exact (pa_cons (pv 1) pa_nil)))) pss_nil)), ?_⟩)
  · obtain ⟨v, at_, rfl, _⟩ := h
    rfl
  obtain ⟨v, at_, rfl, hv, h⟩ := h
  refine ⟨_, rfl, v, rfl, hv, _, rfl, ?_⟩
  rcases h with ⟨⟨k, rfl⟩, q⟩ | ⟨e, q⟩
  · exact iteF q
  · rw [e]
    exact iteT ⟨_, rfl, _, rfl, fun d hd => q _ d (fun _ _ z => z) hd⟩
def spPws (K : PySem.W.Frag) (Cm CR CQ : Addr) : Sp := fun vs H Q E => ∃ (m : Addr) (v : V) (n : Nat) (cs : List (List Nat)), vs = [.ref m, v] ∧ McS K Cm H m n cs ∧ AnyV K H v ∧
  ((¬ Sz n cs 400 ∧ BadN CR 0 H E) ∨ (Sz n cs 12 ∧ ((isI v = false ∧ BadN CQ 1 H E) ∨ ∃ k, v = .int k ∧ ∀ (t : Addr) (es : List Addr) (L out : List (List Nat)) (H' : Hp), Same H H' → Lot n cs L → H' t = some (.tup (es.map V.ref)) → TpP H' es out → PwS n L k out → Q (.ref t) H')))
theorem sn41 : FnScope ["machine", "count", "group"] ["machine", "count"] (defScope (top 41)) := ⟨rfl, rfl, rfl, by decide +kernel, rfl, by decide +kernel, by decide +kernel⟩
theorem ok_pws {f : Addr} {fd : FuncData} (B : Bl mg) (CC : Cal P w K mg base (L2.CX P w) 5 "changes" ["machine"] (spChs K Cm CR)) (CK : Cal P w K mg base (L2.CX P w) 2 "check_integer" ["value", "at"] (spCkI K CQ)) (CP : Cal P w K mg base CX0 4 "powers_of" ["group", "count"] (spPo true))
    (F : Fun K "powers" "powers" (top 41) f fd) : FnOk P w K mg base (L2.CX P w) 6 f fd ["machine", "count"] (spPws K Cm CR CQ) := by
  refine F.okX sn41 (fun vs H Q E h => ?_) (fun cdv A outer s H vs Q E hr h => ⟨_,
    (pss_cons (ps_set (i := 2) sn41.nd rfl (.inl rfl) (by exact (pe_calX CC hr (by decide) (takes_of rfl rfl rfl rfl) (fun _ _ _ _ z => z) (pa_cons (pv 0) pa_nil))))
    (pss_cons (ps_expr (by exact (pe_calX CK hr (by decide) (takes_of rfl rfl rfl rfl) (fun _ _ _ _ z => z) (pa_cons (pv 1) (pa_cons pe_int pa_nil)))))
    (pss_one (ps_ret (pe_callTy call_tuple_of (by rfl) B.tuple (by decide +kernel) (pa_cons (by exact (pe_cal CP hr (by decide) (pa_cons (pv 2) (pa_cons (pv 1) pa_nil)))) pa_nil)))))), ?_⟩)
  · obtain ⟨m, v, n, cs, rfl, _⟩ := h
    rfl
  obtain ⟨m, v, n, cs, rfl, MS, hv, h⟩ := h
  have hc := MS.m.chg
  rcases h with ⟨ns, q⟩ | ⟨sz, h⟩
  · exact ⟨_, rfl, m, n, cs, rfl, MS, fun _ => q, fun z => absurd z ns⟩
  refine ⟨_, rfl, m, n, cs, rfl, MS, fun z => absurd (sz.mono (by decide)) z, fun _ t ds L H1 s1 _ e1 tp1 LT => ?_⟩
  dsimp only [gName]
  refine ⟨_, rfl, v, 1, rfl, hv.same s1, ?_⟩
  rcases h with ⟨e, q⟩ | ⟨k, rfl, q⟩
  · exact .inr ⟨e, q.same s1⟩
  refine .inl ⟨⟨k, rfl⟩, ?_⟩
  have LL := LT.len sz
  refine ⟨_, rfl, _, rfl, t, k, n, ds, L, rfl, e1, tp1, fun g hg => ((LT.all g).mp hg).chg hc, MS.n0, MS.n16, by omega, fun l bs out H2 s2 h1 h2 h3 => ?_⟩
  refine ⟨l, _, rfl, .inl ⟨SqL.of h1, fun t2 ht2 => ?_⟩⟩
  have st := Same.new (o := .tup (bs.map V.ref)) ht2
  exact q t2 bs L out _ ((s1.trans s2).trans st) LT upd_same (TpP.same h2 st) h3
def spGa (K : PySem.W.Frag) (Cm CR CQ : Addr) : Sp := fun vs H Q E => ∃ (m : Addr) (v1 v2 : V) (n : Nat) (cs : List (List Nat)), vs = [.ref m, v1, v2] ∧ McS K Cm H m n cs ∧ AnyV K H v1 ∧ AnyV K H v2 ∧
  ((¬ Sz n cs 400 ∧ BadN CR 0 H E) ∨ (Sz n cs 12 ∧ ((isI v1 = false ∧ BadN CQ 1 H E) ∨ ∃ k1, v1 = .int k1 ∧ ((isI v2 = false ∧ BadN CQ 2 H E) ∨ ∃ k2, v2 = .int k2 ∧
    ∀ (b : Bool) (H' : Hp), Same H H' → (b = true ↔ ∀ g e, Rch n cs g → Rch n cs e → comp (pw n g k1) (pw n e k2) = comp (pw n e k2) (pw n g k1)) → Q (.bl b) H'))))
theorem sn42 : FnScope ["machine", "one", "other", "group", "first", "second"] ["machine", "one", "other"] (defScope (top 42)) := ⟨rfl, rfl, rfl, by decide +kernel, rfl, by decide +kernel, by decide +kernel⟩
theorem ok_ga {f : Addr} {fd : FuncData} (CC : Cal P w K mg base (L2.CX P w) 5 "changes" ["machine"] (spChs K Cm CR)) (CK : Cal P w K mg base (L2.CX P w) 2 "check_integer" ["value", "at"] (spCkI K CQ)) (CP : Cal P w K mg base CX0 4 "powers_of" ["group", "count"] (spPo true))
    (CF : Cal P w K mg base (L2.CX P w) 5 "few_makers" ["states", "group"] (spGr false)) (CA : Cal P w K mg base CX0 4 "all_commute" ["some", "others"] spAc)
    (F : Fun K "go_along" "go_along" (top 42) f fd) : FnOk P w K mg base (L2.CX P w) 6 f fd ["machine", "one", "other"] (spGa K Cm CR CQ) := by
  refine F.okX sn42 (fun vs H Q E h => ?_) (fun cdv A outer s H vs Q E hr h => ⟨_,
    (pss_cons (ps_set (i := 3) sn42.nd rfl (.inl rfl) (by exact (pe_calX CC hr (by decide) (takes_of rfl rfl rfl rfl) (fun _ _ _ _ z => z) (pa_cons (pv 0) pa_nil))))
    (pss_cons (ps_expr (by exact (pe_calX CK hr (by decide) (takes_of rfl rfl rfl rfl) (fun _ _ _ _ z => z) (pa_cons (pv 1) (pa_cons pe_int pa_nil)))))
    (pss_cons (ps_expr (by exact (pe_calX CK hr (by decide) (takes_of rfl rfl rfl rfl) (fun _ _ _ _ z => z) (pa_cons (pv 2) (pa_cons pe_int pa_nil)))))
    (pss_cons (ps_set (i := 4) sn42.nd rfl (.inl rfl) (by exact (pe_calX CF hr (by decide) (takes_of rfl rfl rfl rfl) (fun _ _ _ _ z => z) (pa_cons (pe_fld (pv 0) (by rfl)) (pa_cons (by exact (pe_cal CP hr (by decide) (pa_cons (pv 3) (pa_cons (pv 1) pa_nil)))) pa_nil)))))
    (pss_cons (ps_set (i := 5) sn42.nd rfl (.inl rfl) (by exact (pe_calX CF hr (by decide) (takes_of rfl rfl rfl rfl) (fun _ _ _ _ z => z) (pa_cons (pe_fld (pv 0) (by rfl)) (pa_cons (by exact (pe_cal CP hr (by decide) (pa_cons (pv 3) (pa_cons (pv 2) pa_nil)))) pa_nil)))))
    (pss_one (ps_ret (by exact (pe_cal CA hr (by decide) (pa_cons (pv 4) (pa_cons (pv 5) pa_nil))))))))))), ?_⟩)
  · obtain ⟨m, v1, v2, n, cs, rfl, _⟩ := h
    rfl
  obtain ⟨m, v1, v2, n, cs, rfl, MS, hv1, hv2, h⟩ := h
  have hc := MS.m.chg
  rcases h with ⟨ns, q⟩ | ⟨sz, h⟩
  · exact ⟨_, rfl, m, n, cs, rfl, MS, fun _ => q, fun z => absurd z ns⟩
  refine ⟨_, rfl, m, n, cs, rfl, MS, fun z => absurd (sz.mono (by decide)) z, fun _ t ds L H1 s1 _ e1 tp1 LT => ?_⟩
  dsimp only [gName]
  refine ⟨_, rfl, v1, 1, rfl, hv1.same s1, ?_⟩
  rcases h with ⟨e, q⟩ | ⟨k1, rfl, h⟩
  · exact .inr ⟨e, q.same s1⟩
  refine .inl ⟨⟨k1, rfl⟩, ?_⟩
  refine ⟨_, rfl, v2, 2, rfl, hv2.same s1, ?_⟩
  rcases h with ⟨e, q⟩ | ⟨k2, rfl, q⟩
  · exact .inr ⟨e, q.same s1⟩
  refine .inl ⟨⟨k2, rfl⟩, ?_⟩
  have LL := LT.len sz
  have Lc : ∀ g ∈ L, Chg n g := fun g hg => ((LT.all g).mp hg).chg hc
  obtain ⟨dm, tt, ts, h1, -⟩ := MS.m.ex
  refine ⟨_, rfl, m, Cm, dm, _, _, rfl, s1 _ _ h1, MS.m.cl, MS.m.na2, rfl, _, rfl, _, rfl, t, k1, n, ds, L, rfl, e1, tp1, Lc, MS.n0, MS.n16, by omega, fun l bs out H2 s2 g1 g2 g3 => ?_⟩
  have oc : ∀ g ∈ out, Chg n g := fun g hg => (g3.rch hc LT g hg).chg hc
  have ol := g3.len hc LT sz
  refine ⟨l, n, bs, out, rfl, g1, g2, oc, MS.n0, MS.n16, by omega, fun F hF => (sz.sub hc fun f hf => g3.rch hc LT f (hF f hf)).mono (by decide), fun p l2 D fs F H3 s3 hp f1 f2 f3 f4 => ?_⟩
  have hp : p = l2 := hp
  subst hp
  have s13 := s2.trans s3
  dsimp only [gName]
  refine ⟨_, rfl, m, Cm, dm, _, _, rfl, (s1.trans s13) _ _ h1, MS.m.cl, MS.m.na2, rfl, _, rfl, _, rfl, t, k2, n, ds, L, rfl, s13 _ _ e1, TpP.same tp1 s13, Lc, MS.n0, MS.n16, by omega, fun l' bs' out' H4 s4 g1' g2' g3' => ?_⟩
  have oc' : ∀ g ∈ out', Chg n g := fun g hg => (g3'.rch hc LT g hg).chg hc
  have ol' := g3'.len hc LT sz
  refine ⟨l', n, bs', out', rfl, g1', g2', oc', MS.n0, MS.n16, by omega, fun F hF => (sz.sub hc fun f hf => g3'.rch hc LT f (hF f hf)).mono (by decide), fun p' l2' D' fs' F' H5 s5 hp' f1' f2' f3' f4' => ?_⟩
  have hp' : p' = l2' := hp'
  subst hp'
  have s35 := s4.trans s5
  dsimp only [gName]
  have Fc : ∀ f ∈ F, Chg n f := fun f hf => oc f (f3 f hf)
  have Fc' : ∀ f ∈ F', Chg n f := fun f hf => oc' f (f3' f hf)
  refine ⟨_, rfl, _, rfl, p, p', n, fs, F, fs', F', rfl, s35 _ _ f1, TpP.same f2 s35, Fc, MS.n16, f1', f2', Fc', fun H6 s6 => q _ H6 (((s1.trans s13).trans s35).trans s6) ?_⟩
  rw [List.all_eq_true]
  constructor
  · intro h g e hg he
    have ga := (g3.all _).mpr ⟨g, (LT.all g).mpr hg, rfl⟩
    have ea := (g3'.all _).mpr ⟨e, (LT.all e).mpr he, rfl⟩
    refine comm_gen Fc (oc' _ ea) (fun f hf => ?_) (f4 _ ga)
    refine (comm_gen Fc' (Fc f hf) (fun f' hf' => ?_) (f4' _ ea)).symm
    have := List.all_eq_true.mp (h f hf) f' hf'
    exact (of_decide_eq_true this).symm
  · intro h f hf
    rw [List.all_eq_true]
    intro f' hf'
    obtain ⟨g, hg, rfl⟩ := (g3.all f).mp (f3 f hf)
    obtain ⟨e, he, rfl⟩ := (g3'.all f').mp (f3' f' hf')
    exact decide_eq_true (h g e ((LT.all g).mp hg) ((LT.all e).mp he))
end
end KV

/-! the law: what holds of batch numbers -/
namespace KV
open PySem PySem.Spec PyProof.Rows L2 KC
theorem Lot.sz {n m : Nat} {cs L : List (List Nat)} (h : Lot n cs L) (l : L.length ≤ m) : Sz n cs m := fun L' nd hL => Nat.le_trans (sub_len nd fun g hg => (h.all g).mpr (hL g hg)) l
section
variable {P : Program} {w : World} {K : PySem.W.Frag} {mg : Str → Option Value} {base : Heap} {Cm CR : Addr}
def spFa (K : PySem.W.Frag) (Cm : Addr) : Sp := fun vs H Q _ => ∃ (lo l x : Addr) (o : Nat) (m k : Int) (n : Nat) (ds bs : List Addr) (L cs : List (List Nat)), vs = [.ref lo, .ref l, .ref x, .int (o : Int), .int m, .int k] ∧ LWs H lo l n ds bs L cs ∧ McS K Cm H x n cs ∧ OrdAll n L o ∧ Bt n cs m ∧ Bt n cs k ∧ sm 120 m ∧ sm 120 k ∧
  ∀ H', Same H H' → Q (.bl true) H'
theorem sn65 : FnScope ["_law_lot_here", "_law_some", "_law_machine_here", "_law_every_here", "_law_m", "_law_n", "_law_count", "_law_raised_here", "_law_still", "_law_due", "_law_one"] ["_law_lot_here", "_law_some", "_law_machine_here", "_law_every_here", "_law_m", "_law_n"] (defScope (top 65)) := ⟨rfl, rfl, rfl, by decide +kernel, rfl, by decide +kernel, by decide +kernel⟩
set_option maxHeartbeats 8000000 in
theorem ok_fa {f : Addr} {fd : FuncData} (B : Bl mg) (CIB : Cal P w K mg base (L2.CX P w) 6 "is_batch_number" ["machine", "count"] (spIB K Cm CR)) (CI : Cal P w K mg base CX0 3 "_law_is_batch" ["_law_lot_here", "_law_some", "_law_n"] spIsB) (CRa : Cal P w K mg base CX0 4 "_law_raised" ["_law_lot_here", "_law_count"] (spPo false))
    (CAl : Cal P w K mg base CX0 2 "_law_along" ["_law_ones", "_law_others"] spAl) (CCl : Cal P w K mg base CX0 2 "_law_closed" ["_law_ones"] spCl) (CMi : Cal P w K mg base (L2.CX P w) 6 "middle" ["machine"] (spMid K Cm CR))
    (F : Fun K "_law_facts" "_law_facts" (top 65) f fd) : FnOkG P w K mg base 7 f fd ["_law_lot_here", "_law_some", "_law_machine_here", "_law_every_here", "_law_m", "_law_n"] (spFa K Cm) := by
  obtain ⟨oc, od, kV, doc, pm, an, cdv, ct, osl, rfl, lk, hcd⟩ := F.ex
  refine fn_ofG lk hcd sn65 (fun vs H Q E h => ?_) (fun A outer s H vs Q E hr gd h => ⟨_,
    (pss_cons (ps_if (PW.pt (pw_or (pt_not (pt_val (by exact (pe_calS CIB hr (by decide) (fun σ => passL σ) (pa_cons (pv 2) (pa_cons (pv 5) pa_nil)))))) (pw_or1 (pt_not (pt_val (by exact (pe_calS CIB hr (by decide) (fun σ => passL σ) (pa_cons (pv 2) (pa_cons (pv 4) pa_nil))))))))) (pss_one (ps_ret pe_bl)) pss_nil)
    (pss_cons (ps_for (passes_of rfl) rfl (pi_tup (pe_tup (pa_cons (pe_op op_sub pe_int (pv 5)) (pa_cons (pe_op op_sub pe_int (pv 4)) (pa_cons (pe_op op_mulW (pv 4) (pv 5)) (pa_cons (pe_op op_mulW (pv 5) (pv 5)) pa_nil)))))) (pg_name (i := 6) sn65.nd rfl (.inl rfl)) (pss_one (ps_if (PW.pt (pw_or (pt_not (pt_val (by exact (pe_cal CI hr (by decide) (pa_cons (pv 0) (pa_cons (pv 1) (pa_cons (pe_op op_mod (pe_callTy call_int1 (by rfl) B.int PyProof.Rows.boot_int (pa_cons (pv 6) pa_nil)) (pv 3)) pa_nil))))))) (pw_or1 (pt_not (pt_val (by exact (pe_calS CIB hr (by decide) (fun σ => passL σ) (pa_cons (pv 2) (pa_cons (pv 6) pa_nil))))))))) (pss_one (ps_ret pe_bl)) pss_nil)))
    (pss_cons (ps_set (i := 7) sn65.nd rfl (.inl rfl) (by exact (pe_cal CRa hr (by decide) (pa_cons (pv 0) (pa_cons (pe_op op_mod (pe_callTy call_int1 (by rfl) B.int PyProof.Rows.boot_int (pa_cons (pv 5) pa_nil)) (pv 3)) pa_nil)))))
    (pss_cons (ps_set (i := 8) sn65.nd rfl (.inl rfl) (by exact (pe_cal CAl hr (by decide) (pa_cons (pv 7) (pa_cons (pv 1) pa_nil)))))
    (pss_cons (ps_set (i := 9) sn65.nd rfl (.inl rfl) (pe_callTy call_tuple_of (by rfl) B.tuple (by decide +kernel) (pa_cons (pe_lc (own := [("_law_one", 10)]) (g := gName 10) rfl sn65.nd (pi_list (pv 0)) (blkOk_by (N := ["_law_lot_here", "_law_some", "_law_machine_here", "_law_every_here", "_law_m", "_law_n", "_law_count", "_law_raised_here", "_law_still", "_law_due", "_law_one"]) (sc := defScope (top 65)) (by decide +kernel))
        (fun _ _ _ _ _ => (pg_name (i := 10) sn65.nd rfl (Or.inl rfl))) (fun _ _ _ _ _ => (pts_one (pt_val (pe_cal CAl hr (by decide) (pa_cons (pe_lst (pa_cons (pv 10) pa_nil)) (pa_cons (pv 1) pa_nil)))))) (fun _ _ _ _ _ => (pv 10))) pa_nil)))
    (pss_cons (ps_if (pt_cmpR op_ne (pe_callB (call_reprD gd hr.units) (by rfl) B.repr (by decide +kernel) (pa_cons (by exact (pe_calS CMi hr (by decide) (fun σ => passL σ) (pa_cons (pv 2) pa_nil))) pa_nil)) (pe_callB (call_reprD gd hr.units) (by rfl) B.repr (by decide +kernel) (pa_cons (pv 9) pa_nil)) (nomark _)) (pss_one (ps_ret pe_bl)) pss_nil)
    (pss_one (ps_ret (pe_and (pe_cmpR op_eq (pv 8) (by exact (pe_cal CI hr (by decide) (pa_cons (pv 0) (pa_cons (pv 1) (pa_cons (pe_op op_mod (pe_callTy call_int1 (by rfl) B.int PyProof.Rows.boot_int (pa_cons (pe_op op_add (pv 5) pe_int) pa_nil)) (pv 3)) pa_nil))))) (nomark _)) (pe_and (by exact (pe_cal CCl hr (by decide) (pa_cons (pv 7) pa_nil))) (pe_one (by exact (pe_cal CCl hr (by decide) (pa_cons (by exact (pe_cal CRa hr (by decide) (pa_cons (pv 0) (pa_cons (pe_op op_mod (pe_callTy call_int1 (by rfl) B.int PyProof.Rows.boot_int (pa_cons (pe_op op_sub (pv 5) pe_int) pa_nil)) (pv 3)) pa_nil)))) pa_nil)))))))))))))), ?_⟩)
  · obtain ⟨lo, l, x, o, m, k, n, ds, bs, L, cs, rfl, _⟩ := h
    rfl
  obtain ⟨lo, l, x, o, m, k, n, ds, bs, L, cs, rfl, W, MS, oa, bm, bk, sm_, sk, q⟩ := h
  have hc := W.g.chg
  have n16 := W.n16
  have sz : Sz n cs 400 := (W.lot.sz W.len).mono (by decide)
  have o0 : (0 : Int) < (o : Int) := by have := oa.1; omega
  have s400 : ∀ {j : Int}, sm 120 j → sm 400 j := fun h => sm_mono h (by decide)
  refine ⟨_, rfl, _, rfl, x, k, n, cs, rfl, MS, s400 sk, fun z => absurd sz z, fun _ b H1 s1 hb => ?_⟩
  obtain rfl : b = true := hb.mpr bk
  refine ⟨true, rfl, iteF ?_⟩
  refine ⟨_, rfl, _, rfl, x, m, n, cs, rfl, MS.same s1, s400 sm_, fun z => absurd sz z, fun _ b H2 s2 hb => ?_⟩
  obtain rfl : b = true := hb.mpr bm
  refine ⟨true, rfl, iteF ?_⟩
  have s12 := s1.trans s2
  clear s1 s2 hb
  have mm : ∀ {a b : Int}, sm 120 a → sm 120 b → CMulW a b := fun ha hb => mulW ha hb (by decide) (by decide) (by decide)
  refine ⟨_, rfl, _, _, rfl, rfl, _, rfl, _, _, rfl, rfl, _, rfl, _, rfl, _, _, rfl, rfl, mm sm_ sk, _, rfl, _, rfl, _, _, rfl, rfl, mm sk sk, (by show 4 ≤ sizeLine; decide), fun tq htq => ?_⟩
  have sq := Same.new (o := .tup (([1 - k, 1 - m, m * k, k * k] : List Int).map V.int)) htq
  have eq0 : upd H2 tq (.tup (([1 - k, 1 - m, m * k, k * k] : List Int).map V.int)) tq = some (.tup (([1 - k, 1 - m, m * k, k * k] : List Int).map V.int)) := upd_same
  have good : ∀ y ∈ ([1 - k, 1 - m, m * k, k * k] : List Int), Bt n cs y ∧ sm 400 y := by
    intro y hy
    simp only [List.mem_cons, List.not_mem_nil, or_false] at hy
    rcases hy with rfl | rfl | rfl | rfl
    · exact ⟨bt_neg hc bk, sm_mono (sm_sub (sm_of (k := 120) (by decide) (by decide)) sk) (by decide)⟩
    · exact ⟨bt_neg hc bm, sm_mono (sm_sub (sm_of (k := 120) (by decide) (by decide)) sm_) (by decide)⟩
    · exact ⟨bt_mul hc bm bk, sm_mono (sm_mul sm_ sk) (by decide)⟩
    · exact ⟨bt_mul hc bk bk, sm_mono (sm_mul sk sk) (by decide)⟩
  refine ⟨tq, rfl, ⟨_, SqT.of eq0⟩, for_tup (xs := ([1 - k, 1 - m, m * k, k * k] : List Int).map V.int) (fun i σ H' => Same H2 H' ∧ H' tq = some (.tup (([1 - k, 1 - m, m * k, k * k] : List Int).map V.int)) ∧ ∃ u : Option V, σ = [some (.ref lo), some (.ref l), some (.ref x), some (.int (o : Int)), some (.int m), some (.int k), u, none, none, none, none])
    ⟨sq, eq0, none, rfl⟩ (fun i σ H' _ z => SqT.of z.2.1) ?_ ?_⟩
  · rintro i y σ G hy ⟨sG, eG, u, rfl⟩
    obtain ⟨z, hz, rfl⟩ := ints_at hy
    obtain ⟨bz, sz'⟩ := good z hz
    have s3 := s12.trans sG
    dsimp only [gName]
    refine ⟨_, rfl, _, rfl, _, rfl, .inl ⟨_, rfl, _, rfl, _, _, rfl, rfl, o0, ?_⟩⟩
    refine ⟨lo, l, z % (o : Int), n, ds, bs, L, cs, rfl, W.same s3, fun b G2 s4 hb => ?_⟩
    obtain rfl : b = true := hb.mpr ((bt_mod hc W.lot oa z).mpr bz)
    refine ⟨true, rfl, iteF ?_⟩
    refine ⟨_, rfl, _, rfl, x, z, n, cs, rfl, MS.same (s3.trans s4), sz', fun z => absurd sz z, fun _ b G3 s5 hb => ?_⟩
    obtain rfl : b = true := hb.mpr bz
    exact ⟨true, rfl, iteF ⟨sG.trans (s4.trans s5), (s4.trans s5) _ _ eG, _, rfl⟩⟩
  rintro σ H3 ⟨s3, -, u, rfl⟩
  have s13 := s12.trans s3
  have W3 := W.same s13
  have MS3 := MS.same s13
  clear s3 s12 W MS sq eq0 htq good
  have lc : ∀ g ∈ L, Chg n g := fun g hg => W3.chg hg
  have l12 := W3.len
  refine ⟨_, rfl, _, rfl, .inl ⟨_, rfl, _, rfl, _, _, rfl, rfl, o0, ?_⟩⟩
  refine ⟨lo, k % (o : Int), n, ds, L, rfl, W3.hlo, W3.tp, lc, W3.g.n0, n16, by omega, fun l1 bs1 out1 H4 s4 h1 t1 p1 => ?_⟩
  dsimp only [gName]
  have W4 := W3.same s4
  have oc : ∀ c ∈ out1, Chg n c := fun c hc' => by
    obtain ⟨g, hg, rfl⟩ := (p1.all c).mp hc'
    exact pw_chg (lc g hg) _
  refine ⟨_, rfl, _, rfl, l1, l, n, bs1, bs, out1, cs, rfl, h1, t1, W4.g.lst, W4.g.tups, oc, hc, n16, fun b1 H5 s5 hb1 => ?_⟩
  dsimp only [gName]
  have W5 := W4.same s5
  have MS5 := MS3.same (s4.trans s5)
  have h15 := s5 _ _ h1
  have t15 := TpP.same t1 s5
  have sH5 := s13.trans (s4.trans s5)
  clear W4 W3 MS3 h1 t1 s4 s5 s13
  refine ⟨_, rfl, lo, rfl, ⟨_, SqL.of W5.hlo⟩, fun D hD => lc_list (xs := ds.map V.ref) (fun i H' => Same H5 H' ∧ ∃ fs : List Addr, H' D = some (.lst (fs.map V.ref)) ∧ TpP H' fs ((L.take i).filter fun g => cs.all (cmB g))) ⟨Same.new hD, [], upd_same, .nil⟩ (fun i H' _ z => SqL.of (z.1 _ _ W5.hlo)) ?_ ?_⟩
  · rintro i y G hy ⟨p1', fs, p2, p3⟩
    obtain ⟨b, hb, rfl⟩ := ref_at hy
    obtain ⟨g, hg, hb2⟩ := paired_at W5.tp hb
    have hgc := lc g (List.mem_of_getElem? hg)
    have tk : L.take (i + 1) = L.take i ++ [g] := tk_at hg
    have lf : fs.length ≤ i := by
      rw [paired_len p3]
      exact Nat.le_trans (List.length_filter_le _ _) (by rw [List.length_take]; exact Nat.min_le_left _ _)
    have il := (List.getElem?_eq_some_iff.mp hg).1
    refine ⟨rfl, _, rfl, (by show 1 ≤ sizeLine; decide), fun a ha => ?_⟩
    have sa := Same.new (o := .lst [V.ref b]) ha
    have s6 := p1'.trans sa
    refine ⟨_, rfl, a, l, n, [b], bs, [g], cs, rfl, upd_same, .cons (s6 _ _ hb2) .nil, s6 _ _ W5.g.lst, (W5.same s6).g.tups, fun z hz => by rw [List.mem_singleton.mp hz]; exact hgc, hc, n16, fun b2 G2 s7 hb => ⟨b2, rfl, ?_⟩⟩
    have e2 : b2 = cs.all (cmB g) := by
      rw [Bool.eq_iff_iff, hb, List.all_eq_true]
      constructor
      · exact fun h e he => decide_eq_true (h g (List.mem_singleton.mpr rfl) e he)
      · intro h z hz e he
        rw [List.mem_singleton.mp hz]
        exact of_decide_eq_true (h e he)
    have s67 := sa.trans s7
    cases hcm : cs.all (cmB g) with
    | false =>
      rw [e2, hcm]
      refine iteF ⟨p1'.trans s67, fs, s67 _ _ p2, ?_⟩
      rw [tk, List.filter_append, List.filter_cons_of_neg (by simp [hcm]), List.filter_nil, List.append_nil]
      exact TpP.same p3 s67
    | true =>
      rw [e2, hcm]
      refine iteT ⟨_, rfl, _, s67 _ _ p2, len_lt (by rw [List.length_map]; omega), Same.upd (p1'.trans s67) hD, fs ++ [b], by rw [upd_same, List.map_append]; rfl, ?_⟩
      have nt : ∀ xs, G2 D ≠ some (.tup xs) := fun xs z => by rw [s67 _ _ p2] at z; cases z
      rw [tk, List.filter_append, List.filter_cons_of_pos (by simp [hcm]), List.filter_nil]
      exact tups_keep (fun b xs h => by rw [upd_ne (fun z => nt xs (by rw [← z]; exact h))]; exact h) (tpp_snoc (TpP.same p3 s67) ((p1'.trans s67) _ _ hb2))
  rintro H6 ⟨s6, fs, hD6, tf⟩
  rw [List.length_map, paired_len W5.tp, List.take_length] at tf
  refine ⟨_, _, rfl, .inl ⟨SqL.of hD6, fun td htd => ?_⟩⟩
  have sd := Same.new (o := .tup (fs.map V.ref)) htd
  have s56 := s6.trans sd
  have e7 : upd H6 td (.tup (fs.map V.ref)) td = some (.tup (fs.map V.ref)) := upd_same
  have tf7 := TpP.same tf sd
  generalize upd H6 td (.tup (fs.map V.ref)) = H7 at s56 e7 tf7
  clear sd htd tf hD6 s6 hD
  dsimp only [gName]
  have fl : (L.filter fun g => cs.all (cmB g)).length ≤ 200 := Nat.le_trans (List.length_filter_le _ _) (by omega)
  have fc : ∀ g ∈ L.filter fun g => cs.all (cmB g), Chg n g := fun g hg => lc g (List.mem_filter.mp hg).1
  refine ⟨_, rfl, x, n, cs, rfl, MS5.same s56, fun z => absurd sz z, fun _ tm es L2 H8 s8 _ e8 t8 LT2 => ?_⟩
  have eL : L2 = L := LT2.uniq W5.lot
  subst eL
  refine reprLL e8 t8 fc (by omega) fl ?_
  refine ⟨_, rfl, reprLL (s8 _ _ e7) (TpP.same tf7 s8) fc (by omega) fl ⟨rfl, false, congrArg V.bl (by simp), iteF ?_⟩⟩
  have s58 := s56.trans s8
  have W8 := W5.same s58
  have h18 := s58 _ _ h15
  have t18 := TpP.same t15 s58
  clear e7 e8 t8 tf7 s8 s56
  refine ⟨_, rfl, _, rfl, _, rfl, _, rfl, _, _, rfl, rfl, .inl ⟨_, rfl, _, rfl, _, _, rfl, rfl, o0, ?_⟩⟩
  refine ⟨lo, l, (k + 1) % (o : Int), n, ds, bs, L2, cs, rfl, W8, fun b3 H9 s9 hb3 => ?_⟩
  have eb : b1 = b3 := by
    rw [Bool.eq_iff_iff, hb1, hb3, bt_mod hc W8.lot oa, bt_next hc bk]
    constructor
    · intro h g e hg he
      have gm := (W8.lot.all g).mpr hg
      have := (p1.all _).mpr ⟨g, gm, rfl⟩
      rw [pw_all hc W8.lot oa hg] at this
      refine (comm_gen hc (pw_chg (lc g gm) k) (fun f hf => ?_) he).symm
      exact (h _ this f hf).symm
    · intro h z hz e he
      obtain ⟨g, hg, rfl⟩ := (p1.all z).mp hz
      rw [pw_all hc W8.lot oa ((W8.lot.all g).mp hg)]
      obtain ⟨j, hj⟩ := List.mem_iff_getElem?.mp he
      have jl := (List.getElem?_eq_some_iff.mp hj).1
      have ej : cs.getD j [] = e := by rw [List.getD_eq_getElem?_getD, hj]; rfl
      exact h g e ((W8.lot.all g).mp hg) (by rw [← ej]; exact mk_rch hc jl)
  subst eb
  refine ⟨rfl, _, rfl, iteP (by simp) ?_⟩
  have cl1 : ∀ z ∈ out1, ∀ y ∈ out1, comp z y ∈ out1 := fun z hz y hy => by
    obtain ⟨g, hg, rfl⟩ := (p1.all z).mp hz
    obtain ⟨e, he, rfl⟩ := (p1.all y).mp hy
    have gr := (W8.lot.all g).mp hg
    have er := (W8.lot.all e).mp he
    rw [pw_all hc W8.lot oa gr, pw_all hc W8.lot oa er]
    obtain ⟨v, hv, ev⟩ := bt_closed hc bk gr er
    rw [ev]
    exact (p1.all _).mpr ⟨v, (W8.lot.all v).mpr hv, by rw [pw_all hc W8.lot oa hv]⟩
  refine ⟨_, rfl, l1, n, bs1, out1, rfl, s9 _ _ h18, TpP.same t18 s9, oc, n16, cl1, fun H10 s10 => ⟨_, rfl, iteP rfl ?_⟩⟩
  have s810 := s9.trans s10
  have W10 := W8.same s810
  refine ⟨_, rfl, _, rfl, _, _, rfl, rfl, .inl ⟨_, rfl, _, rfl, _, _, rfl, rfl, o0, ?_⟩⟩
  refine ⟨lo, (k - 1) % (o : Int), n, ds, L2, rfl, W10.hlo, W10.tp, lc, W10.g.n0, n16, by omega, fun l2 bs2 out2 H11 s11 h2 t2 p2 => ?_⟩
  have oc2 : ∀ c ∈ out2, Chg n c := fun c hc' => by
    obtain ⟨g, hg, rfl⟩ := (p2.all c).mp hc'
    exact pw_chg (lc g hg) _
  have cl2 : ∀ z ∈ out2, ∀ y ∈ out2, comp z y ∈ out2 := fun z hz y hy => by
    obtain ⟨g, hg, rfl⟩ := (p2.all z).mp hz
    obtain ⟨e, he, rfl⟩ := (p2.all y).mp hy
    have gr := (W8.lot.all g).mp hg
    have er := (W8.lot.all e).mp he
    rw [pw_all hc W8.lot oa gr, pw_all hc W8.lot oa er]
    obtain ⟨v, hv, ev⟩ := bt_closed1 hc bk gr er
    rw [ev]
    exact (p2.all _).mpr ⟨v, (W8.lot.all v).mpr hv, by rw [pw_all hc W8.lot oa hv]⟩
  exact ⟨l2, n, bs2, out2, rfl, h2, t2, oc2, n16, cl2, fun H12 s12 => q H12 (sH5.trans (s58.trans (s810.trans (s11.trans s12))))⟩
end
end KV

/-! several except clauses, each with a name -/
namespace KV
open PySem PySem.Spec L2 PyProof.Rows
/-- what named clauses wish of an exception of the body, one behind the other -/
def wAll (K : PySem.W.Frag) (Wz : WX) (D : Ends) : List (Value × Nat × (Addr → Value → Option Addr → TS)) → WX
  | [] => Wz
  | (k, j, ts) :: r => fun cl dd τ G => ∃ b, PySem.W.exmOne K cl k = some b ∧
    (b = true → ∀ z, G z = none → ts z cl dd { nx := fun τ' G' => D.nx (τ'.set j none) G', rt := D.rt, bk := fun τ' G' => D.bk (τ'.set j none) G', ct := fun τ' G' => D.ct (τ'.set j none) G' } (τ.set j (some (.ref z))) G) ∧
    (b = false → wAll K Wz D r cl dd τ G)
inductive HdsAs (X : Cx) : List ExceptHandler → List (Value × Nat × (Addr → Value → Option Addr → TS)) → Prop
  | nil : HdsAs X [] []
  | cons {y m : Str} {k : Value} {j : Nat} {ts : Addr → Value → Option Addr → TS} {b₁ : Stmt} {su : List Stmt} {q1 q2 : Pos} {hs : List ExceptHandler} {l : List (Value × Nat × (Addr → Value → Option Addr → TS))}
      (hj : X.N[j]? = some m) (hk : X.env.kindOf m = some .local) (hc : Names X y k)
      (hv : ∀ (z : Addr) (oz : Obj) (cl : Value) (dd : Option Addr) (pz : List (Addr × Obj)), Zc cl dd oz → (∃ fs, oz.data = .fields fs) → PSs (X.suite z ((z, oz) :: pz)) (b₁ :: su) (ts z cl dd)) (r : HdsAs X hs l) :
      HdsAs X (.ExceptHandler (some (.Name y q1)) (some m) (b₁ :: su) q2 :: hs) ((k, j, ts) :: l)
section
variable {X : Cx} {body : List Stmt} {h₁ : ExceptHandler} {hds : List ExceptHandler} {l : List (Value × Nat × (Addr → Value → Option Addr → TS))} {pos : Pos} {tb : WX → TS} {Wz : WX}
theorem ps_try_all (hs : X.stack = X.env :: X.outer) (hf : X.env.frame = some X.env.locals) (hN : X.N.Nodup) (tk : Takes X Wz)
    (hb : ∀ (W : WX) (qn : List (Addr × Obj)) (xe : Value → Shared → Prop), Takes (X.tr qn xe) W → PassesOwn (model X.prog X.w) X.A X.env xe → PSs (X.tr qn xe) body (tb W))
    (hh : HdsAs X (h₁ :: hds) l) : PS X (.Try body (h₁ :: hds) [] [] pos) (fun D τ G => tb (wAll X.K Wz D l) D τ G) := by
  refine ⟨fun pz s σ H D I h => ?_⟩
  have oK := I.ok
  have hzf : X.A.frames = some (X.env :: X.outer) := by rw [oK.frames, hs]
  refine wpAny_Try_except ?_
  refine wpAny_mono ((hb (wAll X.K Wz D l) (X.pn ++ pz) (fun e s₁ => wpAny (model X.prog X.w) X.A (noteFrame e X.env) (fun _ s₂ => wpAny (model X.prog X.w) X.A (setFlight e none) (fun _ s₃ =>
    wpAny (model X.prog X.w) X.A (handleBy e X.env (h₁ :: hds)) (SP X pz D) X.xe s₃) X.xe s₂) X.xe s₁) (fun u s' xx => ?_) PassesOwn.looking).run [] s σ H D (I.toTry _) h) (fun f s1 hzp => ?_) (fun e s1 hye => hye)
  · -- the catch
    obtain ⟨ax, B, sI, pz', σ', H', cl, d, rfl, Y', nb, pu, sk, na, oss, agr, w⟩ := xx
    have Y0 : Inv X pz σ' H' sI := Y'.ofTry oK
    have sk2 : Sky B (X.env :: X.outer) ax (Zc cl d) X.env.locals s'.heap := by rw [← hs]; exact sk
    show wpAny (model X.prog X.w) X.A (noteFrame (.ref ax) X.env) _ _ _
    refine Sky.land Zc.steady hzf hf sk2 fun g3 lf3 pu3 => ?_
    have Y3 : Inv X pz σ' H' { s' with heap := g3 } := Y0.landed nb lf3.1 (pu.trans pu3) oss agr
    obtain ⟨oz3, vs3, hy3, hw3, hq3⟩ := lf3.there
    have nFr : ∀ {h : Heap} {o : Obj} {vs : Array Value}, h.FunFrames B (X.env :: X.outer) → h.get? ax = some o → o.data = .fields vs → ax ∉ frs (X.env :: X.outer) := fun {h o vs} ff e dd hmm => by
      obtain ⟨_, o2, e2, hnn2⟩ := ff.mem hmm
      rw [e] at e2; cases e2
      exact hnn2 _ dd
    have nrf := nFr lf3.2.2.1 hy3 hq3
    have nLo : ax ≠ X.env.locals := fun z => nrf (List.mem_filterMap.mpr ⟨X.env, List.mem_cons_self, by rw [hf, z]⟩)
    have nFs : ax ∉ X.fs := fun hmm => by
      obtain ⟨e, hye, qz⟩ := List.mem_filterMap.mp hmm
      exact nrf (List.mem_filterMap.mpr ⟨e, List.mem_cons_of_mem _ hye, qz⟩)
    have T3 := Y3.suite hy3 hq3 na nLo nFs
    have go : ∀ {hl : List ExceptHandler} {ll : List (Value × Nat × (Addr → Value → Option Addr → TS))}, HdsAs X hl ll → wAll X.K Wz D ll cl d σ' H' →
        wpAny (model X.prog X.w) X.A (handleBy (.ref ax) X.env hl) (SP X pz D) X.xe { s' with heap := g3 } := by
      intro hl ll hk
      induction hk with
      | nil =>
        intro w
        refine wpAny_handleBy_nil ?_
        obtain ⟨k1, k2, k3, oz, vs, Tz, oT, ts', hye, hz, hdd, h1x, hr⟩ := id lf3
        unfold PySem.passOn
        refine wpAny_bind (wpAny_field hye hdd h1x ?_)
        rw [if_neg (show ¬ ((Value.ref Tz == Value.none) = true) from by simp)]
        have fnn : wpAny (model X.prog X.w) X.A (setFlight (.ref ax) X.env.frame) (fun _ s4 => wpAny (model X.prog X.w) X.A (throw (.ref ax) : Sem Flow) (SP X pz D) X.xe s4) X.xe { s' with heap := g3 } := by
          rw [hf]
          refine HandSPX.setFlight_upZ lf3 fun g4 hh4 pu4 => wpAny_throw (tk _ _ ?_)
          exact ⟨ax, B, sI, pz, σ', H', cl, d, rfl, Y0, nb, (pu.trans pu3).trans pu4, .inr (.inr (by rw [hs]; exact hh4)), na, oss, agr, w⟩
        first
          | exact wpAny_bind (wpAny_pure (wpAny_bind fnn))
          | exact wpAny_bind fnn
      | @cons x n c i ts b₀ suite np pos' hd2 l2 hi hln hcc hSu r ih =>
        intro w
        have hlo2 : Loc X.env.scope n := .inl hln
        obtain ⟨b, hb1, hY, hNo⟩ := w
        refine wpAny_handleBy_cons (codeAny_handlers_test ?_) (by intro qz; cases qz)
        have LZ : PySem.W.Looks (model X.prog X.w) g3 (typeOf (.ref ax)) cl := fun A Q E s k qz => wpAny_typeOf_ref (k _ _ hy3) (by rw [hw3.1]; exact qz)
        have LQ := PySem.W.exm_one (M := model X.prog X.w) (Y3.kIn) LZ hb1
        have tst : ∀ {Q : Value → Shared → Prop} {E : Value → Shared → Prop}, Q c { s' with heap := g3 } → wpAny (model X.prog X.w) (X.A.mark (some (.ref ax))) (eval (.Name x np) X.env) Q E { s' with heap := g3 } := fun {Q E} qz => by
          obtain ⟨hg, hdb9, hmm | ⟨hmm, hvv, hnn⟩⟩ := hcc
          · exact ld_glob (X := X.suite ax ((ax, oz3) :: (X.pn ++ pz))) T3 hg hmm qz hdb9
          · exact ld_blt (X := X.suite ax ((ax, oz3) :: (X.pn ++ pz))) T3 hg hmm hvv qz hnn hdb9
        refine tst (LQ.here ?_)
        cases b with
        | true =>
          refine (codeAny_handlers_suite_as ?_)
          refine HandSPX.lands_againZ lf3 fun g4 lf4 pu4 => ?_
          have Y4 : Inv X pz σ' H' { s' with heap := g4 } := Y0.landed nb lf4.1 ((pu.trans pu3).trans pu4) oss agr
          obtain ⟨oz4, vs4, hy4, hw4, hq4⟩ := lf4.there
          have T4 := Y4.suite hy4 hq4 na nLo nFs
          refine store_ok (X := X.suite ax ((ax, oz4) :: (X.pn ++ pz))) (v := .ref ax) T4 hN hi hlo2 rfl (fun s5 T5 => ?_) (.inr hln)
          refine wpAny_mono ((hSu ax oz4 cl d (X.pn ++ pz) hw4 ⟨_, hq4⟩).run [] s5 _ H' _ T5 (hY rfl ax na)) (fun f s6 hzp => ?_) (fun _ _ z => False.elim z)
          have fin6 : ∀ {σ6 : L2.St} {H6 : Hp} {Q : Shared → Prop}, Inv (X.suite ax ((ax, oz4) :: (X.pn ++ pz))) [] σ6 H6 s6 → (∀ s7, Inv X pz (σ6.set i none) H6 s7 → Q s7) →
              wpAny (model X.prog X.w) X.A (do bindName X.env n .none; unbindBehindTheSuite X.env n pos') (fun _ s7 => Q s7) X.xe s6 := fun {σ6 H6 Q} T6 hq => gone_ok (T6.unsuite oK) hN hi hln hq
          cases f with
          | next =>
            obtain ⟨σ6, H6, T6, q6⟩ := hzp
            exact fin6 T6 fun s7 Y7 => ⟨_, _, Y7, q6⟩
          | brk =>
            obtain ⟨σ6, H6, T6, q6⟩ := hzp
            exact fin6 T6 fun s7 Y7 => ⟨_, _, Y7, q6⟩
          | cont =>
            obtain ⟨σ6, H6, T6, q6⟩ := hzp
            exact fin6 T6 fun s7 Y7 => ⟨_, _, Y7, q6⟩
          | ret u =>
            obtain ⟨v6, σ6, H6, T6, r6, q6⟩ := hzp
            exact fin6 T6 fun s7 Y7 => ⟨_, _, _, Y7, r6, q6⟩
        | false =>
          show wpAny _ X.A (handleBy (.ref ax) X.env hd2) _ _ _
          exact ih (hNo rfl)
    exact go hh w
  · cases f with
    | next =>
      obtain ⟨σ', H', Y', qz⟩ := hzp
      exact wpAny_execs_nil ⟨σ', H', Y'.ofTry oK, qz⟩
    | brk =>
      obtain ⟨σ', H', Y', qz⟩ := hzp
      exact ⟨σ', H', Y'.ofTry oK, qz⟩
    | cont =>
      obtain ⟨σ', H', Y', qz⟩ := hzp
      exact ⟨σ', H', Y'.ofTry oK, qz⟩
    | ret u =>
      obtain ⟨v, σ', H', Y', r, qz⟩ := hzp
      exact ⟨v, σ', H', Y'.ofTry oK, r, qz⟩
/-- try: ax first statement that may raise, and what stands behind it -/
def tTryC (K : PySem.W.Frag) (Wz : WX) (l : List (Value × Nat × (Addr → Value → Option Addr → TS))) (t1 : WX → TS) (u : TS) : TS := fun D τ G => tSeq (t1 (wAll K Wz D l)) u D τ G
theorem ps_try_cons {b₁ : Stmt} {rest : List Stmt} {t1 : WX → TS} {u : TS} (hs : X.stack = X.env :: X.outer) (hf : X.env.frame = some X.env.locals) (hN : X.N.Nodup) (tk : Takes X Wz)
    (ha : ∀ (W : WX) (qn : List (Addr × Obj)) (xe : Value → Shared → Prop), Takes (X.tr qn xe) W → PassesOwn (model X.prog X.w) X.A X.env xe → PS (X.tr qn xe) b₁ (t1 W))
    (hb : ∀ (qn : List (Addr × Obj)) (xe : Value → Shared → Prop), PSs (X.tr qn xe) rest u)
    (hh : HdsAs X (h₁ :: hds) l) : PS X (.Try (b₁ :: rest) (h₁ :: hds) [] [] pos) (tTryC X.K Wz l t1 u) :=
  ps_try_all (tb := fun W => tSeq (t1 W) u) hs hf hN tk (fun W qn xe ax b => pss_cons (ha W qn xe ax b) (hb qn xe)) hh
end
end KV

/-! machines side by side: how many changes they have -/
namespace KV
open PySem PySem.Spec PyProof.Rows L2 KC
def bes (n1 : Nat) (a b : List Nat) : List Nat := a ++ b.map (n1 + ·)
theorem bes_inj {n1 : Nat} {a b a' b' : List Nat} (h : a.length = a'.length) (e : bes n1 a b = bes n1 a' b') : a = a' ∧ b = b' := by
  obtain ⟨e1, e2⟩ := List.append_inj e h
  exact ⟨e1, (List.map_inj_right fun x y z => Nat.add_left_cancel z).mp e2⟩
theorem bes_comp {n1 n2 : Nat} {a b f e : List Nat} (ha : Chg n1 a) (hf : Chg n1 f) (hb : Chg n2 b) (he : Chg n2 e) : comp (bes n1 a b) (bes n1 f e) = bes n1 (comp a f) (comp b e) := by
  unfold comp bes
  rw [List.map_append, List.map_map, List.map_map]
  have key : ∀ {p q r t : List Nat}, p = q → r = t → p ++ r = q ++ t := fun h1 h2 => by rw [h1, h2]
  refine key (List.map_congr_left fun x hx => ?_) (List.map_congr_left fun x hx => ?_)
  · have := ha.lt x hx
    rw [List.getD_eq_getElem?_getD, List.getElem?_append_left (by rw [hf.len]; exact this), ← List.getD_eq_getElem?_getD]
  · have := hb.lt x hx
    show (f ++ e.map (n1 + ·)).getD (n1 + x) 0 = n1 + e.getD x 0
    rw [List.getD_eq_getElem?_getD, List.getElem?_append_right (by rw [hf.len]; exact Nat.le_add_right _ _), hf.len, Nat.add_sub_cancel_left, List.getElem?_map, at_getD (by rw [he.len]; exact this)]
    rfl
theorem range_bes {n1 n2 : Nat} : List.range (n1 + n2) = bes n1 (List.range n1) (List.range n2) := List.range_add ..
/-- the makers of two machines side by side -/
def bsC (n1 n2 : Nat) (cs1 cs2 : List (List Nat)) : List (List Nat) := cs1.map (lft n1 n2) ++ cs2.map (rgt n1)
section
variable {n1 n2 : Nat} {cs1 cs2 : List (List Nat)}
theorem bsC_len : (bsC n1 n2 cs1 cs2).length = cs1.length + cs2.length := by unfold bsC; rw [List.length_append, List.length_map, List.length_map]
theorem bsC_l {k : Nat} (hk : k < cs1.length) : (bsC n1 n2 cs1 cs2).getD k [] = bes n1 (cs1.getD k []) (List.range n2) := by
  unfold bsC
  rw [List.getD_eq_getElem?_getD, List.getElem?_append_left (by rw [List.length_map]; exact hk), List.getElem?_map, List.getElem?_eq_getElem hk, cs_at hk]
  rfl
theorem bsC_r {k : Nat} (hk : k < cs2.length) : (bsC n1 n2 cs1 cs2).getD (cs1.length + k) [] = bes n1 (List.range n1) (cs2.getD k []) := by
  unfold bsC
  rw [List.getD_eq_getElem?_getD, List.getElem?_append_right (by rw [List.length_map]; exact Nat.le_add_right _ _), List.length_map, Nat.add_sub_cancel_left, List.getElem?_map, List.getElem?_eq_getElem hk, cs_at hk]
  rfl
theorem bs_r (h2 : ∀ c ∈ cs2, Chg n2 c) {b : List Nat} (hb : Rch n2 cs2 b) : Rch (n1 + n2) (bsC n1 n2 cs1 cs2) (bes n1 (List.range n1) b) := by
  refine (Rch.all (S := fun b => Chg n2 b ∧ Rch (n1 + n2) (bsC n1 n2 cs1 cs2) (bes n1 (List.range n1) b)) ⟨Chg.range n2, by rw [← range_bes]; exact Rch.one⟩ (fun g k hg hk => ?_) hb).2
  have ck : Chg n2 (cs2.getD k []) := by rw [cs_at hk]; exact h2 _ (List.getElem_mem hk)
  have z := hg.2.step (k := cs1.length + k) (by rw [bsC_len]; omega)
  rw [bsC_r hk, bes_comp (Chg.range n1) (Chg.range n1) hg.1 ck, idle_comp (Chg.range n1)] at z
  exact ⟨chg_comp hg.1 ck, z⟩
theorem bs_rch (h1 : ∀ c ∈ cs1, Chg n1 c) (h2 : ∀ c ∈ cs2, Chg n2 c) {a b : List Nat} (ha : Rch n1 cs1 a) (hb : Rch n2 cs2 b) : Rch (n1 + n2) (bsC n1 n2 cs1 cs2) (bes n1 a b) := by
  refine (Rch.all (S := fun a => Chg n1 a ∧ Rch (n1 + n2) (bsC n1 n2 cs1 cs2) (bes n1 a b)) ⟨Chg.range n1, bs_r h2 hb⟩ (fun g k hg hk => ?_) ha).2
  have ck : Chg n1 (cs1.getD k []) := by rw [cs_at hk]; exact h1 _ (List.getElem_mem hk)
  have z := hg.2.step (k := k) (by rw [bsC_len]; omega)
  rw [bsC_l hk, bes_comp hg.1 ck (hb.chg h2) (Chg.range n2), comp_idle (hb.chg h2)] at z
  exact ⟨chg_comp hg.1 ck, z⟩
theorem bs_of (h1 : ∀ c ∈ cs1, Chg n1 c) (h2 : ∀ c ∈ cs2, Chg n2 c) {g : List Nat} (h : Rch (n1 + n2) (bsC n1 n2 cs1 cs2) g) : ∃ a b, Rch n1 cs1 a ∧ Rch n2 cs2 b ∧ g = bes n1 a b := by
  refine Rch.all (S := fun g => ∃ a b, Rch n1 cs1 a ∧ Rch n2 cs2 b ∧ g = bes n1 a b) ⟨_, _, Rch.one, Rch.one, range_bes⟩ (fun g k hg hk => ?_) h
  obtain ⟨a, b, ha, hb, rfl⟩ := hg
  rw [bsC_len] at hk
  by_cases z : k < cs1.length
  · have ck : Chg n1 (cs1.getD k []) := by rw [cs_at z]; exact h1 _ (List.getElem_mem z)
    exact ⟨_, b, ha.step z, hb, by rw [bsC_l z, bes_comp (ha.chg h1) ck (hb.chg h2) (Chg.range n2), comp_idle (hb.chg h2)]⟩
  · obtain ⟨j, rfl⟩ : ∃ j, k = cs1.length + j := ⟨k - cs1.length, by omega⟩
    have jl : j < cs2.length := by omega
    have ck : Chg n2 (cs2.getD j []) := by rw [cs_at jl]; exact h2 _ (List.getElem_mem jl)
    exact ⟨a, _, ha, hb.step jl, by rw [bsC_r jl, bes_comp (ha.chg h1) (Chg.range n1) (hb.chg h2) ck, comp_idle (ha.chg h1)]⟩
end
/-- all changes, in any order -/
structure Cmp (n : Nat) (cs L : List (List Nat)) : Prop where
  nd : L.Nodup
  all : ∀ g, g ∈ L ↔ Rch n cs g
theorem grow_cmp {n k : Nat} {cs : List (List Nat)} (h : (grow n cs k).length ≤ k) : Cmp n cs (keysF (grow n cs k)) := ⟨(grow_gd k).nd, fun _ => ⟨grow_reach, grow_all h⟩⟩
theorem Lot.cmp {n : Nat} {cs A B : List (List Nat)} (a : Lot n cs A) (b : Cmp n cs B) : A.length = B.length := (perm_of_nd a.nd b.nd fun g => (a.all g).trans (b.all g).symm).length_eq
theorem Cmp.nsz {n m : Nat} {cs A : List (List Nat)} (a : Cmp n cs A) (h : m < A.length) : ¬ Sz n cs m := fun z => by
  have := z A a.nd fun g hg => (a.all g).mp hg
  omega
theorem Cmp.sz {n m : Nat} {cs A : List (List Nat)} (a : Cmp n cs A) (h : A.length ≤ m) : Sz n cs m := fun L nd hL => Nat.le_trans (sub_len nd fun g hg => (a.all g).mpr (hL g hg)) h
def prdL (n1 : Nat) (A B : List (List Nat)) : List (List Nat) := A.flatMap fun a => B.map (bes n1 a)
theorem prdL_len (n1 : Nat) (B : List (List Nat)) : ∀ A : List (List Nat), (prdL n1 A B).length = A.length * B.length
  | [] => by simp [prdL]
  | a :: A => by
    have ih := prdL_len n1 B A
    unfold prdL at ih ⊢
    rw [List.flatMap_cons, List.length_append, List.length_map, ih, List.length_cons, Nat.succ_mul, Nat.add_comm]
theorem prdL_mem {n1 : Nat} {A B : List (List Nat)} {g : List Nat} : g ∈ prdL n1 A B ↔ ∃ a ∈ A, ∃ b ∈ B, bes n1 a b = g := by
  unfold prdL
  rw [List.mem_flatMap]
  constructor
  · rintro ⟨a, ha, h⟩
    obtain ⟨b, hb, e⟩ := List.mem_map.mp h
    exact ⟨a, ha, b, hb, e⟩
  · rintro ⟨a, ha, b, hb, e⟩
    exact ⟨a, ha, List.mem_map.mpr ⟨b, hb, e⟩⟩
theorem prdL_nd {n1 : Nat} {B : List (List Nat)} (hB : B.Nodup) : ∀ {A : List (List Nat)}, A.Nodup → (∀ a ∈ A, a.length = n1) → (prdL n1 A B).Nodup
  | [], _, _ => List.nodup_nil
  | a :: A, h, l => by
    have ih := prdL_nd (n1 := n1) hB (List.nodup_cons.mp h).2 fun x hx => l x (List.mem_cons_of_mem _ hx)
    have e : prdL n1 (a :: A) B = B.map (bes n1 a) ++ prdL n1 A B := rfl
    rw [e, List.nodup_append]
    refine ⟨map_nodup hB fun x _ y _ z => (bes_inj rfl z).2, ih, fun x hx y hy z => ?_⟩
    obtain ⟨b, hb, rfl⟩ := List.mem_map.mp hx
    obtain ⟨a', ha', b', hb', rfl⟩ := prdL_mem.mp hy
    have := (bes_inj (by rw [l a (by simp), l a' (List.mem_cons_of_mem _ ha')]) z).1
    exact (List.nodup_cons.mp h).1 (by rw [this]; exact ha')
theorem Cmp.bs {n1 n2 : Nat} {cs1 cs2 A B : List (List Nat)} (h1 : ∀ c ∈ cs1, Chg n1 c) (h2 : ∀ c ∈ cs2, Chg n2 c) (a : Cmp n1 cs1 A) (b : Cmp n2 cs2 B) : Cmp (n1 + n2) (bsC n1 n2 cs1 cs2) (prdL n1 A B) := by
  refine ⟨prdL_nd b.nd a.nd fun x hx => (((a.all x).mp hx).chg h1).len, fun g => ?_⟩
  rw [prdL_mem]
  constructor
  · rintro ⟨x, hx, y, hy, rfl⟩
    exact bs_rch h1 h2 ((a.all x).mp hx) ((b.all y).mp hy)
  · intro h
    obtain ⟨x, y, hx, hy, rfl⟩ := bs_of h1 h2 h
    exact ⟨x, (a.all x).mpr hx, y, (b.all y).mpr hy, rfl⟩
/-- many changes: rows told as numbers, in the order of what they do -/
def encC (g : List Nat) : Nat := g.foldl (fun a x => a * 16 + x) 0
def wdB (b : Nat) : Nat → Nat → List Nat
  | 0, _ => []
  | f + 1, w => if Nat.ble w 1 then [] else wdB b f (w / b) ++ [w % b]
theorem wdB_vld {b : Nat} (hb : 0 < b) : ∀ f w, Vld b (wdB b f w)
  | 0, _ => Vld.nil
  | f + 1, w => by
    unfold wdB
    split
    · exact Vld.nil
    · exact (wdB_vld hb f (w / b)).snoc (Nat.mod_lt _ hb)
def incW (n : Nat) (cs : List (List Nat)) : List Nat → Nat → Bool
  | [], _ => true
  | w :: r, p => match encC (act n cs (wdB cs.length 30 w)) with
    | e => Nat.ble (p + 1) e && incW n cs r e
theorem incW_lt {n : Nat} {cs : List (List Nat)} : ∀ {ws : List Nat} {p : Nat}, incW n cs ws p = true → (∀ w ∈ ws, p < encC (act n cs (wdB cs.length 30 w))) ∧ (ws.map fun w => act n cs (wdB cs.length 30 w)).Nodup
  | [], _, _ => ⟨fun _ h => (by cases h), List.nodup_nil⟩
  | w :: r, p, h => by
    have h : (Nat.ble (p + 1) (encC (act n cs (wdB cs.length 30 w))) && incW n cs r (encC (act n cs (wdB cs.length 30 w)))) = true := h
    rw [Bool.and_eq_true] at h
    have h1 := Nat.le_of_ble_eq_true h.1
    obtain ⟨h2, h3⟩ := incW_lt h.2
    refine ⟨fun x hx => ?_, ?_⟩
    · rcases List.mem_cons.mp hx with rfl | hx
      · exact h1
      · exact Nat.lt_trans h1 (h2 x hx)
    · rw [List.map_cons, List.nodup_cons]
      refine ⟨fun m => ?_, h3⟩
      obtain ⟨x, hx, e⟩ := List.mem_map.mp m
      have := h2 x hx
      rw [e] at this
      exact Nat.lt_irrefl _ this
theorem many {n m : Nat} {cs : List (List Nat)} {ws : List Nat} (c0 : 0 < cs.length) (h : incW n cs ws 0 = true) (l : m < ws.length) : ¬ Sz n cs m := fun z => by
  have := z _ (incW_lt h).2 fun g hg => by
    obtain ⟨w, _, rfl⟩ := List.mem_map.mp hg
    exact ⟨_, wdB_vld c0 30 w, rfl⟩
  rw [List.length_map] at this
  omega
def sixC : List (List Nat) := [[1, 2, 3, 4, 5, 0], [1, 0, 2, 3, 4, 5]]
def sixW : List Nat := [1, 144, 136, 296, 132, 292, 276, 596, 1314, 1298, 2642, 130, 290, 274, 594, 266, 586, 554, 5, 1185, 545, 1169, 529, 2385, 1105, 424, 1290, 2634, 850, 1161, 521, 2377, 1097, 4741, 2181, 2345, 1065, 21, 2217, 4421, 2117, 4677, 208, 420, 418, 842, 1697, 4389, 3401, 2085, 4645, 85, 4261, 96, 200, 196, 404, 194, 402, 394, 810, 1681, 1673, 3369, 3, 289, 273, 593, 265, 585, 553, 1193, 2629, 2597, 261, 581, 549, 1189, 533, 1173, 288, 2, 592, 272, 2628, 584, 264, 1192, 552, 2596, 849, 2581, 1701, 580, 260, 1188, 548, 2370, 1090, 1172, 532, 10, 1108, 4770, 2210, 1058, 2338, 417, 841, 4234, 837, 1685, 848, 2580, 4754, 2194, 1700, 1042, 2322, 42, 4434, 4362, 2130, 4690, 170, 401, 393, 809, 389, 805, 789, 416, 840, 836, 3394, 1684, 4170, 340, 802, 786, 1618, 778, 1610, 1157, 13, 2373, 1093, 2341, 1061, 4773, 2213, 681, 1605, 1573, 3237, 1557, 3221, 578, 6, 1186, 546, 1170, 530, 2386, 1106, 2325, 1045, 4757, 2197, 1162, 522, 2378, 1098, 1184, 544, 2346, 1066, 4, 9, 2384, 1104, 4769, 2209, 528, 1057, 4420, 3397, 2116, 4676, 1698, 4233, 2376, 1096, 4753, 2193, 520, 1041, 20, 2216, 41, 4433, 1064, 2129, 84, 1669, 4260, 3365, 169, 834, 1682, 5160, 3349, 1674, 1696, 3370, 2084, 4644, 4169, 3400, 168, 3338, 338, 3209, 1361, 3145, 4373, 3113, 53, 4629, 4168, 4245, 337, 677, 1604, 680, 3236, 1572, 4746, 2186, 3220, 1556, 26, 2314, 4426, 2122, 4682, 2725, 3210, 1362, 3146, 2372, 1092, 4745, 2185, 12, 25, 4772, 2212, 4425, 1060, 2121, 4768, 2208, 4418, 1056, 2114, 4394, 2090, 4229, 4756, 2196, 4393, 1044, 2089, 8, 18, 17, 37, 2132, 4265, 40, 4432, 82, 2128, 4258, 81, 165, 4257, 3396, 1040, 2082, 2081, 4165, 4386, 80, 164, 4256, 162, 330, 673, 1353, 213, 4164, 4162, 161, 329, 325, 661, 336, 676, 2722, 106, 1349, 4244, 674, 2709, 1354, 1360, 2721, 52, 4628, 105, 3112, 4424, 2120, 4242, 4241, 2724, 24, 50, 49, 101, 4370, 16, 36, 34, 74, 4264, 33, 73, 69, 149, 4180, 2088, 4178, 4177, 32, 72, 68, 148, 66, 146, 138, 298, 657, 649, 2693, 1321, 4176, 65, 145, 137, 297, 133, 293, 277, 160, 328, 324, 1346, 660, 2706, 212, 645, 1317, 425, 322, 658, 1301, 650, 672, 1322, 1352, 2705, 104, 210, 209, 421, 2698, 1348, 2697, 2720, 2708, 48, 100, 98, 202, 97, 201, 197, 405]
theorem six_many : ¬ Sz 6 sixC 400 := many (ws := sixW) (by decide) (by decide +kernel) (by decide +kernel)
def fiveC : List (List Nat) := [[1, 2, 3, 4, 0], [0, 2, 4, 1, 3]]
def threeC : List (List Nat) := [[1, 2, 0, 3, 4, 5, 6, 7, 8], [3, 4, 5, 6, 7, 8, 0, 1, 2]]
theorem chg_b {n : Nat} {cs : List (List Nat)} (h : (cs.all fun c => Nat.beq c.length n && (c.all (fun x => Nat.blt x n) && decide c.Nodup)) = true) : ∀ c ∈ cs, Chg n c := fun c hc => by
  have z := List.all_eq_true.mp h c hc
  rw [Bool.and_eq_true, Bool.and_eq_true] at z
  exact ⟨Nat.eq_of_beq_eq_true z.1, fun x hx => Nat.le_of_ble_eq_true (List.all_eq_true.mp z.2.1 x hx), of_decide_eq_true z.2.2⟩
theorem fiveC_chg : ∀ c ∈ fiveC, Chg 5 c := chg_b (by decide +kernel)
theorem five1_chg : ∀ c ∈ fiveC.take 1, Chg 5 c := chg_b (by decide +kernel)
theorem threeC_chg : ∀ c ∈ threeC, Chg 9 c := chg_b (by decide +kernel)
theorem sixC_chg : ∀ c ∈ sixC, Chg 6 c := chg_b (by decide +kernel)
theorem five_len : (grow 5 fiveC 20).length = 20 := by decide +kernel
theorem five1_len : (grow 5 (fiveC.take 1) 5).length = 5 := by decide +kernel
theorem three_len : (grow 9 threeC 81).length = 81 := by decide +kernel
theorem ff_cmp : ∃ A, Cmp (5 + 5) (bsC 5 5 fiveC fiveC) A ∧ A.length = 400 := ⟨_, Cmp.bs fiveC_chg fiveC_chg (grow_cmp (by rw [five_len]; exact Nat.le_refl _)) (grow_cmp (k := 20) (by rw [five_len]; exact Nat.le_refl _)), by rw [prdL_len, keysF_len, five_len]⟩
theorem great_many : ¬ Sz (9 + 5) (bsC 9 5 threeC (fiveC.take 1)) 400 := (Cmp.bs threeC_chg five1_chg (grow_cmp (k := 81) (by rw [three_len]; exact Nat.le_refl _)) (grow_cmp (k := 5) (by rw [five1_len]; exact Nat.le_refl _))).nsz (by rw [prdL_len, keysF_len, keysF_len, three_len, five1_len]; decide)
end KV

/-! the law: what is told when it is asked -/
namespace KV
open PySem PySem.Spec PyProof.Rows L2 KC
/-- a value that is no text «none» -/
def Oth (K : PySem.W.Frag) (H : Hp) (v : V) : Prop := ∃ dd : PyData, Dp K H v dd ∧ SeqAt.shaped dd = true ∧ PyData.eqv dd (.str "none") = false
def Tells2 (H : Hp) (Q : VK) (z : Str) (i : Int) : Prop := ∀ (t : Addr) (H' : Hp), Same H H' → H' t = some (.tup [.str z, .int i]) → Q (.ref t) H'
section
variable {P : Program} {w : World} {K : PySem.W.Frag} {mg : Str → Option Value} {base : Heap} {Cm Ci CR CQ fR fQ fI fE : Addr} {fdI : FuncData}
def spAsk (K : PySem.W.Frag) (Cm : Addr) : Sp := fun vs H Q _ => ∃ (m : Addr) (v1 v2 : V) (n : Nat) (cs : List (List Nat)), vs = [.ref m, v1, v2] ∧ McS K Cm H m n cs ∧ AnyV K H v1 ∧
  ((v2 = .str "none" ∧ ((¬ Sz n cs 400 ∧ Tells2 H Q "refused" 0) ∨ (Sz n cs 12 ∧ ((isI v1 = false ∧ Tells2 H Q "question" 1) ∨
      ∃ k, v1 = .int k ∧ ∀ (t : Addr) (es : List Addr) (L out : List (List Nat)) (H' : Hp), Same H H' → Lot n cs L → H' t = some (.tup (es.map V.ref)) → TpP H' es out → PwS n L k out → Q (.ref t) H')))) ∨
   (Oth K H v2 ∧ AnyV K H v2 ∧ ((¬ Sz n cs 400 ∧ Tells2 H Q "refused" 0) ∨ (Sz n cs 12 ∧ ((isI v1 = false ∧ Tells2 H Q "question" 1) ∨ ∃ k1, v1 = .int k1 ∧ ((isI v2 = false ∧ Tells2 H Q "question" 2) ∨ ∃ k2, v2 = .int k2 ∧
      ∀ (b : Bool) (H' : Hp), Same H H' → (b = true ↔ ∀ g e, Rch n cs g → Rch n cs e → comp (pw n g k1) (pw n e k2) = comp (pw n e k2) (pw n g k1)) → Q (.bl b) H'))))))
theorem sn62 : FnScope ["_law_machine_here", "_law_one", "_law_other", "wrong"] ["_law_machine_here", "_law_one", "_law_other"] (defScope (top 62)) := ⟨rfl, rfl, rfl, by decide +kernel, rfl, by decide +kernel, by decide +kernel⟩
theorem ok_asked {f : Addr} {fd : FuncData} (T : PySem.LowX.LowTxt K mg "InvalidQuestion" "InvalidQuestion.__init__" CQ fQ) (T2 : PySem.LowX.LowTxt K mg "Refused" "Refused.__init__" CR fR) (tx : PySem.W.exmOne K (.ref CR) (.ref CQ) = some false)
    (KP : CalK P w K mg base (L2.CX P w) 6 "powers" ["machine", "count"] ["count", "machine"] true (spPws K Cm CR CQ)) (KG : CalK P w K mg base (L2.CX P w) 6 "go_along" ["machine", "one", "other"] ["other", "one", "machine"] true (spGa K Cm CR CQ))
    (F : Fun K "_law_asked" "_law_asked" (top 62) f fd) : FnOk P w K mg base CX0 7 f fd ["_law_machine_here", "_law_one", "_law_other"] (spAsk K Cm) := by
  refine F.ok sn62 (fun vs H Q E h => ?_) (fun cdv A outer s H vs Q E hr h => ⟨_,
    (pss_one (ps_try_all (Wz := fun _ _ _ _ => False) rfl rfl sn62.nd takes0 (fun W pn xe tk _ => pss_cons (ps_if (pt_cmpR (r := rEqD K) (op_eqD hr.units) (pv 2) pe_str (nomark _)) (pss_one (ps_ret (pe_calSK KP hr (by decide) (fun σ => passAt tk σ) (pk_cons (pv 1) (pk_cons (pv 0) pk_nil))))) pss_nil)
      (pss_one (ps_ret (pe_calSK KG hr (by decide) (fun σ => passAt tk σ) (pk_cons (pv 2) (pk_cons (pv 1) (pk_cons (pv 0) pk_nil)))))))
      (.cons (j := 3) (ts := fun a cls d => tRet (tTup (tCons (tC (.str "question")) (tCons (tByLow CQ a cls d (tVar 3)) tNil)))) rfl rfl ⟨rfl, by decide, Or.inl T.gC⟩ (fun a oe cls d pn hz hf => by exact (pss_one (ps_ret (pe_tup (pa_cons pe_str (pa_cons (pe_byLow T hz hf (pv 3)) pa_nil))))))
        (.cons (j := 3) (ts := fun a cls d => tRet (tTup (tCons (tC (.str "refused")) (tCons (tByLow CR a cls d (tVar 3)) tNil)))) rfl rfl ⟨rfl, by decide, Or.inl T2.gC⟩ (fun a oe cls d pn hz hf => by exact (pss_one (ps_ret (pe_tup (pa_cons pe_str (pa_cons (pe_byLow T2 hz hf (pv 3)) pa_nil)))))) .nil)))), ?_⟩)
  · obtain ⟨m, v1, v2, n, cs, rfl, _⟩ := h
    rfl
  obtain ⟨m, v1, v2, n, cs, rfl, MS, a1, h⟩ := h
  have sn : SeqAt.shaped (.str "none") = true := by decide +kernel
  rcases h with ⟨rfl, h⟩ | ⟨⟨dd, o1, o2, o3⟩, a2, h⟩
  · refine ⟨_, rfl, _, _, .str _, .str _, sn, sn, _, rfl, iteP (by decide +kernel) ?_⟩
    refine ⟨_, rfl, _, rfl, m, v1, n, cs, rfl, MS, a1, ?_⟩
    rcases h with ⟨ns, q⟩ | ⟨sz, ⟨e, q⟩ | ⟨k, rfl, q⟩⟩
    · exact .inl ⟨ns, fun H3 d s3 hd => ⟨false, tx, fun z => Bool.noConfusion z, fun _ => ⟨true, T2.te, fun _ a0 ha0 => ⟨_, rfl, rfl, rfl, d, _, rfl, upd_same, (by show 2 ≤ sizeLine; decide), fun p hp => q p _ ((s3.trans (Same.new hd)).trans (Same.new hp)) upd_same⟩, fun z => Bool.noConfusion z⟩⟩⟩
    · exact .inr ⟨sz, .inl ⟨e, fun H3 d s3 hd => ⟨true, T.te, fun _ a0 ha0 => ⟨_, rfl, rfl, rfl, d, _, rfl, upd_same, (by show 2 ≤ sizeLine; decide), fun p hp => q p _ ((s3.trans (Same.new hd)).trans (Same.new hp)) upd_same⟩, fun z => Bool.noConfusion z⟩⟩⟩
    · exact .inr ⟨sz, .inr ⟨k, rfl, q⟩⟩
  · refine ⟨_, rfl, _, _, o1, .str _, o2, sn, _, rfl, iteN (by rw [o3]; simp) ?_⟩
    refine ⟨_, rfl, _, rfl, _, rfl, m, v1, v2, n, cs, rfl, MS, a1, a2, ?_⟩
    rcases h with ⟨ns, q⟩ | ⟨sz, ⟨e, q⟩ | ⟨k, rfl, ⟨e, q⟩ | ⟨k2, rfl, q⟩⟩⟩
    · exact .inl ⟨ns, fun H3 d s3 hd => ⟨false, tx, fun z => Bool.noConfusion z, fun _ => ⟨true, T2.te, fun _ a0 ha0 => ⟨_, rfl, rfl, rfl, d, _, rfl, upd_same, (by show 2 ≤ sizeLine; decide), fun p hp => q p _ ((s3.trans (Same.new hd)).trans (Same.new hp)) upd_same⟩, fun z => Bool.noConfusion z⟩⟩⟩
    · exact .inr ⟨sz, .inl ⟨e, fun H3 d s3 hd => ⟨true, T.te, fun _ a0 ha0 => ⟨_, rfl, rfl, rfl, d, _, rfl, upd_same, (by show 2 ≤ sizeLine; decide), fun p hp => q p _ ((s3.trans (Same.new hd)).trans (Same.new hp)) upd_same⟩, fun z => Bool.noConfusion z⟩⟩⟩
    · exact .inr ⟨sz, .inr ⟨k, rfl, .inl ⟨e, fun H3 d s3 hd => ⟨true, T.te, fun _ a0 ha0 => ⟨_, rfl, rfl, rfl, d, _, rfl, upd_same, (by show 2 ≤ sizeLine; decide), fun p hp => q p _ ((s3.trans (Same.new hd)).trans (Same.new hp)) upd_same⟩, fun z => Bool.noConfusion z⟩⟩⟩⟩
    · exact .inr ⟨sz, .inr ⟨k, rfl, .inr ⟨k2, rfl, q⟩⟩⟩
theorem anyNon {K : PySem.W.Frag} {H : Hp} : AnyV K H .non := .inr ⟨rfl, fun _ => rfl, "NoneType", .base .non, .inl rfl⟩
def spTm : Sp := fun vs H Q _ => vs = [] ∧ ∀ H', Same H H' → Q (.bl true) H'
def rfs : PyData := .list [.tuple [.str "refused", .int 0], .tuple [.str "refused", .int 0]]
theorem dp_rf {K : PySem.W.Frag} {H : Hp} {a b c : Addr} (h : H a = some (.lst [.ref b, .ref c])) (h1 : H b = some (.tup [.str "refused", .int 0])) (h2 : H c = some (.tup [.str "refused", .int 0])) : Dp K H (.ref a) rfs :=
  .lst (SqL.of h) (.cons (.tup (SqT.of h1) (.cons (.str _) (.cons (.int _) .nil))) (.cons (.tup (SqT.of h2) (.cons (.str _) (.cons (.int _) .nil))) .nil))
theorem sn63 : FnScope ["_law_machine_here"] [] (defScope (top 63)) := ⟨rfl, rfl, rfl, by decide +kernel, rfl, by decide +kernel, by decide +kernel⟩
theorem ok_tm {f : Addr} {fd : FuncData} (M : MF K Cm fI fE) (gM : mg "Machine" = some (.ref Cm)) (FI : FnOk P w K mg base (L2.CX P w) 4 fI fdI ["self", "commands", "steps"] (spInit2 K Cm Ci)) (BI : L2.Binds K fdI ["self", "commands", "steps"] [])
    (CAs : Cal P w K mg base CX0 7 "_law_asked" ["_law_machine_here", "_law_one", "_law_other"] (spAsk K Cm)) (F : Fun K "_law_too_many" "_law_too_many" (top 63) f fd) : FnOk P w K mg base CX0 8 f fd [] spTm := by
  refine F.ok sn63 (fun vs H Q E h => ?_) (fun cdv A outer s H vs Q E hr h => ⟨_,
    (pss_cons (ps_set (i := 0) sn63.nd rfl (.inl rfl) (by exact (pe_mkS M.mkr FI (hr.mono (by decide)) gM BI (fun σ => passL σ) (pa_cons pe_int (pa_cons (pe_lst (pa_cons (pe_tup (pa_cons pe_int (pa_cons pe_int pa_nil))) (pa_cons (pe_tup (pa_cons pe_int (pa_cons pe_int pa_nil))) (pa_cons (pe_tup (pa_cons pe_int (pa_cons pe_int pa_nil))) (pa_cons (pe_tup (pa_cons pe_int (pa_cons pe_int pa_nil))) (pa_cons (pe_tup (pa_cons pe_int (pa_cons pe_int pa_nil))) (pa_cons (pe_tup (pa_cons pe_int (pa_cons pe_int pa_nil))) pa_nil))))))) pa_nil)))))
    (pss_one (ps_ret (pe_cmpR (op_eqD hr.units) (pe_lst (pa_cons (by exact (pe_cal CAs hr (by decide) (pa_cons (pv 0) (pa_cons pe_non (pa_cons pe_str pa_nil))))) (pa_cons (by exact (pe_cal CAs hr (by decide) (pa_cons (pv 0) (pa_cons pe_int (pa_cons pe_non pa_nil))))) pa_nil))) (pe_op op_rep (pe_lst (pa_cons (pe_tup (pa_cons pe_str (pa_cons pe_int pa_nil))) pa_nil)) pe_int) (nomark _))))), ?_⟩)
  · obtain ⟨rfl, _⟩ := h
    rfl
  obtain ⟨rfl, q⟩ := h
  have c2 : 2 ≤ sizeLine := by decide
  have c1 : 1 ≤ sizeLine := by decide
  have c6 : 6 ≤ sizeLine := by decide
  refine ⟨c2, fun t0 ht0 => ⟨c2, fun t1 ht1 => ⟨c2, fun t2 ht2 => ⟨c2, fun t3 ht3 => ⟨c2, fun t4 ht4 => ⟨c2, fun t5 ht5 => ⟨c6, fun r hr4 => ?_⟩⟩⟩⟩⟩⟩⟩
  have s6 := Same.new (o := .lst [V.ref t0, V.ref t1, V.ref t2, V.ref t3, V.ref t4, V.ref t5]) hr4
  have s5 := (Same.new (o := .tup [V.int 0, V.int 5]) ht5).trans s6
  have s4 := (Same.new (o := .tup [V.int 5, V.int 4]) ht4).trans s5
  have s3 := (Same.new (o := .tup [V.int 4, V.int 3]) ht3).trans s4
  have s2 := (Same.new (o := .tup [V.int 3, V.int 2]) ht2).trans s3
  have s1 := (Same.new (o := .tup [V.int 2, V.int 0]) ht1).trans s2
  have s0 := (Same.new (o := .tup [V.int 1, V.int 1]) ht0).trans s1
  have e0 := s1 t0 _ upd_same
  have e1 := s2 t1 _ upd_same
  have e2 := s3 t2 _ upd_same
  have e3 := s4 t3 _ upd_same
  have e4 := s5 t4 _ upd_same
  have e5 := s6 t5 _ upd_same
  have er : (upd (upd (upd (upd (upd (upd (upd H t0 (.tup [V.int 1, V.int 1])) t1 (.tup [V.int 2, V.int 0])) t2 (.tup [V.int 3, V.int 2])) t3 (.tup [V.int 4, V.int 3])) t4 (.tup [V.int 5, V.int 4])) t5 (.tup [V.int 0, V.int 5])) r (.lst [V.ref t0, V.ref t1, V.ref t2, V.ref t3, V.ref t4, V.ref t5])) r = some (.lst [V.ref t0, V.ref t1, V.ref t2, V.ref t3, V.ref t4, V.ref t5]) := upd_same
  generalize (upd (upd (upd (upd (upd (upd (upd H t0 (.tup [V.int 1, V.int 1])) t1 (.tup [V.int 2, V.int 0])) t2 (.tup [V.int 3, V.int 2])) t3 (.tup [V.int 4, V.int 3])) t4 (.tup [V.int 5, V.int 4])) t5 (.tup [V.int 0, V.int 5])) r (.lst [V.ref t0, V.ref t1, V.ref t2, V.ref t3, V.ref t4, V.ref t5])) = G at s0 e0 e1 e2 e3 e4 e5 er s1 s2 s3 s4 s5 s6 ⊢
  clear s1 s2 s3 s4 s5 s6
  intro x dx hx hdx ne0
  refine mk_gens M hx hdx ne0 (n := 6) (cs := sixC) (.inl er) rfl (fun j e he => ?_) sixC_chg (by decide) (by decide) (by decide) (by decide) rfl fun tw tsw J15 s15 O15 => ?_
  · rcases j with _ | _ | _ | _ | _ | _ | j
    · cases he; exact ⟨t0, rfl, .inr e0⟩
    · cases he; exact ⟨t1, rfl, .inr e1⟩
    · cases he; exact ⟨t2, rfl, .inr e2⟩
    · cases he; exact ⟨t3, rfl, .inr e3⟩
    · cases he; exact ⟨t4, rfl, .inr e4⟩
    · cases he; exact ⟨t5, rfl, .inr e5⟩
    · cases he
  have MW : McS K Cm J15 x 6 sixC := ⟨Mc.of M.cl M.na1 M.na2 M.na3 O15 sixC_chg, by decide, by decide, by decide, by decide⟩
  have sJ := s0.trans s15
  dsimp only [gName]
  refine ⟨_, rfl, x, .non, .str "none", 6, sixC, rfl, MW, AnyV.non, .inl ⟨rfl, .inl ⟨six_many, fun u1 H1 s1 g1 => ?_⟩⟩⟩
  refine ⟨_, rfl, x, .int 2, .non, 6, sixC, rfl, MW.same s1, .inl ⟨2, rfl⟩, .inr ⟨⟨.none, .non, by decide +kernel, by decide +kernel⟩, AnyV.non, .inl ⟨six_many, fun u2 H2 s2 g2 => ?_⟩⟩⟩
  refine ⟨c2, fun l1 hl1 => ?_⟩
  have s3 := Same.new (o := .lst [V.ref u1, V.ref u2]) hl1
  refine ⟨c2, fun u3 hu3 => ⟨c1, fun l2 hl2 => ⟨l2, 2, [V.ref u3], rfl, rfl, upd_same, by decide, by decide, (by show 2 ≤ sizeLine; decide), fun l3 hl3 => ?_⟩⟩⟩
  have s4 := Same.new (o := .tup [V.str "refused", V.int 0]) hu3
  have s5 := Same.new (o := .lst [V.ref u3]) hl2
  have s6 := Same.new (o := .lst (List.replicate (2 : Int).toNat [V.ref u3]).flatten) hl3
  have sh : SeqAt.shaped rfs = true := by decide +kernel
  have ev : PyData.eqv rfs rfs = true := by decide +kernel
  refine ⟨rfs, rfs, dp_rf (s6 _ _ (s5 _ _ (s4 _ _ upd_same))) (s6 _ _ (s5 _ _ (s4 _ _ (s3 _ _ (s2 _ _ g1))))) (s6 _ _ (s5 _ _ (s4 _ _ (s3 _ _ g2)))), dp_rf upd_same (s6 _ _ (s5 _ _ upd_same)) (s6 _ _ (s5 _ _ upd_same)), sh, sh, ?_⟩
  rw [ev]
  exact q _ (sJ.trans (s1.trans (s2.trans (s3.trans (s4.trans (s5.trans s6))))))
end
end KV

/-! the program: never_matters -/
namespace KV
open PySem PySem.Spec PyProof.Rows L2 KC
section
variable {P : Program} {w : World} {K : PySem.W.Frag} {mg : Str → Option Value} {base : Heap}
def spNv (Cm : Addr) (K : PySem.W.Frag) : Sp := fun vs H Q _ => ∃ (x : Addr) (n : Nat) (cs : List (List Nat)), vs = [.ref x] ∧ Mc K Cm H x n cs ∧ n ≤ 16 ∧ cs.length ≤ 5 ∧ ∀ H', Same H H' → Q (.bl (cs.all fun d => cs.all (cmB d))) H'
theorem sc36 : FnScope ["machine", "makers"] ["machine"] (defScope (top 34)) := ⟨rfl, rfl, rfl, by decide +kernel, rfl, by decide +kernel, by decide +kernel⟩
theorem ok_nv {f : Addr} {fd : FuncData} {Cm : Addr} (CC : Cal P w K mg base CX0 1 "command_changes" ["machine"] (spCc Cm K)) (CA : Cal P w K mg base CX0 4 "all_commute" ["some", "others"] spAc) (F : Fun K "never_matters" "never_matters" (top 34) f fd) : FnOk P w K mg base (L2.CX P w) 5 f fd ["machine"] (spNv Cm K) := by
  refine F.okX sc36 (fun vs H Q E h => ?_) (fun cdv A outer s H vs Q E hr h => ⟨_,
    (pss_cons (ps_set (i := 1) sc36.nd rfl (.inl rfl) (by exact (pe_cal CC hr (by decide) (pa_cons (pv 0) pa_nil))))
    (pss_one (ps_ret (by exact (pe_cal CA hr (by decide) (pa_cons (pv 1) (pa_cons (pv 1) pa_nil))))))), ?_⟩)
  · obtain ⟨x, n, cs, rfl, _⟩ := h
    rfl
  obtain ⟨x, n, cs, rfl, M, n16, c5, q⟩ := h
  refine ⟨_, rfl, x, n, cs, rfl, M, n16, c5, fun l bs H1 s1 _ e1 hp => ?_⟩
  dsimp only [gName]
  exact ⟨_, rfl, _, rfl, l, l, n, bs, cs, bs, cs, rfl, e1, hp, M.chg, n16, e1, hp, M.chg, fun H2 s2 => q _ (s1.trans s2)⟩
end
end KV

/-! a def with a repr in it, called -/
namespace KV
open PySem PySem.Spec PyProof.Rows L2
section
variable {X : Cx} {k j : Nat} {x : Str} {ps : List Str} {sp : Sp} {p pos : Pos} {e : Expr} {es : List Expr} {t : TA}
/-- a def of the module that is called where no repr is under way -/
def CalG (P : Program) (w : World) (K : PySem.W.Frag) (mg : Str → Option Value) (base : Heap) (k : Nat) (x : Str) (ps : List Str) (sp : Sp) : Prop :=
  ∃ (f : Addr) (fd : FuncData), FnOkG P w K mg base k f fd ps sp ∧ mg x = some (.ref f) ∧ PySem.W.keepIn K (.ref f) = true ∧ Binds K fd ps []
theorem pe_calG (C : CalG X.prog X.w X.K X.mg X.base k x ps sp) (hr : Room j X.A) (hj : k ≤ j) (gd : X.A.guards = some []) (ha : PA X (e :: es) t)
    (hg : Gl X x := by rfl) (hdb : (x == ("__debug__" : Str)) = false := by decide)
    (he : starEach (e :: es) X.env = (false, eval e X.env) :: starEach es X.env := by rfl)
    (hpl : (backTo pos (starEach es X.env)).any (·.1) = false := by rfl) :
    PE X (.Call (.Name x p) (e :: es) [] pos) (tCall sp [] (fun _ _ _ => False) t) := by
  obtain ⟨f, fd, F, hm, hk, hb⟩ := C
  refine ⟨fun pins s σ H Q I h => ?_⟩
  refine wpAny_Call_Name_kw (ld_glob I hg hm ?_ hdb)
  refine PySem.W.callWith_K (h₀ := X.base) I.ok.mod.kin hk (thn (ha.run pos pins s σ H _ I h) fun ws s1 ⟨vs, H1, I1, rel, want⟩ => ⟨I1.kIn, ?_⟩) he hpl
  have want : sp (vs ++ []) H1 Q (fun _ _ _ => False) := want
  rw [List.append_nil] at want
  have hl : ws.length = ps.length := by rw [← rel.length]; exact F.size _ _ _ _ want
  have bd := hb s1 ws I1.kIn (by rw [List.append_nil]; exact hl)
  rw [List.append_nil] at bd
  show wpAny _ _ (call (.ref f) ws) _ _ _
  refine wpAny_call (codeAny_mono (F.go X.A X.stack s1 H1 ⟨ws, []⟩ ws vs Q _ (hr.mono hj) gd I1.env0 bd rel want) fun r s2 z => ?_)
  cases r with
  | error er => exact False.elim z
  | ok fl =>
    cases fl with
    | ret u => exact I1.after z
    | next => exact False.elim z
    | brk => exact False.elim z
    | cont => exact False.elim z
end
end KV
/-! the law -/
namespace KV
open PySem PySem.Spec PyProof.Rows L2 KC
theorem McS.kp {K : PySem.W.Frag} {Cm : Addr} {H H' : Hp} {x d c : Addr} {n : Nat} {cs : List (List Nat)} (h : McS K Cm H x n cs) (D : Dl H d c) (k : Kp d c H H') : McS K Cm H' x n cs := by
  obtain ⟨dx, t, ts, h1, h2, h3, h4⟩ := h.m.ex
  obtain ⟨_, q1, q2, g1, g2, _⟩ := id D
  have n1 : x ≠ d := fun z => by rw [z, g1] at h1; cases h1
  have n2 : x ≠ c := fun z => by rw [z, g2] at h1; cases h1
  exact ⟨{ h.m with ex := ⟨dx, t, ts, k _ _ n1 n2 h1, D.kT k h2, h3, fun s b e => D.kT k (h4 s b e)⟩ }, h.n16, h.c5, h.n0, h.c0⟩
structure LK (K : PySem.W.Frag) (Cm : Addr) (H : Hp) (d c lo l x : Addr) (n : Nat) (ds bs : List Addr) (L cs : List (List Nat)) : Prop where
  D : Dl H d c
  W : LWs H lo l n ds bs L cs
  M : McS K Cm H x n cs
  no : lo ≠ d ∧ lo ≠ c
  nl : l ≠ d ∧ l ≠ c
section
variable {K : PySem.W.Frag} {Cm : Addr} {H H' : Hp} {d c lo l x : Addr} {n : Nat} {ds bs : List Addr} {L cs : List (List Nat)}
theorem LK.same (h : LK K Cm H d c lo l x n ds bs L cs) (s : Same H H') : LK K Cm H' d c lo l x n ds bs L cs := ⟨h.D.same s, h.W.same s, h.M.same s, h.no, h.nl⟩
theorem LK.kp (h : LK K Cm H d c lo l x n ds bs L cs) (D : Dl H' d c) (k : Kp d c H H') : LK K Cm H' d c lo l x n ds bs L cs := ⟨D, h.W.kp h.D k h.no h.nl, h.M.kp h.D k, h.no, h.nl⟩
theorem PwS.mod {k : Int} {o : Nat} {out : List (List Nat)} (hc : ∀ c ∈ cs, Chg n c) (LT : Lot n cs L) (oa : OrdAll n L o) (h : PwS n L (k % (o : Int)) out) : PwS n L k out := ⟨h.srt, h.nd, fun c => by
  rw [h.all]
  exact ⟨fun ⟨g, a, b⟩ => ⟨g, a, by rw [b, pw_all hc LT oa ((LT.all g).mp a)]⟩, fun ⟨g, a, b⟩ => ⟨g, a, by rw [b, pw_all hc LT oa ((LT.all g).mp a)]⟩⟩⟩
end
/-- the odd ones -/
def OddA (K : PySem.W.Frag) (H : Hp) (v : V) : Prop := isI v = false ∧ AnyV K H v ∧ Oth K H v
theorem OddA.of {K : PySem.W.Frag} {H : Hp} {v : V} {t u : Addr} (ht : H t = some (.tup [.int 1])) (hu : H u = some (.lst [.int 2])) (h : v ∈ [V.non, .bl true, .bl false, .str "1", .ref t, .ref u]) : OddA K H v := by
  simp only [List.mem_cons, List.not_mem_nil, or_false] at h
  rcases h with rfl | rfl | rfl | rfl | rfl | rfl
  · exact ⟨rfl, .non, .none, .non, by decide +kernel, by decide +kernel⟩
  · exact ⟨rfl, .bl _, .bool true, .bl _, by decide +kernel, by decide +kernel⟩
  · exact ⟨rfl, .bl _, .bool false, .bl _, by decide +kernel, by decide +kernel⟩
  · exact ⟨rfl, .str _, .str "1", .str _, by decide +kernel, by decide +kernel⟩
  · exact ⟨rfl, .tup ht, .tuple [.int 1], .tup (SqT.of ht) (.cons (.int _) .nil), by decide +kernel, by decide +kernel⟩
  · exact ⟨rfl, .lst hu, .list [.int 2], .lst (SqL.of hu) (.cons (.int _) .nil), by decide +kernel, by decide +kernel⟩
theorem othI {K : PySem.W.Frag} {H : Hp} {i : Int} : Oth K H (.int i) := ⟨.int i, .int i, rfl, rfl⟩
def qst (i : Int) : PyData := .tuple [.str "question", .int i]
theorem dp_q {K : PySem.W.Frag} {H : Hp} {a : Addr} {i : Int} (h : H a = some (.tup [.str "question", .int i])) : Dp K H (.ref a) (qst i) := .tup (SqT.of h) (.cons (.str _) (.cons (.int _) .nil))
theorem qst_sh (i : Int) : SeqAt.shaped (qst i) = true := by
  have hz : PyData.strOk "question" = true := by decide +kernel
  simp only [qst, SeqAt.shaped, PyData.canLay0, PyData.canLayAll0, PyData.depth, PyData.depthAll, hz]
  rfl
theorem qst_eq (i : Int) : PyData.eqv (qst i) (qst i) = true := by
  show ((("question" : Str) == "question") && ((i == i) && true)) = true
  simp
theorem neQ {K : PySem.W.Frag} {H : Hp} {a b : Addr} {i : Int} {Q : VK} (h1 : H a = some (.tup [.str "question", .int i])) (h2 : H b = some (.tup [.str "question", .int i])) (q : Q (.bl false) H) : rNeD K (.ref a) (.ref b) H Q :=
  ⟨_, _, dp_q h1, dp_q h2, qst_sh i, qst_sh i, by rw [qst_eq]; exact q⟩
theorem eqQ {K : PySem.W.Frag} {H : Hp} {a b : Addr} {i : Int} {Q : VK} (h1 : H a = some (.tup [.str "question", .int i])) (h2 : H b = some (.tup [.str "question", .int i])) (q : Q (.bl true) H) : rEqD K (.ref a) (.ref b) H Q :=
  ⟨_, _, dp_q h1, dp_q h2, qst_sh i, qst_sh i, by rw [qst_eq]; exact q⟩
section
variable {P : Program} {w : World} {K : PySem.W.Frag} {mg : Str → Option Value} {base : Heap} {Cm Ci CR fI fE : Addr} {fdI : FuncData}
theorem sn66 : FnScope ["_law_script", "_law_deal", "_law_some", "_law_lot_here", "_law_machine_here", "_law_great", "_law_every_here", "_law_count", "_law_m", "_law_n", "_law_one", "_law_other", "_law_due", "_law_three", "_law_odd"] ["_law_script"] (defScope (top 66)) := ⟨rfl, rfl, rfl, by decide +kernel, rfl, by decide +kernel, by decide +kernel⟩
set_option maxHeartbeats 16000000 in
theorem ok_law {f fB : Addr} {fd fdB : FuncData} (B : Bl mg) (M : MF K Cm fI fE) (gM : mg "Machine" = some (.ref Cm)) (FI : FnOk P w K mg base (L2.CX P w) 4 fI fdI ["self", "commands", "steps"] (spInit2 K Cm Ci)) (BI : L2.Binds K fdI ["self", "commands", "steps"] [])
    (CDr : Cal P w K mg base CX0 1 "_law_draw" ["_law_script", "_law_salt"] (spDraw K)) (CA : Cal P w K mg base CX0 1 "_law_any" ["_law_deal", "_law_bound"] spAny) (CO : Cal P w K mg base CX0 2 "_law_of" ["_law_deal", "_law_some"] (spOf K))
    (CMa : Cal P w K mg base CX0 3 "_law_machine" ["_law_deal", "_law_most"] spMac) (CSt : Cal P w K mg base CX0 1 "_law_steps" ["_law_some"] spStp) (CL : Cal P w K mg base CX0 2 "_law_lot" ["_law_some", "_law_most"] spLot)
    (CE : Cal P w K mg base CX0 2 "_law_every" ["_law_lot_here"] spEvr) (CAs : Cal P w K mg base CX0 7 "_law_asked" ["_law_machine_here", "_law_one", "_law_other"] (spAsk K Cm)) (CRa : Cal P w K mg base CX0 4 "_law_raised" ["_law_lot_here", "_law_count"] (spPo false))
    (CSb : Cal P w K mg base CX0 4 "_law_some_batch" ["_law_deal", "_law_lot_here", "_law_some"] spSb) (CAl : Cal P w K mg base CX0 2 "_law_along" ["_law_ones", "_law_others"] spAl) (CFa : CalG P w K mg base 7 "_law_facts" ["_law_lot_here", "_law_some", "_law_machine_here", "_law_every_here", "_law_m", "_law_n"] (spFa K Cm)) (CI : Cal P w K mg base CX0 3 "_law_is_batch" ["_law_lot_here", "_law_some", "_law_n"] spIsB)
    (CNv : Cal P w K mg base (L2.CX P w) 5 "never_matters" ["machine"] (spNv Cm K)) (GB : FnOk P w K mg base CX0 8 fB fdB [] spTm) (gB : mg "_law_too_many" = some (.ref fB)) (kB : PySem.W.keepIn K (.ref fB) = true) (bB : L2.Binds K fdB [] [])
    (F : Fun K "law" "law" (top 66) f fd) : FnOkG P w K mg base 9 f fd ["_law_script"] (spLaw K) := by
  obtain ⟨oc, od, kV, doc, pm, an, cdv, ct, osl, rfl, lk, hcd⟩ := F.ex
  refine fn_ofG lk hcd sn66 (fun vs H Q E h => ?_) (fun A outer s H vs Q E hr gd h => ⟨_,
    (pss_cons (ps_set (i := 1) sn66.nd rfl (.inl rfl) (by exact (pe_cal CDr hr (by decide) (pa_cons (pv 0) (pa_cons pe_int pa_nil)))))
    (pss_cons (ps_if (PW.pt (pw_and (pt_cmpR op_eq (by exact (pe_cal CA hr (by decide) (pa_cons (pv 1) (pa_cons pe_int pa_nil)))) pe_int (nomark _)) (pw_and1 (pt_not (pt_val (pe_call0 GB hr (by rfl) gB kB bB .nil pass0)))))) (pss_one (ps_ret pe_bl)) pss_nil)
    (pss_cons (ps_set (i := 2) sn66.nd rfl (.inl rfl) (by exact (pe_cal CMa hr (by decide) (pa_cons (pv 1) (pa_cons pe_int pa_nil)))))
    (pss_cons (ps_par (i := 3) (j := 4) rfl sn66.nd rfl rfl (by decide) rfl rfl (pa_cons (by exact (pe_cal CL hr (by decide) (pa_cons (pv 2) (pa_cons pe_int pa_nil)))) (pa_cons (by exact (pe_mkS M.mkr FI (hr.mono (by decide)) gM BI (fun σ => passL σ) (pa_cons (pe_callB call_len_seq (by rfl) B.len PySem.boot_len (pa_cons (pv 2) pa_nil)) (pa_cons (by exact (pe_cal CSt hr (by decide) (pa_cons (pv 2) pa_nil))) pa_nil)))) pa_nil)) (by rfl))
    (pss_cons (ps_set (i := 5) sn66.nd rfl (.inl rfl) (by exact (pe_cal CO hr (by decide) (pa_cons (pv 1) (pa_cons (pe_lst (pa_cons (pe_op op_sub (pe_op op_pow pe_int pe_int) (by exact (pe_cal CA hr (by decide) (pa_cons (pv 1) (pa_cons pe_int pa_nil))))) (pa_cons (pe_op op_sub (pe_op op_sub pe_int (pe_op op_pow pe_int pe_int)) (by exact (pe_cal CA hr (by decide) (pa_cons (pv 1) (pa_cons pe_int pa_nil))))) pa_nil))) pa_nil)))))
    (pss_cons (ps_set (i := 6) sn66.nd rfl (.inl rfl) (by exact (pe_cal CE hr (by decide) (pa_cons (pv 3) pa_nil))))
    (pss_cons (ps_for (passes_of rfl) rfl (pi_list (pe_lst (pa_cons (pe_op op_sub (by exact (pe_cal CA hr (by decide) (pa_cons (pv 1) (pa_cons pe_int pa_nil)))) pe_int) (pa_cons (pv 5) pa_nil)))) (pg_name (i := 7) sn66.nd rfl (.inl rfl)) (pss_one (ps_if (pt_cmpR op_ne (pe_callB (call_reprD gd hr.units) (by rfl) B.repr (by decide +kernel) (pa_cons (by exact (pe_cal CAs hr (by decide) (pa_cons (pv 4) (pa_cons (pv 7) (pa_cons pe_str pa_nil))))) pa_nil)) (pe_callB (call_reprD gd hr.units) (by rfl) B.repr (by decide +kernel) (pa_cons (pe_callTy call_tuple_of (by rfl) B.tuple (by decide +kernel) (pa_cons (by exact (pe_cal CRa hr (by decide) (pa_cons (pv 3) (pa_cons (pe_op op_mod (pe_callTy call_int1 (by rfl) B.int PyProof.Rows.boot_int (pa_cons (pv 7) pa_nil)) (pv 6)) pa_nil)))) pa_nil)) pa_nil)) (nomark _)) (pss_one (ps_ret pe_bl)) pss_nil)))
    (pss_cons (ps_par (i := 8) (j := 9) rfl sn66.nd rfl rfl (by decide) rfl rfl (pa_cons (by exact (pe_cal CSb hr (by decide) (pa_cons (pv 1) (pa_cons (pv 3) (pa_cons (pv 2) pa_nil))))) (pa_cons (by exact (pe_cal CSb hr (by decide) (pa_cons (pv 1) (pa_cons (pv 3) (pa_cons (pv 2) pa_nil))))) pa_nil)) (by rfl))
    (pss_cons (ps_par (i := 10) (j := 11) rfl sn66.nd rfl rfl (by decide) rfl rfl (pa_cons (pe_op op_sub (by exact (pe_cal CA hr (by decide) (pa_cons (pv 1) (pa_cons pe_int pa_nil)))) pe_int) (pa_cons (pe_op op_sub (by exact (pe_cal CA hr (by decide) (pa_cons (pv 1) (pa_cons pe_int pa_nil)))) pe_int) pa_nil)) (by rfl))
    (pss_cons (ps_set (i := 12) sn66.nd rfl (.inl rfl) (by exact (pe_cal CAl hr (by decide) (pa_cons (by exact (pe_cal CRa hr (by decide) (pa_cons (pv 3) (pa_cons (pv 10) pa_nil)))) (pa_cons (by exact (pe_cal CRa hr (by decide) (pa_cons (pv 3) (pa_cons (pv 11) pa_nil)))) pa_nil)))))
    (pss_cons (ps_if (PW.pt (pw_or (pt_cmpR op_ne (pe_callB (call_repr gd hr.units) (by rfl) B.repr (by decide +kernel) (pa_cons (by exact (pe_cal CAs hr (by decide) (pa_cons (pv 4) (pa_cons (pv 10) (pa_cons (pv 11) pa_nil))))) pa_nil)) (pe_callB (call_repr gd hr.units) (by rfl) B.repr (by decide +kernel) (pa_cons (pv 12) pa_nil)) (nomark _)) (pw_or1 (pt_cmpR op_ne (pe_callB (call_repr gd hr.units) (by rfl) B.repr (by decide +kernel) (pa_cons (by exact (pe_cal CAs hr (by decide) (pa_cons (pv 4) (pa_cons (pv 9) (pa_cons (pe_op op_sub (pv 9) pe_int) pa_nil))))) pa_nil)) pe_str (nomark _))))) (pss_one (ps_ret pe_bl)) pss_nil)
    (pss_cons (ps_if (pt_not (pt_val (by exact (pe_calG CFa hr (by decide) gd (pa_cons (pv 3) (pa_cons (pv 2) (pa_cons (pv 4) (pa_cons (pv 6) (pa_cons (pv 8) (pa_cons (pv 9) pa_nil)))))))))) (pss_one (ps_ret pe_bl)) pss_nil)
    (pss_cons (ps_set (i := 13) sn66.nd rfl (.inl rfl) (pe_and (by exact (pe_cal CI hr (by decide) (pa_cons (pv 3) (pa_cons (pv 2) (pa_cons (pe_op op_sub (pv 10) pe_int) pa_nil))))) (pe_and (by exact (pe_cal CI hr (by decide) (pa_cons (pv 3) (pa_cons (pv 2) (pa_cons (pv 10) pa_nil))))) (pe_one (by exact (pe_cal CI hr (by decide) (pa_cons (pv 3) (pa_cons (pv 2) (pa_cons (pe_op op_add (pv 10) pe_int) pa_nil)))))))))
    (pss_cons (ps_if (PW.pt (pw_and (PW.pt (pw_or (pt_val (pv 13)) (pw_or1 (pt_val (by exact (pe_cal CI hr (by decide) (pa_cons (pv 3) (pa_cons (pv 2) (pa_cons pe_int pa_nil))))))))) (pw_and1 (pt_not (pt_val (by exact (pe_calS CNv hr (by decide) (fun σ => passL σ) (pa_cons (pv 4) pa_nil)))))))) (pss_one (ps_ret pe_bl)) pss_nil)
    (pss_cons (ps_set (i := 14) sn66.nd rfl (.inl rfl) (by exact (pe_cal CO hr (by decide) (pa_cons (pv 1) (pa_cons (pe_lst (pa_cons pe_non (pa_cons pe_bl (pa_cons pe_bl (pa_cons pe_str (pa_cons (pe_tup (pa_cons pe_int pa_nil)) (pa_cons (pe_lst (pa_cons pe_int pa_nil)) pa_nil))))))) pa_nil)))))
    (pss_cons (ps_if (PW.pt (pw_or (pt_cmpR (op_neD hr.units) (by exact (pe_cal CAs hr (by decide) (pa_cons (pv 4) (pa_cons (pv 14) (pa_cons pe_str pa_nil))))) (pe_tup (pa_cons pe_str (pa_cons pe_int pa_nil))) (nomark _)) (pw_or1 (pt_cmpR (op_neD hr.units) (by exact (pe_cal CAs hr (by decide) (pa_cons (pv 4) (pa_cons (pv 14) (pa_cons (pv 14) pa_nil))))) (pe_tup (pa_cons pe_str (pa_cons pe_int pa_nil))) (nomark _))))) (pss_one (ps_ret pe_bl)) pss_nil)
    (pss_one (ps_ret (pe_and (pe_cmpR (op_eqD hr.units) (by exact (pe_cal CAs hr (by decide) (pa_cons (pv 4) (pa_cons (pv 10) (pa_cons (pv 14) pa_nil))))) (pe_tup (pa_cons pe_str (pa_cons pe_int pa_nil))) (nomark _)) (pe_one (pe_cmpR op_eq (pe_callB (call_repr gd hr.units) (by rfl) B.repr (by decide +kernel) (pa_cons (by exact (pe_cal CAs hr (by decide) (pa_cons (pv 4) (pa_cons (pv 10) (pa_cons (pv 11) pa_nil))))) pa_nil)) (pe_callB (call_repr gd hr.units) (by rfl) B.repr (by decide +kernel) (pa_cons (pv 12) pa_nil)) (nomark _)))))))))))))))))))))), ?_⟩)
  · obtain ⟨a, ns, rfl, _⟩ := h
    rfl
  obtain ⟨a0, ns0, rfl, hS, qL⟩ := h
  refine ⟨_, rfl, a0, ns0, 10, rfl, hS, by decide, by decide, fun H1 d c s1 hd hc D1 => ?_⟩
  dsimp only [gName]
  refine sq_cut (fun σ H' => σ = [some (.ref a0), some (.ref d), none, none, none, none, none, none, none, none, none, none, none, none, none] ∧ Dl H' d c) (fun Z hZ => ?_) ?_
  · refine ⟨_, rfl, d, c, 9, rfl, D1, by decide, by decide, fun r H2 r0 r1 D2 k2 => ⟨rfl, _, rfl, ?_⟩⟩
    by_cases z : r = 0
    · exact iteP (by simp [z]) ⟨rfl, fun H3 s3 => ⟨true, rfl, iteF (hZ _ _ ⟨rfl, D2.same s3⟩)⟩⟩
    · exact iteN (by simp [z]) (hZ _ _ ⟨rfl, D2⟩)
  rintro σ H1' ⟨rfl, D1'⟩
  clear D1 hd hc hS s1
  refine ⟨_, rfl, d, c, 12, rfl, D1', by decide, by decide, fun l n bs cs H2 hl hG n12 c4 sz D2 k2 => ?_⟩
  dsimp only [gName]
  have nl := D1'.ne hl
  have c1 := hG.c0
  have n1 := hG.n0
  have hc' := hG.chg
  have bl : (bs.map V.ref).length = cs.length := by rw [List.length_map]; exact paired_len hG.tups
  refine ⟨_, rfl, l, n, bs, cs, 12, rfl, hG, by omega, by omega, by decide, by decide, fun H' s' nsz => absurd sz nsz, fun lo ds L H3 s3 lo0 hlo tl LT _ => ?_⟩
  have LL := LT.len sz
  refine ⟨_, rfl, l, _, rfl, .inl (SqL.of (s3 _ _ hG.lst)), _, rfl, l, n, bs, cs, rfl, hG.same s3, by omega, by omega, fun r rs H4 s4 hr4 hrs stp => fun x dx hx hdx ne0 => ?_⟩
  refine mk_gens M hx hdx ne0 (n := n) (cs := cs) (.inl stp.lst) (by rw [List.length_map, stp.len]) (fun j e he => ?_) hc' n1 (by omega) c1 (by omega) (by rw [bl]) fun t ts H5 s5 O5 => ?_
  · obtain ⟨b, hb, rfl⟩ := ref_at he
    exact ⟨b, rfl, .inl (stp.row j b hb)⟩
  rw [bl] at O5
  have s35 := s4.trans s5
  have X5 : LK K Cm H5 d c lo l x n ds bs L cs := ⟨(D2.same s3).same s35, ⟨s35 _ _ hlo, TpP.same tl s35, LT, hG.same (s3.trans s35), by omega, by omega, LL⟩, ⟨Mc.of M.cl M.na1 M.na2 M.na3 O5 hc', by omega, by omega, n1, c1⟩, D2.ne lo0, nl⟩
  have hcL : ∀ g ∈ L, Chg n g := fun g hg => ((LT.all g).mp hg).chg hc'
  clear stp hrs hr4 hx hdx ne0 O5 hG tl hlo D2 hl k2 D1' lo0 s3 s4 s5 s35 bl
  refine ⟨_, _, rfl, ?_⟩
  dsimp only [List.set]
  -- the great count
  refine ⟨_, rfl, _, _, rfl, rfl, ⟨by decide, by decide, by decide⟩, _, rfl, d, c, 100, rfl, X5.D, by decide, by decide, fun r1 H6 r10 r11 D6 k6 => ?_⟩
  have X6 := X5.kp D6 k6
  refine ⟨_, _, rfl, rfl, _, _, rfl, rfl, ⟨by decide, by decide, by decide⟩, _, _, rfl, rfl, _, rfl, d, c, 100, rfl, X6.D, by decide, by decide, fun r2 H7 r20 r21 D7 k7 => ?_⟩
  have X7 := X6.kp D7 k7
  refine ⟨_, _, rfl, rfl, (by show 2 ≤ sizeLine; decide), fun ga hga => ?_⟩
  have na := X7.D.ne hga
  have sa := Same.new (o := .lst (([10 ^ 29 - r1, 0 - 10 ^ 17 - r2] : List Int).map V.int)) hga
  have X8 := X7.same sa
  refine ⟨d, c, ga, ([10 ^ 29 - r1, 0 - 10 ^ 17 - r2] : List Int).map V.int, rfl, X8.D, na.1, na.2, SqL.of upd_same, (by show 0 < 2; decide), (by show 2 ≤ 1000; decide), fun j y H9 hy D9 k9 => ?_⟩
  obtain ⟨gr, hgr, rfl⟩ := ints_at hy
  have gs : sm 100 gr := by
    simp only [List.mem_cons, List.not_mem_nil, or_false] at hgr
    rcases hgr with rfl | rfl
    · exact sm_of (by omega) (by omega)
    · exact sm_abs (m := 10 ^ 18) (by omega) (sm_of (by decide) (by decide))
  have X9 := X8.kp D9 k9
  clear X5 X6 X7 X8 sa na hga hgr hy r10 r11 r20 r21 D6 k6 D7 k7 D9 k9
  dsimp only [gName]
  refine ⟨_, rfl, lo, n, ds, L, rfl, X9.W.hlo, X9.W.tp, hcL, X9.W.n16, LT.head hc', fun H10 o s10 oa od => ?_⟩
  have X10 := X9.same s10
  have o0 : (0 : Int) < (o : Int) := by have := oa.1; omega
  have n16 := X10.W.n16
  clear X9 s10
  dsimp only [gName]
  -- its powers
  refine sq_cut (fun σ H' => (∃ u7 : Option V, σ = [some (.ref a0), some (.ref d), some (.ref l), some (.ref lo), some (.ref x), some (.int gr), some (.int (o : Int)), u7, none, none, none, none, none, none, none]) ∧ LK K Cm H' d c lo l x n ds bs L cs) (fun Z hZ => ?_) ?_
  · refine ⟨_, rfl, d, c, 45, rfl, X10.D, by decide, by decide, fun r1 H11 r10 r11 D11 k11 => ?_⟩
    have X11 := X10.kp D11 k11
    refine ⟨_, _, rfl, rfl, _, rfl, (by show 2 ≤ sizeLine; decide), fun tq htq => ?_⟩
    have nq := X11.D.ne htq
    have sq := Same.new (o := .lst (([r1 - 20, gr] : List Int).map V.int)) htq
    have X12 := X11.same sq
    have eq0 : upd H11 tq (.lst (([r1 - 20, gr] : List Int).map V.int)) tq = some (.lst (([r1 - 20, gr] : List Int).map V.int)) := upd_same
    refine ⟨tq, rfl, ⟨_, SqL.of eq0⟩, for_list (xs := ([r1 - 20, gr] : List Int).map V.int) (fun i σ H' => (∃ u7 : Option V, σ = [some (.ref a0), some (.ref d), some (.ref l), some (.ref lo), some (.ref x), some (.int gr), some (.int (o : Int)), u7, none, none, none, none, none, none, none]) ∧ LK K Cm H' d c lo l x n ds bs L cs ∧ H' tq = some (.lst (([r1 - 20, gr] : List Int).map V.int))) ⟨⟨none, rfl⟩, X12, eq0⟩ (fun i σ H' _ z => SqL.of z.2.2) ?_ ?_⟩
    · rintro i y σ G hy ⟨⟨u7, rfl⟩, XG, eG⟩
      obtain ⟨cnt, hcnt, rfl⟩ := ints_at hy
      dsimp only [gName]
      refine ⟨_, rfl, _, rfl, x, .int cnt, .str "none", n, cs, rfl, XG.M, .int cnt, .inl ⟨rfl, .inr ⟨LT.sz LL, .inr ⟨cnt, rfl, fun t es L2 out G1 s1 LT2 e1 t1 p1 => ?_⟩⟩⟩⟩
      have eL : L2 = L := LT2.uniq LT
      subst eL
      have oc : ∀ c ∈ out, Chg n c := fun c hc'' => by
        obtain ⟨g, hg, rfl⟩ := (p1.all c).mp hc''
        exact pw_chg (hcL g hg) _
      have ol : out.length ≤ 200 := Nat.le_trans (p1.len hc' LT sz) (by decide)
      refine reprLL e1 t1 oc (by omega) ol ?_
      have X1 := XG.same s1
      refine ⟨_, rfl, _, rfl, .inl ⟨_, rfl, _, rfl, _, _, rfl, rfl, o0, lo, cnt % (o : Int), n, ds, L2, rfl, X1.W.hlo, X1.W.tp, hcL, n1, by omega, by omega, fun l1 bs1 out1 G2 s2 h2 t2 p2 => ?_⟩⟩
      have eo : out1 = out := (p2.mod hc' LT oa).uniq p1 fun _ => Iff.rfl
      subst eo
      refine ⟨_, _, rfl, .inl ⟨SqL.of h2, fun tt htt => ?_⟩⟩
      have st := Same.new (o := .tup (bs1.map V.ref)) htt
      have s12 := s1.trans (s2.trans st)
      exact reprLL upd_same (TpP.same t2 st) oc (by omega) ol ⟨rfl, false, congrArg V.bl (by simp), iteF ⟨⟨_, rfl⟩, XG.same s12, s12 _ _ eG⟩⟩
    · rintro σ G ⟨⟨u7, rfl⟩, XG, eG⟩
      exact hZ _ _ ⟨⟨_, rfl⟩, XG⟩
  rintro σ H11 ⟨⟨u7, rfl⟩, X11⟩
  clear X10
  -- two batch numbers
  refine ⟨_, rfl, _, rfl, _, rfl, d, c, lo, l, n, ds, bs, L, cs, rfl, X11.D, X11.W, X11.no, X11.nl, fun m H12 bm sm' D12 k12 => ?_⟩
  have X12 := X11.kp D12 k12
  refine ⟨_, rfl, _, rfl, _, rfl, d, c, lo, l, n, ds, bs, L, cs, rfl, X12.D, X12.W, X12.no, X12.nl, fun k H13 bk sk D13 k13 => ?_⟩
  have X13 := X12.kp D13 k13
  clear X11 X12 k12 k13 D12 D13
  refine ⟨_, _, rfl, ?_⟩
  dsimp only [List.set]
  refine ⟨_, rfl, d, c, 14, rfl, X13.D, by decide, by decide, fun r1 H14 r10 r11 D14 k14 => ?_⟩
  have X14 := X13.kp D14 k14
  refine ⟨_, _, rfl, rfl, _, rfl, d, c, 14, rfl, X14.D, by decide, by decide, fun r2 H15 r20 r21 D15 k15 => ?_⟩
  have X15 := X14.kp D15 k15
  clear X13 X14 k14 k15 D14 D15
  refine ⟨_, _, rfl, rfl, _, _, rfl, ?_⟩
  dsimp only [List.set]
  have e1 : ∃ one : Int, one = r1 - 3 ∧ -20 < one ∧ one < 20 := ⟨_, rfl, by omega, by omega⟩
  obtain ⟨one, eone, ob⟩ := e1
  have e2 : ∃ oth : Int, oth = r2 - 3 ∧ -20 < oth ∧ oth < 20 := ⟨_, rfl, by omega, by omega⟩
  obtain ⟨oth, eoth, tb⟩ := e2
  rw [← eone, ← eoth]
  clear eone eoth r10 r11 r20 r21
  -- do they go along
  refine ⟨_, rfl, _, rfl, lo, one, n, ds, L, rfl, X15.W.hlo, X15.W.tp, hcL, n1, by omega, by omega, fun l1 bs1 out1 H16 s16 h1 t1 p1 => ?_⟩
  have X16 := X15.same s16
  refine ⟨_, rfl, _, rfl, lo, oth, n, ds, L, rfl, X16.W.hlo, X16.W.tp, hcL, n1, by omega, by omega, fun l2 bs2 out2 H17 s17 h2 t2 p2 => ?_⟩
  have X17 := X16.same s17
  have oc1 : ∀ c ∈ out1, Chg n c := fun c hc'' => by
    obtain ⟨g, hg, rfl⟩ := (p1.all c).mp hc''
    exact pw_chg (hcL g hg) _
  have oc2 : ∀ c ∈ out2, Chg n c := fun c hc'' => by
    obtain ⟨g, hg, rfl⟩ := (p2.all c).mp hc''
    exact pw_chg (hcL g hg) _
  refine ⟨l1, l2, n, bs1, bs2, out1, out2, rfl, s17 _ _ h1, TpP.same t1 s17, h2, t2, oc1, oc2, by omega, fun bd H18 s18 hbd => ?_⟩
  have X18 := X17.same s18
  have hbd2 : bd = true ↔ ∀ g e, Rch n cs g → Rch n cs e → comp (pw n g one) (pw n e oth) = comp (pw n e oth) (pw n g one) := by
    rw [hbd]
    constructor
    · exact fun h g e hg he => h _ ((p1.all _).mpr ⟨g, (LT.all g).mpr hg, rfl⟩) _ ((p2.all _).mpr ⟨e, (LT.all e).mpr he, rfl⟩)
    · intro h z hz y hy
      obtain ⟨g, hg, rfl⟩ := (p1.all z).mp hz
      obtain ⟨e, he, rfl⟩ := (p2.all y).mp hy
      exact h g e ((LT.all g).mp hg) ((LT.all e).mp he)
  clear X15 X16 X17 s16 s17 s18 h1 h2 t1 t2 hbd p1 p2 oc1 oc2
  dsimp only [gName]
  have ask : ∀ {G : Hp} {Q : VK}, LK K Cm G d c lo l x n ds bs L cs → (∀ (b : Bool) (G' : Hp), Same G G' → b = bd → Q (.bl b) G') → spAsk K Cm [.ref x, .int one, .int oth] G Q E0 := fun {G Q} XG q => ⟨x, .int one, .int oth, n, cs, rfl, XG.M, .int one, .inr ⟨othI, .int oth, .inr ⟨LT.sz LL, .inr ⟨one, rfl, .inr ⟨oth, rfl, fun b G' s hb => q b G' s (by rw [Bool.eq_iff_iff, hb, hbd2])⟩⟩⟩⟩⟩
  refine ⟨_, rfl, _, rfl, _, rfl, ask X18 (fun b H19 s19 eb => .inl ⟨b, rfl, ?_⟩)⟩
  subst eb
  refine ⟨_, rfl, .inl ⟨b, rfl, rfl, false, congrArg V.bl (by simp), iteF ?_⟩⟩
  have X19 := X18.same s19
  refine ⟨_, rfl, _, rfl, _, rfl, _, _, rfl, rfl, x, .int k, .int (k - 1), n, cs, rfl, X19.M, .int k, .inr ⟨othI, .int _, .inr ⟨LT.sz LL, .inr ⟨k, rfl, .inr ⟨k - 1, rfl, fun b' H20 s20 hb' => .inl ⟨b', rfl, ?_⟩⟩⟩⟩⟩⟩
  obtain rfl : b' = true := hb'.mpr fun g e hg he => bt_along hc' bk hg he
  refine ⟨rfl, false, congrArg V.bl (by simp), iteF ?_⟩
  have X20 := X19.same s20
  clear X18 X19 s19 s20
  -- facts
  refine ⟨_, rfl, _, rfl, _, rfl, _, rfl, _, rfl, _, rfl, lo, l, x, o, m, k, n, ds, bs, L, cs, rfl, X20.W, X20.M, oa, bm, bk, sm', sk, fun H21 s21 => ⟨true, rfl, iteF ?_⟩⟩
  have X21 := X20.same s21
  clear X20 s21
  -- three
  have isb : ∀ {G : Hp} {Q : VK} (z : Int), LK K Cm G d c lo l x n ds bs L cs → (∀ (b : Bool) (G' : Hp), Same G G' → (b = true ↔ Bt n cs z) → Q (.bl b) G') → spIsB [.ref lo, .ref l, .int z] G Q E0 := fun {G Q} z XG q => ⟨lo, l, z, n, ds, bs, L, cs, rfl, XG.W, fun b G' s hb => q b G' s hb⟩
  dsimp only [tNext, List.set]
  refine sq_cut (fun σ H' => (∃ (b3 : Bool), σ = [some (.ref a0), some (.ref d), some (.ref l), some (.ref lo), some (.ref x), some (.int gr), some (.int (o : Int)), u7, some (.int m), some (.int k), some (.int one), some (.int oth), some (.bl b), some (.bl b3), none] ∧ (b3 = true → Bt n cs (one - 1) ∧ Bt n cs one ∧ Bt n cs (one + 1))) ∧ LK K Cm H' d c lo l x n ds bs L cs) (fun Z hZ => ?_) ?_
  · refine ⟨_, rfl, _, rfl, _, rfl, _, _, rfl, rfl, lo, l, (one - 1), n, ds, bs, L, cs, rfl, X21.W, (fun ba H22 s22 ha => ⟨ba, rfl, ?_⟩)⟩
    have X22 := X21.same s22
    cases ba with
    | false => exact iteF (hZ _ _ ⟨⟨false, rfl, fun z => (by cases z)⟩, X22⟩)
    | true =>
      refine iteT ⟨_, rfl, _, rfl, _, rfl, lo, l, one, n, ds, bs, L, cs, rfl, X22.W, (fun bb H23 s23 hb => ⟨bb, rfl, ?_⟩)⟩
      have X23 := X22.same s23
      cases bb with
      | false => exact iteF (hZ _ _ ⟨⟨false, rfl, fun z => (by cases z)⟩, X23⟩)
      | true =>
        refine iteT ⟨_, rfl, _, rfl, _, rfl, _, _, rfl, rfl, lo, l, (one + 1), n, ds, bs, L, cs, rfl, X23.W, (fun bc H24 s24 hcc => hZ _ _ ⟨⟨bc, rfl, fun z => ⟨ha.mp rfl, hb.mp rfl, hcc.mp z⟩⟩, X23.same s24⟩)⟩
  rintro σ H22 ⟨⟨b3, rfl, h3⟩, X22⟩
  clear X21
  have abel : (∀ g e, Rch n cs g → Rch n cs e → comp g e = comp e g) → (cs.all fun d => cs.all (cmB d)) = true := fun h => by
    rw [List.all_eq_true]
    intro u hu
    rw [List.all_eq_true]
    intro v hv
    have r : ∀ e ∈ cs, Rch n cs e := fun e he => by
      obtain ⟨j, hj⟩ := List.mem_iff_getElem?.mp he
      have jl := (List.getElem?_eq_some_iff.mp hj).1
      have ej : cs.getD j [] = e := by rw [List.getD_eq_getElem?_getD, hj]; rfl
      rw [← ej]
      exact mk_rch hc' jl
    exact decide_eq_true (h u v (r u hu) (r v hv))
  refine sq_cut (fun σ H' => σ = [some (.ref a0), some (.ref d), some (.ref l), some (.ref lo), some (.ref x), some (.int gr), some (.int (o : Int)), u7, some (.int m), some (.int k), some (.int one), some (.int oth), some (.bl b), some (.bl b3), none] ∧ LK K Cm H' d c lo l x n ds bs L cs) (fun Z hZ => ?_) ?_
  · refine ⟨_, rfl, b3, rfl, ?_⟩
    cases hb3 : b3 with
    | true =>
      obtain ⟨z0, z1, z2⟩ := h3 hb3
      have nv := abel fun g e hg he => bt_three hc' z0 z1 z2 hg he
      refine iteT (iteT ⟨_, rfl, x, n, cs, rfl, X22.M.m, by omega, by omega, fun H23 s23 => ⟨_, rfl, ?_⟩⟩)
      rw [nv]
      exact iteF (hZ _ _ ⟨by rw [hb3], X22.same s23⟩)
    | false =>
      refine iteF ⟨_, rfl, _, rfl, lo, l, 2, n, ds, bs, L, cs, rfl, X22.W, (fun ba H23 s23 ha => ⟨ba, rfl, ?_⟩)⟩
      have X23 := X22.same s23
      cases ba with
      | false => exact iteF (iteF (hZ _ _ ⟨by rw [hb3], X23⟩))
      | true =>
        have nv := abel fun g e hg he => bt_two hc' (ha.mp rfl) hg he
        refine iteT ⟨_, rfl, x, n, cs, rfl, X23.M.m, by omega, by omega, fun H24 s24 => ⟨_, rfl, ?_⟩⟩
        rw [nv]
        exact iteF (hZ _ _ ⟨by rw [hb3], X23.same s24⟩)
  rintro σ H23 ⟨rfl, X23⟩
  clear X22 abel
  -- the odd ones
  refine ⟨_, rfl, (by show 1 ≤ sizeLine; decide), fun t1 ht1 => ⟨(by show 1 ≤ sizeLine; decide), fun t2 ht2 => ⟨(by show 6 ≤ sizeLine; decide), fun t3 ht3 => ?_⟩⟩⟩
  have s1 := Same.new (o := .tup [V.int 1]) ht1
  have s2 := Same.new (o := .lst [V.int 2]) ht2
  have s3 := Same.new (o := .lst [V.non, .bl true, .bl false, .str "1", .ref t1, .ref t2]) ht3
  have n2 := (X23.D.same s1).ne ht2
  have n3 := ((X23.D.same s1).same s2).ne ht3
  have X24 := X23.same (s1.trans (s2.trans s3))
  have g1 := (s2.trans s3) t1 _ upd_same
  have g2 := s3 t2 _ upd_same
  refine ⟨d, c, t3, _, rfl, X24.D, n3.1, n3.2, SqL.of upd_same, (by show 0 < 6; decide), (by show 6 ≤ 1000; decide), fun j odd H25 hy D25 k25 => ?_⟩
  have OD := OddA.of (K := K) (X24.D.kT k25 g1) (k25 _ _ n2.1 n2.2 g2) (List.mem_of_getElem? hy)
  have X25 := X24.kp D25 k25
  have same : ∀ {G : Hp}, Same H25 G → OddA K G odd := fun s => by
    have h1 := s _ _ (X24.D.kT k25 g1)
    have h2 := s _ _ (k25 _ _ n2.1 n2.2 g2)
    exact OddA.of h1 h2 (List.mem_of_getElem? hy)
  clear X23 g1 g2 hy D25 s1 s2 s3 ht1 ht2 ht3
  dsimp only [gName]
  obtain ⟨oi, oa1, oo⟩ := OD
  refine ⟨_, rfl, _, rfl, x, odd, .str "none", n, cs, rfl, X25.M, oa1, .inl ⟨rfl, .inr ⟨LT.sz LL, .inl ⟨oi, fun u1 H26 s26 g26 => ?_⟩⟩⟩⟩
  refine ⟨(by show 2 ≤ sizeLine; decide), fun u2 hu2 => ?_⟩
  have q1 := Same.new (o := .tup [V.str "question", V.int 1]) hu2
  refine neQ (q1 _ _ g26) upd_same ⟨_, rfl, iteF ?_⟩
  have s27 := s26.trans q1
  obtain ⟨oi', oa2, oo'⟩ := same s27
  generalize upd H26 u2 (.tup [V.str "question", V.int 1]) = H27 at s27 oa2 oo'
  clear q1 hu2 g26
  refine ⟨_, rfl, _, rfl, _, rfl, x, odd, odd, n, cs, rfl, (X25.same s27).M, oa2, .inr ⟨oo', oa2, .inr ⟨LT.sz LL, .inl ⟨oi, fun u3 H28 s28 g28 => ?_⟩⟩⟩⟩
  refine ⟨(by show 2 ≤ sizeLine; decide), fun u4 hu4 => ?_⟩
  have q2 := Same.new (o := .tup [V.str "question", V.int 1]) hu4
  refine neQ (q2 _ _ g28) upd_same ⟨_, rfl, iteF ?_⟩
  have s29 := s27.trans (s28.trans q2)
  obtain ⟨oi'', oa3, oo3⟩ := same s29
  generalize upd H28 u4 (.tup [V.str "question", V.int 1]) = H29 at s29 oa3 oo3
  clear q2 hu4 g28
  refine ⟨_, rfl, _, rfl, _, rfl, x, .int one, odd, n, cs, rfl, (X25.same s29).M, .int one, .inr ⟨oo3, oa3, .inr ⟨LT.sz LL, .inr ⟨one, rfl, .inl ⟨oi, fun u5 H30 s30 g30 => ?_⟩⟩⟩⟩⟩
  refine ⟨(by show 2 ≤ sizeLine; decide), fun u6 hu6 => ?_⟩
  have q3 := Same.new (o := .tup [V.str "question", V.int 2]) hu6
  refine eqQ (q3 _ _ g30) upd_same ⟨_, rfl, iteT ?_⟩
  have X31 := X25.same (s29.trans (s30.trans q3))
  refine ⟨_, rfl, _, rfl, _, rfl, ask X31 (fun b2 H32 s32 eb => .inl ⟨b2, rfl, ?_⟩)⟩
  subst eb
  refine ⟨_, rfl, .inl ⟨b2, rfl, rfl, ?_⟩⟩
  rw [decide_eq_true rfl]
  exact qL _
end
end KV

/-! the end -/
namespace KV
open PySem PySem.Spec PyProof.Rows L2 He KC
section
variable {P : Program} {w : World} {K : PySem.W.Frag} {mg : Str → Option Value} {base : Heap} {Z : CXT} {k : Nat} {x : Str} {st : Stmt} {f : Addr} {fd : FuncData} {ps ks : List Str} {sp : Sp}
theorem mkCal (F : Fun K x x st f fd) (ok : FnOk P w K mg base Z k f fd ps sp) (g : mg x = some (.ref f))
    (h : ∀ (kV doc pm : Value) (an : Option Addr) (cdv ct : Value) (us : List Value), us.length = ps.length → bindArgs (PySem.W.fnOf x x (defArgs st) (defBody st) (defScope st) .none kV doc pm an cdv ct) ⟨us, []⟩ = pure (ps.zip us)) :
    Cal P w K mg base Z k x ps sp := ⟨_, _, ok, g, F.kp, F.binds h⟩
theorem mkCalK {b : Bool} (F : Fun K x x st f fd) (ok : FnOk P w K mg base Z k f fd ps sp) (g : mg x = some (.ref f))
    (h : ∀ (kV doc pm : Value) (an : Option Addr) (cdv ct : Value) (us : List Value), us.length = ps.length → bindArgs (PySem.W.fnOf x x (defArgs st) (defBody st) (defScope st) .none kV doc pm an cdv ct) ⟨[], ks.zip us⟩ = pure (ps.zip (rv b us))) :
    CalK P w K mg base Z k x ps ks b sp := ⟨_, _, ok, g, F.kp, KB.mk F h⟩
def litB (K : PySem.W.Frag) (x : Str) (n : Int) : Bool := match PySem.W.nsIn K mainGlobals x with
  | some (some (.int i _)) => decide (i = n)
  | _ => false
theorem litB_ok {K : PySem.W.Frag} {h : Heap} {mg : Str → Option Value} (X : K.In h) (G : h.Ns mainGlobals mg) {x : Str} {n : Int} (c : litB K x n = true) : ∃ u, mg x = some (.int n u) := by
  unfold litB at c
  split at c
  · rename_i i u e
    rw [← of_decide_eq_true c]
    exact ⟨u, PySem.W.mg_of X G e⟩
  · cases c
theorem saysMth {fa : List Fa} {fn : List FnD} {K : PySem.W.Frag} (c : SaysE fa fn K) (i : Nat) {cl m ql : Str} {st : Stmt} (h : fn[i]? = some ⟨(cl, some m), m, ql, defArgs st, defBody st, defScope st⟩ := by rfl) : ∃ fd, Fun K m ql st (ma K (ga K cl) m) fd := by
  obtain ⟨e, k⟩ := saysFn c i h
  obtain ⟨oc, od, osl, kV, doc, pm, an, cdv, ct, lk, hc⟩ := fn_ok e k
  exact ⟨_, fun_mk lk hc (keep_fn lk)⟩
end
def gN : List Str := (["is_integer", "is_below", "is_sequence", "check_integer", "_is_entry", "first_losing", "idle_change", "composed", "first_unlike", "round_from", "_cycles", "raised"] : List Str) ++ (["commute", "commute_with_all", "all_commute", "numbered", "reached", "grown", "few_makers", "command_changes", "rows_by_change", "changes", "middle", "never_matters"] : List Str) ++ (["table_of", "is_batch_number", "powers", "go_along", "powers_of", "_law_draw", "_law_any", "_law_of", "_law_mixed", "_law_then", "_law_back", "_law_power"] : List Str) ++ (["_law_piece", "_law_beside", "_law_lot", "_law_machine", "_law_steps", "_law_is_batch", "_law_every", "_law_raised", "_law_along", "_law_some_batch", "_law_asked", "_law_too_many"] : List Str) ++ (["_law_closed", "_law_facts", "law", "InvalidMachine", "InvalidQuestion", "Refused", "Machine", "Table"] : List Str)
def fN : List Str := ["isinstance", "int", "bool", "tuple", "list", "set", "len", "sorted", "range", "all", "abs", "repr", "zip", "enumerate"]
def fa10 : List Fa := gN.map Fa.glo ++ fN.map Fa.free
def dI0 : FnD := ⟨("InvalidMachine", some "__init__"), "__init__", "InvalidMachine.__init__", PySem.LowX.iA ⟨9, 17, 9, 21⟩ ⟨9, 23, 9, 25⟩, PySem.LowX.iB ⟨10, 8, 10, 12⟩ ⟨10, 8, 10, 15⟩ ⟨10, 18, 10, 20⟩ ⟨10, 8, 10, 20⟩, PySem.LowX.iS⟩
def dI1 : FnD := ⟨("InvalidQuestion", some "__init__"), "__init__", "InvalidQuestion.__init__", PySem.LowX.iA ⟨13, 17, 13, 21⟩ ⟨13, 23, 13, 25⟩, PySem.LowX.iB ⟨14, 8, 14, 12⟩ ⟨14, 8, 14, 15⟩ ⟨14, 18, 14, 20⟩ ⟨14, 8, 14, 20⟩, PySem.LowX.iS⟩
def dI2 : FnD := ⟨("Refused", some "__init__"), "__init__", "Refused.__init__", PySem.LowX.iA ⟨17, 17, 17, 21⟩ ⟨17, 23, 17, 25⟩, PySem.LowX.iB ⟨18, 8, 18, 12⟩ ⟨18, 8, 18, 15⟩ ⟨18, 18, 18, 20⟩ ⟨18, 8, 18, 20⟩, PySem.LowX.iS⟩
def dM0 : FnD := ⟨("Machine", some "__init__"), "__init__", "Machine.__init__", defArgs (mth 12 0), defBody (mth 12 0), defScope (mth 12 0)⟩
def dM1 : FnD := ⟨("Machine", some "__eq__"), "__eq__", "Machine.__eq__", defArgs (mth 12 1), defBody (mth 12 1), defScope (mth 12 1)⟩
def dM2 : FnD := ⟨("Table", some "__init__"), "__init__", "Table.__init__", defArgs (mth 36 0), defBody (mth 36 0), defScope (mth 36 0)⟩
def dM3 : FnD := ⟨("Table", some "_found_rounds"), "_found_rounds", "Table._found_rounds", defArgs (mth 36 1), defBody (mth 36 1), defScope (mth 36 1)⟩
def dM4 : FnD := ⟨("Table", some "walk"), "walk", "Table.walk", defArgs (mth 36 2), defBody (mth 36 2), defScope (mth 36 2)⟩
def dM5 : FnD := ⟨("Table", some "_all_followed_by"), "_all_followed_by", "Table._all_followed_by", defArgs (mth 36 3), defBody (mth 36 3), defScope (mth 36 3)⟩
def dM6 : FnD := ⟨("Table", some "powers"), "powers", "Table.powers", defArgs (mth 36 4), defBody (mth 36 4), defScope (mth 36 4)⟩
def dM7 : FnD := ⟨("Table", some "fault"), "fault", "Table.fault", defArgs (mth 36 8), defBody (mth 36 8), defScope (mth 36 8)⟩
def dM8 : FnD := ⟨("Table", some "splits"), "splits", "Table.splits", defArgs (mth 36 9), defBody (mth 36 9), defScope (mth 36 9)⟩
def fn10 : List FnD := [dI0, dI1, dI2, dM0, dM1, dM2, dM3, dM4, dM5, dM6, dM7, dM8, dTop "is_integer" (top 7), dTop "is_below" (top 8), dTop "is_sequence" (top 9), dTop "check_integer" (top 10), dTop "_is_entry" (top 13), dTop "first_losing" (top 14), dTop "idle_change" (top 17), dTop "composed" (top 18), dTop "first_unlike" (top 19), dTop "round_from" (top 20), dTop "_cycles" (top 21), dTop "raised" (top 22), dTop "commute" (top 23), dTop "commute_with_all" (top 24), dTop "all_commute" (top 25), dTop "numbered" (top 26), dTop "reached" (top 27), dTop "grown" (top 28), dTop "few_makers" (top 29), dTop "command_changes" (top 30), dTop "rows_by_change" (top 31), dTop "changes" (top 32), dTop "middle" (top 33), dTop "never_matters" (top 34), dTop "table_of" (top 37), dTop "is_batch_number" (top 39), dTop "powers" (top 41), dTop "go_along" (top 42), dTop "powers_of" (top 43), dTop "_law_draw" (top 45), dTop "_law_any" (top 46), dTop "_law_of" (top 47), dTop "_law_mixed" (top 48), dTop "_law_then" (top 49), dTop "_law_back" (top 50), dTop "_law_power" (top 51), dTop "_law_piece" (top 52), dTop "_law_beside" (top 53), dTop "_law_lot" (top 54), dTop "_law_machine" (top 55), dTop "_law_steps" (top 56), dTop "_law_is_batch" (top 57), dTop "_law_every" (top 58), dTop "_law_raised" (top 59), dTop "_law_along" (top 60), dTop "_law_some_batch" (top 61), dTop "_law_asked" (top 62), dTop "_law_too_many" (top 63), dTop "_law_closed" (top 64), dTop "_law_facts" (top 65), dTop "law" (top 66)]
theorem mkCalG {P : Program} {w : World} {K : PySem.W.Frag} {mg : Str → Option Value} {base : Heap} {k : Nat} {x : Str} {st : Stmt} {f : Addr} {fd : FuncData} {ps : List Str} {sp : Sp} (F : Fun K x x st f fd) (ok : FnOkG P w K mg base k f fd ps sp) (g : mg x = some (.ref f))
    (h : ∀ (kV doc pm : Value) (an : Option Addr) (cdv ct : Value) (us : List Value), us.length = ps.length → bindArgs (PySem.W.fnOf x x (defArgs st) (defBody st) (defScope st) .none kV doc pm an cdv ct) ⟨us, []⟩ = pure (ps.zip us)) :
    CalG P w K mg base k x ps sp := ⟨_, _, ok, g, F.kp, F.binds h⟩
def tabB (K : PySem.W.Frag) (x : Str) : Bool :=
  PySem.W.plainGet K (ga K x) Str.empty && (PySem.W.hasDictIn K (ga K x) && (PySem.W.plainOver K (ga K x) && (He.eqO (PySem.W.findIn K (.ref (ga K x)) "__setattr__") (some (some (.builtin "object.__setattr__"))) &&
  (He.eqO (PySem.W.findIn K (.ref (ga K x)) "makers") (some none) && (He.eqO (PySem.W.findIn K (.ref (ga K x)) "changes") (some none) && (He.eqO (PySem.W.findIn K (.ref (ga K x)) "ahead") (some none) && (He.eqO (PySem.W.findIn K (.ref (ga K x)) "rows") (some none) && (He.eqO (PySem.W.findIn K (.ref (ga K x)) "rounds") (some none) &&
  (PySem.W.makesIn K (ga K x) && (He.eqO (PySem.W.findIn K (.ref (ga K x)) "__init__") (some (some (.ref (ma K (ga K x) "__init__")))) && (PySem.W.isFn K (.ref (ma K (ga K x) "__init__")) && (PySem.W.keepIn K (.ref (ga K x)) &&
  MT.all fun m => He.eqO (PySem.W.findIn K (.ref (ga K x)) m) (some (some (.ref (ma K (ga K x) m)))) && (PySem.W.isFn K (.ref (ma K (ga K x) m)) && PySem.W.keepIn K (.ref (ma K (ga K x) m)))))))))))))))
theorem tabB_ok {K : PySem.W.Frag} {x : Str} (b : tabB K x = true) : TMF K (ga K x) (ma K (ga K x) "__init__") ∧ ∀ m ∈ MT, L2.Meth K (ga K x) m (ma K (ga K x) m) := by
  obtain ⟨b1, b⟩ := He.ba b
  obtain ⟨b2, b⟩ := He.ba b
  obtain ⟨b3, b⟩ := He.ba b
  obtain ⟨b4, b⟩ := He.ba b
  obtain ⟨b5, b⟩ := He.ba b
  obtain ⟨b6, b⟩ := He.ba b
  obtain ⟨b7, b⟩ := He.ba b
  obtain ⟨b8, b⟩ := He.ba b
  obtain ⟨b9, b⟩ := He.ba b
  obtain ⟨b10, b⟩ := He.ba b
  obtain ⟨b11, b⟩ := He.ba b
  obtain ⟨b12, b⟩ := He.ba b
  obtain ⟨b13, b⟩ := He.ba b
  refine ⟨⟨⟨⟨b1, b2, b3, He.eqO_ok b4⟩, He.eqO_ok b5, He.eqO_ok b6, He.eqO_ok b7, He.eqO_ok b8, He.eqO_ok b9⟩, ⟨b10, He.eqO_ok b11, b12, b13⟩⟩, fun m hm => ?_⟩
  obtain ⟨c1, c2⟩ := He.ba (List.all_eq_true.mp b m hm)
  obtain ⟨c2, c3⟩ := He.ba c2
  exact ⟨He.eqO_ok c1, c2, c3⟩
def ex10 (K : PySem.W.Frag) : Bool := (lowB K "InvalidMachine" && (lowB K "InvalidQuestion" && (lowB K "Refused" && (decide (PySem.W.exmOne K (.ref (ga K "Refused")) (.ref (ga K "InvalidQuestion")) = some false) && (machB K "Machine" && (tabB K "Table" && litB K "MOST_CHANGES" 400))))))
theorem factG {K : PySem.W.Frag} (c : SaysE fa10 fn10 K) {f : Fa} (hf : f ∈ fa10) : f.ok K = true := by
  have c1 := (ba (show ((fa10.all fun f => f.ok K) && fn10.all fun d => (Fa.code d.at_ d.qual).ok K) = true from congrArg (fun z : Al => z.1) c)).1
  exact List.all_eq_true.mp c1 f hf
theorem mem_g {x : Str} (h : x ∈ gN) : Fa.glo x ∈ fa10 := List.mem_append_left _ (List.mem_map_of_mem h)
theorem mem_f {x : Str} (h : x ∈ fN) : Fa.free x ∈ fa10 := List.mem_append_right _ (List.mem_map_of_mem h)
theorem end10 {P : Program} {w : World} {K : PySem.W.Frag} {h : Heap} {mg : Str → Option Value} {f : Addr} (X : K.In h) (G : h.Ns mainGlobals mg) (hfa : mg ("law" : Str) = some (.ref f)) (c : SaysE fa10 fn10 K) (b : ex10 K = true) :
    ∃ fd : FuncData, (∀ (s : Shared) (u : Value), BindsTo s fd ⟨[u], []⟩ [("_law_script", u)]) ∧ ∀ base : Heap, K.In base → base.Ns mainGlobals mg → FnOkG P w K mg base 9 f fd ["_law_script"] (spLaw K) := by
  obtain ⟨z0, b⟩ := ba b
  obtain ⟨z1, b⟩ := ba b
  obtain ⟨z2, b⟩ := ba b
  obtain ⟨z3, b⟩ := ba b
  obtain ⟨z4, b⟩ := ba b
  obtain ⟨z5, b⟩ := ba b
  have z6 := b
  have g : ∀ x : Str, x ∈ gN → mg x = some (.ref (ga K x)) := fun x hx => glo_ok X G (factG c (mem_g hx))
  have fr : ∀ x : Str, x ∈ fN → mg x = none := fun x hx => free_ok X G (factG c (mem_f hx))
  have B : Bl mg := ⟨fr _ (by decide), fr _ (by decide), fr _ (by decide), fr _ (by decide), fr _ (by decide), fr _ (by decide), fr _ (by decide), fr _ (by decide), fr _ (by decide), fr _ (by decide), fr _ (by decide), fr _ (by decide), fr _ (by decide), fr _ (by decide)⟩
  have T : PySem.LowX.LowTxt K mg "InvalidMachine" "InvalidMachine.__init__" (ga K "InvalidMachine") (ma K (ga K "InvalidMachine") "__init__") := low_of X G (d := dI0) rfl (saysFn c 0 rfl).1 (saysFn c 0 rfl).2 (factG c (mem_g (by decide))) z0
  have T2 : PySem.LowX.LowTxt K mg "InvalidQuestion" "InvalidQuestion.__init__" (ga K "InvalidQuestion") (ma K (ga K "InvalidQuestion") "__init__") := low_of X G (d := dI1) rfl (saysFn c 1 rfl).1 (saysFn c 1 rfl).2 (factG c (mem_g (by decide))) z1
  have T3 : PySem.LowX.LowTxt K mg "Refused" "Refused.__init__" (ga K "Refused") (ma K (ga K "Refused") "__init__") := low_of X G (d := dI2) rfl (saysFn c 2 rfl).1 (saysFn c 2 rfl).2 (factG c (mem_g (by decide))) z2
  have tx := of_decide_eq_true z3
  have M := machB_ok z4
  have gM : mg "Machine" = some (.ref (ga K "Machine")) := g _ (by decide)
  have MT := tabB_ok z5
  have gT : mg "Table" = some (.ref (ga K "Table")) := g _ (by decide)
  obtain ⟨uF, gF⟩ := litB_ok X G z6
  obtain ⟨fdM0, FM0⟩ := saysMth c 3 rfl
  obtain ⟨fdM1, FM1⟩ := saysMth c 4 rfl
  obtain ⟨fdM2, FM2⟩ := saysMth c 5 rfl
  obtain ⟨fdM3, FM3⟩ := saysMth c 6 rfl
  obtain ⟨fdM4, FM4⟩ := saysMth c 7 rfl
  obtain ⟨fdM5, FM5⟩ := saysMth c 8 rfl
  obtain ⟨fdM6, FM6⟩ := saysMth c 9 rfl
  obtain ⟨fdM7, FM7⟩ := saysMth c 10 rfl
  obtain ⟨fdM8, FM8⟩ := saysMth c 11 rfl
  obtain ⟨fd7, F7⟩ := saysFun c 12 rfl
  obtain ⟨fd8, F8⟩ := saysFun c 13 rfl
  obtain ⟨fd9, F9⟩ := saysFun c 14 rfl
  obtain ⟨fd10, F10⟩ := saysFun c 15 rfl
  obtain ⟨fd13, F13⟩ := saysFun c 16 rfl
  obtain ⟨fd14, F14⟩ := saysFun c 17 rfl
  obtain ⟨fd17, F17⟩ := saysFun c 18 rfl
  obtain ⟨fd18, F18⟩ := saysFun c 19 rfl
  obtain ⟨fd19, F19⟩ := saysFun c 20 rfl
  obtain ⟨fd20, F20⟩ := saysFun c 21 rfl
  obtain ⟨fd21, F21⟩ := saysFun c 22 rfl
  obtain ⟨fd22, F22⟩ := saysFun c 23 rfl
  obtain ⟨fd23, F23⟩ := saysFun c 24 rfl
  obtain ⟨fd24, F24⟩ := saysFun c 25 rfl
  obtain ⟨fd25, F25⟩ := saysFun c 26 rfl
  obtain ⟨fd26, F26⟩ := saysFun c 27 rfl
  obtain ⟨fd27, F27⟩ := saysFun c 28 rfl
  obtain ⟨fd28, F28⟩ := saysFun c 29 rfl
  obtain ⟨fd29, F29⟩ := saysFun c 30 rfl
  obtain ⟨fd30, F30⟩ := saysFun c 31 rfl
  obtain ⟨fd31, F31⟩ := saysFun c 32 rfl
  obtain ⟨fd32, F32⟩ := saysFun c 33 rfl
  obtain ⟨fd33, F33⟩ := saysFun c 34 rfl
  obtain ⟨fd34, F34⟩ := saysFun c 35 rfl
  obtain ⟨fd37, F37⟩ := saysFun c 36 rfl
  obtain ⟨fd39, F39⟩ := saysFun c 37 rfl
  obtain ⟨fd41, F41⟩ := saysFun c 38 rfl
  obtain ⟨fd42, F42⟩ := saysFun c 39 rfl
  obtain ⟨fd43, F43⟩ := saysFun c 40 rfl
  obtain ⟨fd45, F45⟩ := saysFun c 41 rfl
  obtain ⟨fd46, F46⟩ := saysFun c 42 rfl
  obtain ⟨fd47, F47⟩ := saysFun c 43 rfl
  obtain ⟨fd48, F48⟩ := saysFun c 44 rfl
  obtain ⟨fd49, F49⟩ := saysFun c 45 rfl
  obtain ⟨fd50, F50⟩ := saysFun c 46 rfl
  obtain ⟨fd51, F51⟩ := saysFun c 47 rfl
  obtain ⟨fd52, F52⟩ := saysFun c 48 rfl
  obtain ⟨fd53, F53⟩ := saysFun c 49 rfl
  obtain ⟨fd54, F54⟩ := saysFun c 50 rfl
  obtain ⟨fd55, F55⟩ := saysFun c 51 rfl
  obtain ⟨fd56, F56⟩ := saysFun c 52 rfl
  obtain ⟨fd57, F57⟩ := saysFun c 53 rfl
  obtain ⟨fd58, F58⟩ := saysFun c 54 rfl
  obtain ⟨fd59, F59⟩ := saysFun c 55 rfl
  obtain ⟨fd60, F60⟩ := saysFun c 56 rfl
  obtain ⟨fd61, F61⟩ := saysFun c 57 rfl
  obtain ⟨fd62, F62⟩ := saysFun c 58 rfl
  obtain ⟨fd63, F63⟩ := saysFun c 59 rfl
  obtain ⟨fd64, F64⟩ := saysFun c 60 rfl
  obtain ⟨fd65, F65⟩ := saysFun c 61 rfl
  obtain ⟨fd66, F66⟩ := saysFun c 62 rfl
  have e := hfa.symm.trans (g "law" (by decide))
  cases e
  have bL : ∀ (s : Shared) (u : Value), BindsTo s fd66 ⟨[u], []⟩ [("_law_script", u)] := by
    obtain ⟨oc, od, kV, doc, pm, an, cdv, ct, osl, rfl, lk, hcd⟩ := F66.ex
    exact fun s u => .of_eq rfl
  refine ⟨fd66, bL, fun base _ _ => ?_⟩
  have o7 := ok_isI2 (P := P) (w := w) (mg := mg) (base := base) B F7
  have c7 := mkCal (P := P) (w := w) (base := base) F7 o7 (g _ (by decide)) fun _ _ _ _ _ _ us hl => match us, hl with | [_], _ => rfl
  have o8 := ok_bel2 (P := P) (w := w) (mg := mg) (base := base) c7 F8
  have c8 := mkCal (P := P) (w := w) (base := base) F8 o8 (g _ (by decide)) fun _ _ _ _ _ _ us hl => match us, hl with | [_, _], _ => rfl
  have o9 := ok_seq2 (P := P) (w := w) (mg := mg) (base := base) B F9
  have c9 := mkCal (P := P) (w := w) (base := base) F9 o9 (g _ (by decide)) fun _ _ _ _ _ _ us hl => match us, hl with | [_], _ => rfl
  have o13 := ok_ent2 (P := P) (w := w) (mg := mg) (base := base) B c9 c8 F13
  have c13 := mkCal (P := P) (w := w) (base := base) F13 o13 (g _ (by decide)) fun _ _ _ _ _ _ us hl => match us, hl with | [_, _, _], _ => rfl
  have o14 := ok_los2 (P := P) (w := w) (mg := mg) (base := base) B F14
  have c14 := mkCal (P := P) (w := w) (base := base) F14 o14 (g _ (by decide)) fun _ _ _ _ _ _ us hl => match us, hl with | [_, _], _ => rfl
  have oI := ok_init2 (P := P) (w := w) (mg := mg) (base := base) (Cm := ga K "Machine") B T c7 c9 c13 c14 FM0
  have bI : L2.Binds K fdM0 ["self", "commands", "steps"] [] := FM0.binds (fun _ _ _ _ _ _ us hl => match us, hl with | [_, _, _], _ => rfl)
  have o17 := ok_idle (P := P) (w := w) (mg := mg) (base := base) B F17
  have c17 := mkCal (P := P) (w := w) (base := base) F17 o17 (g _ (by decide)) fun _ _ _ _ _ _ us hl => match us, hl with | [_], _ => rfl
  have o18 := ok_composed (P := P) (w := w) (mg := mg) (base := base) B F18
  have c18 := mkCal (P := P) (w := w) (base := base) F18 o18 (g _ (by decide)) fun _ _ _ _ _ _ us hl => match us, hl with | [_, _], _ => rfl
  have o19 := ok_unl (P := P) (w := w) (mg := mg) (base := base) F19
  have c19 := mkCal (P := P) (w := w) (base := base) F19 o19 (g _ (by decide)) fun _ _ _ _ _ _ us hl => match us, hl with | [_, _], _ => rfl
  have o20 := ok_rf (P := P) (w := w) (mg := mg) (base := base) F20
  have c20 := mkCal (P := P) (w := w) (base := base) F20 o20 (g _ (by decide)) fun _ _ _ _ _ _ us hl => match us, hl with | [_, _], _ => rfl
  have o21 := ok_cyc (P := P) (w := w) (mg := mg) (base := base) B c20 F21
  have c21 := mkCal (P := P) (w := w) (base := base) F21 o21 (g _ (by decide)) fun _ _ _ _ _ _ us hl => match us, hl with | [_], _ => rfl
  have o22 := ok_rai (P := P) (w := w) (mg := mg) (base := base) B c21 F22
  have c22 := mkCal (P := P) (w := w) (base := base) F22 o22 (g _ (by decide)) fun _ _ _ _ _ _ us hl => match us, hl with | [_, _], _ => rfl
  have o23 := ok_cm (P := P) (w := w) (mg := mg) (base := base) c18 F23
  have c23 := mkCal (P := P) (w := w) (base := base) F23 o23 (g _ (by decide)) fun _ _ _ _ _ _ us hl => match us, hl with | [_, _], _ => rfl
  have o24 := ok_cwa (P := P) (w := w) (mg := mg) (base := base) c23 F24
  have c24 := mkCal (P := P) (w := w) (base := base) F24 o24 (g _ (by decide)) fun _ _ _ _ _ _ us hl => match us, hl with | [_, _], _ => rfl
  have o25 := ok_ac (P := P) (w := w) (mg := mg) (base := base) c24 F25
  have c25 := mkCal (P := P) (w := w) (base := base) F25 o25 (g _ (by decide)) fun _ _ _ _ _ _ us hl => match us, hl with | [_, _], _ => rfl
  have o26 := ok_num (P := P) (w := w) (mg := mg) (base := base) B T3 gF c17 F26
  have c26 := mkCal (P := P) (w := w) (base := base) F26 o26 (g _ (by decide)) fun _ _ _ _ _ _ us hl => match us, hl with | [_, _], _ => rfl
  have o27 := ok_reach (P := P) (w := w) (mg := mg) (base := base) B c26 F27
  have c27 := mkCal (P := P) (w := w) (base := base) F27 o27 (g _ (by decide)) fun _ _ _ _ _ _ us hl => match us, hl with | [_, _], _ => rfl
  have o28 := ok_gr (P := P) (w := w) (mg := mg) (base := base) c27 F28
  have c28 := mkCal (P := P) (w := w) (base := base) F28 o28 (g _ (by decide)) fun _ _ _ _ _ _ us hl => match us, hl with | [_, _], _ => rfl
  have o29 := ok_fm (P := P) (w := w) (mg := mg) (base := base) c28 F29
  have c29 := mkCal (P := P) (w := w) (base := base) F29 o29 (g _ (by decide)) fun _ _ _ _ _ _ us hl => match us, hl with | [_, _], _ => rfl
  have o30 := ok_cc (P := P) (w := w) (mg := mg) (base := base) (Cm := ga K "Machine") B F30
  have c30 := mkCal (P := P) (w := w) (base := base) F30 o30 (g _ (by decide)) fun _ _ _ _ _ _ us hl => match us, hl with | [_], _ => rfl
  have o31 := ok_rbc (P := P) (w := w) (mg := mg) (base := base) c30 c27 F31
  have c31 := mkCal (P := P) (w := w) (base := base) F31 o31 (g _ (by decide)) fun _ _ _ _ _ _ us hl => match us, hl with | [_], _ => rfl
  have o32 := ok_ch (P := P) (w := w) (mg := mg) (base := base) B c31 F32
  have c32 := mkCal (P := P) (w := w) (base := base) F32 o32 (g _ (by decide)) fun _ _ _ _ _ _ us hl => match us, hl with | [_], _ => rfl
  have o33 := ok_mid (P := P) (w := w) (mg := mg) (base := base) B c30 c32 c24 F33
  have c33 := mkCal (P := P) (w := w) (base := base) F33 o33 (g _ (by decide)) fun _ _ _ _ _ _ us hl => match us, hl with | [_], _ => rfl
  have o34 := ok_nv (P := P) (w := w) (mg := mg) (base := base) c30 c25 F34
  have c34 := mkCal (P := P) (w := w) (base := base) F34 o34 (g _ (by decide)) fun _ _ _ _ _ _ us hl => match us, hl with | [_], _ => rfl
  have TC := MT.1.f
  have mW : MetC P w K mg base CX0 (ga K "Table") _ "walk" _ _ := ⟨_, _, ok_walk (P := P) (w := w) (mg := mg) (base := base) (Ct := ga K "Table") TC FM4, MT.2 "walk" (by decide), FM4.binds (fun _ _ _ _ _ _ us hl => match us, hl with | [_, _, _], _ => rfl)⟩
  have mFR : MetC P w K mg base CX0 (ga K "Table") _ "_found_rounds" _ _ := ⟨_, _, ok_fr (P := P) (w := w) (mg := mg) (base := base) (Ct := ga K "Table") B TC mW FM3, MT.2 "_found_rounds" (by decide), FM3.binds (fun _ _ _ _ _ _ us hl => match us, hl with | [_], _ => rfl)⟩
  have mAF : MetC P w K mg base CX0 (ga K "Table") _ "_all_followed_by" _ _ := ⟨_, _, ok_afb (P := P) (w := w) (mg := mg) (base := base) (Ct := ga K "Table") B TC FM5, MT.2 "_all_followed_by" (by decide), FM5.binds (fun _ _ _ _ _ _ us hl => match us, hl with | [_, _], _ => rfl)⟩
  have mTP : MetC P w K mg base CX0 (ga K "Table") _ "powers" _ _ := ⟨_, _, ok_tpw (P := P) (w := w) (mg := mg) (base := base) (Ct := ga K "Table") B TC FM6, MT.2 "powers" (by decide), FM6.binds (fun _ _ _ _ _ _ us hl => match us, hl with | [_, _], _ => rfl)⟩
  have mTF : MetC P w K mg base CX0 (ga K "Table") _ "fault" _ _ := ⟨_, _, ok_tfa (P := P) (w := w) (mg := mg) (base := base) (Ct := ga K "Table") B TC mTP mAF c19 FM7, MT.2 "fault" (by decide), FM7.binds (fun _ _ _ _ _ _ us hl => match us, hl with | [_, _], _ => rfl)⟩
  have mTS : MetC P w K mg base CX0 (ga K "Table") _ "splits" _ _ := ⟨_, _, ok_tsp (P := P) (w := w) (mg := mg) (base := base) (Ct := ga K "Table") TC mTF FM8, MT.2 "splits" (by decide), FM8.binds (fun _ _ _ _ _ _ us hl => match us, hl with | [_, _], _ => rfl)⟩
  have oTI := ok_tin (P := P) (w := w) (mg := mg) (base := base) (Ct := ga K "Table") B TC c26 mFR FM2
  have bTI : L2.Binds K fdM2 ["self", "states", "makers"] [] := FM2.binds (fun _ _ _ _ _ _ us hl => match us, hl with | [_, _, _], _ => rfl)
  have o37 := ok_tab (P := P) (w := w) (mg := mg) (base := base) (Cm := ga K "Machine") (Ct := ga K "Table") MT.1 gT oTI bTI c30 F37
  have c37 := mkCal (P := P) (w := w) (base := base) F37 o37 (g _ (by decide)) fun _ _ _ _ _ _ us hl => match us, hl with | [_], _ => rfl
  have o39 := ok_ib (P := P) (w := w) (mg := mg) (base := base) TC c37 mTS F39
  have c39 := mkCal (P := P) (w := w) (base := base) F39 o39 (g _ (by decide)) fun _ _ _ _ _ _ us hl => match us, hl with | [_, _], _ => rfl
  have o10 := ok_cki (P := P) (w := w) (mg := mg) (base := base) T2 c7 F10
  have c10 := mkCal (P := P) (w := w) (base := base) F10 o10 (g _ (by decide)) fun _ _ _ _ _ _ us hl => match us, hl with | [_, _], _ => rfl
  have o43 := ok_po (P := P) (w := w) (mg := mg) (base := base) B c22 F43
  have c43 := mkCal (P := P) (w := w) (base := base) F43 o43 (g _ (by decide)) fun _ _ _ _ _ _ us hl => match us, hl with | [_, _], _ => rfl
  have o41 := ok_pws (P := P) (w := w) (mg := mg) (base := base) B c32 c10 c43 F41
  have c41 := mkCal (P := P) (w := w) (base := base) F41 o41 (g _ (by decide)) fun _ _ _ _ _ _ us hl => match us, hl with | [_, _], _ => rfl
  have o42 := ok_ga (P := P) (w := w) (mg := mg) (base := base) c32 c10 c43 c29 c25 F42
  have c42 := mkCal (P := P) (w := w) (base := base) F42 o42 (g _ (by decide)) fun _ _ _ _ _ _ us hl => match us, hl with | [_, _, _], _ => rfl
  have o45 := ok_draw (P := P) (w := w) (mg := mg) (base := base) B F45
  have c45 := mkCal (P := P) (w := w) (base := base) F45 o45 (g _ (by decide)) fun _ _ _ _ _ _ us hl => match us, hl with | [_, _], _ => rfl
  have o46 := ok_any (P := P) (w := w) (mg := mg) (base := base) B F46
  have c46 := mkCal (P := P) (w := w) (base := base) F46 o46 (g _ (by decide)) fun _ _ _ _ _ _ us hl => match us, hl with | [_, _], _ => rfl
  have o47 := ok_of (P := P) (w := w) (mg := mg) (base := base) B c46 F47
  have c47 := mkCal (P := P) (w := w) (base := base) F47 o47 (g _ (by decide)) fun _ _ _ _ _ _ us hl => match us, hl with | [_, _], _ => rfl
  have o48 := ok_mixed (P := P) (w := w) (mg := mg) (base := base) B c46 F48
  have c48 := mkCal (P := P) (w := w) (base := base) F48 o48 (g _ (by decide)) fun _ _ _ _ _ _ us hl => match us, hl with | [_, _], _ => rfl
  have o48v := ok_mixV (P := P) (w := w) (mg := mg) (base := base) B c46 F48
  have c48v := mkCal (P := P) (w := w) (base := base) F48 o48v (g _ (by decide)) fun _ _ _ _ _ _ us hl => match us, hl with | [_, _], _ => rfl
  have o49 := ok_then (P := P) (w := w) (mg := mg) (base := base) B F49
  have c49 := mkCal (P := P) (w := w) (base := base) F49 o49 (g _ (by decide)) fun _ _ _ _ _ _ us hl => match us, hl with | [_, _], _ => rfl
  have o50 := ok_backL (P := P) (w := w) (mg := mg) (base := base) B F50
  have c50 := mkCal (P := P) (w := w) (base := base) F50 o50 (g _ (by decide)) fun _ _ _ _ _ _ us hl => match us, hl with | [_], _ => rfl
  have o51 := ok_pwL (P := P) (w := w) (mg := mg) (base := base) B c49 c50 F51
  have c51 := mkCal (P := P) (w := w) (base := base) F51 o51 (g _ (by decide)) fun _ _ _ _ _ _ us hl => match us, hl with | [_, _], _ => rfl
  have o52 := ok_piece (P := P) (w := w) (mg := mg) (base := base) B F52
  have c52 := mkCal (P := P) (w := w) (base := base) F52 o52 (g _ (by decide)) fun _ _ _ _ _ _ us hl => match us, hl with | [_], _ => rfl
  have o53 := ok_bes (P := P) (w := w) (mg := mg) (base := base) B F53
  have c53 := mkCal (P := P) (w := w) (base := base) F53 o53 (g _ (by decide)) fun _ _ _ _ _ _ us hl => match us, hl with | [_, _], _ => rfl
  have o54 := ok_lot (P := P) (w := w) (mg := mg) (base := base) B c49 F54
  have c54 := mkCal (P := P) (w := w) (base := base) F54 o54 (g _ (by decide)) fun _ _ _ _ _ _ us hl => match us, hl with | [_, _], _ => rfl
  have o55 := ok_mac (P := P) (w := w) (mg := mg) (base := base) B c46 c52 c53 c48 c48v c54 F55
  have c55 := mkCal (P := P) (w := w) (base := base) F55 o55 (g _ (by decide)) fun _ _ _ _ _ _ us hl => match us, hl with | [_, _], _ => rfl
  have o56 := ok_steps (P := P) (w := w) (mg := mg) (base := base) B F56
  have c56 := mkCal (P := P) (w := w) (base := base) F56 o56 (g _ (by decide)) fun _ _ _ _ _ _ us hl => match us, hl with | [_], _ => rfl
  have o57 := ok_isb (P := P) (w := w) (mg := mg) (base := base) c51 c49 F57
  have c57 := mkCal (P := P) (w := w) (base := base) F57 o57 (g _ (by decide)) fun _ _ _ _ _ _ us hl => match us, hl with | [_, _, _], _ => rfl
  have o58 := ok_evr (P := P) (w := w) (mg := mg) (base := base) B c49 F58
  have c58 := mkCal (P := P) (w := w) (base := base) F58 o58 (g _ (by decide)) fun _ _ _ _ _ _ us hl => match us, hl with | [_], _ => rfl
  have o59 := ok_lra (P := P) (w := w) (mg := mg) (base := base) B c51 F59
  have c59 := mkCal (P := P) (w := w) (base := base) F59 o59 (g _ (by decide)) fun _ _ _ _ _ _ us hl => match us, hl with | [_, _], _ => rfl
  have o60 := ok_along (P := P) (w := w) (mg := mg) (base := base) c49 F60
  have c60 := mkCal (P := P) (w := w) (base := base) F60 o60 (g _ (by decide)) fun _ _ _ _ _ _ us hl => match us, hl with | [_, _], _ => rfl
  have o61 := ok_sb (P := P) (w := w) (mg := mg) (base := base) B c58 c47 c46 c57 F61
  have c61 := mkCal (P := P) (w := w) (base := base) F61 o61 (g _ (by decide)) fun _ _ _ _ _ _ us hl => match us, hl with | [_, _, _], _ => rfl
  have k41 := mkCalK (ks := ["count", "machine"]) (b := true) F41 o41 (g _ (by decide)) (fun _ _ _ _ _ _ us hl => match us, hl with | [_, _], _ => rfl)
  have k42 := mkCalK (ks := ["other", "one", "machine"]) (b := true) F42 o42 (g _ (by decide)) (fun _ _ _ _ _ _ us hl => match us, hl with | [_, _, _], _ => rfl)
  have o62 := ok_asked (P := P) (w := w) (mg := mg) (base := base) T2 T3 tx k41 k42 F62
  have c62 := mkCal (P := P) (w := w) (base := base) F62 o62 (g _ (by decide)) fun _ _ _ _ _ _ us hl => match us, hl with | [_, _, _], _ => rfl
  have o63 := ok_tm (P := P) (w := w) (mg := mg) (base := base) M gM oI bI c62 F63
  have b63 : L2.Binds K fd63 [] [] := F63.binds (fun _ _ _ _ _ _ us hl => match us, hl with | [], _ => rfl)
  have o64 := ok_closed (P := P) (w := w) (mg := mg) (base := base) c49 F64
  have c64 := mkCal (P := P) (w := w) (base := base) F64 o64 (g _ (by decide)) fun _ _ _ _ _ _ us hl => match us, hl with | [_], _ => rfl
  have o65 := ok_fa (P := P) (w := w) (mg := mg) (base := base) B c39 c57 c59 c60 c64 c33 F65
  have c65 := mkCalG (P := P) (w := w) (base := base) F65 o65 (g _ (by decide)) (fun _ _ _ _ _ _ us hl => match us, hl with | [_, _, _, _, _, _], _ => rfl)
  exact ok_law B M gM oI bI c45 c46 c47 c55 c56 c54 c58 c62 c59 c61 c60 c65 c57 c34 o63 (g _ (by decide)) F63.kp b63 F66
abbrev R10 : PySem.W.OpenRow := PySem.W.OpenLaw.row PySem.Challenge.rw_batchnumbers_k10_whole_powers_with_one_c
abbrev hk10 : PySem.W.Hook := hookZ 5 fa10 fn10 ex10
def ob10 (s : PySem.W.SharedT) : Al × Bool := obsZ 5 fa10 fn10 ex10 (HandSHeadRun.getT s)
theorem ob10_eq (s : PySem.W.SharedT) : ob10 s = hk10.obs s.abs := obsZ_eq (HandSHeadRun.getT_eq s)
def loose10 : List Str := (["BatchError", "MOST_CHANGES", "_wall", "InvalidMachine", "InvalidQuestion", "Refused", "Machine", "Table", "is_integer", "is_below", "is_sequence", "check_integer"] : List Str) ++ (["_is_entry", "first_losing", "idle_change", "composed", "first_unlike", "round_from", "_cycles", "raised", "commute", "commute_with_all", "all_commute", "numbered"] : List Str) ++ (["reached", "grown", "few_makers", "command_changes", "rows_by_change", "changes", "middle", "never_matters", "table_of", "is_batch_number", "powers", "go_along"] : List Str) ++ (["powers_of", "_law_draw", "_law_any", "_law_of", "_law_mixed", "_law_then", "_law_back", "_law_power", "_law_piece", "_law_beside", "_law_lot", "_law_machine"] : List Str) ++ (["_law_steps", "_law_is_batch", "_law_every", "_law_raised", "_law_along", "_law_some_batch", "_law_asked", "_law_too_many", "_law_closed", "_law_facts"] : List Str)
theorem run10 (w : World) : HandSHeadRun.RunEqI R10 (PySem.W.view R10.prog [66]) hk10 ob10 6000 loose10 w := by
  unfold HandSHeadRun.RunEqI
  kernel_rfl
end KV
open PySem PySem.W PySem.Calls PyProof.Rows
set_option maxRecDepth 100000 in
set_option maxHeartbeats 8000000 in
theorem PySem.Challenge.cw_batchnumbers_k10_whole_powers_with_one_c_holds : PySem.Challenge.rw_batchnumbers_k10_whole_powers_with_one_c.Holds := by
  w_on; o_law
  refine HandSHeadRun.head_imp (r := OpenLaw.row PySem.Challenge.rw_batchnumbers_k10_whole_powers_with_one_c) (q := view (OpenLaw.row PySem.Challenge.rw_batchnumbers_k10_whole_powers_with_one_c).prog [66]) (H := KV.hk10) (ob := KV.ob10) (M := 6000) (loose := KV.loose10) (d := HandSHeadRun.topDef (OpenLaw.row PySem.Challenge.rw_batchnumbers_k10_whole_powers_with_one_c).prog 66) (kwd := []) KV.ob10_eq
    KV.run10 (by kernel_rfl) (by kernel_rfl) (by kernel_rfl) (by rfl) (by first | assumption | decide +kernel) (by decide +kernel) ⟨rfl, rfl, rfl, rfl, rfl, by decide +kernel⟩ ?hw ?hc
  case hw => w_witness2
  case hc =>
    refine KV.walk_ofGE (l := PySem.Challenge.rw_batchnumbers_k10_whole_powers_with_one_c) (n := 63) (k := 9) (x := "_law_script") rfl (by decide) (by kernel_rfl) ⟨rfl, by decide, by decide⟩ ?F
    intro w mg fa h Y G hmg0
    obtain ⟨K, KX, c, b⟩ := Y
    have hmg : mg ("law" : PySem.Str) = some (.ref fa) := by
      have e : (HandSHeadRun.topDef (OpenLaw.row PySem.Challenge.rw_batchnumbers_k10_whole_powers_with_one_c).prog 66).name = ("law" : PySem.Str) := by kernel_rfl
      rw [← e]
      exact hmg0
    obtain ⟨fd, hb, hF⟩ := KV.end10 (P := (PySem.Challenge.rw_batchnumbers_k10_whole_powers_with_one_c).prog) (w := w) KX G hmg c b
    exact ⟨K, fd, KV.spLaw K, KX, hb, fun H a ns _ hS => ⟨a, ns, rfl, hS, fun _ => rfl⟩, hF⟩
