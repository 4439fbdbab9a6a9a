import PyProof.Rows.All
import Wide.All
import OpenK.AllK
import Wide.FinOn
import PyProof.EqAt
import PyProof.EqKinds
import PyProof.TupleCall
import PySem.Challenge.RW_batchnumbers_k23_machines_of_shelves
import HandS.ForMost
import HandS.ForExc
import HandS.Wide
import HandS.WideMore
import HandS.WideBits
import HandS.Gcd
import HandS.IsInst
import HandS.SortInts
import HandS.Flow
import HandS.Style
import HandS.RaiseMore
import HandS.TupAny
import KE.GoesMore
import KE.KMathGC
import HandS.OwnEq
import HandS.MakeKw
import HandS.MakeKwOnly
import PyProof.InstEq
import HandS.More
import HandS.Conv
import HandS.ExcOwn
import HandS.SetFor
import HandS.Zip
import HandS.TupMul
import HandS.Lambda
import HandS.HeadEnd
import HandS.HeadHook1
import HandS.HeadHook2
import HandS.Head0
import HandS.Head1
import HandS.Head2
import HandS.Head3
import HandS.HeadHook3
import HandS.HeadHook4
import HandS.TupSets
import HandS.DictTup
import HandS.TupLen
import HandS.Dict
import HandS.Small
import HandS.Walk
import HandS.NamedTupSort
import HandS.SortKw
import KE.KExcIs
import KE.DataMinMax
set_option Elab.async false
set_option linter.all false
set_option maxRecDepth 100000
set_option maxHeartbeats 4000000
/-! rules of our own over the hand layer -/
namespace KV
open PySem PySem.Spec PyProof.Rows L2
/-- a def of the module, by its name: it stands there and keeps a promise -/
def Cal (P : Program) (w : World) (K : PySem.W.Frag) (mg : Str → Option Value) (base : Heap) (Z : CXT) (k : Nat) (x : Str) (ps : List Str) (sp : Sp) : Prop :=
  ∃ (f : Addr) (fd : FuncData), FnOk P w K mg base Z k f fd ps sp ∧ mg x = some (.ref f) ∧ PySem.W.keepIn K (.ref f) = true ∧ Binds K fd ps []
section
variable {X : Cx} {k j : Nat} {x : Str} {ps : List Str} {sp : Sp} {p pos : Pos} {e : Expr} {es : List Expr} {t : TA}
theorem pe_cal (C : Cal X.prog X.w X.K X.mg X.base CX0 k x ps sp) (hr : Room j X.A) (hj : k ≤ j) (ha : PA X (e :: es) t)
    (hg : Gl X x := by rfl) (hdb : (x == ("__debug__" : Str)) = false := by decide)
    (he : starEach (e :: es) X.env = (false, eval e X.env) :: starEach es X.env := by rfl)
    (hpl : (backTo pos (starEach es X.env)).any (·.1) = false := by rfl) :
    PE X (.Call (.Name x p) (e :: es) [] pos) (tCall sp [] E0 t) := by
  obtain ⟨f, fd, F, h1, h2, h3⟩ := C
  exact pe_call F (hr.mono hj) hg h1 h2 h3 .nil pass0 ha hdb he hpl
end

/-- repr of a truth value, of an int, of a tuple of ints -/
def rRepr (K : PySem.W.Frag) : List V → Hp → VK → Prop := fun xs H Q =>
  (∃ b : Bool, xs = [.bl b] ∧ Q (.str (if b then "True" else "False")) H) ∨ (∃ i : Int, xs = [.int i] ∧ i.natAbs.log2 < 1920 ∧ Q (.str (toString i)) H) ∨
  ∃ (a : Addr) (ns : List Int), xs = [.ref a] ∧ SqT K H a (ns.map V.int) ∧ (∀ n ∈ ns, n.natAbs.log2 < 1920) ∧ (PyData.tuple (ns.map PyData.int)).shown.length ≤ sizeLine ∧ Q (.str (PyData.tuple (ns.map PyData.int)).shown) H
theorem dp_ints {K : PySem.W.Frag} {H : Hp} : ∀ ns : List Int, DpAll K H (ns.map V.int) (ns.map PyData.int)
  | [] => .nil
  | n :: r => .cons (.int n) (dp_ints r)
theorem showAll_ints : ∀ ns : List Int, (∀ n ∈ ns, n.natAbs.log2 < 1920) → PyData.showableAll (ns.map PyData.int) = true
  | [], _ => rfl
  | n :: r, h => by
    have h1 := h n (by simp)
    have h2 := showAll_ints r fun m hm => h m (by simp [hm])
    simp only [List.map_cons, PyData.showableAll, PyData.showable, h2, h1, decide_true, Bool.and_self]
theorem noDict_ints : ∀ ns : List Int, PyData.hasDictAll (ns.map PyData.int) = false
  | [] => rfl
  | n :: r => by simp only [List.map_cons, PyData.hasDictAll, PyData.hasDict, noDict_ints r, Bool.or_self]
theorem depth_ints : ∀ ns : List Int, PyData.depthAll (ns.map PyData.int) = 0
  | [] => rfl
  | n :: r => by simp only [List.map_cons, PyData.depthAll, PyData.depth, depth_ints r, Nat.max_self]
theorem call_repr {X : Cx} (hg : X.A.guards = some []) (hu : X.A.units + 64 < cLine) : CallR X (.builtin "repr") (rRepr X.K) := by
  intro pins s σ H xs us Q I r h
  rcases h with ⟨b, rfl, q⟩ | ⟨i, rfl, hz, q⟩ | ⟨a, ns, rfl, hs, hb, hz, q⟩
  · obtain ⟨u, rfl, r1⟩ := vals1 r
    cases r1
    exact PySem.P.repr_of_bool ⟨.str _, H, I.tok _, ⟨_, rfl⟩, q⟩
  · obtain ⟨u, rfl, t, rfl⟩ := vals1 r
    exact PySem.P.repr_of_int hz ⟨.str _, H, I.tok _, ⟨_, rfl⟩, q⟩
  · obtain ⟨u, rfl, r1⟩ := vals1 r
    have r2 : RelV (.ref a) u := r1
    obtain ⟨as, rd⟩ := Dp.reads I (.tuple (ns.map PyData.int)) (.ref a) u (.tup hs (dp_ints ns)) r2
    cases r1
    refine repr_of_reads' rd (by simp only [PyData.showable]; exact showAll_ints ns hb) (fun z => ?_) hg (by simp only [PyData.depth, depth_ints]; omega) (fun _ _ z => z) (fun h' u tk kk => ?_) hz
    · simp only [PyData.hasDict, noDict_ints] at z
      exact absurd z Bool.false_ne_true
    · exact ⟨.str _, H, I.kept kk, ⟨_, rfl⟩, q⟩
end KV

/-! a def that is called where no repr is under way (the law's own def): the rule for its body, and the end -/
namespace KV
open PySem PySem.Spec PyProof.Rows L2
structure FnOkG (P : Program) (w : World) (K : PySem.W.Frag) (mg : Str → Option Value) (base : Heap) (k : Nat) (f : Addr) (fd : FuncData) (ps : List Str) (sp : Sp) : Prop where
  size : ∀ xs G R Z, sp xs G R Z → xs.length = ps.length
  go : ∀ (B : Around) (out : List Env) (st : Shared) (G : Hp) (ar : Args) (ws : List Value) (xs : List V) (R : VK) (Z : XK), Room k B → B.guards = some [] → Env0 P w K mg base B out st G →
    BindsTo st fd ar (ps.zip ws) → Vals xs ws → sp xs G R Z → codeAny (model P w) B (.call (.ref f) ar) (CR CX0 out P w G st R Z) st
theorem fn_ofG {P : Program} {w : World} {K : PySem.W.Frag} {mg : Str → Option Value} {base : Heap} {k : Nat} {f : Addr} {nm ql : Str} {pa : Arguments} {bo : List Stmt} {sc : Scope} {dv kv dc pm cd ct oc : Value} {an od : Option Addr}
    {sl : Array (Option Value)} {N ps : List Str} {sp : Sp} (there : K.lookup f = some ⟨oc, od, .func (PySem.W.fnOf nm ql pa bo sc dv kv dc pm an cd ct), sl⟩) (code : PySem.W.codeIn K cd ql = true) (S : FnScope N ps sc)
    (size : ∀ xs G R Z, sp xs G R Z → xs.length = ps.length)
    (bodyOk : ∀ (B : Around) (out : List Env) (st : Shared) (G : Hp) (xs : List V) (R : VK) (Z : XK), Room k (B.deeper (envOfC ql sc st.heap.objs.size f cd)) → B.guards = some [] → sp xs G R Z →
      ∃ t, PSs (cxOf CX0 P w K mg base N ql sc f cd B out st G Z) bo t ∧ t { nx := fun _ G' => R .non G', rt := R } (start N xs) G) :
    FnOkG P w K mg base (k + 1) f (PySem.W.fnOf nm ql pa bo sc dv kv dc pm an cd ct) ps sp := by
  constructor
  · exact size
  intro B out st G ar ws xs R Z room gd e0 bnd rel want
  have len := size _ _ _ _ want
  have inK : K.In st.heap := e0.mod.kin.keeps fun b o q => (e0.bs b o q).1
  have noLim : st.heap.NoLimit := e0.mod.nolimit.keeps fun b o q => (e0.bs b o q).1
  have kinds : ∀ y ∈ ps.zip ws, sc.names.lookup y.1 = some .local ∨ (sc.names.lookup y.1 = some .cell ∧ ((cellsFrom (st.heap.objs.size + 1) sc.names []).lookup y.1).isSome = true) := by
    rintro ⟨n, v⟩ hy
    rcases S.par n (List.of_mem_zip hy).1 with q | q
    · exact .inl q
    · exact .inr ⟨q, PySem.W.cellsFrom_some _ _ _ (.inl q)⟩
  refine codeAny_call_function room.depth (inK _ _ there) rfl S.co S.gen rfl (PySem.W.codeRec_of inK code) (bnd _ _ _ _ ?_)
  refine wpAny_newFunctionEnv_cells S.kind kinds fun env henv s2 x => ?_
  subst henv
  refine ⟨noLim.keeps x.toInCall.keep, codeAny_func ?_⟩
  obtain ⟨t, ht, hq⟩ := bodyOk B out st G xs R Z (room.deeper _) gd want
  have J := inv_start (CX := CX0) (E := Z) S room.hd e0 len rel x
  refine wpAny_mono (ht.run [] s2 (start N xs) G _ J hq) (fun fl s3 hs => ?_) (fun _ _ z => z)
  cases fl with
  | brk => exact hs.elim fun _ ⟨_, _, z⟩ => z.elim
  | cont => exact hs.elim fun _ ⟨_, _, z⟩ => z.elim
  | ret u =>
    obtain ⟨v, σ3, G3, J3, rv, q⟩ := hs
    exact ⟨v, G3, J3.os, J3.bare, J3.base, J3.hok, rv, q⟩
  | next =>
    obtain ⟨σ3, G3, J3, q⟩ := hs
    exact ⟨V.non, G3, J3.os, J3.bare, J3.base, J3.hok, rfl, q⟩

/-- the law's call, behind the top -/
theorem law_callG {P : Program} {w : World} {K : PySem.W.Frag} {mg mb : Str → Option Value} {k : Nat} {fa a : Addr} {fd : FuncData} {x : Str} {sp : Sp} {st : Shared} {vs : List Value} {ns : List Int}
    (inK : K.In st.heap) (gl : st.heap.Ns mainGlobals mg) (bl : st.heap.Ns builtinsNs mb) (blb : ∀ y : Str, y ≠ "__name__" → mb y = bootBuiltins y) (noLim : st.heap.NoLimit) (gens : st.gens = #[])
    (scr : st.heap.get? a = some { cls := .type "list", data := .seq vs.toArray }) (isI : IntsAre vs ns) (few : ns.length ≤ sizeLine) (room : Room k callerA)
    (F : ∀ base : Heap, K.In base → base.Ns mainGlobals mg → FnOkG P w K mg base k fa fd [x] sp) (bnd : ∀ (s : Shared) (u : Value), BindsTo s fd ⟨[u], []⟩ [(x, u)])
    (want : ∀ G : Hp, SqL K G a (ns.map V.int) → sp [.ref a] G (fun v _ => v = .bl true) fun _ _ _ => False) :
    codeAny (model P w) callerA (.call (.ref fa) ⟨[.ref a], []⟩) (fun r s' => r = .ok (.ret (.bool true)) ∧ OldK st.heap s'.heap ∧ s'.os = st.os ∧ AllBare s'.gens) st := by
  have rel := vals_ints isI
  have lens := isI.length
  have core : ∀ G : Hp, Only G → SqL K G a (ns.map V.int) → HOk P w G st.heap → (∀ b, G b ≠ none → b = a) → (G a ≠ none → K.lookup a = none) →
      codeAny (model P w) callerA (.call (.ref fa) ⟨[.ref a], []⟩) (fun r s' => r = .ok (.ret (.bool true)) ∧ OldK st.heap s'.heap ∧ s'.os = st.os ∧ AllBare s'.gens) st := by
    intro G only sq ok one out
    have free : ∀ {b : Addr} {o : Obj} {es : Array DictEntry} {ep : Nat}, st.heap.get? b = some o → o.data = .dict es ep → G b = none := by
      intro b o es ep q d
      cases z : G b with
      | none => rfl
      | some u =>
        have : b = a := one b (by simp [z])
        subst this
        rw [scr] at q
        cases q
        cases (show Data.seq vs.toArray _ = Data.dict es ep from d)
    have ns2 : ∀ {b : Addr} {m : Str → Option Value}, st.heap.Ns b m → (hidT st.heap G).Ns b m := fun ⟨o, es, ep, q, d, r⟩ => ⟨o, es, ep, hidT_get q (free q d), d, r⟩
    have inB : K.In (hidT st.heap G) := by
      intro b o q
      refine hidT_get (inK b o q) ?_
      cases z : G b with
      | none => rfl
      | some u =>
        have : b = a := one b (by simp [z])
        subst this
        rw [out (by simp [z])] at q
        cases q
    have hm : Mod K mg (hidT st.heap G) := ⟨inB, ns2 gl, ⟨mb, ns2 bl, blb⟩, let ⟨mc, h1, h2⟩ := noLim; ⟨mc, ns2 h1, h2⟩⟩
    have e0 : Env0 P w K mg (hidT st.heap G) callerA [] st G :=
      ⟨rfl, hm, fun b o q => of_hidT q, Nat.le_of_eq (hidT_size _ _), trivial, fun b hb => absurd (show b ∈ ([] : List Addr) from hb) (by simp), ok, .of_eq gens⟩
    refine codeAny_mono ((F _ inB (ns2 gl)).go callerA [] st G ⟨[.ref a], []⟩ [.ref a] [.ref a] _ _ room rfl e0 (bnd st (.ref a)) (.cons rfl .nil) (want G sq)) fun r s' h => ?_
    cases r with
    | error e => exact False.elim h
    | ok fl =>
      cases fl with
      | next => exact False.elim h
      | brk => exact False.elim h
      | cont => exact False.elim h
      | ret u =>
        obtain ⟨v, G', os, bare, un, ok', r', q⟩ := h
        have q2 : v = .bl true := q
        subst q2
        have u2 : u = Value.bool true := r'
        subst u2
        refine ⟨rfl, OldK.of_keep fun b o e => ?_, os, bare⟩
        cases z : G b with
        | none => exact un.keep b o e z (by intro y; exact absurd (show b ∈ ([] : List Addr) from y) (by simp)) (by simp)
        | some u =>
          rcases only b with y | ⟨ob, xs, y⟩
          · rw [z] at y
            cases y
          · have y2 := un.frzs b ob _ y
            have f1 := (ok b _ y).1
            have f2 := (ok' b _ y2).1
            rw [e] at f1
            cases f1
            exact f2
  cases hk : K.lookup a with
  | none =>
    refine core (fun b => if b = a then some (.frz { cls := .type "list", data := .seq vs.toArray } (.lst (ns.map V.int))) else none) (fun b => ?_)
      (.inl (.inr ⟨{ cls := .type "list", data := .seq vs.toArray }, if_pos rfl⟩)) (fun b u z => ?_) (fun b z => ?_) (fun _ => hk)
    · by_cases hb : b = a
      · exact .inr ⟨_, _, if_pos hb⟩
      · exact .inl (if_neg hb)
    · by_cases hb : b = a
      · have z2 := (if_pos hb).symm.trans z
        cases z2
        subst hb
        exact ⟨scr, by rw [List.length_map]; exact few, vs, _, rel, scr⟩
      · have z2 := (if_neg hb).symm.trans z
        cases z2
    · by_cases hb : b = a
      · exact hb
      · exact absurd (if_neg hb) z
  | some o =>
    have e := inK a o hk
    rw [scr] at e
    cases e
    refine core (fun _ => none) (fun _ => .inl rfl) (.inr ⟨_, vs.toArray, _, hk, rfl, rfl, rfl, ?_, by simpa using rel⟩) (fun b u z => ?_) (fun b z => absurd rfl z) (fun z => absurd rfl z)
    · rw [List.size_toArray, lens]
      exact few
    · cases (show (none : Option HO) = some u from z)
/-- what k_head leaves, from the law's promise -/
theorem walk_ofG {l : PySem.W.OpenLaw} {n k : Nat} {q : Program} {loose : List Str} {XP : (Str → Option Value) → Heap → Prop} {YP : World → Heap → Prop} {d : DefRec} {K : Params → PySem.W.Frag} {sp : World → Sp} {x : Str}
    (most : l.most = some n) (fits : n ≤ sizeLine) (plain : d.params.defaults = []) (room : Room k callerA) (hY : ∀ (w : World) (h : Heap), YP w h → (K w.params).In h)
    (F : ∀ (w : World) (mg : Str → Option Value) (fa : Addr) (h : Heap), (K w.params).In h → h.Ns mainGlobals mg → mg d.name = some (.ref fa) →
      ∃ fd : FuncData, (∀ (s : Shared) (u : Value), BindsTo s fd ⟨[u], []⟩ [(x, u)]) ∧ ∀ base : Heap, (K w.params).In base → base.Ns mainGlobals mg → FnOkG l.prog w (K w.params) mg base k fa fd [x] (sp w))
    (want : ∀ (w : World) (G : Hp) (a : Addr) (ns : List Int), ns.length ≤ n → SqL (K w.params) G a (ns.map V.int) → sp w [.ref a] G (fun v _ => v = .bl true) fun _ _ _ => False) :
    PySem.W.WalkO q loose XP YP l.row.toRowW d [] (fun f vs => PySem.call f vs) := by
  refine Att.attach_call most plain fun w s0 s1 mg mb fa o pm cd doc a vs ns G Y ho hd hcd hmg hobj hints hlen hg => ?_
  obtain ⟨fd, hb, hF⟩ := F w mg fa _ (hY w _ Y) G.T.g hmg
  exact law_callG (hY w _ Y) G.T.g G.T.b G.T.builtins G.T.nolimit hg hobj hints (Nat.le_trans hlen fits) room hF hb fun H hS => want w H a ns hlen hS
end KV

namespace PySem
namespace LowX
open PySem.W PySem.Calls PyProof.Rows PySem.HandSPX
/-! ### the text of __init__ -/
def iA (p1 p2 : Pos) : Arguments := { posonlyargs := [], args := [{ arg := "self", annotation := none, pos := p1 }, { arg := "at", annotation := none, pos := p2 }], vararg := none, kwonlyargs := [], kw_defaults := [], kwarg := none, defaults := [] }
def iB (q1 q2 q3 q4 : Pos) : List Stmt := [.Assign [.Attribute (.Name "self" q1) "at" q2] (.Name "at" q3) q4]
def iS : Scope := { kind := .function, names := [(PySem.Str.ofString "self", .local), (PySem.Str.ofString "at", .local)], isGenerator := false, isCoroutine := false, more := [] }
/-- what the written part says of Low, at C, and of its __init__, at fI -/
structure LowTxt (K : Frag) (mg : Str → Option Value) (nm ql : Str) (C fI : Addr) : Prop where
  gC : mg nm = some (.ref C)
  nd : (nm == ("__debug__" : Str)) = false
  cls : ∃ nm q N bs bm sn sub ab col dd k0 k1 k2 k3 k5, K.lookup C = some (excClassObj nm q C N bs bm true sn sub ab col dd k0 k1 k2 k3 k5 "ValueError.__new__") ∧ refsVE bm = true
  sa : findIn K (.ref C) "__setattr__" = some (some (.builtin "object.__setattr__"))
  ga : findIn K (.ref C) "__getattribute__" = some (some (.builtin "BaseException.__getattribute__"))
  gg : findIn K (.ref C) "__getattr__" = some none
  noN : findIn K (.ref C) "at" = some none
  iC : findIn K (.ref C) "__init__" = some (some (.ref fI))
  tC : typeIn K (.ref fI) = some (.type "function")
  kC : keepIn K (.ref C) = true
  exC : subIn K (.ref C) (.type "BaseException") = some true
  tyC : typeIn K (.ref C) = some (.type "type")
  hdC : hasDictIn K C = true
  te : exmOne K (.ref C) (.ref C) = some true
  fn : ∃ (oc : Value) (od : Option Addr) (doc pm : Value) (an : Option Addr) (cdv ct : Value) (osl : Array (Option Value)) (p1 p2 q1 q2 q3 q4 : Pos),
    K.lookup fI = some ⟨oc, od, .func (fnOf "__init__" ql (iA p1 p2) (iB q1 q2 q3 q4) iS .none .none doc pm an cdv ct), osl⟩ ∧ codeIn K cdv ql = true
theorem one_size (v : Value) : [v].length ≤ sizeLine := by
  rw [sizeLine_eq]
  exact (by decide : 1 ≤ 16777216)
theorem kept_but {K : Frag} {h h' : Heap} {x : Addr} (X : K.In h) (hx : K.lookup x = none) (k : ∀ b o, b ≠ x → h.get? b = some o → h'.get? b = some o) : K.In h' := fun a o e =>
  k a o (fun z => by rw [z, hx] at e; cases e) (X a o e)
theorem ldC {M : Model} {s : Shared} {name : Str} {scope : Scope} {L a : Addr} {cd : Value} {m : Str → Option Value} {x : Str} {pos : Pos} {v : Value} {Q : Value → Shared → Prop} {A : Around} {E : Value → Shared → Prop} (hn : s.heap.Ns L m) (hv : m x = some v) (h : Q v s)
    (hk : scope.kind = .function := by rfl) (hl : (envOfC name scope L a cd).kindOf x = some .local := by rfl) (hd : (x == ("__debug__" : Str)) = false := by decide) :
    wpAny M A (eval (.Name x pos) (envOfC name scope L a cd)) Q E s := wpAny_Name (wpAny_loadName_local hk hl hn hv h) hd
/-- what __init__ leaves of a fresh exception at x -/
structure InitEnd (h h' : Heap) (x C dx t1 : Addr) (v : Value) : Prop where
  keep : ∀ b o, b ≠ x → h.get? b = some o → h'.get? b = some o
  obj : h'.get? x = some { cls := .ref C, dict := some dx, data := .fields #[.ref t1, .none, .none, .none, .bool false, .none] }
  dbig : h.objs.size ≤ dx
  dne : dx ≠ x
  ns : h'.Ns1 dx (fun y => if y = "at" then some v else none)
/-- a made Low -/
structure OwnMade (h h' : Heap) (e C d : Addr) (v : Value) : Prop where
  keep : ∀ b o, h.get? b = some o → h'.get? b = some o
  new : h.objs.size ≤ e
  obj : ∃ oe vs, h'.get? e = some oe ∧ oe.cls = .ref C ∧ oe.dict = some d ∧ oe.data = .fields vs ∧ vs[1]? = some .none
  dbig : h.objs.size ≤ d
  dne : d ≠ e
  ns : h'.Ns1 d (fun y => if y = "at" then some v else none)
section
variable {prog : Program} {w : World} {A : Around} {E : Value → Shared → Prop} {R : Result → Shared → Prop} {s : Shared} {K : Frag} {mg : Str → Option Value} {nm ql : Str} {C fI : Addr}
theorem low_init (T : LowTxt K mg nm ql C fI) {x t0 : Addr} {v : Value} (X : K.In s.heap) (hlim : s.heap.NoLimit) (hx : s.heap.get? x = some (excO C t0)) (hnx : K.lookup x = none) (hroom : A.depth < recursionLimit)
    (hq : ∀ h' tk dx, InitEnd s.heap h' x C dx t0 v → R (.ok (.ret .none)) { s with heap := h', toks := tk }) :
    codeAny (model prog w) A (.call (.ref fI) ⟨[.ref x, v], []⟩) R s := by
  obtain ⟨oc, od, doc, pm, an, cdv, ct, osl, p1, p2, q1, q2, q3, q4, ho, hcd⟩ := T.fn
  obtain ⟨nm, q, N, bs, bm, sn, sub, ab, col, dd, k0, k1, k2, k3, k5, hC, hbm⟩ := T.cls
  have hcl : clsIn K C = some { name := nm, bases := bs, mro := .ref C :: bm, ns := N, qualname := q, hasDict := true, slotNames := sn, subclasses := sub, abstract := ab, collection := col, hasDel := false } := by unfold clsIn; rw [hC] <;> rfl
  refine Att.call_fn (binds := [("self", .ref x), ("at", v)]) X hlim ho hcd hroom (BindsTo.of_eq (by first | rfl | with_unfolding_all rfl)) (by first | rfl | decide | with_unfolding_all rfl) (fun s₁ IC => ?_) rfl rfl rfl
  obtain ⟨h₁, tk₁, rfl⟩ := IC.toInCall.same
  have k : ∀ b o, s.heap.get? b = some o → h₁.get? b = some o := IC.toInCall.keep
  have hn := IC.toInCall.ns
  have hxL : s.heap.objs.size ≠ x := Nat.ne_of_gt (Heap.lt_size hx)
  have X₁ : K.In h₁ := X.keeps k
  have hx₁ := k _ _ hx
  -- self.by = by
  show wpAny _ _ (execs _ _) _ _ _
  refine wpAny_execs_cons (plainObj_wpAny_Assign_Attribute ?_)
  refine ldC (v := v) hn (by first | rfl | with_unfolding_all rfl | kernel_rfl) (ldC (v := .ref x) hn (by first | rfl | with_unfolding_all rfl | kernel_rfl) ?_)
  refine set_plain X₁ (ox := excO C t0) (od := none) ⟨hx₁, rfl, rfl, trivial⟩ T.sa ?_
  refine exc_osa X₁ hx₁ hcl (show refsVE (.ref C :: bm) = true from hbm) rfl T.noN (fun h₃ tk₃ dx k₃ dn dne hx₃ hn₃ => ?_)
  show wpAny _ _ (execs _ _) _ _ _
  have z : s.heap.objs.size < h₁.objs.size := hn.lt
  exact wpAny_execs_nil (hq h₃ tk₃ dx ⟨fun b o hb e => k₃ b o hb (k b o e), hx₃, Nat.le_of_lt (Nat.lt_of_lt_of_le z dn), dne, hn₃⟩)
theorem low_made (T : LowTxt K mg nm ql C fI) {v : Value} (X : K.In s.heap) (hlim : s.heap.NoLimit) (hroom : A.depth + 1 < recursionLimit)
    (hq : ∀ h' tk e d, OwnMade s.heap h' e C d v → R (.ok (.ret (.ref e))) { s with heap := h', toks := tk }) :
    codeAny (model prog w) A (.call (.ref C) ⟨[v], []⟩) R s := by
  obtain ⟨nm, q, N, bs, bm, sn, sub, ab, col, dd, k0, k1, k2, k3, k5, hC, hbm⟩ := T.cls
  obtain ⟨hp, g, dr, tk, os⟩ := s
  have k : ∀ b o, hp.get? b = some o → ((hp.push (kdv_tup [v])).push (excO C hp.objs.size)).get? b = some o := fun b o e => Heap.get?_push_of_some _ (Heap.get?_push_of_some _ e)
  have hget : ((hp.push (kdv_tup [v])).push (excO C hp.objs.size)).get? (hp.objs.size + 1) = some (excO C hp.objs.size) := by heap_get
  have hnx : K.lookup (hp.objs.size + 1) = none := by
    cases e : K.lookup (hp.objs.size + 1) with
    | none => rfl
    | some o =>
      have z : hp.get? (hp.objs.size + 1) = some o := X _ _ e
      exact absurd (Nat.lt_of_succ_lt (Heap.lt_size z)) (Nat.lt_irrefl _)
  refine call_own F.excBase_ValueError (fun X => refsVE_contains X bm hbm) (X _ _ hC) (looks_findIn X T.iC) (fun self => bind_fn X self T.tC) (one_size v) ?_
  refine low_init (s := ⟨(hp.push (kdv_tup [v])).push (excO C hp.objs.size), g, dr, tk, os⟩) T (X.keeps k) (hlim.keeps k) hget hnx ?_ fun h' tk' dx ⟨k', hx, dn, dne, hns⟩ => ?_
  · show A.depth + 1 < recursionLimit
    exact hroom
  · have old : ∀ b o, hp.get? b = some o → h'.get? b = some o := fun b o e => k' b o (Nat.ne_of_lt (Nat.lt_succ_of_lt (Heap.lt_size e))) (k b o e)
    have z : hp.objs.size + 1 + 1 ≤ dx := by
      first
        | (simpa only [Heap.size_push] using dn)
        | exact dn
        | (have q := dn; rw [Heap.size_push, Heap.size_push] at q; exact q)
    exact ⟨rfl, hq h' tk' (hp.objs.size + 1) dx ⟨old, Nat.le_succ _, ⟨_, _, hx, rfl, rfl, rfl, rfl⟩, Nat.le_trans (Nat.le_trans (Nat.le_succ _) (Nat.le_succ _)) z, dne, hns⟩⟩
end
end LowX
end PySem
namespace L2
open PySem PySem.Spec PyProof.Rows
theorem relO_low {v : V} {v' : Value} (r : RelV v v') (f : Str) : RelO (List.lookup f [(("at" : Str), v)]) (if f = "at" then some v' else none) := by
  by_cases hw : f = "at"
  · subst hw
    rw [if_pos rfl]
    have q : List.lookup ("at" : Str) [(("at" : Str), v)] = some v := by simp [List.lookup]
    rw [q]
    exact r
  · rw [if_neg hw]
    have qw : (f == ("at" : Str)) = false := by simpa using hw
    have q2 : List.lookup f [(("at" : Str), v)] = none := by simp [List.lookup, qw]
    rw [q2]
    trivial
section
variable {X : Cx} {nm ql : Str} {C fI : Addr}
/-- Low(e) -/
def tMkLow (C : Addr) (ta : TA) : St → Hp → XK → Prop := fun σ H Q => ta σ H fun vs H1 => ∃ v, vs = [v] ∧ ∀ d, H1 d = none → Q (.ref C) (some d) (upd H1 d (.xd [(("at" : Str), v)]))
theorem pmk_low {a : Expr} {ta : TA} {p pos : Pos} {k : Nat} (T : PySem.LowX.LowTxt X.K X.mg nm ql C fI) (hr : Room k X.A) (ha : PA X [a] ta) (hg : Gl X nm := by rfl)
    (he : starEach (a :: []) X.env = (false, eval a X.env) :: starEach [] X.env := by rfl) (hpl : (backTo pos (starEach [] X.env)).any (·.1) = false := by rfl) :
    PMk X (.Call (.Name nm p) [a] [] pos) (tMkLow C ta) := by
  intro pins s σ H Q I h
  refine wpAny_Call_Name_kw (ld_glob I hg T.gC ?_ T.nd)
  refine PySem.W.callWith_K (h₀ := X.base) I.ok.mod.kin T.kC (thn (ha.run pos pins s σ H _ I h) fun us s1 hh => ?_) he hpl
  obtain ⟨vs, H1, I1, r1, v, ev, q1⟩ := hh
  subst ev
  refine ⟨I1.kIn, ?_⟩
  cases r1 with
  | cons rv rn =>
    rename_i v' us'
    cases rn
    show wpAny _ _ (call (.ref C) [v']) _ _ _
    have hlim := I1.nolimit
    obtain ⟨hp, g, dr, tk, os⟩ := s1
    refine wpAny_call (PySem.LowX.low_made T I1.kIn hlim (by have := hr.dp; omega) fun h' tk' e d M => ?_)
    show MkP X pins σ Q (.ref e) ⟨h', g, dr, tk', os⟩
    obtain ⟨oe, fv, hoe, hc, hd, hdat, h1⟩ := M.obj
    have hns := M.ns
    obtain ⟨G', g1, g2⟩ := restrict h' fun b => decide (b ≠ e)
    have gk : ∀ b, b ≠ e → G'.get? b = h'.get? b := fun b hb => g1 b (decide_eq_true hb)
    have ge : G'.get? e = none := g2 e (by simp)
    have old : ∀ b o, hp.get? b = some o → G'.get? b = some o := fun b o q => (gk b (Nat.ne_of_lt (Nat.lt_of_lt_of_le (Heap.lt_size q) M.new))).trans (M.keep b o q)
    have ob : ObjOk X.prog X.w (upd H1 d (.xd [(("at" : Str), v)])) G' d (.xd [(("at" : Str), v)]) :=
      ⟨_, hns.at (fun o q => (gk d M.dne).trans q), fun f => relO_low rv f⟩
    have J : Inv X pins σ (upd H1 d (.xd [(("at" : Str), v)])) ⟨G', g, dr, tk', os⟩ := I1.laid (t' := tk') old M.dbig ob
    refine ⟨e, oe, fv, ⟨G', g, dr, tk', os⟩, _, .ref C, some d, rfl, J, fun b o q => ?_, ge, hoe, ⟨hc, hd⟩, hdat, h1, ?_, rfl, I1.bare, raises_own T.exC T.tyC, q1 d (I1.hok.fresh M.dbig)⟩
    · by_cases hb : b = e
      · have q' : G'.get? b = some o := q
        rw [hb, ge] at q'; cases q'
      · exact (gk b hb).symm.trans q
    · rw [upd_ne (Ne.symm M.dne)]
      exact I1.hok.fresh M.new
/-- raise Low(e) -/
def tRaiseLow (C : Addr) (W : WX) (ta : TA) : TS := fun _ σ H => tMkLow C ta σ H fun cls d H' => W cls d σ H'
theorem ps_raiseLow {a : Expr} {ta : TA} {W : WX} {p pos pos2 : Pos} {k : Nat} (hc : X.calm = true) (T : PySem.LowX.LowTxt X.K X.mg nm ql C fI) (hr : Room k X.A) (tk : Takes X W) (ha : PA X [a] ta) (hg : Gl X nm := by rfl)
    (he : starEach (a :: []) X.env = (false, eval a X.env) :: starEach [] X.env := by rfl) (hpl : (backTo pos (starEach [] X.env)).any (·.1) = false := by rfl) :
    PS X (.Raise (some (.Call (.Name nm p) [a] [] pos)) none pos2) (tRaiseLow C W ta) := ps_raise hc tk (pmk_low T hr ha hg he hpl)
/-- low.by, low the exception that the suite holds (at a; its class cls, its dict d) -/
def tByLow (C : Addr) (a : Addr) (cls : Value) (d : Option Addr) (te : TE) : TE := fun σ H Q => te σ H fun x H1 => x = .ref a ∧ cls = .ref C ∧ ∃ (dd : Addr) (v : V), d = some dd ∧ H1 dd = some (.xd [(("at" : Str), v)]) ∧ Q v H1
theorem pe_byLow {a : Addr} {oe : Obj} {cls : Value} {d : Option Addr} {pn : List (Addr × Obj)} {e : Expr} {te : TE} {pos : Pos} (T : PySem.LowX.LowTxt X.K X.mg nm ql C fI) (hz : Zc cls d oe) (hf : ∃ vs, oe.data = .fields vs) (he : PE (X.suite a ((a, oe) :: pn)) e te)
    (hb : attributeBase e "at" X.env (eval e X.env) = eval e X.env := by rfl) :
    PE (X.suite a ((a, oe) :: pn)) (.Attribute e "at" pos) (tByLow C a cls d te) := by
  refine ⟨fun pins s σ H Q I h => ?_⟩
  refine attr_of hb (thn (he.run pins s σ H _ I h) fun u s1 hh => ?_)
  obtain ⟨x, H1, I1, rx, ex, ec, dd, v, ed, ea, q⟩ := hh
  subst ex
  obtain rfl : u = Value.ref a := rx
  subst ec
  subst ed
  obtain ⟨ha, _⟩ := I1.pin (a, oe) (List.mem_append_left _ List.mem_cons_self)
  obtain ⟨vs, hd⟩ := hf
  have hx : ObjOk X.prog X.w H1 s1.heap dd (.xd [(("at" : Str), v)]) := I1.hok dd _ ea
  obtain ⟨mA, hns, hr⟩ := hx
  obtain ⟨od, ho, hl⟩ := lookIn_ns hns
  have l : List.lookup ("at" : Str) [(("at" : Str), v)] = some v := by simp [List.lookup]
  obtain ⟨u, hu, ru⟩ := RelO.some_of (v := v) (o := mA "at") (by rw [← l]; exact hr "at")
  have J : PySem.W.InstAt s1.heap a oe C (some od) := ⟨ha, hz.1, by unfold PySem.W.notCls; rw [hd] <;> rfl, by rw [hz.2]; exact ho⟩
  exact HandSPX.exc_get I1.kIn J T.ga T.gg T.exC (PySem.W.findObj_own T.hdC T.noN rfl (by rw [hl, hu])) (handed_of ru) ⟨v, H1, I1.tok _, ru, q⟩
end
end L2

/-! the head: what the top leaves, looked at once -/
namespace KV
open PySem PySem.Spec PyProof.Rows L2 He
/-- a global that is a built-in -/
def bltB (K : PySem.W.Frag) (x : Str) (id : String) : Bool := match PySem.W.nsIn K mainGlobals x with
  | some (some (.builtin i)) => decide (i = id)
  | _ => false
theorem bltB_ok {K : PySem.W.Frag} {h : Heap} {mg : Str → Option Value} (X : K.In h) (G : h.Ns mainGlobals mg) {x : Str} {id : String} (c : bltB K x id = true) : mg x = some (.builtin id) := by
  unfold bltB at c
  split at c
  · rename_i i e
    rw [← of_decide_eq_true c]
    exact PySem.W.mg_of X G e
  · cases c
/-- an error's class over ValueError -/
def errB (K : PySem.W.Frag) (C : Addr) : Bool := match K.lookup C with
  | some ⟨.type "type", _, .cls cd, sl⟩ => (match cd.mro, sl.toList with
    | .ref C' :: bm, [_, _, _, _, some (.builtin n), _] => C' == C && n == "ValueError.__new__" && !cd.hasDel && cd.hasDict && PySem.HandSPX.refsVE bm
    | _, _ => false)
  | _ => false
theorem errB_ok {K : PySem.W.Frag} {C : Addr} (c : errB K C = true) :
    ∃ nm q N bs bm sn sub ab col dd k0 k1 k2 k3 k5, K.lookup C = some (excClassObj nm q C N bs bm true sn sub ab col dd k0 k1 k2 k3 k5 "ValueError.__new__") ∧ PySem.HandSPX.refsVE bm = true := by
  unfold errB at c
  split at c
  · rename_i dd cd sl ho
    split at c
    · rename_i C' bm k0 k1 k2 k3 n k5 hm hs
      simp only [Bool.and_eq_true, beq_iff_eq, Bool.not_eq_true'] at c
      obtain ⟨⟨⟨⟨rfl, rfl⟩, hdel⟩, hdi⟩, hok⟩ := c
      obtain ⟨nm, bs, mro, ns, qn, hd, sn, sub, ab, col, del⟩ := cd
      dsimp only at hm hdel hdi
      subst hm hdel hdi
      have hsl : sl = #[k0, k1, k2, k3, some (.builtin "ValueError.__new__"), k5] := by
        obtain ⟨l⟩ := sl
        simp only at hs
        rw [hs]
      subst hsl
      exact ⟨nm, qn, ns, bs, bm, sn, sub, ab, col, dd, k0, k1, k2, k3, k5, ho, hok⟩
    · cases c
  · cases c
def kwNo (K : PySem.W.Frag) (f : Addr) : Bool := match K.lookup f with
  | some ⟨_, _, .func fd, _⟩ => (match fd.kwdefaults with
    | .none => true
    | _ => false)
  | _ => false
/-- all that is asked of an error's class x with the field at -/
def lowB (K : PySem.W.Frag) (x : Str) : Bool :=
  errB K (ga K x) && (eqO (PySem.W.findIn K (.ref (ga K x)) "__setattr__") (some (some (.builtin "object.__setattr__"))) && (eqO (PySem.W.findIn K (.ref (ga K x)) "__getattribute__") (some (some (.builtin "BaseException.__getattribute__"))) &&
  (eqO (PySem.W.findIn K (.ref (ga K x)) "__getattr__") (some none) && (eqO (PySem.W.findIn K (.ref (ga K x)) "at") (some none) && (eqO (PySem.W.findIn K (.ref (ga K x)) "__init__") (some (some (.ref (ma K (ga K x) "__init__")))) &&
  (decide (PySem.W.typeIn K (.ref (ma K (ga K x) "__init__")) = some (.type "function")) && (PySem.W.keepIn K (.ref (ga K x)) && (decide (PySem.W.subIn K (.ref (ga K x)) (.type "BaseException") = some true) && (decide (PySem.W.typeIn K (.ref (ga K x)) = some (.type "type")) &&
  (PySem.W.hasDictIn K (ga K x) && (decide (PySem.W.exmOne K (.ref (ga K x)) (.ref (ga K x)) = some true) && kwNo K (ma K (ga K x) "__init__"))))))))))))
theorem low_of {K : PySem.W.Frag} {h : Heap} {mg : Str → Option Value} (X : K.In h) (G : h.Ns mainGlobals mg) {x ql : Str} {p1 p2 q1 q2 q3 q4 : Pos} {d : FnD} (hd : d = ⟨(x, some "__init__"), "__init__", ql, PySem.LowX.iA p1 p2, PySem.LowX.iB q1 q2 q3 q4, PySem.LowX.iS⟩)
    (e : fnObs K d.at_ = d.val) (c : (Fa.code d.at_ d.qual).ok K = true) (g : (Fa.glo x).ok K = true) (b : lowB K x = true) (nd : (x == ("__debug__" : Str)) = false := by decide) : PySem.LowX.LowTxt K mg x ql (ga K x) (ma K (ga K x) "__init__") := by
  subst hd
  obtain ⟨b1, b⟩ := ba b
  obtain ⟨b2, b⟩ := ba b
  obtain ⟨b3, b⟩ := ba b
  obtain ⟨b4, b⟩ := ba b
  obtain ⟨b5, b⟩ := ba b
  obtain ⟨b6, b⟩ := ba b
  obtain ⟨b7, b⟩ := ba b
  obtain ⟨b8, b⟩ := ba b
  obtain ⟨b9, b⟩ := ba b
  obtain ⟨b10, b⟩ := ba b
  obtain ⟨b11, b⟩ := ba b
  obtain ⟨b12, b13⟩ := ba b
  obtain ⟨oc, od, osl, kV, doc, pm, an, cdv, ct, lk, hc⟩ := fn_ok e c
  have lk' : K.lookup (ma K (ga K x) "__init__") = some ⟨oc, od, .func (PySem.W.fnOf "__init__" ql (PySem.LowX.iA p1 p2) (PySem.LowX.iB q1 q2 q3 q4) PySem.LowX.iS .none kV doc pm an cdv ct), osl⟩ := lk
  have kn : kV = .none := by
    unfold kwNo at b13
    rw [lk'] at b13
    cases kV <;> first | rfl | exact Bool.noConfusion (show (false : Bool) = true from b13)
  subst kn
  exact { gC := glo_ok X G g, nd := nd, cls := errB_ok b1, sa := eqO_ok b2, ga := eqO_ok b3, gg := eqO_ok b4, noN := eqO_ok b5, iC := eqO_ok b6, tC := of_decide_eq_true b7, kC := b8, exC := of_decide_eq_true b9, tyC := of_decide_eq_true b10, hdC := b11, te := of_decide_eq_true b12,
          fn := ⟨_, _, _, _, _, _, _, _, _, _, _, _, _, _, lk', hc⟩ }
/-! the Hook: the facts fa, the defs fn, and one more look ex -/
def obsZ (n : Nat) (fa : List Fa) (fn : List FnD) (ex : PySem.W.Frag → Bool) (g : Addr → Option Obj) : Al × Bool := (obsE fa fn (frG g (asG g n)), ex (frG g (asG g n)))
def hookZ (n : Nat) (fa : List Fa) (fn : List FnD) (ex : PySem.W.Frag → Bool) : PySem.W.Hook where
  α := Al × Bool
  obs := fun s => obsZ n fa fn ex s.heap.get?
  val := fun _ => (valE fn, true)
  says := fun _ h => ∃ K : PySem.W.Frag, K.In h ∧ SaysE fa fn K ∧ ex K = true
  of := fun _ _ e => ⟨_, frG_in, congrArg (fun z : Al × Bool => z.1) e, congrArg (fun z : Al × Bool => z.2) e⟩
  keeps := fun _ _ _ ⟨K, hK, c, d⟩ k => ⟨K, PySem.W.Frag.In.keeps hK k, c, d⟩
theorem obsZ_eq {n : Nat} {fa : List Fa} {fn : List FnD} {ex : PySem.W.Frag → Bool} {g : Addr → Option Obj} {s : Shared} (h : ∀ a, g a = s.heap.get? a) : obsZ n fa fn ex g = (hookZ n fa fn ex).obs s := by
  have e : g = s.heap.get? := funext h
  rw [e] <;> rfl
/-- a def of the text, by a path -/
theorem saysFn {fa : List Fa} {fn : List FnD} {K : PySem.W.Frag} (c : SaysE fa fn K) (i : Nat) {d : FnD} (h : fn[i]? = some d := by rfl) : fnObs K d.at_ = d.val ∧ (Fa.code d.at_ d.qual).ok K = true := by
  have c2 := (ba (show ((fa.all fun f => f.ok K) && fn.all fun d => (Fa.code d.at_ d.qual).ok K) = true from congrArg (fun z : Al => z.1) c)).2
  have e : fn.map (fun d => fnObs K d.at_) = fn.map FnD.val := congrArg (fun z : Al => z.2) c
  have e2 : (fn.map fun d => fnObs K d.at_)[i]? = (fn.map FnD.val)[i]? := by rw [e]
  rw [List.getElem?_map, List.getElem?_map, h] at e2
  exact ⟨Option.some.inj e2, List.all_eq_true.mp c2 d (List.mem_of_getElem? h)⟩
/-- a def of the top: its name, its statement -/
def dTop (x : Str) (st : Stmt) : FnD := ⟨(x, none), x, x, defArgs st, defBody st, defScope st⟩
theorem keep_fn {K : PySem.W.Frag} {f : Addr} {oc : Value} {od : Option Addr} {fd : FuncData} {osl : Array (Option Value)} (h : K.lookup f = some ⟨oc, od, .func fd, osl⟩) : PySem.W.keepIn K (.ref f) = true := by
  simp only [PySem.W.keepIn, h]
theorem saysFun {fa : List Fa} {fn : List FnD} {K : PySem.W.Frag} (c : SaysE fa fn K) (i : Nat) {x : Str} {st : Stmt} (h : fn[i]? = some (dTop x st) := by rfl) : ∃ fd, Fun K x x st (ga K x) fd := by
  obtain ⟨e, k⟩ := saysFn c i h
  obtain ⟨oc, od, osl, kV, doc, pm, an, cdv, ct, lk, hc⟩ := fn_ok e k
  exact ⟨_, fun_mk lk hc (keep_fn lk)⟩
/-- a law's end, over a head by facts -/
theorem walk_ofGE {l : PySem.W.OpenLaw} {n k : Nat} {q : Program} {loose : List Str} {XP : (Str → Option Value) → Heap → Prop} {YP : World → Heap → Prop} {d : DefRec} {x : Str}
    (most : l.most = some n) (fits : n ≤ sizeLine) (plain : d.params.defaults = []) (room : Room k callerA)
    (F : ∀ (w : World) (mg : Str → Option Value) (fa : Addr) (h : Heap), YP w h → h.Ns mainGlobals mg → mg d.name = some (.ref fa) →
      ∃ (K : PySem.W.Frag) (fd : FuncData) (sp : Sp), K.In h ∧ (∀ (s : Shared) (u : Value), BindsTo s fd ⟨[u], []⟩ [(x, u)]) ∧
        (∀ (G : Hp) (a : Addr) (ns : List Int), ns.length ≤ n → SqL K G a (ns.map V.int) → sp [.ref a] G (fun v _ => v = .bl true) fun _ _ _ => False) ∧
        ∀ base : Heap, K.In base → base.Ns mainGlobals mg → FnOkG l.prog w K mg base k fa fd [x] sp) :
    PySem.W.WalkO q loose XP YP l.row.toRowW d [] (fun f vs => PySem.call f vs) := by
  refine Att.attach_call most plain fun w s0 s1 mg mb fa o pm cd doc a vs ns G Y ho hd hcd hmg hobj hints hlen hg => ?_
  obtain ⟨K, fd, sp, KX, hb, hsp, hF⟩ := F w mg fa _ Y G.T.g hmg
  exact law_callG KX G.T.g G.T.b G.T.builtins G.T.nolimit hg hobj hints (Nat.le_trans hlen fits) room hF hb fun H hS => hsp H a ns hlen hS
end KV

/-! the text -/
namespace KV
open PySem PySem.Spec PyProof.Rows L2
def top (i : Nat) : Stmt := PySem.Challenge.pw_batchnumbers_k23_machines_of_shelves.main.body.getD i (.Pass ⟨0, 0, 0, 0⟩)
/-- the built-in names that no global hides -/
structure Bl (mg : Str → Option Value) : Prop where
  isi : mg "isinstance" = none
  int : mg "int" = none
  bool : mg "bool" = none
  tuple : mg "tuple" = none
  list : mg "list" = none
  set : mg "set" = none
  len : mg "len" = none
  sorted : mg "sorted" = none
  range : mg "range" = none
  all : mg "all" = none
  abs : mg "abs" = none
  repr : mg "repr" = none
  zip : mg "zip" = none
  enumerate : mg "enumerate" = none
  min : mg "min" = none
  max : mg "max" = none
end KV

/-! sizes, small words -/
namespace KV
open PySem PySem.Spec PyProof.Rows L2
abbrev sm (k : Nat) (n : Int) : Prop := n.natAbs < 2 ^ k
theorem sm_mono {j k : Nat} {n : Int} (h : sm j n) (hk : j ≤ k) : sm k n := Nat.lt_of_lt_of_le h (Nat.pow_le_pow_right (by decide) hk)
theorem sm_of {k : Nat} {n : Int} (h0 : 0 ≤ n) (h1 : n < 2 ^ k) : sm k n := by
  have e : ((2 ^ k : Nat) : Int) = (2 : Int) ^ k := by simp
  show n.natAbs < 2 ^ k
  omega
theorem sm_le {k : Nat} {n m : Int} (h0 : 0 ≤ n) (h1 : n ≤ m) (h : sm k m) : sm k n := Nat.lt_of_le_of_lt (by omega) h
theorem sm_abs {k : Nat} {n m : Int} (h1 : (n.natAbs : Int) ≤ m) (h : sm k m) : sm k n := Nat.lt_of_le_of_lt (by omega) h
theorem sm_add {k : Nat} {n m : Int} (h1 : sm k n) (h2 : sm k m) : sm (k + 1) (n + m) := by
  have a := Int.natAbs_add_le n m
  have e : 2 ^ (k + 1) = 2 ^ k * 2 := Nat.pow_succ ..
  have h1' : n.natAbs < 2 ^ k := h1
  have h2' : m.natAbs < 2 ^ k := h2
  show (n + m).natAbs < 2 ^ (k + 1)
  omega
theorem sm_neg {k : Nat} {n : Int} (h : sm k n) : sm k (-n) := by
  show (-n).natAbs < 2 ^ k
  rw [Int.natAbs_neg]
  exact h
theorem sm_sub {k : Nat} {n m : Int} (h1 : sm k n) (h2 : sm k m) : sm (k + 1) (n - m) := by
  rw [Int.sub_eq_add_neg]
  exact sm_add h1 (sm_neg h2)
theorem sm_mul {j k : Nat} {n m : Int} (h1 : sm j n) (h2 : sm k m) : sm (j + k) (n * m) := wide_lt h1 h2
theorem mulW {j k : Nat} {n m : Int} (h1 : sm j n) (h2 : sm k m) (hj : 0 < j) (hk : 0 < k) (h : j + k ≤ 1000000) : CMulW n m := wide_mul h1 h2 hj hk h
theorem divW {k : Nat} {n m : Int} (h0 : 0 < m) (h : sm k m) (hk : 0 < k) (h9 : k ≤ 9000) : CDivW n m := wide_div h0 h hk h9
theorem iop_mulW {X : Cx} : OpR X (inplaceOp .Mult) (rI CMulW fun i j => .int (i * j)) := opI fun _ _ _ _ _ _ _ hc q => imul_int q hc.ok
theorem map_at {f : Int → V} {ns : List Int} {i : Nat} {x : V} (h : (ns.map f)[i]? = some x) : ∃ n, ns[i]? = some n ∧ x = f n := by
  rw [List.getElem?_map] at h
  cases e : ns[i]? with
  | none => rw [e] at h; cases h
  | some n => rw [e] at h; exact ⟨n, rfl, (Option.some.inj h).symm⟩
theorem Same.seqT {K : PySem.W.Frag} {H H' : Hp} {a : Addr} {xs : List V} (e : Same H H') (h : SqT K H a xs) : SqT K H' a xs := by
  rcases h with (h | ⟨o, h⟩) | h
  · exact .inl (.inl (e _ _ h))
  · exact .inl (.inr ⟨o, e _ _ h⟩)
  · exact .inr h
theorem Same.upd {H H' : Hp} {a : Addr} {o : HO} (e : Same H H') (h : H a = none) : Same H (upd H' a o) := fun b u q => by
  rw [upd_ne (ne_of_none q h)]
  exact e b u q
theorem Same.new {H : Hp} {a : Addr} {o : HO} (h : H a = none) : Same H (L2.upd H a o) := Same.upd (Same.refl H) h
end KV

/-! the mathematics of changes -/
namespace KC
/-- where m rounds of the change lead -/
def it (c : List Nat) : Nat → Nat → Nat
  | 0, i => i
  | m + 1, i => c.getD (it c m i) 0
structure Chg (n : Nat) (c : List Nat) : Prop where
  len : c.length = n
  lt : ∀ x ∈ c, x < n
  nd : c.Nodup
def tab (n : Nat) (f : Nat → Nat) : List Nat := (List.range n).map f
def comp (c e : List Nat) : List Nat := c.map fun x => e.getD x 0
def fac : Nat → Nat
  | 0 => 1
  | n + 1 => (n + 1) * fac n
theorem fac_pos : ∀ n, 0 < fac n
  | 0 => by decide
  | n + 1 => Nat.mul_pos (Nat.succ_pos n) (fac_pos n)
theorem dvd_fac : ∀ {n L : Nat}, 0 < L → L ≤ n → L ∣ fac n
  | 0, L, h, g => by omega
  | n + 1, L, h, g => by
    rcases Nat.lt_or_ge L (n + 1) with k | k
    · exact Nat.dvd_trans (dvd_fac h (by omega)) (Nat.dvd_mul_left _ _)
    · have : L = n + 1 := by omega
      rw [this]
      exact Nat.dvd_mul_right _ _
theorem tab_len {n : Nat} {f : Nat → Nat} : (tab n f).length = n := by simp [tab]
theorem tab_get {n i : Nat} {f : Nat → Nat} (h : i < n) : (tab n f)[i]? = some (f i) := by
  unfold tab
  rw [List.getElem?_map, List.getElem?_range h]
  rfl
theorem tab_getD {n i : Nat} {f : Nat → Nat} (h : i < n) : (tab n f).getD i 0 = f i := by
  rw [List.getD_eq_getElem?_getD, tab_get h]
  rfl
theorem getD_at {c : List Nat} {i x : Nat} (h : c[i]? = some x) : c.getD i 0 = x := by
  rw [List.getD_eq_getElem?_getD, h]
  rfl
theorem at_getD {c : List Nat} {i : Nat} (h : i < c.length) : c[i]? = some (c.getD i 0) := by
  rw [List.getD_eq_getElem?_getD, List.getElem?_eq_getElem h]
  rfl
theorem eq_tab {n : Nat} {c : List Nat} (h : c.length = n) : c = tab n fun i => c.getD i 0 := by
  refine List.ext_getElem? fun i => ?_
  by_cases k : i < n
  · rw [tab_get k]
    exact at_getD (by omega)
  · rw [List.getElem?_eq_none (by omega), List.getElem?_eq_none (by rw [tab_len]; omega)]
theorem tab_congr {n : Nat} {f g : Nat → Nat} (h : ∀ i < n, f i = g i) : tab n f = tab n g := List.map_congr_left fun i hi => h i (List.mem_range.mp hi)
theorem tab_inj {n : Nat} {f g : Nat → Nat} (h : tab n f = tab n g) : ∀ i < n, f i = g i := fun i hi => by
  have e := tab_get (f := f) hi
  rw [h, tab_get hi] at e
  exact (Option.some.inj e).symm
theorem comp_tab {n : Nat} {f g : Nat → Nat} (h : ∀ i < n, f i < n) : comp (tab n f) (tab n g) = tab n fun i => g (f i) := by
  unfold comp
  show ((List.range n).map f).map _ = (List.range n).map _
  rw [List.map_map]
  exact List.map_congr_left fun i hi => tab_getD (h i (List.mem_range.mp hi))
section
variable {n : Nat} {c : List Nat}
theorem Chg.at_lt (h : Chg n c) {i : Nat} (hi : i < n) : c.getD i 0 < n := h.lt _ (List.mem_of_getElem? (at_getD (by rw [h.len]; exact hi)))
theorem Chg.at_inj (h : Chg n c) {i j : Nat} (hi : i < n) (hj : j < n) (e : c.getD i 0 = c.getD j 0) : i = j := by
  have hi' : i < c.length := by rw [h.len]; exact hi
  have hj' : j < c.length := by rw [h.len]; exact hj
  have a := at_getD hi'
  have b := at_getD hj'
  rw [List.getElem?_eq_getElem hi'] at a
  rw [List.getElem?_eq_getElem hj'] at b
  have e2 : c[i] = c[j] := by rw [Option.some.inj a, Option.some.inj b, e]
  exact (List.getElem_inj h.nd).mp e2
theorem it_lt (h : Chg n c) {i : Nat} (hi : i < n) : ∀ m, it c m i < n
  | 0 => hi
  | m + 1 => h.at_lt (it_lt h hi m)
theorem it_add (a b i : Nat) : it c (a + b) i = it c a (it c b i) := by
  induction a with
  | zero => rw [Nat.zero_add]; rfl
  | succ a ih =>
    rw [Nat.succ_add]
    show c.getD (it c (a + b) i) 0 = c.getD (it c a (it c b i)) 0
    rw [ih]
theorem it_inj (h : Chg n c) {i j : Nat} (hi : i < n) (hj : j < n) : ∀ m, it c m i = it c m j → i = j
  | 0, e => e
  | m + 1, e => it_inj h hi hj m (h.at_inj (it_lt h hi m) (it_lt h hj m) e)
theorem it_back (h : Chg n c) {i a b : Nat} (hi : i < n) (hab : a ≤ b) (e : it c a i = it c b i) : it c (b - a) i = i := by
  have e2 : it c b i = it c a (it c (b - a) i) := by rw [← it_add]; congr 1; omega
  rw [e2] at e
  exact (it_inj h hi (it_lt h hi _) a e).symm
/-- each state comes back -/
theorem per (h : Chg n c) {i : Nat} (hi : i < n) : ∃ L, 0 < L ∧ L ≤ n ∧ it c L i = i := by
  apply Classical.byContradiction
  intro no
  have nd : ((List.range (n + 1)).map fun m => it c m i).Nodup := by
    unfold List.Nodup
    rw [List.pairwise_map]
    refine List.Pairwise.imp_of_mem (fun {a b} ha hb hlt e => ?_) List.pairwise_lt_range
    have hb := List.mem_range.mp hb
    exact no ⟨b - a, by omega, by omega, it_back h hi (by omega) e⟩
  have z := List.Nodup.length_le_of_subset (l₂ := List.range n) nd fun x hx => by
    obtain ⟨m, _, rfl⟩ := List.mem_map.mp hx
    exact List.mem_range.mpr (it_lt h hi m)
  rw [List.length_map, List.length_range, List.length_range] at z
  omega
theorem it_mul {i L : Nat} (e : it c L i = i) : ∀ k, it c (L * k) i = i
  | 0 => rfl
  | k + 1 => by rw [Nat.mul_succ, it_add, e, it_mul e k]
theorem it_mod {i L : Nat} (e : it c L i = i) (m : Nat) : it c (m % L) i = it c m i := by
  have z : it c m i = it c (m % L + L * (m / L)) i := by rw [Nat.mod_add_div]
  rw [z, it_add, it_mul e]
theorem it_fac (h : Chg n c) {i : Nat} (hi : i < n) : it c (fac n) i = i := by
  obtain ⟨L, l0, l1, e⟩ := per h hi
  obtain ⟨k, ek⟩ := dvd_fac l0 l1
  rw [ek]
  exact it_mul e k
theorem chg_tab {f : Nat → Nat} (h : ∀ i < n, f i < n) (g : ∀ i < n, ∀ j < n, f i = f j → i = j) : Chg n (tab n f) := by
  refine ⟨tab_len, fun x hx => ?_, ?_⟩
  · obtain ⟨i, hi, rfl⟩ := List.mem_map.mp hx
    exact h i (List.mem_range.mp hi)
  · unfold List.Nodup tab
    rw [List.pairwise_map]
    refine List.Pairwise.imp_of_mem (fun {a b} ha hb hlt e => ?_) List.pairwise_lt_range
    have := g a (List.mem_range.mp ha) b (List.mem_range.mp hb) e
    omega
theorem chg_it (h : Chg n c) (m : Nat) : Chg n (tab n (it c m)) := chg_tab (fun i hi => it_lt h hi m) fun i hi j hj e => it_inj h hi hj m e
theorem chg_comp {e : List Nat} (h : Chg n c) (g : Chg n e) : Chg n (comp c e) := by
  rw [eq_tab h.len, eq_tab g.len, comp_tab (fun i hi => h.at_lt hi)]
  exact chg_tab (fun i hi => g.at_lt (h.at_lt hi)) fun i hi j hj e => h.at_inj hi hj (g.at_inj (h.at_lt hi) (h.at_lt hj) e)
/-- the power with a count -/
def pw (n : Nat) (c : List Nat) (k : Int) : List Nat := tab n (it c (k % (fac n : Int)).toNat)
theorem pw_chg (h : Chg n c) (k : Int) : Chg n (pw n c k) := chg_it h _
theorem pw_nat (h : Chg n c) (m : Nat) : pw n c (m : Int) = tab n (it c m) := by
  refine tab_congr fun i hi => ?_
  have e : (((m : Nat) : Int) % (fac n : Int)).toNat = m % fac n := by
    rw [← Int.natCast_emod]
    rfl
  rw [e, it_mod (it_fac h hi)]
theorem pw_add (h : Chg n c) (a b : Int) : comp (pw n c a) (pw n c b) = pw n c (a + b) := by
  unfold pw
  rw [comp_tab (fun i hi => it_lt h hi _)]
  refine tab_congr fun i hi => ?_
  have f0 : (0 : Int) < fac n := by exact_mod_cast fac_pos n
  rw [← it_add, ← it_mod (it_fac h hi) ((b % (fac n : Int)).toNat + (a % (fac n : Int)).toNat)]
  congr 1
  have a0 := Int.emod_nonneg a (by omega : (fac n : Int) ≠ 0)
  have b0 := Int.emod_nonneg b (by omega : (fac n : Int) ≠ 0)
  have e : ((((b % (fac n : Int)).toNat + (a % (fac n : Int)).toNat) % fac n : Nat) : Int) = (a + b) % (fac n : Int) := by
    rw [Int.natCast_emod, Int.natCast_add, Int.toNat_of_nonneg a0, Int.toNat_of_nonneg b0, ← Int.add_emod, Int.add_comm]
  rw [← e]
  rfl
/-- a cycle: it starts at st -/
structure Cyc (n : Nat) (c : List Nat) (cy : List Nat) : Prop where
  ex : ∃ st L, 0 < L ∧ st < n ∧ it c L st = st ∧ cy = tab L fun j => it c j st
  nd : cy.Nodup
theorem Cyc.pos {cy : List Nat} (h : Cyc n c cy) : 0 < cy.length := by
  obtain ⟨st, L, l0, _, _, rfl⟩ := h.ex
  rw [tab_len]
  exact l0
theorem Cyc.le (h : Chg n c) {cy : List Nat} (k : Cyc n c cy) : cy.length ≤ n := by
  obtain ⟨st, L, l0, hs, _, rfl⟩ := k.ex
  have z := List.Nodup.length_le_of_subset (l₂ := List.range n) k.nd fun x hx => by
    obtain ⟨m, _, rfl⟩ := List.mem_map.mp hx
    exact List.mem_range.mpr (it_lt h hs m)
  rw [List.length_range] at z
  exact z
theorem Cyc.dvd (h : Chg n c) {cy : List Nat} (k : Cyc n c cy) : cy.length ∣ fac n := dvd_fac k.pos (k.le h)
/-- the states of a cycle come back just by its length -/
theorem Cyc.back (h : Chg n c) {cy : List Nat} (k : Cyc n c cy) {x m : Nat} (hx : x ∈ cy) : it c m x = x ↔ cy.length ∣ m := by
  obtain ⟨st, L, l0, hs, e, rfl⟩ := k.ex
  have nd := k.nd
  obtain ⟨j, hj, rfl⟩ := List.mem_map.mp hx
  have hj := List.mem_range.mp hj
  rw [tab_len]
  have lb : it c L (it c j st) = it c j st := by rw [← it_add, Nat.add_comm, it_add, e]
  constructor
  · intro hm
    have z : it c (m % L) (it c j st) = it c j st := by rw [it_mod lb, hm]
    have z1 : it c (m % L) st = st := by
      rw [← it_add, Nat.add_comm, it_add] at z
      exact it_inj h (it_lt h hs _) hs j z
    by_cases z2 : m % L = 0
    · exact Nat.dvd_of_mod_eq_zero z2
    · have lt := Nat.mod_lt m l0
      have a := tab_get (f := fun j => it c j st) lt
      have b := tab_get (f := fun j => it c j st) l0
      have hl1 : m % L < (tab L fun j => it c j st).length := by rw [tab_len]; exact lt
      have hl2 : 0 < (tab L fun j => it c j st).length := by rw [tab_len]; exact l0
      rw [List.getElem?_eq_getElem hl1] at a
      rw [List.getElem?_eq_getElem hl2] at b
      have e2 : (tab L fun j => it c j st)[m % L] = (tab L fun j => it c j st)[0] := by
        rw [Option.some.inj a, Option.some.inj b]
        exact z1
      exact absurd ((List.getElem_inj nd).mp e2) z2
  · rintro ⟨q, rfl⟩
    exact it_mul lb q
theorem Cyc.lt (h : Chg n c) {cy : List Nat} (k : Cyc n c cy) {x : Nat} (hx : x ∈ cy) : x < n := by
  obtain ⟨st, L, l0, hs, e, rfl⟩ := k.ex
  obtain ⟨j, _, rfl⟩ := List.mem_map.mp hx
  exact it_lt h hs j
/-- the cycle turned by what the count leaves: each state's power -/
theorem Cyc.turn (h : Chg n c) {cy : List Nat} (k : Cyc n c cy) (cnt : Int) {j x : Nat} (hx : cy[j]? = some x) :
    (cy.drop (cnt % (cy.length : Int)).toNat ++ cy.take (cnt % (cy.length : Int)).toNat)[j]? = some (it c (cnt % (fac n : Int)).toNat x) := by
  have hdv := k.dvd h
  have hb := k.back h (x := x) (m := cy.length) (List.mem_of_getElem? hx)
  have hp := k.pos
  have hj := (List.getElem?_eq_some_iff.mp hx).1
  obtain ⟨st, L, l0, hs, e, rfl⟩ := k.ex
  rw [tab_len] at hb hp hj hdv ⊢
  have s0 := Int.emod_nonneg cnt (by omega : (L : Int) ≠ 0)
  have s1 := Int.emod_lt_of_pos cnt (by omega : (0 : Int) < (L : Int))
  have es : ((cnt % (fac n : Int)).toNat) % L = (cnt % (L : Int)).toNat := by
    have f0 : (0 : Int) < fac n := by exact_mod_cast fac_pos n
    have a0 := Int.emod_nonneg cnt (by omega : (fac n : Int) ≠ 0)
    have z : ((((cnt % (fac n : Int)).toNat) % L : Nat) : Int) = cnt % (L : Int) := by
      rw [Int.natCast_emod, Int.toNat_of_nonneg a0]
      exact Int.emod_emod_of_dvd _ (by exact_mod_cast hdv)
    rw [← z]
    rfl
  rw [← it_mod (hb.mpr (Nat.dvd_refl _)), es]
  rw [tab_get hj] at hx
  have hx := Option.some.inj hx
  generalize (cnt % (L : Int)).toNat = s at es s0 s1
  have sL : s < L ∨ L ≤ s := Nat.lt_or_ge s L
  have sl : s < L := by
    rw [← es]
    exact Nat.mod_lt _ l0
  have key : ∀ m, it c m x = it c (j + m) st := fun m => by rw [← hx, ← it_add, Nat.add_comm]
  rw [key]
  by_cases w : j < L - s
  · rw [List.getElem?_append_left (by rw [List.length_drop, tab_len]; exact w), List.getElem?_drop, tab_get (by omega), Nat.add_comm]
  · have e1 : j - (L - s) < L := by omega
    rw [List.getElem?_append_right (by rw [List.length_drop, tab_len]; omega), List.length_drop, tab_len, List.getElem?_take_of_lt (by omega), tab_get e1]
    have e2 : j + s = (j - (L - s)) + L := by omega
    rw [e2, it_add, e]
end
end KC

/-! more of changes: every state is reached, cycles closed backwards, a walk to its end -/
namespace KC
section
variable {n : Nat} {c : List Nat}
theorem Chg.mem (h : Chg n c) {x : Nat} (hx : x < n) : ∃ i, i < n ∧ c.getD i 0 = x := by
  apply Classical.byContradiction
  intro no
  have nm : x ∉ c := fun hm => by
    obtain ⟨i, hi⟩ := List.mem_iff_getElem?.mp hm
    have lt := (List.getElem?_eq_some_iff.mp hi).1
    exact no ⟨i, by rw [← h.len]; exact lt, getD_at hi⟩
  have z := List.Nodup.length_le_of_subset (l₁ := x :: c) (l₂ := List.range n) (List.nodup_cons.mpr ⟨nm, h.nd⟩) fun y hy => by
    rcases List.mem_cons.mp hy with rfl | hy
    · exact List.mem_range.mpr hx
    · exact List.mem_range.mpr (h.lt y hy)
  rw [List.length_cons, h.len, List.length_range] at z
  omega
theorem tab_succ {L : Nat} {f : Nat → Nat} : tab (L + 1) f = tab L f ++ [f L] := by
  unfold tab
  rw [List.range_succ, List.map_append]
  rfl
theorem mem_tab {L x : Nat} {f : Nat → Nat} : x ∈ tab L f ↔ ∃ j, j < L ∧ f j = x := by
  unfold tab
  rw [List.mem_map]
  exact ⟨fun ⟨j, h, e⟩ => ⟨j, List.mem_range.mp h, e⟩, fun ⟨j, h, e⟩ => ⟨j, List.mem_range.mpr h, e⟩⟩
theorem Cyc.pred (h : Chg n c) {cy : List Nat} (k : Cyc n c cy) {x : Nat} (hx : x < n) (hm : c.getD x 0 ∈ cy) : x ∈ cy := by
  obtain ⟨st, L, l0, hs, e, rfl⟩ := k.ex
  obtain ⟨j, hj, ej⟩ := mem_tab.mp hm
  have go : ∀ i, c.getD (it c i st) 0 = c.getD x 0 → i < L → x ∈ tab L fun j => it c j st := fun i ei hi => mem_tab.mpr ⟨i, hi, h.at_inj (it_lt h hs i) hx ei⟩
  cases j with
  | succ i => exact go i ej (by omega)
  | zero =>
    have e2 : c.getD (it c (L - 1) st) 0 = it c (L - 1 + 1) st := rfl
    rw [show L - 1 + 1 = L by omega, e] at e2
    exact go (L - 1) (by rw [e2]; exact ej) (by omega)
/-- a walk from st, none of it in the cycles before, that meets what was met: nothing new, or a whole cycle -/
theorem walk_end (h : Chg n c) {st L : Nat} {U : Nat → Prop} (hs : st < n) (up : ∀ x < n, U (c.getD x 0) → U x) (nd : (tab L fun j => it c j st).Nodup) (nu : ∀ x ∈ tab L (fun j => it c j st), ¬ U x)
    (met : U (it c L st) ∨ it c L st ∈ tab L fun j => it c j st) : (L = 0 ∧ U st) ∨ (0 < L ∧ Cyc n c (tab L fun j => it c j st)) := by
  cases L with
  | zero =>
    rcases met with u | m
    · exact .inl ⟨rfl, u⟩
    · obtain ⟨j, hj, _⟩ := mem_tab.mp m
      omega
  | succ l =>
    refine .inr ⟨by omega, ⟨st, l + 1, by omega, hs, ?_, rfl⟩, nd⟩
    rcases met with u | m
    · exact absurd (up _ (it_lt h hs l) u) (nu _ (mem_tab.mpr ⟨l, by omega, rfl⟩))
    · obtain ⟨j, hj, ej⟩ := mem_tab.mp m
      have bk := it_back h hs (show j ≤ l + 1 by omega) ej
      cases j with
      | zero => simpa using bk
      | succ i =>
        exfalso
        have l1 : l + 1 - (i + 1) < (tab (l + 1) fun j => it c j st).length := by rw [tab_len]; omega
        have l0 : 0 < (tab (l + 1) fun j => it c j st).length := by rw [tab_len]; omega
        have a := tab_get (f := fun j => it c j st) (show l + 1 - (i + 1) < l + 1 by omega)
        have b := tab_get (f := fun j => it c j st) (show 0 < l + 1 by omega)
        rw [List.getElem?_eq_getElem l1] at a
        rw [List.getElem?_eq_getElem l0] at b
        have e2 : (tab (l + 1) fun j => it c j st)[l + 1 - (i + 1)] = (tab (l + 1) fun j => it c j st)[0] := by
          rw [Option.some.inj a, Option.some.inj b]
          exact bk
        have := (List.getElem_inj nd).mp e2
        omega
theorem walk_le (h : Chg n c) {st L : Nat} (hs : st < n) (nd : (tab L fun j => it c j st).Nodup) : L ≤ n := by
  have z := List.Nodup.length_le_of_subset (l₂ := List.range n) nd fun x hx => by
    obtain ⟨m, _, rfl⟩ := mem_tab.mp hx
    exact List.mem_range.mpr (it_lt h hs m)
  rw [tab_len, List.length_range] at z
  exact z
/-- what undoes the change -/
def Und (n : Nat) (c e : List Nat) : Prop := e.length = n ∧ ∀ i, i < n → e[c.getD i 0]? = some i
theorem Und.uniq (h : Chg n c) {e e' : List Nat} (a : Und n c e) (b : Und n c e') : e = e' := by
  refine List.ext_getElem? fun x => ?_
  by_cases hx : x < n
  · obtain ⟨i, hi, rfl⟩ := h.mem hx
    rw [a.2 i hi, b.2 i hi]
  · rw [List.getElem?_eq_none (by have := a.1; omega), List.getElem?_eq_none (by have := b.1; omega)]
theorem Und.at (h : Chg n c) {e : List Nat} (a : Und n c e) {i : Nat} (hi : i < n) : e.getD (c.getD i 0) 0 = i := getD_at (a.2 i hi)
theorem Und.chg (h : Chg n c) {e : List Nat} (a : Und n c e) : Chg n e := by
  have lt : ∀ x, x < n → e.getD x 0 < n := fun x hx => by
    obtain ⟨i, hi, rfl⟩ := h.mem hx
    rw [a.at h hi]
    exact hi
  rw [eq_tab a.1]
  refine chg_tab lt fun x hx y hy exy => ?_
  obtain ⟨i, hi, rfl⟩ := h.mem hx
  obtain ⟨j, hj, rfl⟩ := h.mem hy
  rw [a.at h hi, a.at h hj] at exy
  rw [exy]
theorem set_walk {i n : Nat} {c es : List Nat} (h : Chg n c) (hi : i < n) (l : es.length = n) (w : ∀ j, j < i → es[c.getD j 0]? = some j) : ∀ j, j < i + 1 → (es.set (c.getD i 0) i)[c.getD j 0]? = some j := by
  intro j hj
  by_cases e : j = i
  · subst e
    rw [List.getElem?_set_self (by rw [l]; exact h.at_lt hi)]
  · rw [List.getElem?_set_ne (fun z => e (h.at_inj hi (by omega) z).symm)]
    exact w j (by omega)
end
end KC

/-! whether a value is a change -/
namespace KV
open PySem PySem.Spec PyProof.Rows L2 KC
theorem iteP {c : Prop} [Decidable c] {A B : Prop} (h : c) (x : A) : if c then A else B := by rw [if_pos h]; exact x
theorem iteN {c : Prop} [Decidable c] {A B : Prop} (h : ¬ c) (x : B) : if c then A else B := by rw [if_neg h]; exact x
theorem sq_cut {a b : TS} {D : Ends} {σ : L2.St} {H : Hp} (N : L2.St → Hp → Prop) (hs : ∀ Z : L2.St → Hp → Prop, (∀ σ' H', N σ' H' → Z σ' H') → a { nx := Z, rt := D.rt, bk := D.bk, ct := D.ct } σ H) (ht : ∀ σ' H', N σ' H' → b D σ' H') : tSeq a b D σ H := hs _ ht
theorem len_lt {n : Nat} (h : n ≤ 1000) : n < sizeLine := small1000 h
/-- a list of numbers as values -/
abbrev vi (c : List Nat) : List V := c.map fun (n : Nat) => V.int (n : Int)
theorem vi_at {c : List Nat} {i : Nat} {x : V} (h : (vi c)[i]? = some x) : ∃ n, c[i]? = some n ∧ x = .int (n : Int) := by
  rw [List.getElem?_map] at h
  cases e : c[i]? with
  | none => rw [e] at h; cases h
  | some n => rw [e] at h; exact ⟨n, rfl, (Option.some.inj h).symm⟩
theorem vi_get {c : List Nat} {i n : Nat} (h : c[i]? = some n) : (vi c)[i]? = some (V.int (n : Int)) := by
  rw [List.getElem?_map, h]
  rfl
/-! the number of different ints in a tuple -/
def tLenSetT (K : PySem.W.Frag) (ta : TE) : TE := fun σ H Q => ta σ H fun x H1 => ∃ (l : Addr) (ns : List Int), x = .ref l ∧ SqT K H1 l (ns.map V.int) ∧ ns.length ≤ 1000 ∧ ∀ L : List Int, L.Nodup → (∀ k, k ∈ L ↔ k ∈ ns) → Q (.int (L.length : Nat)) H1
theorem pe_lenSetT {X : Cx} {a : Expr} {ta : TE} {p p2 q pos : Pos} (gl : Gl X "len") (ml : X.mg "len" = none) (gs : Gl X "set") (ms : X.mg "set" = none) (ha : PE X a ta) (hc : X.calm = true := by rfl)
    (na : starEach [a] X.env = (false, eval a X.env) :: starEach [] X.env := by rfl) : PE X (.Call (.Name "len" p) [.Call (.Name "set" p2) [a] [] q] [] pos) (tLenSetT X.K ta) := by
  constructor
  intro pins s σ H Q I h
  refine Call_ (ld_blt I gl ml boot_len ?_)
  refine PyProof.Rows.callWith_builtin1 (PyProof.Rows.args_cons ?_ rfl) rfl rfl
  refine Call_ (ld_blt I gs ms PyProof.Rows.boot_set ?_)
  refine PyProof.Rows.callWith_type1 (PyProof.Rows.args_cons (thn (ha.run pins s σ H _ I h) fun v s1 ⟨x, H1, I1, r1, q1⟩ => PyProof.Rows.args_nil ?_) na) na rfl
  obtain ⟨l, ns, ex, hq, small, q1⟩ := q1
  subst ex
  cases r1
  obtain ⟨its, r, pt, _⟩ := I1.tuple hq
  have ia : IntsAre its.toArray.toList ns := ints_of_vals r
  refine call_set_tupI ns (I1.ok.hd hc) (show s1.heap.IsTuple l its.toArray from pt) ia (by unfold scanBound; omega) fun h' tk c R1 hcn k => ?_
  refine PyProof.Rows.args_nil ?_
  obtain ⟨o, es, ep, t, ho, hex, hdt, _, nd, mem, _, hf, hn, _, _⟩ := R1
  have I2 : Inv X pins σ H1 { s1 with heap := h', toks := tk } := I1.kept k
  have le : (es.toList.map keyOf).length = es.size := by rw [List.length_map, Array.length_toList]
  refine call_len_set ho hex hdt hf (by rw [hn] <;> omega) ⟨.int _, H1, I2.tok _, ⟨_, rfl⟩, ?_⟩
  have z := q1 (es.toList.map keyOf) nd fun j => by rw [← mem j, decide_eq_true_eq]
  rw [le] at z
  exact z
/-! values -/
theorem tyx_same {K : PySem.W.Frag} {H H' : Hp} (s : Same H H') {x : V} {t : Value} (h : TyX K H x t) : TyX K H' x t := by
  cases h with
  | base b =>
    refine .base ?_
    cases b with
    | non => exact .non
    | bl y => exact .bl y
    | int i => exact .int i
    | str y => exact .str y
    | flt y => exact .flt y
    | lst e => exact .lst (s _ _ e)
    | frz e => exact .frz (s _ _ e)
    | tup e => exact .tup (s _ _ e)
    | dK e => exact .dK (s _ _ e)
    | dT e => exact .dT (s _ _ e)
    | ins e a b c d f => exact .ins (s _ _ e) a b c d f
  | byt b => exact .byt b
  | set e => exact .set (s _ _ e)
  | kList e c => exact .kList e c
  | kTuple e c => exact .kTuple e c
  | kDict e c => exact .kDict e c
  | fTuple e => exact .fTuple (s _ _ e)
  | fDict e => exact .fDict (s _ _ e)
def isI : V → Bool
  | .int _ => true
  | _ => false
/-- an item: an int, a bool, None -/
def Itm (x : V) : Prop := (∃ i : Int, x = .int i) ∨ (∃ b : Bool, x = .bl b) ∨ x = .non
theorem itm_kit {K : PySem.W.Frag} {H : Hp} {x : V} (h : Itm x) : ∃ (t : Value) (b c : Bool), TyX K H x t ∧ PySem.W.kitOne K t (.type "int") = some b ∧ PySem.W.kitOne K t (.type "bool") = some c ∧ (b && !c) = isI x := by
  rcases h with ⟨i, rfl⟩ | ⟨b, rfl⟩ | rfl
  · exact ⟨.type "int", true, false, .base (.int i), kit_ty (by decide +kernel), kit_ty (by decide +kernel), rfl⟩
  · exact ⟨.type "bool", true, true, .base (.bl b), kit_ty (by decide +kernel), kit_ty (by decide +kernel), rfl⟩
  · exact ⟨.type "NoneType", false, false, .base .non, kit_ty (by decide +kernel), kit_ty (by decide +kernel), rfl⟩
/-- a value: a tuple of items (some), or of another kind (none) -/
def ValT (K : PySem.W.Frag) (H : Hp) (v : V) : Option (List V) → Prop
  | some xs => ∃ a : Addr, v = .ref a ∧ H a = some (.tup xs) ∧ (∀ x ∈ xs, Itm x) ∧ xs.length ≤ 16
  | none => ∃ T : String, TyX K H v (.type T) ∧ (T = "list" ∨ T = "NoneType" ∨ T = "int" ∨ T = "str")
theorem ValT.same {K : PySem.W.Frag} {H H' : Hp} (s : Same H H') {v : V} {ms : Option (List V)} (h : ValT K H v ms) : ValT K H' v ms := by
  cases ms with
  | none =>
    obtain ⟨T, h1, h2⟩ := h
    exact ⟨T, tyx_same s h1, h2⟩
  | some xs =>
    obtain ⟨a, h1, h2, h3, h4⟩ := h
    exact ⟨a, h1, s _ _ h2, h3, h4⟩
theorem val_kit {K : PySem.W.Frag} {H : Hp} {v : V} {ms : Option (List V)} (h : ValT K H v ms) : ∃ t : Value, TyX K H v t ∧ PySem.W.kitOne K t (.type "tuple") = some ms.isSome := by
  cases ms with
  | some xs =>
    obtain ⟨a, rfl, ht, _⟩ := h
    exact ⟨_, .base (.tup ht), (kit_ty (by decide +kernel) : PySem.W.kitOne K (.type "tuple") (.type "tuple") = some true)⟩
  | none =>
    obtain ⟨T, ty, hT⟩ := h
    rcases hT with rfl | rfl | rfl | rfl
    · exact ⟨_, ty, (kit_ty (by decide +kernel) : PySem.W.kitOne K (.type "list") (.type "tuple") = some false)⟩
    · exact ⟨_, ty, (kit_ty (by decide +kernel) : PySem.W.kitOne K (.type "NoneType") (.type "tuple") = some false)⟩
    · exact ⟨_, ty, (kit_ty (by decide +kernel) : PySem.W.kitOne K (.type "int") (.type "tuple") = some false)⟩
    · exact ⟨_, ty, (kit_ty (by decide +kernel) : PySem.W.kitOne K (.type "str") (.type "tuple") = some false)⟩
def belB (b : Int) : V → Bool
  | .int i => decide (0 ≤ i) && decide (i < b)
  | _ => false
def chB (xs : List V) : Bool := decide (1 ≤ xs.length) && (xs.all (belB (xs.length : Int)) && decide xs.Nodup)
def isCh (s : Int) : Option (List V) → Bool
  | none => false
  | some xs => decide ((xs.length : Int) = s) && chB xs
theorem ints_bel {b : Int} : ∀ {xs : List V}, xs.all (belB b) = true → ∃ ns : List Int, xs = ns.map V.int
  | [], _ => ⟨[], rfl⟩
  | x :: r, h => by
    simp only [List.all_cons, Bool.and_eq_true] at h
    obtain ⟨ns, rfl⟩ := ints_bel h.2
    cases x with
    | int i => exact ⟨i :: ns, rfl⟩
    | _ => exact absurd h.1 (by simp [belB])
theorem nodup_ints {ns : List Int} : (ns.map V.int).Nodup ↔ ns.Nodup := by
  unfold List.Nodup
  rw [List.pairwise_map]
  constructor
  · exact fun h => h.imp fun z e => z (by rw [e])
  · exact fun h => h.imp fun z e => z (V.int.inj e)
theorem len_nodup {L ns : List Int} (h : L.Nodup) (m : ∀ k, k ∈ L ↔ k ∈ ns) : L.length = ns.length ↔ ns.Nodup := by
  constructor
  · intro e
    apply Classical.byContradiction
    intro no
    have key : ∀ ns : List Int, ¬ ns.Nodup → ∃ ms : List Int, ms.length < ns.length ∧ ∀ k ∈ ns, k ∈ ms := by
      intro ns
      induction ns with
      | nil => exact fun z => absurd List.nodup_nil z
      | cons a r ih =>
        intro z
        by_cases ha : a ∈ r
        · exact ⟨r, by simp, fun k hk => by rcases List.mem_cons.mp hk with rfl | hk <;> assumption⟩
        · have : ¬ r.Nodup := fun y => z (List.nodup_cons.mpr ⟨ha, y⟩)
          obtain ⟨ms, l, hm⟩ := ih this
          exact ⟨a :: ms, by simp only [List.length_cons]; omega, fun k hk => by
            rcases List.mem_cons.mp hk with rfl | hk
            · simp
            · exact List.mem_cons_of_mem _ (hm k hk)⟩
    obtain ⟨ms, l, hm⟩ := key ns no
    have := h.length_le_of_subset (l₂ := ms) fun k hk => hm k ((m k).mp hk)
    omega
  · intro nd
    exact ((List.perm_ext_iff_of_nodup h nd).mpr m).length_eq
section
variable {P : Program} {w : World} {K : PySem.W.Frag} {mg : Str → Option Value} {base : Heap}
def spIsInt : Sp := fun vs H Q _ => ∃ v : V, vs = [v] ∧ Itm v ∧ Q (.bl (isI v)) H
theorem sk5 : FnScope ["value"] ["value"] (defScope (top 8)) := ⟨rfl, rfl, rfl, by decide +kernel, rfl, by decide +kernel, by decide +kernel⟩
theorem ok_isInt {f : Addr} {fd : FuncData} (B : Bl mg) (F : Fun K "is_integer" "is_integer" (top 8) f fd) : FnOk P w K mg base CX0 1 f fd ["value"] spIsInt := by
  refine F.ok sk5 (fun vs H Q E h => ?_) (fun cdv A outer s H vs Q E hr h => ⟨_,
    pss_one (ps_ret (pe_and (pe_callB call_isi (by rfl) B.isi (by decide +kernel) (pa_cons (pv 0) (pa_cons (pe_bltn (v := .ty "int") (by rfl) B.int PyProof.Rows.boot_int rfl) pa_nil)))
      (pe_one (pe_not (pe_callB call_isi (by rfl) B.isi (by decide +kernel) (pa_cons (pv 0) (pa_cons (pe_bltn (v := .ty "bool") (by rfl) B.bool (by decide +kernel) rfl) pa_nil))))))), ?_⟩)
  · obtain ⟨v, rfl, _⟩ := h
    rfl
  obtain ⟨v, rfl, hv, q⟩ := h
  obtain ⟨t, b, c, ty, h1, h2, e⟩ := itm_kit (K := K) (H := H) hv
  rw [← e] at q
  refine ⟨_, rfl, v, _, t, _, b, rfl, .ty _, ty, h1, b, rfl, ?_⟩
  cases b with
  | false => exact q
  | true => exact ⟨_, rfl, v, _, t, _, c, rfl, .ty _, ty, h2, c, rfl, q⟩
def spBelow : Sp := fun vs H Q _ => ∃ (v : V) (b : Int), vs = [v, .int b] ∧ Itm v ∧ Q (.bl (belB b v)) H
theorem sk6 : FnScope ["value", "bound"] ["value", "bound"] (defScope (top 9)) := ⟨rfl, rfl, rfl, by decide +kernel, rfl, by decide +kernel, by decide +kernel⟩
theorem ok_below {f : Addr} {fd : FuncData} (C : Cal P w K mg base CX0 1 "is_integer" ["value"] spIsInt) (F : Fun K "is_below" "is_below" (top 9) f fd) : FnOk P w K mg base CX0 2 f fd ["value", "bound"] spBelow := by
  refine F.ok sk6 (fun vs H Q E h => ?_) (fun cdv A outer s H vs Q E hr h => ⟨_,
    pss_one (ps_ret (pe_and (pe_cal (X := L2.Cx.nox _) C hr (by decide) (pa_cons (pv 0) pa_nil)) (pe_one (pe_chain op_le op_lt pe_int (pv 0) (pv 1))))), ?_⟩)
  · obtain ⟨v, b, rfl, _⟩ := h
    rfl
  obtain ⟨v, b, rfl, hv, q⟩ := h
  refine ⟨_, rfl, v, rfl, hv, _, rfl, ?_⟩
  rcases hv with ⟨i, rfl⟩ | ⟨x, rfl⟩ | rfl
  · refine iteT ⟨_, rfl, _, _, rfl, rfl, _, rfl, ?_⟩
    have e : belB b (.int i) = (decide (0 ≤ i) && decide (i < b)) := rfl
    rw [e] at q
    cases z : decide (0 ≤ i) with
    | true =>
      rw [z] at q
      exact iteT ⟨_, rfl, _, _, rfl, rfl, q⟩
    | false =>
      rw [z] at q
      exact iteF q
  · exact iteF q
  · exact iteF q
end
end KV

/-! is_change and what refuses by it -/
namespace KV
open PySem PySem.Spec PyProof.Rows L2 KC
section
variable {X : Cx} {k j : Nat} {x : Str} {ps : List Str} {sp : Sp} {p pos : Pos} {e : Expr} {es : List Expr} {t : TA}
/-- a call of a def that may raise, from one that may -/
theorem pe_calX {W : WX} {E : XK} (C : Cal X.prog X.w X.K X.mg X.base (L2.CX X.prog X.w) k x ps sp) (hr : Room j X.A) (hj : k ≤ j) (tk : Takes X W) (hW : ∀ cls d σ H, E cls d H → W cls d σ H) (ha : PA X (e :: es) t)
    (hg : Gl X x := by rfl) (hdb : (x == ("__debug__" : Str)) = false := by decide)
    (he : starEach (e :: es) X.env = (false, eval e X.env) :: starEach es X.env := by rfl)
    (hpl : (backTo pos (starEach es X.env)).any (·.1) = false := by rfl) :
    PE X (.Call (.Name x p) (e :: es) [] pos) (tCall sp [] E t) := by
  obtain ⟨f, fd, F, h1, h2, h3⟩ := C
  exact pe_call F (hr.mono hj) hg h1 h2 h3 .nil (passes_call tk hW) ha hdb he hpl
end
theorem Same.mk1 {H : Hp} {a : Addr} {o : HO} (h : H a = none) : Same H (L2.upd H a o) := Same.new h
/-- the error InvalidChange(0) -/
def Bad (C : Addr) (H : Hp) (E : XK) : Prop := ∀ (H' : Hp) (d : Addr), Same H H' → H' d = none → E (.ref C) (some d) (L2.upd H' d (.xd [(("at" : Str), .int 0)]))
theorem Bad.same {C : Addr} {H H' : Hp} {E : XK} (s : Same H H') (b : Bad C H E) : Bad C H' E := fun H2 d t => b H2 d (s.trans t)
section
variable {P : Program} {w : World} {K : PySem.W.Frag} {mg : Str → Option Value} {base : Heap} {C fI : Addr}
def spIsCh (K : PySem.W.Frag) : Sp := fun vs H Q _ => ∃ (s : Int) (v : V) (ms : Option (List V)), vs = [.int s, v] ∧ ValT K H v ms ∧ ∀ H', Same H H' → Q (.bl (isCh s ms)) H'
/-- checked_change(states, value) -/
def spChk (K : PySem.W.Frag) (C : Addr) : Sp := fun vs H Q E => ∃ (s : Int) (v : V) (ms : Option (List V)), vs = [.int s, v] ∧ ValT K H v ms ∧ (isCh s ms = true → ∀ H', Same H H' → Q v H') ∧ (isCh s ms = false → Bad C H E)
/-- whether it is a change of its own number of states -/
def isC : Option (List V) → Bool
  | none => false
  | some xs => chB xs
/-- _check_alone(value) -/
def spAlone (K : PySem.W.Frag) (C : Addr) : Sp := fun vs H Q E => ∃ (v : V) (ms : Option (List V)), vs = [v] ∧ ValT K H v ms ∧ (isC ms = true → ∀ H', Same H H' → Q .non H') ∧ (isC ms = false → Bad C H E)
/-- _check_two(one, other) -/
def spTwo (K : PySem.W.Frag) (C : Addr) : Sp := fun vs H Q E => ∃ (v u : V) (ms us : Option (List V)), vs = [v, u] ∧ ValT K H v ms ∧ ValT K H u us ∧
  ((isC ms = false ∧ Bad C H E) ∨ ∃ xs, ms = some xs ∧ isC ms = true ∧ (isCh ((xs.length : Nat) : Int) us = true → ∀ H', Same H H' → Q .non H') ∧ (isCh ((xs.length : Nat) : Int) us = false → Bad C H E))
end
end KV

/-! enumerate(tuple) in a for -/
namespace KV
open PySem PySem.Spec PyProof.Rows L2
open AutoSeq1 (wpAny_loadPart')
/-- what stands behind enumerate(t) -/
def enumHeap (hp : Heap) (a : Addr) : Heap :=
  (hp.push { cls := .type "tuple_iterator", data := .fields #[.ref a, .int 0 0] }).push { cls := .type "enumerate", data := .fields #[.none, .bool false, .ref hp.objs.size, rawInt 0, .none, .none] }
theorem enum_newT (a : Addr) (xs : Array Value) (k : Nat) (dd : Option Addr) (sl : Array (Option Value)) :
    Meets (Builtin.«enumerate.__new__» ⟨[.type "enumerate", .ref a], []⟩) (fun _ R st => st.heap.get? a = some { cls := .type "tuple", dict := dd, data := .seq xs k, slots := sl } ∧
      R (.ok (.ret (.ref (st.heap.push { cls := .type "tuple_iterator", data := .fields #[.ref a, .int 0 0] }).objs.size))) { st with heap := enumHeap st.heap a }) :=
  .of_wp fun P w B R st z => by
    obtain ⟨hp, gn, dr, tk, os⟩ := st; obtain ⟨ho, z⟩ := z
    have hsub := sub_enumerate
    have hT : Heap.IsTuple (Shared.heap ⟨hp, gn, dr, tk, os⟩) a xs := ⟨_, ho, rfl, k, rfl⟩
    wp_walk using wpAny_loadPart' ho
    refine wpAny_stack_any fun stk => wpAny_pure ?_
    split
    · rename_i c _ _ _ _ _
      cases (c == Value.type "enumerate")
      · wp_walk using wpAny_loadPart' ho, wpAny_pyIter_tuple hT
        exact ⟨_, rfl, z⟩
      · wp_walk using wpAny_loadPart' ho, wpAny_pyIter_tuple hT
        exact ⟨_, rfl, z⟩
    · wp_walk using wpAny_loadPart' ho, wpAny_pyIter_tuple hT
      exact ⟨_, rfl, z⟩
theorem call_enumT {P : Program} {w : World} {B : Around} {E : Value → Shared → Prop} {st : Shared} {a : Addr} {xs : Array Value} {Q : Value → Shared → Prop} (hT : IsTup st.heap a xs)
    (z : IsEnum (enumHeap st.heap a) (st.heap.objs.size + 1) st.heap.objs.size 0 .none → (enumHeap st.heap a).IsTupleIter st.heap.objs.size a 0 →
      (∀ b o, st.heap.get? b = some o → (enumHeap st.heap a).get? b = some o) → Q (.ref (st.heap.objs.size + 1)) { st with heap := enumHeap st.heap a }) :
    wpAny (model P w) B (call (.type "enumerate") [.ref a]) Q E st := by
  obtain ⟨⟨c, dd, dt, sl⟩, ho, hc, k, hd⟩ := hT
  have hc2 : c = .type "tuple" := hc
  have hd2 : dt = .seq xs k := hd
  subst hc2 hd2
  refine callType_new F.called_enumerate (by decide) (F.typeCall_enumerate_1 _) (F.newCall_enumerate_1 _) (fun obj => F.args_object_init_2 obj _) F.entry_enumerate_new (enum_newT a xs k dd sl) ⟨ho, ?_⟩
  have one : (st.heap.push { cls := .type "tuple_iterator", data := .fields #[.ref a, .int 0 0] }).objs.size = st.heap.objs.size + 1 := Heap.size_push ..
  show _ ∧ _
  rw [one]
  have en : IsEnum (enumHeap st.heap a) (st.heap.objs.size + 1) st.heap.objs.size 0 .none := by
    have q := Heap.get?_push_size (st.heap.push { cls := .type "tuple_iterator", data := .fields #[.ref a, .int 0 0] })
      (o := { cls := .type "enumerate", data := .fields #[.none, .bool false, .ref st.heap.objs.size, rawInt 0, .none, .none] }) rfl
    rw [one] at q
    exact q
  exact ⟨⟨_, en, rfl⟩, z en ⟨_, Heap.get?_push_of_some _ (Heap.get?_push_size _ rfl), rfl, rfl⟩ fun b o x => Heap.get?_push_of_some _ (Heap.get?_push_of_some _ x)⟩
/-- each item of the tuple at a, in a new pair -/
def Iet (K : PySem.W.Frag) (a : Addr) : It :=
  ⟨fun i H => ∃ (xs : List V) (x : V), SqT K H a xs ∧ xs[i]? = some x,
   fun i H v H' => ∃ T x, v = .ref T ∧ H T = none ∧ H' = upd H T (.tup [.int (i : Nat), x]) ∧ ∀ xs, SqT K H a xs → xs[i]? = some x,
   fun i H => ∃ xs : List V, SqT K H a xs ∧ xs.length ≤ i⟩
theorem turn_enumT {P : Program} {w : World} {K : PySem.W.Frag} {elts : List Expr} {kk : Nat} {tpos : Pos} (a e it : Addr) (hai : a ≠ it) (hea : e ≠ a) :
    Turn P w K (.Tuple elts kk tpos) (Iet K a) [e, it] e (fun i h => (∃ old, IsEnum h e it ((i : Nat) : Int) old) ∧ h.IsTupleIter it a i ∧ e ≠ it) where
  mem := by simp
  self := fun B i st Q E q z => let ⟨⟨_, he⟩, _⟩ := q; wpAny_pyIter_enum he z
  obj := fun i h q b hb => by
    obtain ⟨⟨old, he⟩, ⟨o, ho, hc, hd⟩, _⟩ := q
    rcases (show b = e ∨ b = it by simpa using hb) with z | z
    · rw [z]
      exact ⟨_, he, fun v y => nomatch y⟩
    · rw [z]
      exact ⟨o, ho, fun v y => by rw [hd] at y; cases y⟩
  keep := fun i h h' q k => let ⟨⟨old, he⟩, hi, hne⟩ := q; ⟨⟨old, k e (by simp) _ he⟩, hi.at fun o y => k it (by simp) o y, hne⟩
  item := by
    intro X hP hw hK hc i pins st σ H E I hf q hg
    subst hP hw hK
    obtain ⟨⟨old, he⟩, hit, hne⟩ := q
    obtain ⟨xs, x, hq, hx⟩ := hg
    obtain ⟨its, rv, p, hz⟩ := I.tuple hq
    obtain ⟨u, hu, ru⟩ := rv.get hx
    have el : e < st.heap.objs.size := Heap.lt_size he
    have il : it < st.heap.objs.size := by obtain ⟨_, y, _⟩ := hit; exact Heap.lt_size y
    have D := Draws.tuple (prog := X.prog) (w := X.w) (A := X.A.in1) (by exact I.ok.hd hc) it a hai its.toArray
    have hlt : i < its.toArray.size := by
      obtain ⟨y, _⟩ := List.getElem?_eq_some_iff.mp hu
      simpa using y
    refine wpAny_pyNext_enum_itemD D he ⟨hit, p⟩ hlt hne (by simp; exact ⟨hne, hea⟩) fun v h' tk hv ho hst hT hsz hk => ?_
    have huv : v = u := by
      have y : its.toArray[i]? = some v := hv
      have y2 : its.toArray[i]? = some u := by simpa using hu
      rw [y2] at y
      exact (Option.some.inj y).symm
    subst huv
    refine ⟨_, rfl, wpAny_letOwnedTupleGo_enum (s := { st with heap := h', toks := tk + 1 }) ho fun h2 he2 sb => ?_⟩
    have hT2 : h2.get? st.heap.objs.size = some { cls := .type "tuple", data := .seq #[.int i tk, v] } := (sb.2 _ (Nat.ne_of_gt el)).trans hT
    have new : ObjOk X.prog X.w (upd H st.heap.objs.size (.tup [.int (i : Nat), x])) h2 st.heap.objs.size (.tup [.int (i : Nat), x]) :=
      ⟨by show 2 ≤ sizeLine; decide, [.int i tk, v], .cons ⟨_, rfl⟩ (.cons ru .nil), ⟨_, hT2, rfl, _, rfl⟩⟩
    have I2 : Inv X pins σ (upd H st.heap.objs.size (.tup [.int (i : Nat), x])) { st with heap := h2, toks := tk + 1 } :=
      I.turnedNew (ch := [e, it]) (fun b ob hb y => (sb.2 b (fun z => hb (by simp [z]))).trans (hk b ob (fun z => hb (by simp [z])) (fun z => hb (by simp [z])) y)) hf (Nat.le_refl _) new
    refine ⟨.ref st.heap.objs.size, _, I2, rfl, ⟨_, x, rfl, I.hok.fresh (Nat.le_refl _), rfl, fun ys hy => by rw [I.tuple_inj hy hq]; exact hx⟩, ⟨⟨v, ?_⟩, hst.1.at fun o y => (sb.2 it (Ne.symm hne)).trans y, hne⟩, fun b hb => ?_⟩
    · have e1 : ((i + 1 : Nat) : Int) = (i : Int) + 1 := by omega
      rw [e1]
      exact he2
    · have lt : b < st.heap.objs.size := by
        rcases (show b = e ∨ b = it by simpa using hb) with z | z
        · rw [z]
          exact el
        · rw [z]
          exact il
      rw [upd_ne (Nat.ne_of_lt lt)]
      exact (hf b hb).1
  done := by
    intro X hP hw hK hc i pins st σ H E I hf q hg
    subst hP hw hK
    obtain ⟨⟨old, he⟩, hit, hne⟩ := q
    obtain ⟨xs, hq, hx⟩ := hg
    obtain ⟨its, rv, p, hz⟩ := I.tuple hq
    obtain ⟨f0, f1, f2, f3, f4, f5⟩ := hf it (by simp)
    have hl := rv.length
    unfold pyNext
    have hT : st.TypeIs (.ref e) "enumerate" := ⟨_, he, rfl⟩
    refine wpAny_bind (wpAny_attempt (wpAny_callSpecial?_slot (name := Str.ofString "__next__") hT F.slot_enumerate_next
      (wpAny_call_entry F.slot_enumerate_next hT F.entry_enumerate_next ?_ (F.args_enumerate_next_1 _))))
    show wpAny _ _ (field (.ref e) 2 >>= _) _ _ _
    refine wpAny_bind (wpAny_field he rfl (x := .ref it) rfl ?_)
    refine wpAny_bind (wpAny_nextOf_tuple_end (I.ok.hd hc) hit (show st.heap.IsTuple a its.toArray from p) (by simp; omega) fun h' x he' hx' => ?_)
    obtain ⟨o, ho, hc'⟩ := hx'
    refine wpAny_bind (wpAny_isInstance (T := "StopIteration") (b := true) ⟨o, ho, hc'⟩ isSubtype_stop ?_)
    exact wpAny_pure ⟨rfl, I.turned (t' := st.toks) (fun b o hb y => he' b o hb y) f0 f1 f3 f4 f5⟩
def iEnumT (K : PySem.W.Frag) (ta : TA) : TI := fun σ H R => ta σ H fun vs H1 => ∃ a xs, vs = [.ref a] ∧ SqT K H1 a xs ∧ R (Iet K a) H1
theorem pi_enumT {X : Cx} {e : Expr} {ta : TA} {p pos tpos : Pos} {elts : List Expr} {kk : Nat} (hg : Gl X "enumerate") (hm : X.mg "enumerate" = none) (ha : PA X [e] ta) (hs : starEach [e] X.env = [(false, eval e X.env)] := by rfl) :
    PI X (.Tuple elts kk tpos) (.Call (.Name "enumerate" p) [e] [] pos) (iEnumT X.K ta) := by
  constructor
  intro pins st σ H R I h
  refine Call_ (ld_blt I hg hm boot_enumerate (PyProof.Rows.callWith_type1 (thn (ha.run pos pins st σ H _ I h) fun us s1 ⟨vs, H1, I1, r1, q1⟩ => ?_) hs rfl))
  obtain ⟨a, xs, ex, hq, q⟩ := q1
  subst ex
  cases r1 with
  | cons r rr =>
    cases rr
    cases r
    obtain ⟨its, rv, p', hz⟩ := I1.tuple hq
    refine call_enumT p' fun en hit hk => wpAny_pyIter_enum en ?_
    have al : a < s1.heap.objs.size := p'.lt
    refine ⟨s1.heap.objs.size + 1, [s1.heap.objs.size + 1, s1.heap.objs.size], _, _, H1, rfl, I1.kept (t' := s1.toks) hk, turn_enumT a (s1.heap.objs.size + 1) s1.heap.objs.size (Nat.ne_of_lt al) (Nat.ne_of_gt (Nat.lt_succ_of_lt al)), ⟨⟨.none, en⟩, hit, Nat.succ_ne_self _⟩, fun b hb => ?_, q⟩
    have le : s1.heap.objs.size ≤ b := by
      rcases (show b = s1.heap.objs.size + 1 ∨ b = s1.heap.objs.size by simpa using hb) with z | z
      · rw [z]
        exact Nat.le_succ _
      · rw [z]
        exact Nat.le_refl _
    exact I1.fpOk le (I1.hok.fresh le)
/-- the loop -/
theorem for_enumT {K : PySem.W.Frag} {a : Addr} {xs : List V} {g : TG} {tb : TS} {D : Ends} {σ : L2.St} {H : Hp} (Pv : Nat → L2.St → Hp → Prop) (h0 : Pv 0 σ H) (hl : ∀ i σ H, i ≤ xs.length → Pv i σ H → SqT K H a xs)
    (hs : ∀ i x σ H T, xs[i]? = some x → Pv i σ H → H T = none → g (.ref T) σ (upd H T (.tup [.int (i : Nat), x])) fun σ2 H2 => tb { D with nx := Pv (i + 1), ct := Pv (i + 1), bk := D.nx } σ2 H2) (hd : ∀ σ H, Pv xs.length σ H → D.nx σ H) :
    ∃ W : Nat → Nat → L2.St → Hp → Prop, (∃ m, W 0 m σ H) ∧ ∀ i m σ H, W i m σ H → ((Iet K a).stop i H ∧ D.nx σ H) ∨ ((Iet K a).go i H ∧ ∃ N : L2.St → Hp → Prop, (∀ σ' H', N σ' H' → ∃ m', m' < m ∧ W (i + 1) m' σ' H') ∧
      ∀ x H', (Iet K a).yld i H x H' → g x σ H' fun σ2 H2 => tb { D with nx := N, ct := N, bk := D.nx } σ2 H2) := by
  refine ⟨fun i m σ H => m = xs.length - i ∧ i ≤ xs.length ∧ Pv i σ H, ⟨xs.length, by simp, Nat.zero_le _, h0⟩, ?_⟩
  intro i m σ H w
  obtain ⟨em, hi, p⟩ := w
  subst em
  have q := hl i σ H hi p
  by_cases lt : i < xs.length
  · refine .inr ⟨⟨xs, xs[i], q, by simp [lt]⟩, Pv (i + 1), fun σ' H' p' => ⟨xs.length - (i + 1), by omega, rfl, lt, p'⟩, fun x H' y => ?_⟩
    obtain ⟨T, y1, rfl, hT, rfl, y2⟩ := y
    exact hs i y1 σ H T (y2 xs q) p hT
  · have e : i = xs.length := by omega
    subst e
    exact .inl ⟨⟨xs, q, Nat.le_refl _⟩, hd σ H p⟩
end KV

/-! changes made -/
namespace KV
open PySem PySem.Spec PyProof.Rows L2 KC
section
variable {P : Program} {w : World} {K : PySem.W.Frag} {mg : Str → Option Value} {base : Heap} {C fI : Addr}
/-- composed(one, other) -/
def spComp : Sp := fun vs H Q _ => ∃ (a b : Addr) (c e : List Nat), vs = [.ref a, .ref b] ∧ H a = some (.tup (vi c)) ∧ H b = some (.tup (vi e)) ∧ (∀ x ∈ c, x < e.length) ∧ c.length ≤ 16 ∧
  ∀ t H', Same H H' → H t = none → H' t = some (.tup (vi (comp c e))) → Q (.ref t) H'
/-- undone(change) -/
def spUnd : Sp := fun vs H Q _ => ∃ (a : Addr) (n : Nat) (c : List Nat), vs = [.ref a] ∧ H a = some (.tup (vi c)) ∧ Chg n c ∧ n ≤ 16 ∧ ∀ t H' e, Same H H' → H t = none → H' t = some (.tup (vi e)) → Und n c e → Q (.ref t) H'
theorem rep_int (n : Nat) (i : Int) : (List.replicate n [V.int i]).flatten = List.replicate n (V.int i) := by
  induction n with
  | zero => rfl
  | succ n ih => rw [List.replicate_succ, List.flatten_cons, ih, List.replicate_succ]; rfl
theorem rep_v (n : Nat) (v : V) : (List.replicate n [v]).flatten = List.replicate n v := by
  induction n with
  | zero => rfl
  | succ n ih => rw [List.replicate_succ, List.flatten_cons, ih, List.replicate_succ]; rfl
theorem vi_rep (n : Nat) : vi (List.replicate n 0) = List.replicate n (V.int 0) := by
  unfold vi
  rw [List.map_replicate]
  rfl
theorem ix_ok {α : Type} {xs : List α} {i : Nat} (h : i < xs.length) : ixN xs.length ((i : Nat) : Int) = some i := by
  unfold L2.ixN
  rw [if_pos (by omega), if_pos (by omega)]
  simp
end
end KV

/-! orders, loops, and the defs that check first -/
namespace KV
open PySem PySem.Spec PyProof.Rows L2 KC
theorem canLay_ints : ∀ ns : List Int, PyData.canLayAll0 (ns.map PyData.int) = true
  | [] => rfl
  | n :: r => by simp only [List.map_cons, PyData.canLayAll0, PyData.canLay0, canLay_ints r, Bool.and_self]
theorem shaped_intsT (ns : List Int) : SeqAt.shaped (.tuple (ns.map PyData.int)) = true := by
  unfold SeqAt.shaped
  simp only [PyData.canLay0, canLay_ints, PyData.depth, depth_ints]
  decide
theorem eqv_ints : ∀ ns ms : List Int, PyData.eqvAll (ns.map PyData.int) (ms.map PyData.int) = decide (ns = ms)
  | [], [] => rfl
  | [], _ :: _ => rfl
  | _ :: _, [] => rfl
  | n :: r, m :: s => by
    show (PyData.eqv (.int n) (.int m) && PyData.eqvAll (r.map PyData.int) (s.map PyData.int)) = _
    rw [eqv_ints r s]
    have e : PyData.eqv (.int n) (.int m) = decide (n = m) := by
      show (n == m) = _
      by_cases z : n = m <;> simp [z]
    rw [e]
    by_cases z : n = m <;> by_cases y : r = s <;> simp [z, y]
def zi (c : List Nat) : List Int := c.map fun (n : Nat) => (n : Int)
theorem vi_zi (c : List Nat) : vi c = (zi c).map V.int := by
  unfold zi
  rw [List.map_map]
  rfl
theorem zi_inj : ∀ {c e : List Nat}, zi c = zi e ↔ c = e
  | [], [] => by simp [zi]
  | [], _ :: _ => by simp [zi]
  | _ :: _, [] => by simp [zi]
  | a :: c, b :: e => by
    have ih := zi_inj (c := c) (e := e)
    unfold zi at ih ⊢
    simp only [List.map_cons, List.cons.injEq, Int.natCast_inj, ih]
theorem dpT {K : PySem.W.Frag} {H : Hp} {a : Addr} {c : List Nat} (h : H a = some (.tup (vi c))) : Dp K H (.ref a) (.tuple ((zi c).map PyData.int)) := .tup (SqT.of h) (by rw [vi_zi]; exact dp_ints (zi c))
theorem eqT {K : PySem.W.Frag} {H : Hp} {a b : Addr} {c e : List Nat} {Q : VK} (h1 : H a = some (.tup (vi c))) (h2 : H b = some (.tup (vi e))) (q : Q (.bl (decide (c = e))) H) : rEqD K (.ref a) (.ref b) H Q :=
  ⟨_, _, dpT h1, dpT h2, shaped_intsT _, shaped_intsT _, by
    have z : PyData.eqv (.tuple ((zi c).map PyData.int)) (.tuple ((zi e).map PyData.int)) = decide (c = e) := by
      show PyData.eqvAll _ _ = _
      rw [eqv_ints, decide_eq_decide]
      exact zi_inj
    rw [z]
    exact q⟩
theorem neT {K : PySem.W.Frag} {H : Hp} {a b : Addr} {c e : List Nat} {Q : VK} (h1 : H a = some (.tup (vi c))) (h2 : H b = some (.tup (vi e))) (q : Q (.bl (!decide (c = e))) H) : rNeD K (.ref a) (.ref b) H Q :=
  ⟨_, _, dpT h1, dpT h2, shaped_intsT _, shaped_intsT _, by
    have z : PyData.eqv (.tuple ((zi c).map PyData.int)) (.tuple ((zi e).map PyData.int)) = decide (c = e) := by
      show PyData.eqvAll _ _ = _
      rw [eqv_ints, decide_eq_decide]
      exact zi_inj
    rw [z]
    exact q⟩
end KV

/-! the law's draws -/
namespace KV
open PySem PySem.Spec PyProof.Rows L2 KC
theorem shaped_ints (ns : List Int) : SeqAt.shaped (.list (ns.map PyData.int)) = true := by
  unfold SeqAt.shaped
  simp only [PyData.canLay0, canLay_ints, PyData.depth, depth_ints]
  decide
theorem dpL {K : PySem.W.Frag} {H : Hp} {a : Addr} {ns : List Int} (h : SqL K H a (ns.map V.int)) : Dp K H (.ref a) (.list (ns.map PyData.int)) := .lst h (dp_ints ns)
/-- xs != ys, xs == ys of lists of ints: the answer -/
theorem neL {K : PySem.W.Frag} {H : Hp} {a b : Addr} {ns ms : List Int} {Q : VK} (h1 : SqL K H a (ns.map V.int)) (h2 : SqL K H b (ms.map V.int)) (q : Q (.bl (!decide (ns = ms))) H) : rNeD K (.ref a) (.ref b) H Q :=
  ⟨_, _, dpL h1, dpL h2, shaped_ints ns, shaped_ints ms, by
    have e : PyData.eqv (.list (ns.map PyData.int)) (.list (ms.map PyData.int)) = decide (ns = ms) := eqv_ints ns ms
    rw [e]
    exact q⟩
theorem eqL {K : PySem.W.Frag} {H : Hp} {a b : Addr} {ns ms : List Int} {Q : VK} (h1 : SqL K H a (ns.map V.int)) (h2 : SqL K H b (ms.map V.int)) (q : Q (.bl (decide (ns = ms))) H) : rEqD K (.ref a) (.ref b) H Q :=
  ⟨_, _, dpL h1, dpL h2, shaped_ints ns, shaped_ints ms, by
    have e : PyData.eqv (.list (ns.map PyData.int)) (.list (ms.map PyData.int)) = decide (ns = ms) := eqv_ints ns ms
    rw [e]
    exact q⟩
/-- the source of draws at d, its cells at c -/
def Dl (H : Hp) (d c : Addr) : Prop := d ≠ c ∧ ∃ (cs : List Int) (b : Int), H d = some (.lst [.ref c, .int b]) ∧ H c = some (.lst (cs.map V.int)) ∧ (∀ x ∈ cs, 0 ≤ x) ∧ cs.length ≤ 64 ∧ 0 ≤ b ∧ b < 2147483648
/-- all else stands -/
def Kp (d c : Addr) (H H' : Hp) : Prop := ∀ b o, b ≠ d → b ≠ c → H b = some o → H' b = some o
theorem Kp.refl {d c : Addr} {H : Hp} : Kp d c H H := fun _ _ _ _ h => h
theorem Kp.trans {d c : Addr} {H H1 H2 : Hp} (a : Kp d c H H1) (b : Kp d c H1 H2) : Kp d c H H2 := fun x o h1 h2 h => b x o h1 h2 (a x o h1 h2 h)
theorem Kp.of {d c : Addr} {H H' : Hp} (s : Same H H') : Kp d c H H' := fun b o _ _ h => s b o h
theorem Kp.upd_d {d c : Addr} {H H' : Hp} {o : HO} (k : Kp d c H H') : Kp d c H (upd H' d o) := fun b u h1 h2 h => by
  rw [upd_ne h1]
  exact k b u h1 h2 h
theorem Kp.upd_c {d c : Addr} {H H' : Hp} {o : HO} (k : Kp d c H H') : Kp d c H (upd H' c o) := fun b u h1 h2 h => by
  rw [upd_ne h2]
  exact k b u h1 h2 h
theorem Kp.new {d c p : Addr} {H H' : Hp} {o : HO} (k : Kp d c H H') (hp : H' p = none) : Kp d c H (upd H' p o) := k.trans (Kp.of (Same.new hp))
theorem Kp.free {d c p : Addr} {H H' : Hp} (k : Kp d c H H') (hd : p ≠ d) (hc : p ≠ c) (hp : H' p = none) : H p = none := by
  cases e : H p with
  | none => rfl
  | some o =>
    rw [k p o hd hc e] at hp
    cases hp
theorem Dl.same {H H' : Hp} {d c : Addr} (h : Dl H d c) (s : Same H H') : Dl H' d c := by
  obtain ⟨n, cs, b, h1, h2, r⟩ := h
  exact ⟨n, cs, b, s _ _ h1, s _ _ h2, r⟩
theorem Dl.ne {H : Hp} {d c p : Addr} (h : Dl H d c) (hp : H p = none) : p ≠ d ∧ p ≠ c := by
  obtain ⟨_, cs, b, h1, h2, _⟩ := h
  exact ⟨fun e => (by rw [e, h1] at hp; cases hp), fun e => (by rw [e, h2] at hp; cases hp)⟩
theorem Dl.neT {H : Hp} {d c p : Addr} {xs : List V} (h : Dl H d c) (hp : H p = some (.tup xs)) : p ≠ d ∧ p ≠ c := by
  obtain ⟨_, cs, b, h1, h2, _⟩ := h
  exact ⟨fun e => (by rw [e, h1] at hp; cases hp), fun e => (by rw [e, h2] at hp; cases hp)⟩
section
variable {P : Program} {w : World} {K : PySem.W.Frag} {mg : Str → Option Value} {base : Heap}
def spDraw (K : PySem.W.Frag) : Sp := fun vs H Q _ => ∃ (a : Addr) (ns : List Int) (sa : Int), vs = [.ref a, .int sa] ∧ SqL K H a (ns.map V.int) ∧ 0 ≤ sa ∧ sa < 1000 ∧ ∀ H' d c, Same H H' → H d = none → H c = none → Dl H' d c → Q (.ref d) H'
theorem sk17 : FnScope ["_law_script", "_law_salt", "_law_cell", "_law_cells", "_law_blend"] ["_law_script", "_law_salt"] (defScope (top 46)) := ⟨rfl, rfl, rfl, by decide +kernel, rfl, by decide +kernel, by decide +kernel⟩
theorem ok_draw {f : Addr} {fd : FuncData} (B : Bl mg) (F : Fun K "_law_draw" "_law_draw" (top 46) f fd) : FnOk P w K mg base CX0 1 f fd ["_law_script", "_law_salt"] (spDraw K) := by
  refine F.ok sk17 (fun vs H Q E h => ?_) (fun cdv A outer s H vs Q E hr h => ⟨_,
    pss_cons (ps_setLc (i := 3) (own := [("_law_cell", 2)]) (g := gName 2) (tt := tYes) rfl sk17.nd rfl rfl (sw_true rfl rfl rfl (by decide +kernel)) (pi_list (pe_slice sl_list (pv 0) po_none (po_some pe_int)))
      (blkOk_by (N := ["_law_script", "_law_salt", "_law_cell", "_law_cells", "_law_blend"]) (sc := defScope (top 46)) (by decide +kernel)) (fun _ _ _ _ _ => pg_name (i := 2) sk17.nd rfl (Or.inl rfl)) (fun _ _ _ _ _ => pts_nil)
      (fun _ _ _ _ _ => pe_callB call_abs (by rfl) B.abs (by decide +kernel) (pa_cons (pe_callTy call_int1 (by rfl) B.int PyProof.Rows.boot_int (pa_cons (pv 2) pa_nil)) pa_nil)))
    (pss_cons (ps_set (i := 4) sk17.nd rfl (.inl rfl) (pe_op op_add pe_int (pe_op op_mul pe_int (pv 1))))
    (pss_cons (ps_for PassesOwn.never rfl (pi_list (pv 3)) (pg_name (i := 2) sk17.nd rfl (.inl rfl))
      (pss_one (ps_set (i := 4) sk17.nd rfl (.inl rfl) (pe_op op_mod (pe_callTy call_int1 (by rfl) B.int PyProof.Rows.boot_int (pa_cons (pe_op op_add (pe_op op_add (pe_op op_mul (pv 4) pe_int) (pe_op op_mod (pv 2) pe_int)) pe_int) pa_nil)) pe_int))))
    (pss_one (ps_ret (pe_lst (pa_cons (pe_revL
      (pe_lc (own := [("_law_cell", 2)]) (g := gName 2) rfl sk17.nd (pi_list (pv 3)) (blkOk_by (N := ["_law_script", "_law_salt", "_law_cell", "_law_cells", "_law_blend"]) (sc := defScope (top 46)) (by decide +kernel))
        (fun _ _ _ _ _ => pg_name (i := 2) sk17.nd rfl (Or.inl rfl)) (fun _ _ _ _ _ => pts_one (pt_cmpR op_ge (pv 2) (pe_op op_pow pe_int pe_int) (nomark _))) (fun _ _ _ _ _ => pv 2))) (pa_cons (pv 4) pa_nil))))))), ?_⟩)
  · obtain ⟨a, ns, sa, rfl, _⟩ := h
    rfl
  obtain ⟨a, ns, sa, rfl, hS, s0, s1, q⟩ := h
  refine ⟨_, rfl, _, rfl, a, _, rfl, hS, fun p hp => ?_⟩
  have ecut : cutV (ns.map V.int) none (some 48) = (ns.take 48).map V.int := by
    unfold cutV
    have e1 : HT.sIx (ns.map V.int).length 0 none = 0 := rfl
    have e2 : HT.sIx (ns.map V.int).length (ns.map V.int).length (some 48) = min 48 (ns.map V.int).length := HT.sIx_nat _ _ 48
    rw [e1, e2, List.drop_zero, Nat.sub_zero, List.length_map, List.map_take]
    rw [← List.length_map (f := V.int) (as := ns)]
    exact List.take_eq_take_min.symm
  have sp : Same H (upd H p (.lst (cutV (ns.map V.int) none (some 48)))) := Same.new hp
  have hpS : SqL K (upd H p (.lst (cutV (ns.map V.int) none (some 48)))) p ((ns.take 48).map V.int) := SqL.of (by rw [upd_same, ecut])
  generalize upd H p (.lst (cutV (ns.map V.int) none (some 48))) = H1 at sp hpS
  have l48 : (ns.take 48).length ≤ 48 := by rw [List.length_take]; omega
  generalize ns.take 48 = ms at hpS l48
  refine ⟨p, rfl, ⟨_, hpS⟩, fun D hD => lc_list (xs := ms.map V.int) (fun i H' => Same H1 H' ∧ ∃ cs : List Int, cs.length = i ∧ (∀ x ∈ cs, 0 ≤ x) ∧ H' D = some (.lst (cs.map V.int))) ⟨Same.new hD, [], rfl, fun _ z => by simp at z, upd_same⟩
    (fun i H' _ z => z.1.seq hpS) ?_ ?_⟩
  · rintro i x H' hx ⟨p1, cs, cl, c0, p2⟩
    obtain ⟨m, hm, rfl⟩ := map_at hx
    have hi := (List.getElem?_eq_some_iff.mp hm).1
    refine ⟨rfl, _, rfl, .inl ⟨m, rfl, m, rfl, cs.map V.int, p2, len_lt (by rw [List.length_map]; omega), Same.upd p1 hD, cs ++ [if m < 0 then -m else m], by simp [cl], fun y hy => ?_, ?_⟩⟩
    · rcases List.mem_append.mp hy with hy | hy
      · exact c0 y hy
      · have : y = if m < 0 then -m else m := by simpa using hy
        rw [this]
        split <;> omega
    · rw [upd_same, List.map_append]
      rfl
  · rintro H' ⟨p1, cs, cl, c0, p2⟩
    rw [List.length_map] at cl
    refine ⟨_, rfl, _, _, rfl, rfl, .inl ⟨by decide, by omega⟩, _, _, rfl, rfl, ?_⟩
    refine ⟨_, rfl, D, rfl, ⟨_, SqL.of p2⟩, for_list (xs := cs.map V.int) (fun i σ H2 => (∃ (u : Option V) (b : Int), 0 ≤ b ∧ b < 2147483648 ∧ σ = [some (.ref a), some (.int sa), u, some (.ref D), some (.int b)]) ∧ H2 = H')
      ⟨⟨none, _, ?_, ?_, rfl⟩, rfl⟩ ?_ ?_ ?_⟩
    · show 0 ≤ 7919 + 104729 * sa
      omega
    · show 7919 + 104729 * sa < 2147483648
      omega
    · rintro i σ H2 _ ⟨_, rfl⟩
      exact SqL.of p2
    · rintro i x σ H2 hx ⟨⟨u, b, b0, b1, rfl⟩, rfl⟩
      obtain ⟨m, hm, rfl⟩ := map_at hx
      refine ⟨_, rfl, _, _, rfl, rfl, .inl ⟨by omega, by omega⟩, _, rfl, _, _, rfl, rfl, (by show (0 : Int) < 2147483549; decide), _, _, rfl, rfl, _, _, rfl, rfl, .inl ⟨_, rfl, _, _, rfl, rfl, (by show (0 : Int) < 2147483647; decide), ⟨some (.int m), _, ?_, ?_, rfl⟩, rfl⟩⟩
      · exact Int.emod_nonneg _ (by decide)
      · have := Int.emod_lt_of_pos (b * 48271 + m % 2147483549 + 11) (show (0 : Int) < 2147483647 by decide)
        omega
    · rintro σ H2 ⟨⟨u, b, b0, b1, rfl⟩, rfl⟩
      refine ⟨_, rfl, D, rfl, ⟨_, SqL.of p2⟩, fun D2 hD2 => lc_list (xs := cs.map V.int) (fun i H3 => Same H2 H3 ∧ ∃ es : List Int, es.length ≤ i ∧ (∀ x ∈ es, 0 ≤ x) ∧ H3 D2 = some (.lst (es.map V.int))) ⟨Same.new hD2, [], Nat.le_refl _, fun _ z => by simp at z, upd_same⟩
        (fun i H3 _ z => z.1.seq (SqL.of p2)) ?_ ?_⟩
      · rintro i x H3 hx ⟨q1, es, el, e0, q2⟩
        obtain ⟨m, hm, rfl⟩ := map_at hx
        have hi := (List.getElem?_eq_some_iff.mp hm).1
        refine ⟨rfl, _, rfl, _, _, rfl, rfl, ⟨by decide, by decide, by decide⟩, _, _, rfl, rfl, _, rfl, ?_⟩
        cases decide ((10 : Int) ^ (18 : Int).toNat ≤ m) with
        | true =>
          refine iteT ⟨_, rfl, es.map V.int, q2, len_lt (by rw [List.length_map]; omega), Same.upd q1 hD2, es ++ [m], by simp; omega, fun y hy => ?_, ?_⟩
          · rcases List.mem_append.mp hy with hy | hy
            · exact e0 y hy
            · have : y = m := by simpa using hy
              rw [this]
              exact c0 m (List.mem_of_getElem? hm)
          · rw [upd_same, List.map_append]
            rfl
        | false => exact iteF ⟨q1, es, by omega, e0, q2⟩
      · rintro H3 ⟨q1, es, el, e0, q2⟩
        rw [List.length_map] at el
        refine ⟨D2, _, rfl, SqL.of q2, fun c hc => ⟨_, rfl, (by show 2 ≤ sizeLine; decide), fun d hd => ?_⟩⟩
        have t1 : Same H H3 := (sp.trans p1).trans q1
        have t2 : Same H (upd H3 c (.lst (es.map V.int).reverse)) := Same.upd t1 (t1.free hc)
        have dc : d ≠ c := fun e => by
          rw [e, upd_same] at hd
          cases hd
        refine q _ d c (Same.upd t2 (t2.free hd)) (t2.free hd) (t1.free hc) ⟨dc, es.reverse, b, upd_same, ?_, fun x hx => e0 x (by simpa using hx), by rw [List.length_reverse]; omega, b0, b1⟩
        rw [upd_ne (Ne.symm dc), upd_same, List.map_reverse]
end
end KV

/-! any, of, divisor -/
namespace KV
open PySem PySem.Spec PyProof.Rows L2 KC
section
variable {P : Program} {w : World} {K : PySem.W.Frag} {mg : Str → Option Value} {base : Heap}
def spAny : Sp := fun vs H Q _ => ∃ (d c : Addr) (m : Int), vs = [.ref d, .int m] ∧ Dl H d c ∧ 0 < m ∧ sm 200 m ∧ ∀ r H', 0 ≤ r → r < m → Dl H' d c → Kp d c H H' → Q (.int r) H'
theorem sk18 : FnScope ["_law_deal", "_law_bound", "_law_rest"] ["_law_deal", "_law_bound"] (defScope (top 47)) := ⟨rfl, rfl, rfl, by decide +kernel, rfl, by decide +kernel, by decide +kernel⟩
theorem at0 {x y : V} : atI [x, y] 0 = some x := rfl
theorem at1 {x y : V} : atI [x, y] 1 = some y := rfl
theorem at_last {es : List Int} {e : Int} : atI ((es ++ [e]).map V.int) (-1) = some (.int e) := by
  have hl : ((es ++ [e]).map V.int).length = es.length + 1 := by simp
  unfold atI L2.ixN
  rw [hl, if_neg (by decide), if_pos (by omega)]
  have e1 : (-1 + ((es.length + 1 : Nat) : Int)).toNat = es.length := by omega
  show ((es ++ [e]).map V.int)[(-1 + ((es.length + 1 : Nat) : Int)).toNat]? = _
  rw [e1, List.map_append, List.getElem?_append_right (by simp)]
  simp
theorem last_at {es : List Int} {e : Int} : ((es ++ [e]).map V.int)[((es ++ [e]).map V.int).length - 1]? = some (V.int e) := by
  rw [List.map_append, List.getElem?_append_right (by simp)]
  simp
theorem last_drop {es : List Int} {e : Int} : ((es ++ [e]).map V.int).dropLast = es.map V.int := by
  rw [List.map_append]
  exact List.dropLast_concat
def AnyW (d c : Addr) (m b : Int) (H : Hp) (k : Nat) (σ : L2.St) (H' : Hp) : Prop := σ = [some (.ref d), some (.int m), none] ∧ Kp d c H H' ∧ ∃ es : List Int, k = es.length ∧ (∀ x ∈ es, 0 ≤ x) ∧ es.length ≤ 64 ∧ H' d = some (.lst [.ref c, .int b]) ∧ H' c = some (.lst (es.map V.int))
theorem ok_any {f : Addr} {fd : FuncData} (B : Bl mg) (F : Fun K "_law_any" "_law_any" (top 47) f fd) : FnOk P w K mg base CX0 1 f fd ["_law_deal", "_law_bound"] spAny := by
  refine F.ok sk18 (fun vs H Q E h => ?_) (fun cdv A outer s H vs Q E hr h => ⟨_,
    pss_cons (ps_while PassesOwn.never (PW.pt (pw_and (pt_cmpR (op_neD hr.units) (pe_ix ix_list (pv 0) pe_int (fun _ _ => rfl)) (pe_lst pa_nil) (nomark _))
        (pw_and1 (pt_cmpR op_eq (pe_ix ix_list (pe_ix ix_list (pv 0) pe_int (fun _ _ => rfl)) (pe_un un_neg pe_int) (fun _ _ => rfl)) pe_int (nomark _)))))
      (pss_one (ps_expr (pe_bm0 PySem.F.plainAttrs_list PySem.F.slot_list_pop PySem.F.type_list_pop mt_pop (pe_ix ix_list (pv 0) pe_int (fun _ _ => rfl))))))
    (pss_cons (ps_if (pt_cmpR (op_neD hr.units) (pe_ix ix_list (pv 0) pe_int (fun _ _ => rfl)) (pe_lst pa_nil) (nomark _))
      (pss_cons (ps_set (i := 2) sk18.nd rfl (.inl rfl) (pe_callTy call_int1 (by rfl) B.int PyProof.Rows.boot_int (pa_cons (pe_bm0 PySem.F.plainAttrs_list PySem.F.slot_list_pop PySem.F.type_list_pop mt_pop (pe_ix ix_list (pv 0) pe_int (fun _ _ => rfl))) pa_nil)))
      (pss_cons (ps_expr (pe_bm PySem.F.plainAttrs_list PySem.F.slot_list_append PySem.F.type_list_append mt_append (pe_ix ix_list (pv 0) pe_int (fun _ _ => rfl)) (pa_cons (pe_op op_fdivW (pv 2) (pv 1)) pa_nil)))
      (pss_one (ps_ret (pe_op op_mod (pv 2) (pv 1)))))) pss_nil)
    (pss_cons (ps_asg (pe_op op_mod (pe_callTy call_int1 (by rfl) B.int PyProof.Rows.boot_int (pa_cons (pe_op op_add (pe_op op_mul (pe_ix ix_list (pv 0) pe_int (fun _ _ => rfl)) pe_int) pe_int) pa_nil)) pe_int) (pg_sub (pv 0) pe_int set_list))
    (pss_one (ps_ret (pe_op op_mod (pe_callTy call_int1 (by rfl) B.int PyProof.Rows.boot_int (pa_cons (pe_op op_fdiv (pe_ix ix_list (pv 0) pe_int (fun _ _ => rfl)) pe_int) pa_nil)) (pv 1)))))), ?_⟩)
  · obtain ⟨d, c, m, rfl, _⟩ := h
    rfl
  obtain ⟨d, c, m, rfl, hD, m0, ms, q⟩ := h
  obtain ⟨dc, cs, b, h1, h2, c0, cl, b0, b1⟩ := hD
  refine sq_cut (fun σ H' => σ = [some (.ref d), some (.int m), none] ∧ Kp d c H H' ∧ ∃ es : List Int, (∀ x ∈ es, 0 ≤ x) ∧ es.length ≤ 64 ∧ H' d = some (.lst [.ref c, .int b]) ∧ H' c = some (.lst (es.map V.int))) (fun Z hZ => ?_) ?_
  · refine ⟨AnyW d c m b H,
      ⟨_, rfl, Kp.refl, cs, rfl, c0, cl, h1, h2⟩, ?_⟩
    rintro k σ H' ⟨rfl, hk, es, rfl, e0, el, g1, g2⟩
    refine ⟨_, rfl, d, _, _, _, rfl, rfl, SqL.of g1, at0, (by show 0 ≤ sizeLine; decide), fun p hp => ?_⟩
    have hpc : p ≠ c := fun e => by rw [e, g2] at hp; cases hp
    have hpd : p ≠ d := fun e => by rw [e, g1] at hp; cases hp
    have u1 : upd H' p (.lst []) d = some (.lst [.ref c, .int b]) := by rw [upd_ne (Ne.symm hpd)]; exact g1
    have u2 : upd H' p (.lst []) c = some (.lst (es.map V.int)) := by rw [upd_ne (Ne.symm hpc)]; exact g2
    have uk : Kp d c H (upd H' p (.lst [])) := hk.new hp
    have u3 : upd H' p (.lst []) p = some (.lst []) := upd_same
    generalize upd H' p (.lst []) = H1 at u1 u2 u3 uk
    refine neL (ns := es) (ms := []) (SqL.of u2) (SqL.of u3) ⟨_, rfl, ?_⟩
    rcases List.eq_nil_or_concat es with rfl | ⟨es', e, ee⟩
    · exact iteN (by simp) (iteF (hZ _ _ ⟨rfl, uk, [], fun _ z => by simp at z, by simp, u1, u2⟩))
    · rw [List.concat_eq_append] at ee
      subst ee
      refine iteP (by simp) ⟨_, rfl, d, _, _, _, rfl, rfl, SqL.of u1, at0, ?_⟩
      refine ⟨_, rfl, c, _, _, _, rfl, rfl, SqL.of u2, at_last, rfl, _, rfl, ?_⟩
      by_cases e1 : e = 0
      · refine iteP (by simp [e1]) ⟨fun σ H' => ∃ m', m' < (es' ++ [e]).length ∧ AnyW d c m b H m' σ H', fun _ _ z => z, _, rfl, d, _, _, _, rfl, rfl, SqL.of u1, at0, .inl ⟨rfl, _, SqL.of u2⟩, c, _, _, rfl, rfl, u2, last_at, ?_⟩
        rw [last_drop]
        refine ⟨es'.length, by simp, rfl, uk.upd_c, es', rfl, fun x hx => e0 x (by simp [hx]), by simp at el; omega, ?_, upd_same⟩
        rw [upd_ne dc]
        exact u1
      · exact iteN (by simp [e1]) (hZ _ _ ⟨rfl, uk, _, e0, el, u1, u2⟩)
  · rintro σ H' ⟨rfl, hk, es, e0, el, g1, g2⟩
    refine ⟨_, rfl, d, _, _, _, rfl, rfl, SqL.of g1, at0, (by show 0 ≤ sizeLine; decide), fun p hp => ?_⟩
    have hpc : p ≠ c := fun e => by rw [e, g2] at hp; cases hp
    have hpd : p ≠ d := fun e => by rw [e, g1] at hp; cases hp
    have u1 : upd H' p (.lst []) d = some (.lst [.ref c, .int b]) := by rw [upd_ne (Ne.symm hpd)]; exact g1
    have u2 : upd H' p (.lst []) c = some (.lst (es.map V.int)) := by rw [upd_ne (Ne.symm hpc)]; exact g2
    have uk : Kp d c H (upd H' p (.lst [])) := hk.new hp
    have u3 : upd H' p (.lst []) p = some (.lst []) := upd_same
    generalize upd H' p (.lst []) = H1 at u1 u2 u3 uk
    refine neL (ns := es) (ms := []) (SqL.of u2) (SqL.of u3) ⟨_, rfl, ?_⟩
    rcases List.eq_nil_or_concat es with rfl | ⟨es', e, ee⟩
    · refine iteN (by simp) ⟨_, rfl, d, _, _, _, rfl, rfl, SqL.of u1, at1, _, _, rfl, rfl, .inl ⟨by omega, by omega⟩, _, _, rfl, rfl, .inl ⟨_, rfl, _, _, rfl, rfl, (by show (0 : Int) < 2147483647; decide), _, rfl, d, _, _, _, rfl, rfl, u1, rfl, ?_⟩⟩
      have f0 := Int.emod_nonneg (b * 40693 + 71) (show (2147483647 : Int) ≠ 0 by decide)
      have f1 := Int.emod_lt_of_pos (b * 40693 + 71) (show (0 : Int) < 2147483647 by decide)
      obtain ⟨b', eb⟩ : ∃ b', b' = (b * 40693 + 71) % 2147483647 := ⟨_, rfl⟩
      rw [← eb] at f0 f1
      have e8 : [V.ref c, V.int b].set (Int.toNat 1) ((fun i j : Int => V.int (i % j)) (b * 40693 + 71) 2147483647) = [V.ref c, V.int b'] := by
        show [V.ref c, V.int ((b * 40693 + 71) % 2147483647)] = _
        rw [← eb]
      rw [e8]
      have w1 : upd H1 d (.lst [.ref c, .int b']) d = some (.lst [.ref c, .int b']) := upd_same
      have w2 : upd H1 d (.lst [.ref c, .int b']) c = some (.lst (([] : List Int).map V.int)) := by
        rw [upd_ne (Ne.symm dc)]
        exact u2
      have wk : Kp d c H (upd H1 d (.lst [.ref c, .int b'])) := uk.upd_d
      refine ⟨_, rfl, d, _, _, _, rfl, rfl, SqL.of w1, at1, _, _, rfl, rfl, ⟨by decide, by decide⟩, .inl ⟨_, rfl, _, rfl, _, _, rfl, rfl, m0, ?_⟩⟩
      exact q _ _ (Int.emod_nonneg _ (by omega)) (Int.emod_lt_of_pos _ m0) ⟨dc, [], b', w1, w2, fun _ z => by simp at z, by simp, f0, by omega⟩ wk
    · rw [List.concat_eq_append] at ee
      subst ee
      refine iteP (by simp) ⟨_, rfl, d, _, _, _, rfl, rfl, SqL.of u1, at0, .inl ⟨rfl, _, SqL.of u2⟩, c, _, _, rfl, rfl, u2, last_at, ?_⟩
      rw [last_drop]
      have w2 : upd H1 c (.lst (es'.map V.int)) c = some (.lst (es'.map V.int)) := upd_same
      have w1 : upd H1 c (.lst (es'.map V.int)) d = some (.lst [.ref c, .int b]) := by
        rw [upd_ne dc]
        exact u1
      have wk : Kp d c H (upd H1 c (.lst (es'.map V.int))) := uk.upd_c
      generalize upd H1 c (.lst (es'.map V.int)) = H3 at w1 w2 wk
      have el' : es'.length + 1 ≤ 64 := by simpa using el
      refine .inl ⟨e, rfl, _, rfl, d, _, _, _, rfl, rfl, SqL.of w1, at0, .inl ⟨rfl, _, SqL.of w2⟩, _, rfl, _, rfl, _, _, rfl, rfl, divW m0 ms (by decide) (by decide), c, _, _, rfl, rfl, w2, len_lt (by simp; omega), ?_⟩
      have x2 : upd H3 c (.lst (es'.map V.int ++ [V.int (e / m)])) c = some (.lst ((es' ++ [e / m]).map V.int)) := by rw [upd_same, List.map_append]; rfl
      have x1 : upd H3 c (.lst (es'.map V.int ++ [V.int (e / m)])) d = some (.lst [.ref c, .int b]) := by
        rw [upd_ne dc]
        exact w1
      have xk : Kp d c H (upd H3 c (.lst (es'.map V.int ++ [V.int (e / m)]))) := wk.upd_c
      generalize upd H3 c (.lst (es'.map V.int ++ [V.int (e / m)])) = H4 at x1 x2 xk
      refine ⟨_, rfl, _, rfl, _, _, rfl, rfl, m0, ?_⟩
      have e1 := e0 e (by simp)
      exact q _ _ (Int.emod_nonneg _ (by omega)) (Int.emod_lt_of_pos _ m0) ⟨dc, es' ++ [e / m], b, x1, x2, fun x hx => by
        rcases List.mem_append.mp hx with hx | hx
        · exact e0 x (by simp [hx])
        · have : x = e / m := by simpa using hx
          rw [this]
          exact Int.ediv_nonneg e1 (by omega), by simp; omega, b0, b1⟩ xk
end
end KV

/-! of, divisor -/
namespace KV
open PySem PySem.Spec PyProof.Rows L2 KC
theorem Kp.seqL {K : PySem.W.Frag} {d c : Addr} {H H' : Hp} {a : Addr} {xs : List V} (k : Kp d c H H') (hd : a ≠ d) (hc : a ≠ c) (h : SqL K H a xs) : SqL K H' a xs := by
  rcases h with (h | ⟨o, h⟩) | h
  · exact .inl (.inl (k _ _ hd hc h))
  · exact .inl (.inr ⟨o, k _ _ hd hc h⟩)
  · exact .inr h
theorem Kp.seqT {K : PySem.W.Frag} {d c : Addr} {H H' : Hp} {a : Addr} {xs : List V} (k : Kp d c H H') (hd : a ≠ d) (hc : a ≠ c) (h : SqT K H a xs) : SqT K H' a xs := by
  rcases h with (h | ⟨o, h⟩) | h
  · exact .inl (.inl (k _ _ hd hc h))
  · exact .inl (.inr ⟨o, k _ _ hd hc h⟩)
  · exact .inr h
section
variable {P : Program} {w : World} {K : PySem.W.Frag} {mg : Str → Option Value} {base : Heap}
def spOf (K : PySem.W.Frag) : Sp := fun vs H Q _ => ∃ (d c a : Addr) (xs : List V), vs = [.ref d, .ref a] ∧ Dl H d c ∧ a ≠ d ∧ a ≠ c ∧ SqL K H a xs ∧ 0 < xs.length ∧ xs.length ≤ 1000 ∧ ∀ (j : Nat) x H', xs[j]? = some x → Dl H' d c → Kp d c H H' → Q x H'
theorem sk19 : FnScope ["_law_deal", "_law_some"] ["_law_deal", "_law_some"] (defScope (top 48)) := ⟨rfl, rfl, rfl, by decide +kernel, rfl, by decide +kernel, by decide +kernel⟩
theorem ok_of {f : Addr} {fd : FuncData} (B : Bl mg) (CA : Cal P w K mg base CX0 1 "_law_any" ["_law_deal", "_law_bound"] spAny) (F : Fun K "_law_of" "_law_of" (top 48) f fd) : FnOk P w K mg base CX0 2 f fd ["_law_deal", "_law_some"] (spOf K) := by
  refine F.ok sk19 (fun vs H Q E h => ?_) (fun cdv A outer s H vs Q E hr h => ⟨_,
    pss_one (ps_ret (pe_ix ix_list (pv 1) (pe_cal (X := L2.Cx.nox _) CA hr (by decide) (pa_cons (pv 0) (pa_cons (pe_callB call_len_seq (by rfl) B.len PySem.boot_len (pa_cons (pv 1) pa_nil)) pa_nil))) (fun _ _ => rfl))), ?_⟩)
  · obtain ⟨d, c, a, xs, rfl, _⟩ := h
    rfl
  obtain ⟨d, c, a, xs, rfl, hD, ad, ac, hS, l0, l1, q⟩ := h
  refine ⟨_, rfl, _, rfl, _, rfl, a, xs, rfl, .inl hS, d, c, _, rfl, hD, by omega, ?_, fun r H' r0 r1 hD' hk => ?_⟩
  · exact sm_of (by omega) (Int.lt_of_le_of_lt (show (xs.length : Int) ≤ 1000 by omega) (by decide))
  · have hj : r.toNat < xs.length := by omega
    have e1 : atI xs r = some xs[r.toNat] := by
      unfold atI L2.ixN
      rw [if_pos r0, if_pos r1]
      exact List.getElem?_eq_getElem hj
    exact ⟨a, xs, r, _, rfl, rfl, hk.seqL ad ac hS, e1, q r.toNat _ _ (List.getElem?_eq_getElem hj) hD' hk⟩
end
end KV

/-! the law's own steps: one change and another, back, another order, a count -/
namespace KV
open PySem PySem.Spec PyProof.Rows L2 KC
theorem Dl.upd {H : Hp} {d c p : Addr} {o : HO} (h : Dl H d c) (hd : p ≠ d) (hc : p ≠ c) : Dl (L2.upd H p o) d c := by
  obtain ⟨n, cs, b, h1, h2, r⟩ := h
  exact ⟨n, cs, b, by rw [upd_ne (Ne.symm hd)]; exact h1, by rw [upd_ne (Ne.symm hc)]; exact h2, r⟩
theorem vi_erase (ls : List Nat) (k : Nat) : (vi ls).eraseIdx k = vi (ls.eraseIdx k) := by
  induction ls generalizing k with
  | nil => rfl
  | cons x ls ih =>
    cases k with
    | zero => rfl
    | succ k =>
      show V.int x :: (vi ls).eraseIdx k = V.int x :: vi (ls.eraseIdx k)
      rw [ih]
theorem perm_erase : ∀ (ls : List Nat) (k : Nat) (h : k < ls.length), (ls[k] :: ls.eraseIdx k).Perm ls
  | x :: ls, 0, _ => List.Perm.refl _
  | x :: ls, k + 1, h => by
    have h' : k < ls.length := by simpa using h
    have z := perm_erase ls k h'
    show (ls[k] :: x :: ls.eraseIdx k).Perm (x :: ls)
    exact (List.Perm.swap x _ _).trans (z.cons x)
theorem Kp.updn {d c p : Addr} {H H' : Hp} {o : HO} (k : Kp d c H H') (hp : H p = none) : Kp d c H (L2.upd H' p o) := fun b u h1 h2 h => by
  rw [upd_ne (ne_of_none h hp)]
  exact k b u h1 h2 h
section
variable {P : Program} {w : World} {K : PySem.W.Frag} {mg : Str → Option Value} {base : Heap}
/-- the things in another order -/
def spMix : Sp := fun vs H Q _ => ∃ (d c a : Addr) (ns : List Nat), vs = [.ref d, .ref a] ∧ Dl H d c ∧ H a = some (.lst (vi ns)) ∧ a ≠ d ∧ a ≠ c ∧ ns.length ≤ 16 ∧ ∀ l ms H', ms.Perm ns → H l = none → H' l = some (.lst (vi ms)) → Dl H' d c → Kp d c H H' → Q (.ref l) H'
def MixW (d c a l f : Addr) (ns : List Nat) (H : Hp) (k : Nat) (σ : L2.St) (H' : Hp) : Prop := σ = [some (.ref d), some (.ref a), some (.ref l), some (.ref f)] ∧ ∃ ls fs : List Nat, k = ls.length ∧ (fs ++ ls).Perm ns ∧ H' l = some (.lst (vi ls)) ∧ H' f = some (.lst (vi fs)) ∧ Dl H' d c ∧ Kp d c H H'
/-- a count -/
def spCount : Sp := fun vs H Q _ => ∃ (d c : Addr), vs = [.ref d] ∧ Dl H d c ∧ ∀ n H', sm 100 n → Dl H' d c → Kp d c H H' → Q (.int n) H'
end
end KV

/-! sorted of a dict whose keys are tuples of ints, fewer than 64: some list of the keys -/
namespace KV
open PySem PySem.Spec PyProof.Rows L2
def rSortDT : List V → Hp → VK → Prop := fun xs H Q => ∃ (a : Addr) (kvs : List (List L2.Key × V)) (d : Nat) (B : Int), xs = [.ref a] ∧ H a = some (.dT kvs) ∧ kvs.length < 64 ∧ 1 ≤ d ∧
  (∀ p ∈ kvs, ∃ ns : List Int, p.1.map L2.kV = ns.map V.int ∧ ns.length = d ∧ TS.Bd B ns) ∧
  ∀ (bs cs : List Addr) (p : Addr), L2.IsKeys H kvs bs → cs.Perm bs → H p = none → Q (.ref p) (L2.upd H p (.lst (cs.map V.ref)))
theorem keys_mem {H : Hp} {kvs : List (List L2.Key × V)} {bs : List Addr} (h : L2.IsKeys H kvs bs) : ∀ b ∈ bs, ∃ p ∈ kvs, H b = some (.tup (p.1.map L2.kV)) := by
  unfold L2.IsKeys at h
  induction h with
  | nil => exact fun b hb => nomatch hb
  | @cons p q ps qs hq t ih =>
    intro b hb
    rcases List.mem_cons.mp hb with e | hb
    · subst e
      exact ⟨p, by simp, hq⟩
    · obtain ⟨r, hr, e⟩ := ih b hb
      exact ⟨r, List.mem_cons_of_mem _ hr, e⟩
theorem cr_sortedDT {X : Cx} (hc : X.calm = true) : CallR X (.builtin "sorted") rSortDT := by
  intro pins s σ H xs us Q I r h
  obtain ⟨d, kvs, dn, B, rfl, hd, h64, hd1, hk, q⟩ := h
  obtain ⟨u, rfl, rx⟩ := r.one
  cases rx
  obtain ⟨z, hs, ks, pr, o, es, ep, ho, hx, hdt, he, hn⟩ := (show ObjOk X.prog X.w H s.heap d (.dT kvs) from I.hok d _ hd)
  have l1 : es.size = ks.length := size_of_entries he
  have l2 : kvs.length = ks.length := Paired.length pr
  refine Calls.call_function_entry PyProof.Rows.kind_sorted PyProof.Rows.plain_sorted PyProof.Rows.entry_sorted (PyProof.Rows.args_sorted1 _) ?_
  unfold Builtin.«sorted»
  refine wpAny_bind (m := checkCount "sorted" 1 1 _) (wpAny_pure ?_)
  refine wpAny_bind (PySem.W.kdu_collect (A := X.A.in1) (kdl_raw hs hx hdt) (I.ok.hd hc) ho (by rw [l1, sizeLine_eq]; omega) fun h' tk acc hk2 it => ?_)
  have ea : acc.toList = (ks.map fun x => x.2.1).map Value.ref := by
    rw [List.map_map]
    have hl : acc.toList.length = ks.length := by rw [Array.length_toList, it.1]; exact l1
    apply List.ext_getElem?
    intro j
    rw [List.getElem?_map]
    cases hj : acc.toList[j]? with
    | none =>
      have h1 := List.getElem?_eq_none_iff.mp hj
      rw [List.getElem?_eq_none (by omega)]
      all_goals rfl
    | some v =>
      obtain ⟨en, hen, hv⟩ := it.2 j v (by rw [← Array.getElem?_toList]; exact hj)
      have qe := entry_at he j
      rw [hen] at qe
      cases hb : ks[j]? with
      | none =>
        rw [hb] at qe
        exact nomatch (show some en = none from qe)
      | some b =>
        rw [hb] at qe
        have e2 : en = entryOfKey (tupleKind (mixKind X.prog X.w)) b := Option.some.inj qe
        rw [hv, e2]
        all_goals rfl
  have ik := isKeys_of pr
  have I1 : Inv X pins σ H { s with heap := h', toks := tk } := I.kept hk2
  have hal : acc.toList.length = ks.length := by rw [ea, List.length_map, List.length_map]
  refine wpAny_bind (wpAny_newList ?_ (by rw [hal, sizeLine_eq]; omega))
  have hoL : (h'.push (seqObj "list" acc.toList.toArray 0)).get? h'.objs.size = some (seqObj "list" acc.toList.toArray 0) := Heap.get?_push_size _ rfl
  show wpAny _ _ _ _ _ { s with heap := h'.push (seqObj "list" acc.toList.toArray 0), toks := tk }
  have tok : TS.TupsOk h' dn B acc.toList := fun v hv => by
    rw [ea] at hv
    obtain ⟨b, hb, rfl⟩ := List.mem_map.mp hv
    obtain ⟨p, hp, e⟩ := keys_mem ik b hb
    obtain ⟨ns, e1, e2, e3⟩ := hk p hp
    rw [e1] at e
    exact ⟨ns, tupI_raw I1 (SqT.of e), e2, e3⟩
  have keep : ∀ b o, h'.get? b = some o → o.cls = .type "tuple" → (h'.push (seqObj "list" acc.toList.toArray 0)).get? b = some o := fun b o e _ => Heap.get?_push_of_some _ e
  refine wpAny_bind (wpAny_holding (wpAny_call_entry PyProof.Rows.slot_list_sort ⟨_, hoL, rfl⟩ PyProof.Rows.entry_list_sort
    (TS.sort_tups (s := { s with heap := h'.push (seqObj "list" acc.toList.toArray 0), toks := tk }) hoL (by rw [hal]; omega) hd1 (tok.keeps keep) (fun v => TS.code B (TS.intsOf h' v)) (fun v hv ns t => ?_) fun out g1 g2 => ⟨_, rfl, ?_⟩) (PyProof.Rows.args_list_sort _)))
  · obtain ⟨ns0, t0, _⟩ := tok v hv
    have e : ns = ns0 := t.ints.symm.trans (t0.keeps keep).ints
    rw [e]
    show TS.code B (TS.intsOf h' v) = TS.code B ns0
    rw [t0.ints]
  obtain ⟨e', he'⟩ := PyProof.Rows.sortedHeap_at (vs := acc.toList) (out := out) hoL
  obtain ⟨cs, hcs, hpc⟩ : ∃ cs : List Addr, out.toList = cs.map Value.ref ∧ cs.Perm (ks.map fun x => x.2.1) := by
    rw [ea] at g1
    refine ⟨out.toList.filterMap (fun v => match v with | .ref a => some a | _ => none), ?_, ?_⟩
    · have all : ∀ v ∈ out.toList, ∃ a, v = Value.ref a := fun v hv => by
        obtain ⟨b, _, e⟩ := List.mem_map.mp (g1.mem_iff.mp hv)
        exact ⟨b, e.symm⟩
      generalize out.toList = l at all
      induction l with
      | nil => rfl
      | cons v r ih =>
        obtain ⟨a, rfl⟩ := all v (by simp)
        show Value.ref a :: r = Value.ref a :: _
        rw [← ih fun v hv => all v (List.mem_cons_of_mem _ hv)]
    · have z := g1.filterMap (fun v : Value => match v with | .ref a => some a | _ => none)
      have e : ∀ l : List Addr, (l.map Value.ref).filterMap (fun v : Value => match v with | .ref a => some a | _ => none) = l := fun l => by
        induction l with
        | nil => rfl
        | cons a r ih =>
          show a :: _ = a :: r
          exact congrArg (a :: ·) ih
      rw [e] at z
      exact z
  have hlen : (cs.map V.ref).length ≤ sizeLine := by
    rw [List.length_map, hpc.length_eq, List.length_map, sizeLine_eq]
    omega
  refine wpAny_pure ⟨_, rfl, .ref h'.objs.size, L2.upd H h'.objs.size (.lst (cs.map V.ref)), I1.laid (t' := tk) (fun b u e => ?_) (Nat.le_refl _)
    (show ObjOk X.prog X.w _ _ _ (.lst (cs.map V.ref)) from ⟨hlen, out.toList, e', by rw [hcs]; exact vals_refs cs, by rw [Array.toArray_toList]; exact he'⟩), rfl, q _ cs _ ik hpc (I1.hok.fresh (Nat.le_refl _))⟩
  have hb : b < h'.objs.size := Heap.lt_size e
  rw [PyProof.Rows.sortedHeap_old (Nat.ne_of_lt hb) (by rw [size_push']; exact Nat.lt_succ_of_lt hb)]
  exact Heap.get?_push_of_some _ e
end KV

/-! lists of ints and of tuples of ints: held against [], put in another order -/
namespace KV
open PySem PySem.Spec PyProof.Rows L2 KC
def Ent (H : Hp) (x : V) : Prop := (∃ i : Int, x = .int i) ∨ ∃ (t : Addr) (ns : List Int), x = .ref t ∧ H t = some (.tup (ns.map V.int))
theorem Ent.same {H H' : Hp} {x : V} (s : Same H H') (h : Ent H x) : Ent H' x := by
  rcases h with h | ⟨t, ns, e, h⟩
  · exact .inl h
  · exact .inr ⟨t, ns, e, s _ _ h⟩
theorem Dl.kT {d c p : Addr} {H H' : Hp} {xs : List V} (D : Dl H d c) (k : Kp d c H H') (h : H p = some (.tup xs)) : H' p = some (.tup xs) := k _ _ (D.neT h).1 (D.neT h).2 h
theorem Ent.kp {d c : Addr} {H H' : Hp} {x : V} (D : Dl H d c) (k : Kp d c H H') (h : Ent H x) : Ent H' x := by
  rcases h with h | ⟨t, ns, e, h⟩
  · exact .inl h
  · exact .inr ⟨t, ns, e, D.kT k h⟩
theorem ents_data {K : PySem.W.Frag} {H : Hp} : ∀ {xs : List V}, (∀ x ∈ xs, Ent H x) → ∃ ds, DpAll K H xs ds ∧ PyData.canLayAll0 ds = true ∧ PyData.depthAll ds ≤ 5 ∧ (xs = [] ↔ ds = [])
  | [], _ => ⟨[], .nil, rfl, by decide, by simp⟩
  | x :: r, h => by
    obtain ⟨ds, h1, h2, h3, h4⟩ := ents_data (K := K) (xs := r) fun y hy => h y (List.mem_cons_of_mem _ hy)
    rcases h x (by simp) with ⟨i, rfl⟩ | ⟨t, ns, rfl, ht⟩
    · refine ⟨.int i :: ds, .cons (.int i) h1, ?_, ?_, by simp⟩
      · simp only [PyData.canLayAll0, PyData.canLay0, h2, Bool.and_self]
      · simp only [PyData.depthAll, PyData.depth]
        omega
    · refine ⟨.tuple (ns.map PyData.int) :: ds, .cons (.tup (SqT.of ht) (dp_ints ns)) h1, ?_, ?_, by simp⟩
      · simp only [PyData.canLayAll0, PyData.canLay0, canLay_ints, h2, Bool.and_self]
      · simp only [PyData.depthAll, PyData.depth, depth_ints]
        omega
theorem ent_ne {K : PySem.W.Frag} {H : Hp} {a b : Addr} {xs : List V} {Q : VK} (h1 : SqL K H a xs) (he : ∀ x ∈ xs, Ent H x) (h2 : SqL K H b []) (q : Q (.bl (!decide (xs = []))) H) : rNeD K (.ref a) (.ref b) H Q := by
  obtain ⟨ds, d1, d2, d3, d4⟩ := ents_data (K := K) he
  refine ⟨_, _, .lst h1 d1, .lst h2 .nil, ?_, by decide +kernel, ?_⟩
  · unfold SeqAt.shaped
    rw [Bool.and_eq_true]
    refine ⟨?_, decide_eq_true ?_⟩
    · simp only [PyData.canLay0, d2]
    · simp only [PyData.depth]
      omega
  · have e : PyData.eqv (.list ds) (.list []) = decide (xs = []) := by
      cases ds with
      | nil => rw [d4.mpr rfl]; rfl
      | cons y r =>
        have : xs ≠ [] := fun z => by have := d4.mp z; cases this
        rw [decide_eq_false this]
        rfl
    rw [e]
    exact q
theorem perm_eraseV : ∀ (ls : List V) (k : Nat) (h : k < ls.length), (ls[k] :: ls.eraseIdx k).Perm ls
  | x :: ls, 0, _ => List.Perm.refl _
  | x :: ls, k + 1, h => by
    have h' : k < ls.length := by simpa using h
    have z := perm_eraseV ls k h'
    show (ls[k] :: x :: ls.eraseIdx k).Perm (x :: ls)
    exact (List.Perm.swap x _ _).trans (z.cons x)
section
variable {P : Program} {w : World} {K : PySem.W.Frag} {mg : Str → Option Value} {base : Heap}
def spMixV : Sp := fun vs H Q _ => ∃ (d c a : Addr) (xs : List V), vs = [.ref d, .ref a] ∧ Dl H d c ∧ H a = some (.lst xs) ∧ a ≠ d ∧ a ≠ c ∧ xs.length ≤ 16 ∧ (∀ x ∈ xs, Ent H x) ∧ ∀ l ys H', ys.Perm xs → H l = none → H' l = some (.lst ys) → Dl H' d c → Kp d c H H' → Q (.ref l) H'
def MixV (d c a l f : Addr) (xs : List V) (H : Hp) (k : Nat) (σ : L2.St) (H' : Hp) : Prop := σ = [some (.ref d), some (.ref a), some (.ref l), some (.ref f)] ∧ ∃ ls fs : List V, k = ls.length ∧ (fs ++ ls).Perm xs ∧ H' l = some (.lst ls) ∧ H' f = some (.lst fs) ∧ Dl H' d c ∧ Kp d c H H'
end
end KV

/-! the law's machines: a small piece -/
namespace KV
open PySem PySem.Spec PyProof.Rows L2 KC
theorem chg_dec {n : Nat} {c : List Nat} (h : (decide (c.length = n) && c.all (fun x => decide (x < n)) && decide c.Nodup) = true) : Chg n c := by
  rw [Bool.and_eq_true, Bool.and_eq_true, decide_eq_true_eq, decide_eq_true_eq, List.all_eq_true] at h
  exact ⟨h.1.1, fun x hx => of_decide_eq_true (h.1.2 x hx), h.2⟩
/-- a list of changes of n states -/
structure Gens (H : Hp) (l : Addr) (n : Nat) (bs : List Addr) (cs : List (List Nat)) : Prop where
  lst : H l = some (.lst (bs.map V.ref))
  tups : Paired (fun b c => H b = some (.tup (vi c))) bs cs
  chg : ∀ c ∈ cs, Chg n c
  n0 : 0 < n
  c0 : 0 < cs.length
theorem tups_keep {H H' : Hp} (k : ∀ b xs, H b = some (.tup xs) → H' b = some (.tup xs)) {bs : List Addr} {cs : List (List Nat)} (h : Paired (fun b c => H b = some (.tup (vi c))) bs cs) : Paired (fun b c => H' b = some (.tup (vi c))) bs cs := by
  induction h with
  | nil => exact .nil
  | cons h t ih => exact .cons (k _ _ h) ih
theorem Gens.same {H H' : Hp} {l : Addr} {n : Nat} {bs : List Addr} {cs : List (List Nat)} (h : Gens H l n bs cs) (s : Same H H') : Gens H' l n bs cs := ⟨s _ _ h.lst, tups_keep (fun b xs e => s _ _ e) h.tups, h.chg, h.n0, h.c0⟩
theorem Gens.kp {H H' : Hp} {d c l : Addr} {n : Nat} {bs : List Addr} {cs : List (List Nat)} (h : Gens H l n bs cs) (D : Dl H d c) (k : Kp d c H H') (ld : l ≠ d ∧ l ≠ c) : Gens H' l n bs cs := ⟨k _ _ ld.1 ld.2 h.lst, tups_keep (fun b xs e => D.kT k e) h.tups, h.chg, h.n0, h.c0⟩
theorem g_one {H : Hp} {l t : Addr} {n : Nat} {c : List Nat} (hl : H l = some (.lst [V.ref t])) (ht : H t = some (.tup (vi c))) (h : Chg n c) (n0 : 0 < n) : Gens H l n [t] [c] := ⟨hl, .cons ht .nil, fun x hx => by rw [show x = c from by simpa using hx]; exact h, n0, (by show 0 < 1; decide)⟩
theorem g_two {H : Hp} {l t u : Addr} {n : Nat} {c e : List Nat} (hl : H l = some (.lst [V.ref t, V.ref u])) (ht : H t = some (.tup (vi c))) (hu : H u = some (.tup (vi e))) (h : Chg n c) (h2 : Chg n e) (n0 : 0 < n) : Gens H l n [t, u] [c, e] :=
  ⟨hl, .cons ht (.cons hu .nil), fun x hx => by
    have : x = c ∨ x = e := by simpa using hx
    rcases this with rfl | rfl
    · exact h
    · exact h2, n0, (by show 0 < 2; decide)⟩
section
variable {P : Program} {w : World} {K : PySem.W.Frag} {mg : Str → Option Value} {base : Heap}
def spPiece : Sp := fun vs H Q _ => ∃ fm : Int, vs = [.int fm] ∧ 0 ≤ fm ∧ fm < 12 ∧ ∀ l n bs cs H', Same H H' → H l = none → Gens H' l n bs cs → n ≤ 9 → cs.length ≤ 2 → Q (.ref l) H'
end
end KV

/-! {key: value} with one key, a tuple of ints or texts -/
namespace L2
open PySem PySem.Spec PyProof.Rows
def rDisp1 (p : Addr) (Q : VK) : List (V × V) → Hp → Prop := fun ps H2 => ∃ (x y : V) (k : List Key) (b : Addr), ps = [(x, y)] ∧ x = .ref b ∧ H2 p = some (.dT []) ∧ H2 b = some (.tup (k.map kV)) ∧ Q (.ref p) (upd H2 p (.dT (putK [] k y)))
def tDisp1 (tk tv : TE) : TE := fun σ H Q => ∀ p, H p = none → tPairs [(tk, tv)] σ (upd H p (.dT [])) (rDisp1 p Q)
theorem pe_disp1 {X : Cx} {pos : Pos} {ke ve : Expr} {tk tv : TE} (hu : X.A.units + 1 < cLine) (hk : PE X ke tk) (hv : PE X ve tv) : PE X (.Dict [some ke] [ve] pos) (tDisp1 tk tv) := by
  refine ⟨fun pins s σ H Q I q => ?_⟩
  have hn := I.hok.fresh (Nat.le_refl s.heap.objs.size)
  have I1 := I.laid (a := s.heap.objs.size) (o := .dT []) (h' := s.heap.push { cls := .type "dict", data := .dict #[] }) (t' := s.toks) (fun _ _ q => Heap.get?_push_of_some _ q) (Nat.le_refl _) (dt_empty s.heap I.big)
  refine wpAny_Dict_any rfl rfl (by simp) (by show 1 ≤ 15; decide) (thn ((pps_cons (pos := pos) hk hv pps_nil).run pins _ σ _ (rDisp1 s.heap.objs.size Q) I1 (q _ hn)) fun ws s2 ⟨ps, H2, I2, rel, x, y, k, b, e0, ex, e, eb, q2⟩ => ?_)
  subst e0 ex
  cases rel with
  | @cons p1 q1 l1 l2 h t =>
    cases t
    obtain ⟨u, r⟩ := q1
    obtain ⟨ru, rr⟩ := h
    cases (show u = Value.ref b from ru)
    obtain ⟨z, hd, xs, rl, dd⟩ := dt_of I2.hok e
    have hz : xs.length ≤ sizeLine := by rw [← Paired.length rl]; exact z
    unfold storeAll
    rw [List.forIn_cons]
    refine wpAny_bind (wpAny_bind (wpAny_dictSet_heap (hsz := hz) (show (tupleKind (mixKind X.prog X.w)).room X.A from (by show X.A.units < cLine; omega)) (key_of I2.hok eb) dd fun h' dd' hs => wpAny_pure ?_))
    show wpAny _ _ (pure PUnit.unit) _ _ _
    refine wpAny_pure ?_
    obtain ⟨q, es, ep, hq, h2, h3, h4, _, h5⟩ := dd'
    have hl : (putK ([] : List (List Key × V)) k y).length ≤ sizeLine := by
      have := length_putK ([] : List (List Key × V)) k y
      rw [sizeLine_eq]
      simp only [List.length_nil] at this
      omega
    refine ⟨.ref s.heap.objs.size, upd H2 s.heap.objs.size (.dT (putK [] k y)), d_write I2 (by rw [e]; exact True.intro) hs ⟨q, hq⟩ ⟨hl, hd, _, (rl.put k eb rr).keeps fun c ys ec => ?_, q, es, ep, hq, h2, h3, h4, h5⟩, rfl, q2⟩
    rw [upd_ne (ne_of ec e (fun z => nomatch z))]
    exact ec
end L2

/-! sorted of a list of tuples of ints of any lengths, none of them empty but perhaps the first; however many -/
namespace KV
open PySem PySem.Spec L2 PyProof.Rows
/-- a tuple of these ints stands there -/
def TpAt (g : Heap) (v : Value) (ns : List Int) : Prop := ∃ (p : Addr) (its : Array Value), v = .ref p ∧ IsTup g p its ∧ IntsAre its.toList ns
theorem TpAt.stay {g g' : Heap} {v : Value} {ns : List Int} (x : TpAt g v ns) (k : ∀ b o, g.get? b = some o → o.cls = .type "tuple" → g'.get? b = some o) : TpAt g' v ns := by
  obtain ⟨p, its, rfl, ⟨ob, h1, h2, m, h3⟩, h4⟩ := x
  exact ⟨p, its, rfl, ⟨ob, k _ _ h1 h2, h2, m, h3⟩, h4⟩
section
variable {prog : Program} {w : World} {A : Around} {s : Shared} {E : Value → Shared → Prop}
/-- one item behind the other, the shorter first where one ends -/
theorem lex_any {c fin : Bool} {Q : Bool → Shared → Prop} : ∀ {xs ys : List Value} {ns ms : List Int} (i : Nat), IntsAre xs ns → IntsAre ys ms → fin = decide (ns.length < ms.length) → Q (HT.lexLt ns ms) s → PySem.W.KatLex prog w A c fin Q (xs.zip ys) i s
  | [], _, _, _, _, .nil, .nil, hf, h => by
    subst hf
    exact PySem.W.kat_nil h
  | [], _, _, _, _, .nil, .cons n t r, hf, h => by
    subst hf
    exact PySem.W.kat_nil (by rw [show decide (([] : List Int).length < (n :: _ : List Int).length) = true from decide_eq_true (by simp)]; exact h)
  | _, [], _, _, _, .cons n t r, .nil, hf, h => by
    subst hf
    rw [List.zip_nil_right]
    exact PySem.W.kat_nil (by rw [show decide ((n :: _ : List Int).length < ([] : List Int).length) = false from decide_eq_false (by simp)]; exact h)
  | _ :: xs, _ :: ys, _, _, i, .cons n t r, .cons m u r', hf, h => by
    rw [List.zip_cons_cons]
    refine PySem.W.kat_cons (wpAny_eqBool_int ?_)
    by_cases z : n = m
    · subst z
      rw [beq_self_eq_true]
      refine PySem.W.kat_yes (lex_any (i + 1) r r' (by rw [hf]; simp) ?_)
      rw [HT.lexLt_cons, if_pos rfl] at h
      exact h
    · rw [show (n == m) = false from beq_eq_false_iff_ne.mpr z]
      refine PySem.W.kat_no (TS.oneLt_ints _ ?_)
      rw [HT.lexLt_cons, if_neg z] at h
      exact h
theorem tp_lt1 {b : Bool} {v u : Value} {ns ms : List Int} {Q : Bool → Shared → Prop} (hv : TpAt s.heap v ns) (hu : TpAt s.heap u ms) (h : Q (HT.lexLt ns ms) s) : wpAny (model prog w) A (keyLt' (tuples' b) v u) Q E s := by
  obtain ⟨p, xs, rfl, ⟨o1, a1, a2, m1, a3⟩, a4⟩ := hv
  obtain ⟨q, ys, rfl, ⟨o2, b1, b2, m2, b3⟩, b4⟩ := hu
  refine PySem.W.kat_lt a1 a3 b1 b3 (lex_any 0 a4 b4 ?_ h)
  rw [← a4.length, ← b4.length, Array.length_toList, Array.length_toList]
theorem tp_type {M : Model} {v : Value} {ns : List Int} (hv : TpAt s.heap v ns) : PySem.W.Looks M s.heap (typeOf v) (.type "tuple") := by
  obtain ⟨p, xs, rfl, ⟨o1, a1, a2, m1, a3⟩, a4⟩ := hv
  rw [← a2]
  exact (PySem.W.Looks.ld a1).andThen .now
theorem tp_lt0 {v u : Value} {ns ms : List Int} {Q : Bool → Shared → Prop} (hc : A.units < cLine) (hv : TpAt s.heap v ns) (hu : TpAt s.heap u ms) (h : Q (HT.lexLt ns ms) s) : wpAny (model prog w) A (keyLt' oneType' v u) Q E s := by
  have tv : PySem.W.Looks (model prog w) s.heap (typeOf v) (.type "tuple") := tp_type hv
  have sp : PySem.W.Looks (model prog w) s.heap (specialOf v "__lt__") (some (.builtin "tuple.__lt__")) := tv.andThen (PySem.W.Looks.of_pure PySem.F.slot_tuple_lt.lookup)
  have iv : PySem.W.Looks (model prog w) s.heap (isInstance v (.type "tuple")) true := tv.andThen (PySem.W.Looks.of_pure AutoSeq1.sub_tuple_tuple)
  obtain ⟨p, xs, rfl, ⟨⟨cls, dd, data, sl⟩, a1, a2, m1, a3⟩, a4⟩ := hv
  obtain ⟨q, ys, rfl, ⟨⟨cls2, dd2, data2, sl2⟩, b1, b2, m2, b3⟩, b4⟩ := hu
  simp only at a2 a3 b2 b3
  subst a2 a3 b2 b3
  rw [keyLt'_oneType, oneLt'_eq]
  simp only [if_true]
  refine wpAny_bind (wpAny_cRoomFor hc (wpAny_bind (NtL.csib (E := E) sp (PySem.F.slot_tuple_lt.bind _) ?_)))
  exact call_meets PySem.F.slot_tuple_lt ⟨_, a1, rfl⟩ PySem.F.entry_tuple_lt (PySem.F.args_tuple_lt_2 _ _) (HT.tuple_lt_ints p q xs ys m1 m2 dd dd2 sl sl2 ns ms a4 b4) ⟨a1, b1, wpAny_truthy_bool h⟩
/-- the first items that are told, None for an empty tuple -/
theorem tp_firsts {M : Model} : ∀ {vs : List Value} {k : Value → List Int} {R : List (Option Value) → Shared → Prop}, (∀ v ∈ vs, TpAt s.heap v (k v)) → (∀ fs : List (Option Value), fs.length = vs.length → (∀ (i : Nat) (v : Value), vs[i]? = some v → k v = [] → fs[i]? = some none) → R fs s) → wpAny M A (vs.mapM firstOfTuple') R E s
  | [], _, _, _, h => by
    rw [List.mapM_nil]
    exact wpAny_pure (h [] rfl fun i v e _ => by simp at e)
  | v :: vs, k, R, hv, h => by
    rw [List.mapM_cons]
    refine wpAny_bind ?_
    have hx := hv v List.mem_cons_self
    have tv : PySem.W.Looks M s.heap (typeOf v) (.type "tuple") := tp_type hx
    obtain ⟨p, xs, rfl, ⟨ob, a1, a2, m1, a3⟩, a4⟩ := hx
    rw [PySem.W.kas_first_eq]
    refine wpAny_bind (tv.here ?_)
    rw [if_neg (by first | decide | simp)]
    refine wpAny_bind (listItems_at a1 a3 (wpAny_pure ?_))
    refine wpAny_bind (tp_firsts (vs := vs) (k := k) (fun u hu => hv u (List.mem_cons_of_mem _ hu)) fun fs e1 e2 => wpAny_pure (h _ (by simp [e1]) fun i u hi hk => ?_))
    cases i with
    | zero =>
      have eu : Value.ref p = u := Option.some.inj hi
      rw [← eu] at hk
      rw [hk] at a4
      have z := a4.length
      rw [Array.length_toList] at z
      have e0 : xs[0]? = none := Array.getElem?_eq_none (by rw [z]; exact Nat.le_refl _)
      show some (xs[0]?) = some none
      rw [e0]
    | succ i => exact e2 i u hi hk
theorem tp_kind0 {M : Model} {vs : List Value} {k : Value → List Int} {Q : SortKind → Shared → Prop} (h2 : 2 ≤ vs.length) (hv : ∀ v ∈ vs, TpAt s.heap v (k v)) (h0 : ∀ v, vs[0]? = some v → k v = []) (h : Q oneType' s) : wpAny M A (keyKind' vs.toArray) Q E s := by
  obtain ⟨v0, rest, rfl⟩ : ∃ v0 rest, vs = v0 :: rest := by
    match vs, h2 with
    | v :: r, _ => exact ⟨v, r, rfl⟩
  rw [keyKind'_eq, List.mapM_toArray, map_eq_pure_bind]
  refine wpAny_bind (wpAny_bind (tp_firsts hv fun fs e1 e2 => wpAny_pure ?_))
  obtain ⟨fr, rfl⟩ : ∃ fr, fs = none :: fr := by
    have z := e2 0 v0 rfl (h0 v0 rfl)
    match fs, z with
    | f :: fr, z => exact ⟨fr, by rw [show f = none from Option.some.inj z]⟩
  rw [if_neg (by simp), if_neg (by simp)]
  rw [oneTypeOnly'_eq, List.mapM_toArray, map_eq_pure_bind]
  refine wpAny_bind (wpAny_bind (wpAny_bind (PySem.W.kas_mapM (r := Value.type "tuple") _ (fun v hm Q' hq => (tp_type (hv v hm)).here hq) (wpAny_pure ?_))))
  have ha : ((List.map (fun _ => Value.type "tuple") (v0 :: rest)).toArray.all fun x => x == Value.type "tuple") = true := by
    simp only [List.all_toArray, List.all_map, List.all_eq_true]
    exact fun _ _ => rfl
  have hb : (List.map (fun _ => Value.type "tuple") (v0 :: rest)).toArray[0]? = some (Value.type "tuple") := by simp
  rw [hb]
  simp only [ha, if_true]
  exact wpAny_pure (wpAny_pure h)
theorem tp_tups {g : Heap} {k : Value → List Int} : ∀ {vs : List Value}, (∀ v ∈ vs, TpAt g v (k v) ∧ k v ≠ []) → ∃ fs, PySem.W.KatTups g vs fs ∧ fs.length = vs.length ∧ ∀ f ∈ fs, ∃ n t, f = Value.int n t
  | [], _ => ⟨[], PySem.W.KatTups.nil, rfl, fun f hf => by simp at hf⟩
  | v :: vs, hv => by
    obtain ⟨fs, h1, h2, h3⟩ := tp_tups fun u hu => hv u (List.mem_cons_of_mem _ hu)
    obtain ⟨⟨p, xs, rfl, ⟨ob, a1, a2, m1, a3⟩, a4⟩, ne⟩ := hv v List.mem_cons_self
    obtain ⟨y, ys, e⟩ : ∃ y ys, xs.toList = y :: ys := by
      cases z : xs.toList with
      | nil =>
        rw [z] at a4
        have l := a4.length
        exact absurd (List.length_eq_zero_iff.mp l.symm) ne
      | cons y ys => exact ⟨y, ys, rfl⟩
    obtain ⟨n, t, hy⟩ := a4.all y (by rw [e]; exact List.mem_cons_self ..)
    refine ⟨y :: fs, PySem.W.KatTups.cons a1 a2 a3 ?_ h1, by simp [h2], fun f hf => ?_⟩
    · have z := congrArg (fun l : List Value => l[0]?) e
      simpa using z
    · rcases List.mem_cons.mp hf with rfl | hf
      · exact ⟨n, t, hy⟩
      · exact h3 f hf
theorem tp_sortable {a : Addr} {vs : List Value} {k : Value → List Int} (hc : A.units < cLine) (h2 : 2 ≤ vs.length) (hv : ∀ v ∈ vs, TpAt s.heap v (k v)) (hn : (∀ v ∈ vs, k v ≠ []) ∨ ∀ v, vs[0]? = some v → k v = []) (ha : ∀ o, s.heap.get? a = some o → o.cls ≠ .type "tuple") :
    SrtO.SortableO prog w A s a vs fun v u => HT.lexLt (k v) (k u) := by
  intro g keep
  have hv' : ∀ v ∈ vs, TpAt g v (k v) := fun v hm => (hv v hm).stay fun b o e c => keep b o (fun z => by subst z; exact ha o e c) e
  rcases hn with hn | hn
  · obtain ⟨fs, f1, f2, f3⟩ := tp_tups fun v hm => ⟨hv' v hm, hn v hm⟩
    refine ⟨tuples' true, fun Q E hq => ?_, fun p q hp hq => tp_lt1 (hv' p.1 hp) (hv' q.1 hq) ⟨rfl, rfl⟩⟩
    refine PySem.W.kat_kind (T := .type "int") f1 (by omega) (fun f hm => ?_) (by rfl) ?_
    · obtain ⟨n, t, rfl⟩ := f3 f hm
      exact PySem.W.Looks.now
    · rw [show (Value.type "int" != Value.type "tuple") = true by first | decide +kernel | rfl | decide]
      exact hq
  · exact ⟨oneType', fun Q E hq => tp_kind0 (s := { s with heap := g }) h2 hv' hn hq, fun p q hp hq => tp_lt0 (s := { s with heap := g }) hc (hv' p.1 hp) (hv' q.1 hq) ⟨rfl, rfl⟩⟩
end
/-- sorted(xs), xs a list of tuples of ints -/
def rSortedTL (K : PySem.W.Frag) : List V → Hp → VK → Prop := fun vs H Q => ∃ (a : Addr) (ts : List Addr) (k : Addr → List Int), vs = [.ref a] ∧ SqL K H a (ts.map V.ref) ∧ (∀ t ∈ ts, H t = some (.tup ((k t).map V.int))) ∧ ((∀ t ∈ ts, k t ≠ []) ∨ ∀ t, ts[0]? = some t → k t = []) ∧
  ∀ (ts' : List Addr) (p : Addr), ts'.Perm ts → ts'.Pairwise (fun p q => HT.lexLt (k q) (k p) = false) → H p = none → Q (.ref p) (upd H p (.lst (ts'.map V.ref)))
theorem cr_sortedTL {X : Cx} (hu : X.A.units + 64 < cLine) : CallR X (.builtin "sorted") (rSortedTL X.K) := by
  intro pins s σ H vs us Q I r h
  obtain ⟨a, ts, k, rfl, hs, ht, hn, q⟩ := h
  obtain ⟨its, rv, hl, hz⟩ := I.list hs
  rw [Vals.ref1 r]
  have ei := nts_of rv
  have hv : ∀ u ∈ its, TpAt s.heap u (k (adO u)) := fun u hm => by
    rw [ei] at hm
    obtain ⟨t, hmt, rfl⟩ := List.mem_map.mp hm
    obtain ⟨_, its2, r2, o, ho, hc, n, hd⟩ := I.hok _ _ (ht t hmt)
    exact ⟨t, _, rfl, ⟨o, ho, hc, n, hd⟩, ints_of_vals r2⟩
  have hn' : (∀ v ∈ its, k (adO v) ≠ []) ∨ ∀ v, its[0]? = some v → k (adO v) = [] := by
    rw [ei]
    rcases hn with hn | hn
    · refine .inl fun v hm => ?_
      obtain ⟨t, hmt, rfl⟩ := List.mem_map.mp hm
      exact hn t hmt
    · refine .inr fun v hm => ?_
      rw [List.getElem?_map] at hm
      cases e : ts[0]? with
      | none =>
        rw [e] at hm
        cases hm
      | some t =>
        rw [e] at hm
        rw [← Option.some.inj hm]
        exact hn t e
  refine SrtO.sorted_ord (NtL.swo_lexL fun u => k (adO u)) hl.isList (by rw [← rv.length]; exact hz) (fun h2 g c hg kk => ?_) fun out h1 h2 => ?_
  · refine tp_sortable (s := { s with heap := g }) (by show X.A.units + 1 + 1 < cLine; omega) h2 (fun v hm => (hv v hm).stay fun b o e _ => (kk b o e).2) hn' fun o e => ?_
    have e' : some o = some (seqObj "list" its.toArray 0) := e.symm.trans hg
    cases e'
    intro z
    exact absurd (Value.type.inj z) (by decide)
  · have eo : out = (out.map adO).map Value.ref := ref_map fun u hm => by
      have hm' : u ∈ its := h2.perm.mem_iff.mp hm
      rw [ei] at hm'
      obtain ⟨t, _, e⟩ := List.mem_map.mp hm'
      exact ⟨t, e.symm⟩
    have hp : (out.map adO).Perm ts := by
      have p1 := h2.perm.map adO
      rw [ei, ad_map] at p1
      exact p1
    have hs2 : (out.map adO).Pairwise (fun p q => HT.lexLt (k q) (k p) = false) := List.pairwise_map.mpr (h1.imp fun {x y} z => z)
    obtain ⟨ep, he'⟩ := PyProof.Rows.sortedAll_at s.heap its out.toArray
    have hlen : ((out.map adO).map V.ref).length ≤ sizeLine := by
      rw [List.length_map, hp.length_eq]
      rw [List.length_map] at hz
      exact hz
    have rvo : Vals ((out.map adO).map V.ref) out := by
      have z := of_nts (out.map adO)
      rw [← eo] at z
      exact z
    exact ⟨.ref _, upd H (s.heap.objs.size + 1) (.lst ((out.map adO).map V.ref)), I.laid (t' := s.toks) (fun _ _ => PyProof.Rows.sortedAll_old) (Nat.le_succ _) ⟨hlen, out, ep, rvo, he'⟩, rfl, q _ _ hp hs2 (I.hok.fresh (Nat.le_succ _))⟩
end KV

/-! sorted of a dict whose keys are tuples of ints, of one length, however many: some list of the keys -/
namespace KV
open PySem PySem.Spec PyProof.Rows L2
theorem tp_of {g : Heap} {v : Value} {ns : List Int} (h : TS.TupInts g v ns) : TpAt g v ns := h
def rSortDN : List V → Hp → VK → Prop := fun xs H Q => ∃ (a : Addr) (kvs : List (List L2.Key × V)) (d : Nat) (B : Int), xs = [.ref a] ∧ H a = some (.dT kvs) ∧ kvs.length ≤ 1000 ∧ 1 ≤ d ∧
  (∀ p ∈ kvs, ∃ ns : List Int, p.1.map L2.kV = ns.map V.int ∧ ns.length = d ∧ TS.Bd B ns) ∧
  ∀ (bs cs : List Addr) (p : Addr), L2.IsKeys H kvs bs → cs.Perm bs → H p = none → Q (.ref p) (L2.upd H p (.lst (cs.map V.ref)))
theorem cr_sortedDN {X : Cx} (hc : X.calm = true) (hu : X.A.units + 64 < cLine) : CallR X (.builtin "sorted") rSortDN := by
  intro pins s σ H xs us Q I r h
  obtain ⟨d, kvs, dn, B, rfl, hd, h64, hd1, hk, q⟩ := h
  obtain ⟨u, rfl, rx⟩ := r.one
  cases rx
  obtain ⟨z, hs, ks, pr, o, es, ep, ho, hx, hdt, he, hn⟩ := (show ObjOk X.prog X.w H s.heap d (.dT kvs) from I.hok d _ hd)
  have l1 : es.size = ks.length := size_of_entries he
  have l2 : kvs.length = ks.length := Paired.length pr
  refine Calls.call_function_entry PyProof.Rows.kind_sorted PyProof.Rows.plain_sorted PyProof.Rows.entry_sorted (PyProof.Rows.args_sorted1 _) ?_
  unfold Builtin.«sorted»
  refine wpAny_bind (m := checkCount "sorted" 1 1 _) (wpAny_pure ?_)
  refine wpAny_bind (PySem.W.kdu_collect (A := X.A.in1) (kdl_raw hs hx hdt) (I.ok.hd hc) ho (by rw [l1, sizeLine_eq]; omega) fun h' tk acc hk2 it => ?_)
  have ea : acc.toList = (ks.map fun x => x.2.1).map Value.ref := by
    rw [List.map_map]
    have hl : acc.toList.length = ks.length := by rw [Array.length_toList, it.1]; exact l1
    apply List.ext_getElem?
    intro j
    rw [List.getElem?_map]
    cases hj : acc.toList[j]? with
    | none =>
      have h1 := List.getElem?_eq_none_iff.mp hj
      rw [List.getElem?_eq_none (by omega)]
      all_goals rfl
    | some v =>
      obtain ⟨en, hen, hv⟩ := it.2 j v (by rw [← Array.getElem?_toList]; exact hj)
      have qe := entry_at he j
      rw [hen] at qe
      cases hb : ks[j]? with
      | none =>
        rw [hb] at qe
        exact nomatch (show some en = none from qe)
      | some b =>
        rw [hb] at qe
        have e2 : en = entryOfKey (tupleKind (mixKind X.prog X.w)) b := Option.some.inj qe
        rw [hv, e2]
        all_goals rfl
  have ik := isKeys_of pr
  have I1 : Inv X pins σ H { s with heap := h', toks := tk } := I.kept hk2
  have hal : acc.toList.length = ks.length := by rw [ea, List.length_map, List.length_map]
  refine wpAny_bind (wpAny_newList ?_ (by rw [hal, sizeLine_eq]; omega))
  have hoL : (h'.push (seqObj "list" acc.toList.toArray 0)).get? h'.objs.size = some (seqObj "list" acc.toList.toArray 0) := Heap.get?_push_size _ rfl
  show wpAny _ _ _ _ _ { s with heap := h'.push (seqObj "list" acc.toList.toArray 0), toks := tk }
  have tok : TS.TupsOk h' dn B acc.toList := fun v hv => by
    rw [ea] at hv
    obtain ⟨b, hb, rfl⟩ := List.mem_map.mp hv
    obtain ⟨p, hp, e⟩ := keys_mem ik b hb
    obtain ⟨ns, e1, e2, e3⟩ := hk p hp
    rw [e1] at e
    exact ⟨ns, tupI_raw I1 (SqT.of e), e2, e3⟩
  have keep : ∀ b o, h'.get? b = some o → o.cls = .type "tuple" → (h'.push (seqObj "list" acc.toList.toArray 0)).get? b = some o := fun b o e _ => Heap.get?_push_of_some _ e
  refine wpAny_bind (wpAny_holding (wpAny_call_entry PyProof.Rows.slot_list_sort ⟨_, hoL, rfl⟩ PyProof.Rows.entry_list_sort
    (SrtO.list_sort_ord (s := { s with heap := h'.push (seqObj "list" acc.toList.toArray 0), toks := tk }) (NtL.swo_lexL fun v => TS.intsOf h' v) hoL (by rw [hal, sizeLine_eq]; omega) (fun h2 => ?_) fun out g0 g2 => ⟨_, rfl, ?_⟩) (PyProof.Rows.args_list_sort _)))
  · refine tp_sortable (s := { s with heap := h'.push (seqObj "list" acc.toList.toArray 0), toks := tk }) (by show X.A.units + 1 + 1 < cLine; omega) h2 (fun v hv => ?_) (.inl fun v hv => ?_) fun o e => ?_
    · obtain ⟨ns0, t0, _⟩ := tok v hv
      rw [t0.ints]
      exact tp_of (t0.keeps keep)
    · obtain ⟨ns0, t0, l0, _⟩ := tok v hv
      rw [t0.ints]
      intro z
      rw [z] at l0
      have : ([] : List Int).length = dn := l0
      simp at this
      omega
    · have e' : some o = some (seqObj "list" acc.toList.toArray 0) := e.symm.trans hoL
      cases e'
      intro z
      exact absurd (Value.type.inj z) (by decide)
  have g1 := g2.perm
  obtain ⟨e', he'⟩ := PyProof.Rows.sortedHeap_at (vs := acc.toList) (out := out.toArray) hoL
  obtain ⟨cs, hcs, hpc⟩ : ∃ cs : List Addr, out = cs.map Value.ref ∧ cs.Perm (ks.map fun x => x.2.1) := by
    rw [ea] at g1
    refine ⟨out.filterMap (fun v => match v with | .ref a => some a | _ => none), ?_, ?_⟩
    · have all : ∀ v ∈ out, ∃ a, v = Value.ref a := fun v hv => by
        obtain ⟨b, _, e⟩ := List.mem_map.mp (g1.mem_iff.mp hv)
        exact ⟨b, e.symm⟩
      generalize out = l at all
      induction l with
      | nil => rfl
      | cons v r ih =>
        obtain ⟨a, rfl⟩ := all v (by simp)
        show Value.ref a :: r = Value.ref a :: _
        rw [← ih fun v hv => all v (List.mem_cons_of_mem _ hv)]
    · have z := g1.filterMap (fun v : Value => match v with | .ref a => some a | _ => none)
      have e : ∀ l : List Addr, (l.map Value.ref).filterMap (fun v : Value => match v with | .ref a => some a | _ => none) = l := fun l => by
        induction l with
        | nil => rfl
        | cons a r ih =>
          show a :: _ = a :: r
          exact congrArg (a :: ·) ih
      rw [e] at z
      exact z
  have hlen : (cs.map V.ref).length ≤ sizeLine := by
    rw [List.length_map, hpc.length_eq, List.length_map, sizeLine_eq]
    omega
  refine wpAny_pure ⟨_, rfl, .ref h'.objs.size, L2.upd H h'.objs.size (.lst (cs.map V.ref)), I1.laid (t' := tk) (fun b u e => ?_) (Nat.le_refl _)
    (show ObjOk X.prog X.w _ _ _ (.lst (cs.map V.ref)) from ⟨hlen, out, e', by rw [hcs]; exact vals_refs cs, he'⟩), rfl, q _ cs _ ik hpc (I1.hok.fresh (Nat.le_refl _))⟩
  have hb : b < h'.objs.size := Heap.lt_size e
  rw [PyProof.Rows.sortedHeap_old (Nat.ne_of_lt hb) (by rw [size_push']; exact Nat.lt_succ_of_lt hb)]
  exact Heap.get?_push_of_some _ e
end KV

/-! the law's machines: all changes of a row of commands -/
namespace KV
open PySem PySem.Spec PyProof.Rows L2 KC
def kc (c : List Nat) : List L2.Key := c.map fun (n : Nat) => (Sum.inl (n : Int) : L2.Key)
theorem kc_vi (c : List Nat) : vi c = (kc c).map L2.kV := by
  unfold kc vi
  rw [List.map_map]
  rfl
theorem kc_zi (c : List Nat) : (kc c).map L2.kV = (zi c).map V.int := by rw [← kc_vi, vi_zi]
/-- a dict whose keys are changes of n states -/
def KOk (n : Nat) (kvs : List (List L2.Key × V)) : Prop := ∀ p ∈ kvs, ∃ c, p.1 = kc c ∧ Chg n c
theorem paired_at {R : Addr → List Nat → Prop} : ∀ {bs : List Addr} {cs : List (List Nat)} {i : Nat} {b : Addr}, Paired R bs cs → bs[i]? = some b → ∃ c, cs[i]? = some c ∧ R b c
  | _, _, i, b, .nil, h => by cases h
  | _, _, 0, b, .cons (b := c) h t, e => ⟨c, rfl, by cases e; exact h⟩
  | _, _, i + 1, b, .cons h t, e => by
    obtain ⟨c, h1, h2⟩ := paired_at (i := i) t e
    exact ⟨c, h1, h2⟩
theorem paired_len {R : Addr → List Nat → Prop} {bs : List Addr} {cs : List (List Nat)} (h : Paired R bs cs) : bs.length = cs.length := by
  induction h with
  | nil => rfl
  | cons _ _ ih => simp [ih]
theorem ref_at {bs : List Addr} {i : Nat} {x : V} (h : (bs.map V.ref)[i]? = some x) : ∃ b, bs[i]? = some b ∧ x = .ref b := by
  rw [List.getElem?_map] at h
  cases e : bs[i]? with
  | none => rw [e] at h; cases h
  | some b => rw [e] at h; cases h; exact ⟨b, rfl, rfl⟩
theorem atI_zero {x : V} {xs : List V} : atI (x :: xs) 0 = some x := by
  unfold atI L2.ixN
  rw [if_pos (by decide), if_pos (by simp only [List.length_cons]; omega)]
  rfl
/-- fresh ones: tuples that are changes -/
def Frs (n : Nat) (H : Hp) (es : List Addr) : Prop := ∀ e ∈ es, ∃ c, Chg n c ∧ H e = some (.tup (vi c))
theorem Frs.same {n : Nat} {H H' : Hp} {es : List Addr} (h : Frs n H es) (s : Same H H') : Frs n H' es := fun e he => by
  obtain ⟨c, h1, h2⟩ := h e he
  exact ⟨c, h1, s _ _ h2⟩
theorem Frs.ent {n : Nat} {H : Hp} {es : List Addr} (h : Frs n H es) : ∀ x ∈ es.map V.ref, Ent H x := fun x hx => by
  obtain ⟨e, he, rfl⟩ := List.mem_map.mp hx
  obtain ⟨c, _, h2⟩ := h e he
  exact .inr ⟨e, zi c, rfl, by rw [← vi_zi]; exact h2⟩
theorem Frs.upd {n : Nat} {H : Hp} {es : List Addr} {p : Addr} {o : HO} (h : Frs n H es) (hp : ∀ xs, H p ≠ some (.tup xs)) : Frs n (L2.upd H p o) es := fun e he => by
  obtain ⟨c, h1, h2⟩ := h e he
  exact ⟨c, h1, by rw [upd_ne (fun z => hp _ (by rw [← z]; exact h2))]; exact h2⟩
theorem Chg.range (n : Nat) : Chg n (List.range n) := ⟨List.length_range, fun x hx => List.mem_range.mp hx, List.nodup_range⟩
theorem rgV_vi (n : Nat) : L2.rgV 0 (n : Int) = vi (List.range n) := by
  unfold L2.rgV vi
  simp
/-- amid the walk over the fresh ones -/
structure LM (f r lt : Addr) (n : Nat) (H : Hp) (m0 : Nat) (kvs : List (List L2.Key × V)) (es ls : List Addr) (H' : Hp) : Prop where
  s : Same H H'
  f0 : H f = none
  l0 : H lt = none
  ne : f ≠ lt ∧ f ≠ r ∧ lt ≠ r
  hf : H' f = some (.dT kvs)
  hr : H' r = some (.lst (es.map V.ref))
  hl : H' lt = some (.lst (ls.map V.ref))
  ok : KOk n kvs
  fe : Frs n H' es
  fl : Frs n H' ls
  len : kvs.length = m0 + ls.length
theorem LM.same {f r lt : Addr} {n m0 : Nat} {H H1 H2 : Hp} {kvs : List (List L2.Key × V)} {es ls : List Addr} (h : LM f r lt n H m0 kvs es ls H1) (s : Same H1 H2) : LM f r lt n H m0 kvs es ls H2 :=
  ⟨h.s.trans s, h.f0, h.l0, h.ne, s _ _ h.hf, s _ _ h.hr, s _ _ h.hl, h.ok, h.fe.same s, h.fl.same s, h.len⟩
theorem LM.add {f r lt t : Addr} {n m0 : Nat} {H H1 : Hp} {kvs : List (List L2.Key × V)} {es ls : List Addr} {c : List Nat} {v : V} (h : LM f r lt n H m0 kvs es ls H1) (ht : H1 t = some (.tup (vi c))) (hc : Chg n c) :
    LM f r lt n H m0 (kvs ++ [(kc c, v)]) es (ls ++ [t]) (L2.upd (L2.upd H1 f (.dT (kvs ++ [(kc c, v)]))) lt (.lst ((ls ++ [t]).map V.ref))) := by
  have nf : ∀ xs, H1 f ≠ some (.tup xs) := fun xs z => by rw [h.hf] at z; cases z
  have nl : ∀ (o : HO) xs, (L2.upd H1 f o) lt ≠ some (.tup xs) := fun o xs z => by
    rw [upd_ne h.ne.1.symm, h.hl] at z
    cases z
  have ft : ∀ o : HO, Frs n (L2.upd H1 f o) (ls ++ [t]) := fun o e he => by
    rcases List.mem_append.mp he with z | z
    · exact (h.fl.upd nf) e z
    · rw [show e = t from by simpa using z]
      exact ⟨c, hc, by rw [upd_ne (fun y => nf _ (by rw [← y]; exact ht))]; exact ht⟩
  refine ⟨Same.upd (Same.upd h.s h.f0) h.l0, h.f0, h.l0, h.ne, by rw [upd_ne h.ne.1, upd_same], by rw [upd_ne h.ne.2.2.symm, upd_ne h.ne.2.1.symm]; exact h.hr, upd_same, fun p hp => ?_, (h.fe.upd nf).upd (nl _), (ft _).upd (nl _), by simp [h.len]; omega⟩
  rcases List.mem_append.mp hp with z | z
  · exact h.ok p z
  · rw [show p = (kc c, v) from by simpa using z]
    exact ⟨c, rfl, hc⟩
section
variable {P : Program} {w : World} {K : PySem.W.Frag} {mg : Str → Option Value} {base : Heap}
theorem len_lt2 {n : Nat} (h : n ≤ 4000) : n < sizeLine := by
  rw [sizeLine_eq]
  omega
def spLot : Sp := fun vs H Q _ => ∃ (l : Addr) (n : Nat) (bs : List Addr) (cs : List (List Nat)) (most : Int), vs = [.ref l, .int most] ∧ Gens H l n bs cs ∧ n ≤ 16 ∧ cs.length ≤ 5 ∧ 1 ≤ most ∧ most ≤ 200 ∧
  (∀ H', Same H H' → Q .non H') ∧ ∀ (p : Addr) (ds : List Addr) (H' : Hp), Same H H' → H p = none → H' p = some (.lst (ds.map V.ref)) → Frs n H' ds → Q (.ref p) H'
/-- what stands at the head of the while -/
structure LW (l f r : Addr) (n : Nat) (H : Hp) (most : Int) (kvs : List (List L2.Key × V)) (es : List Addr) (H' : Hp) : Prop where
  s : Same H H'
  f0 : H f = none
  r0 : H r = none
  hf : H' f = some (.dT kvs)
  hr : H' r = some (.lst (es.map V.ref))
  ok : KOk n kvs
  fr : Frs n H' es
end
end KV

/-! a comprehension within a comprehension's block -/
namespace KV
open PySem PySem.Spec PyProof.Rows L2
def rLenQ (K : PySem.W.Frag) : List V → Hp → VK → Prop := fun xs H Q => ∃ p ys, xs = [V.ref p] ∧ (SqL K H p ys ∨ SqT K H p ys) ∧ Q (V.int (ys.length : Nat)) H
theorem call_lenQ {X : Cx} : CallR X (Value.builtin "len") (rLenQ X.K) := call_len_seq
theorem look_relabel {env : Env} : ∀ {names : List (Str × NameKind)} {x : Str}, names.lookup x = some .cell ∨ names.lookup x = some .free →
    (names.map fun (n, k) => if (k == NameKind.free && env.scope.kind == .function && env.kindOf n == some .cell) then (n, NameKind.cell) else (n, k)).lookup x = some .cell ∨
    (names.map fun (n, k) => if (k == NameKind.free && env.scope.kind == .function && env.kindOf n == some .cell) then (n, NameKind.cell) else (n, k)).lookup x = some .free
  | [], _, h => by simp at h
  | (n, k) :: r, x, h => by
    have ih := @look_relabel env r x
    show List.lookup x ((if (k == NameKind.free && env.scope.kind == .function && env.kindOf n == some .cell) = true then (n, NameKind.cell) else (n, k)) :: _) = _ ∨ List.lookup x ((if (k == NameKind.free && env.scope.kind == .function && env.kindOf n == some .cell) = true then (n, NameKind.cell) else (n, k)) :: _) = _
    cases hx : x == n with
    | true =>
      simp only [List.lookup_cons, hx] at h
      by_cases z : (k == NameKind.free && env.scope.kind == .function && env.kindOf n == some .cell) = true
      · rw [if_pos z]
        simp only [List.lookup_cons, hx]
        first | exact .inl rfl | exact .inl trivial
      · rw [if_neg z]
        simp only [List.lookup_cons, hx]
        exact h
    | false =>
      simp only [List.lookup_cons, hx] at h
      have ih := ih h
      by_cases z : (k == NameKind.free && env.scope.kind == .function && env.kindOf n == some .cell) = true
      · rw [if_pos z]
        simp only [List.lookup_cons, hx]
        exact ih
      · rw [if_neg z]
        simp only [List.lookup_cons, hx]
        exact ih
theorem pe_lcN {X : Cx} {s0 : Shared} {H0 : Hp} {scope0 : Scope} {C0 : Addr} {cl0 : List (Str × Addr)} {fp0 : List Addr} {elt tg iter : Expr} {ifs : List Expr} {scope : Scope} {own : List (Str × Nat)} {pos : Pos} {wi : TI} {g : TG} {tt : TT} {te : TE} (N : List Str)
    (hc : X.calm = true) (hN : X.N.Nodup) (hi : PI (X.blk s0 H0 scope0 (compEnvC scope0 cl0 C0 X.env) fp0) tg iter wi) (hX : X.N = N) (ok : blkC N scope0 scope own = true)
    (hg : ∀ (s : Shared) (H : Hp) (C : Addr) (cl : List (Str × Addr)) (fp : List Addr), PG ((X.blk s0 H0 scope0 (compEnvC scope0 cl0 C0 X.env) fp0).blk s H scope (compEnvC scope cl C (compEnvC scope0 cl0 C0 X.env)) fp) tg g)
    (ht : ∀ (s : Shared) (H : Hp) (C : Addr) (cl : List (Str × Addr)) (fp : List Addr), PTs ((X.blk s0 H0 scope0 (compEnvC scope0 cl0 C0 X.env) fp0).blk s H scope (compEnvC scope cl C (compEnvC scope0 cl0 C0 X.env)) fp) ifs tt)
    (he : ∀ (s : Shared) (H : Hp) (C : Addr) (cl : List (Str × Addr)) (fp : List Addr), PE ((X.blk s0 H0 scope0 (compEnvC scope0 cl0 C0 X.env) fp0).blk s H scope (compEnvC scope cl C (compEnvC scope0 cl0 C0 X.env)) fp) elt te)
    (hs : ∀ x, foldedSetIterable iter (compEnvC scope0 cl0 C0 X.env) x = pure x := by intro _; rfl) :
    PE (X.blk s0 H0 scope0 (compEnvC scope0 cl0 C0 X.env) fp0) (.ListComp elt [⟨tg, iter, ifs, 0⟩] scope pos) (tLc wi g tt te (own.map (·.2))) :=
  pe_lc (X := X.blk s0 H0 scope0 (compEnvC scope0 cl0 C0 X.env) fp0) hc hN hi (by
    have e : BlkOk N scope0 scope own := blkOk_by ok
    rw [← hX] at e
    exact ⟨e.kind, e.uniq, e.ix, fun y hy z => look_relabel (env := X.env) (e.free y hy z), e.own⟩) hg ht he hs
end KV
namespace KV
open PySem PySem.Spec PyProof.Rows L2
def rTupOf (K : PySem.W.Frag) : List V → Hp → VK → Prop := fun xs H Q => ∃ p ys, xs = [.ref p] ∧ ((SqL K H p ys ∧ ∀ l, H l = none → Q (.ref l) (upd H l (.tup ys))) ∨ (SqT K H p ys ∧ Q (.ref p) H))
theorem call_tupK {X : Cx} : CallR X (Value.type "tuple") (rTupOf X.K) := call_tuple_of
theorem boot_tup : bootBuiltins ("tuple" : Str) = some (.type "tuple") := by decide +kernel
end KV

/-! the law's machines: two pieces side by side -/
namespace KV
open PySem PySem.Spec PyProof.Rows L2 KC
theorem take_at {α : Type} : ∀ {l : List α} {i : Nat} {x : α}, l[i]? = some x → l.take (i + 1) = l.take i ++ [x]
  | [], i, x, h => by simp at h
  | a :: l, 0, x, h => by
    have e : a = x := Option.some.inj h
    subst e
    rfl
  | a :: l, i + 1, x, h => by
    have ih := take_at (l := l) (i := i) (x := x) h
    show a :: l.take (i + 1) = a :: l.take i ++ [x]
    rw [ih]
    rfl
def lft (n1 n2 : Nat) (c : List Nat) : List Nat := c ++ (List.range n2).map (n1 + ·)
def rgt (n1 : Nat) (c : List Nat) : List Nat := List.range n1 ++ c.map (n1 + ·)
theorem nd_add (n1 : Nat) : ∀ {c : List Nat}, c.Nodup → (c.map (n1 + ·)).Nodup
  | [], _ => .nil
  | x :: c, h => by
    rw [List.nodup_cons] at h
    rw [List.map_cons, List.nodup_cons]
    refine ⟨fun z => ?_, nd_add n1 h.2⟩
    obtain ⟨y, hy, e⟩ := List.mem_map.mp z
    have : y = x := by omega
    exact h.1 (this ▸ hy)
theorem chg_lft {n1 n2 : Nat} {c : List Nat} (h : Chg n1 c) : Chg (n1 + n2) (lft n1 n2 c) := by
  refine ⟨?_, fun x hx => ?_, ?_⟩
  · unfold lft
    rw [List.length_append, List.length_map, List.length_range, h.len]
  · rcases List.mem_append.mp hx with z | z
    · have := h.lt x z
      omega
    · obtain ⟨y, hy, rfl⟩ := List.mem_map.mp z
      have := List.mem_range.mp hy
      omega
  · unfold lft
    rw [List.nodup_append]
    refine ⟨h.nd, nd_add n1 List.nodup_range, fun a ha b hb => ?_⟩
    obtain ⟨y, _, rfl⟩ := List.mem_map.mp hb
    have := h.lt a ha
    omega
theorem chg_rgt {n1 n2 : Nat} {c : List Nat} (h : Chg n2 c) : Chg (n1 + n2) (rgt n1 c) := by
  refine ⟨?_, fun x hx => ?_, ?_⟩
  · unfold rgt
    rw [List.length_append, List.length_map, List.length_range, h.len]
  · rcases List.mem_append.mp hx with z | z
    · have := List.mem_range.mp z
      omega
    · obtain ⟨y, hy, rfl⟩ := List.mem_map.mp z
      have := h.lt y hy
      omega
  · unfold rgt
    rw [List.nodup_append]
    refine ⟨List.nodup_range, nd_add n1 h.nd, fun a ha b hb => ?_⟩
    obtain ⟨y, _, rfl⟩ := List.mem_map.mp hb
    have := List.mem_range.mp ha
    omega
theorem vi_app (a b : List Nat) : vi (a ++ b) = vi a ++ vi b := by unfold vi; rw [List.map_append]
theorem paired_snoc {R : Addr → List Nat → Prop} : ∀ {bs : List Addr} {cs : List (List Nat)} {b : Addr} {c : List Nat}, Paired R bs cs → R b c → Paired R (bs ++ [b]) (cs ++ [c])
  | _, _, b, c, .nil, h => .cons h .nil
  | _, _, b, c, .cons h t, e => .cons h (paired_snoc t e)
theorem paired_app {R : Addr → List Nat → Prop} {bs' : List Addr} {cs' : List (List Nat)} (h2 : Paired R bs' cs') : ∀ {bs : List Addr} {cs : List (List Nat)}, Paired R bs cs → Paired R (bs ++ bs') (cs ++ cs')
  | _, _, .nil => h2
  | _, _, .cons h t => .cons h (paired_app h2 t)
theorem Gens.head {H : Hp} {l : Addr} {n : Nat} {bs : List Addr} {cs : List (List Nat)} (h : Gens H l n bs cs) : ∃ b0 br c0, bs = b0 :: br ∧ H b0 = some (.tup (vi c0)) ∧ Chg n c0 := by
  have ht := h.tups
  have hc := h.chg
  have h0 := h.c0
  cases ht with
  | nil => simp at h0
  | cons hh t => exact ⟨_, _, _, rfl, hh, hc _ (List.mem_cons_self ..)⟩
section
variable {P : Program} {w : World} {K : PySem.W.Frag} {mg : Str → Option Value} {base : Heap}
def spBes : Sp := fun vs H Q _ => ∃ (l m : Addr) (n1 n2 : Nat) (bs1 bs2 : List Addr) (cs1 cs2 : List (List Nat)), vs = [.ref l, .ref m] ∧ Gens H l n1 bs1 cs1 ∧ Gens H m n2 bs2 cs2 ∧ n1 ≤ 9 ∧ n2 ≤ 9 ∧ cs1.length ≤ 2 ∧ cs2.length ≤ 2 ∧
  ∀ r n bs cs H', Same H H' → H r = none → Gens H' r n bs cs → n ≤ 18 → cs.length ≤ 4 → Q (.ref r) H'
end
end KV

/-! the law's machines: a drawn one -/
namespace KV
open PySem PySem.Spec PyProof.Rows L2 KC
theorem chg_perm {n : Nat} {p : List Nat} (h : p.Perm (List.range n)) : Chg n p :=
  ⟨by rw [h.length_eq, List.length_range], fun x hx => List.mem_range.mp (h.mem_iff.mp hx), h.nodup_iff.mpr List.nodup_range⟩
def Trn (n : Nat) (p c T : List Nat) (i : Nat) : Prop := T.length = n ∧ ∀ j, j < i → T[p.getD j 0]? = some (p.getD (c.getD j 0) 0)
theorem trn_step {n i : Nat} {p c T : List Nat} (hp : Chg n p) (hi : i < n) (t : Trn n p c T i) : Trn n p c (T.set (p.getD i 0) (p.getD (c.getD i 0) 0)) (i + 1) := by
  refine ⟨by rw [List.length_set]; exact t.1, fun j hj => ?_⟩
  by_cases e : j = i
  · subst e
    rw [List.getElem?_set_self (by rw [t.1]; exact hp.at_lt hi)]
  · rw [List.getElem?_set_ne (fun z => e (hp.at_inj hi (by omega) z).symm)]
    exact t.2 j (by omega)
theorem trn_chg {n : Nat} {p c T : List Nat} (hp : Chg n p) (hc : Chg n c) (t : Trn n p c T n) : Chg n T := by
  have at_ : ∀ i, i < n → T.getD (p.getD i 0) 0 = p.getD (c.getD i 0) 0 := fun i hi => getD_at (t.2 i hi)
  rw [eq_tab t.1]
  refine chg_tab (fun x hx => ?_) fun x hx y hy e => ?_
  · obtain ⟨i, hi, rfl⟩ := hp.mem hx
    rw [at_ i hi]
    exact hp.at_lt (hc.at_lt hi)
  · obtain ⟨i, hi, rfl⟩ := hp.mem hx
    obtain ⟨j, hj, rfl⟩ := hp.mem hy
    rw [at_ i hi, at_ j hj] at e
    rw [hc.at_inj hi hj (hp.at_inj (hc.at_lt hi) (hc.at_lt hj) e)]
theorem perm_refs {ys : List V} {bs : List Addr} (h : ys.Perm (bs.map V.ref)) : ∃ ds : List Addr, ys = ds.map V.ref ∧ ds.Perm bs := by
  refine ⟨ys.filterMap (fun v => match v with | .ref a => some a | _ => none), ?_, ?_⟩
  · have all : ∀ v ∈ ys, ∃ a, v = V.ref a := fun v hv => by
      obtain ⟨b, _, e⟩ := List.mem_map.mp (h.mem_iff.mp hv)
      exact ⟨b, e.symm⟩
    clear h
    induction ys with
    | nil => rfl
    | cons v r ih =>
      obtain ⟨a, rfl⟩ := all v (by simp)
      show V.ref a :: r = V.ref a :: _
      rw [← ih fun v hv => all v (List.mem_cons_of_mem _ hv)]
  · have z := h.filterMap (fun v : V => match v with | .ref a => some a | _ => none)
    have e : ∀ l : List Addr, (l.map V.ref).filterMap (fun v : V => match v with | .ref a => some a | _ => none) = l := fun l => by
      induction l with
      | nil => rfl
      | cons a r ih =>
        show a :: _ = a :: r
        exact congrArg (a :: ·) ih
    rw [e] at z
    exact z
theorem Gens.frs {H : Hp} {l : Addr} {n : Nat} {bs : List Addr} {cs : List (List Nat)} (h : Gens H l n bs cs) : Frs n H bs := fun e he => by
  obtain ⟨i, hi, rfl⟩ := List.mem_iff_getElem.mp he
  obtain ⟨c, h1, h2⟩ := paired_at h.tups (List.getElem?_eq_getElem hi)
  exact ⟨c, h.chg c (List.mem_of_getElem? h1), h2⟩
theorem Frs.kp {n : Nat} {d c : Addr} {H H' : Hp} {es : List Addr} (h : Frs n H es) (D : Dl H d c) (k : Kp d c H H') : Frs n H' es := fun e he => by
  obtain ⟨c, h1, h2⟩ := h e he
  exact ⟨c, h1, D.kT k h2⟩
/-- amid the turning -/
structure MS (d c fl ml : Addr) (n : Nat) (H5 : Hp) (ds fs : List Addr) (es : List (List Nat)) (H' : Hp) : Prop where
  ff : H' fl = some (.lst (fs.map V.ref))
  mm : H' ml = some (.lst (ds.map V.ref))
  pp : Paired (fun b e => H' b = some (.tup (vi e))) fs es
  ee : ∀ e ∈ es, Chg n e
  dl : Dl H' d c
  kp : Kp d c H5 H'
theorem MS.same {d c fl ml : Addr} {n : Nat} {H5 H1 H2 : Hp} {ds fs : List Addr} {es : List (List Nat)} (h : MS d c fl ml n H5 ds fs es H1) (s : Same H1 H2) : MS d c fl ml n H5 ds fs es H2 :=
  ⟨s _ _ h.ff, s _ _ h.mm, tups_keep (fun b xs e => s _ _ e) h.pp, h.ee, h.dl.same s, h.kp.trans (Kp.of s)⟩
theorem MS.upd {d c fl ml p : Addr} {n : Nat} {H5 H1 : Hp} {o : HO} {ds fs : List Addr} {es : List (List Nat)} (h : MS d c fl ml n H5 ds fs es H1) (hp : H5 p = none) (np : p ≠ fl ∧ p ≠ ml) (pd : p ≠ d ∧ p ≠ c) (nt : ∀ xs, H1 p ≠ some (.tup xs)) : MS d c fl ml n H5 ds fs es (L2.upd H1 p o) :=
  ⟨by rw [upd_ne np.1.symm]; exact h.ff, by rw [upd_ne np.2.symm]; exact h.mm, tups_keep (fun b xs e => by rw [upd_ne (fun y => nt _ (by rw [← y]; exact e))]; exact e) h.pp, h.ee, h.dl.upd pd.1 pd.2, h.kp.updn hp⟩
theorem MS.add {d c fl ml t : Addr} {n : Nat} {H5 H1 : Hp} {ds fs : List Addr} {es : List (List Nat)} {e : List Nat} (h : MS d c fl ml n H5 ds fs es H1) (f5 : H5 fl = none) (fd : fl ≠ d ∧ fl ≠ c) (fm : fl ≠ ml) (ht : H1 t = some (.tup (vi e))) (he : Chg n e) :
    MS d c fl ml n H5 ds (fs ++ [t]) (es ++ [e]) (L2.upd H1 fl (.lst ((fs ++ [t]).map V.ref))) := by
  have nt : ∀ xs, H1 fl ≠ some (.tup xs) := fun xs z => by rw [h.ff] at z; cases z
  refine ⟨upd_same, by rw [upd_ne fm.symm]; exact h.mm, paired_snoc (tups_keep (fun b xs e => by rw [upd_ne (fun y => nt _ (by rw [← y]; exact e))]; exact e) h.pp) (by rw [upd_ne (fun y => nt _ (by rw [← y]; exact ht))]; exact ht), fun x hx => ?_, h.dl.upd fd.1 fd.2, h.kp.updn f5⟩
  rcases List.mem_append.mp hx with z | z
  · exact h.ee x z
  · rw [show x = e from by simpa using z]
    exact he
theorem rep_vi (n : Nat) : (List.replicate n [V.int 0]).flatten = vi (List.replicate n 0) := by
  rw [rep_int]
  unfold vi
  rw [List.map_replicate]
  rfl
theorem ixN_ok {r : Int} {n : Nat} (h0 : 0 ≤ r) (h1 : r < n) : L2.ixN n r = some r.toNat := by
  unfold L2.ixN
  rw [if_pos h0, if_pos h1]
theorem vi_set (T : List Nat) (j x : Nat) : (vi T).set j (V.int (x : Int)) = vi (T.set j x) := by
  unfold vi
  rw [List.map_set]
section
variable {P : Program} {w : World} {K : PySem.W.Frag} {mg : Str → Option Value} {base : Heap}
def spMac : Sp := fun vs H Q _ => ∃ (d c : Addr) (most : Int), vs = [.ref d, .int most] ∧ Dl H d c ∧ 1 ≤ most ∧ most ≤ 200 ∧ ∀ l n bs cs H', H l = none → Gens H' l n bs cs → n ≤ 12 → cs.length ≤ 4 → Dl H' d c → Kp d c H H' → Q (.ref l) H'
end
end KV

/-! the law's machines: the steps -/
namespace KV
open PySem PySem.Spec PyProof.Rows L2 KC
theorem atI_eq {xs : List V} {i : Nat} {v : V} {z : Int} (e : z = (i : Int)) (h : xs[i]? = some v) : atI xs z = some v := by
  rw [e]
  exact atI_nat h
/-- the line of a state -/
def row (cs : List (List Nat)) (s : Nat) : List Nat := cs.map fun c => c.getD s 0
/-- a list of lists of states -/
structure Stp (H : Hp) (r : Addr) (n : Nat) (rs : List Addr) (cs : List (List Nat)) : Prop where
  lst : H r = some (.lst (rs.map V.ref))
  len : rs.length = n
  row : ∀ s b, rs[s]? = some b → H b = some (.lst (vi (row cs s)))
  nd : (r :: rs).Nodup
section
variable {P : Program} {w : World} {K : PySem.W.Frag} {mg : Str → Option Value} {base : Heap}
def spStp : Sp := fun vs H Q _ => ∃ (l : Addr) (n : Nat) (bs : List Addr) (cs : List (List Nat)), vs = [.ref l] ∧ Gens H l n bs cs ∧ n ≤ 16 ∧ cs.length ≤ 5 ∧
  ∀ r rs H', Same H H' → H r = none → (∀ b ∈ rs, H b = none) → Stp H' r n rs cs → Q (.ref r) H'
end
end KV

/-! the program: no command leads two states to one, of a machine that is right -/
namespace KV
open PySem PySem.Spec PyProof.Rows L2 KC
theorem zi_nodup {c : List Nat} (h : c.Nodup) : (zi c).Nodup := by
  unfold zi List.Nodup
  rw [List.pairwise_map]
  exact h.imp fun ne e => ne (Int.ofNat.inj e)
theorem Stp.same {H H' : Hp} {r : Addr} {n : Nat} {rs : List Addr} {cs : List (List Nat)} (h : Stp H r n rs cs) (s : Same H H') : Stp H' r n rs cs := ⟨s _ _ h.lst, h.len, fun i b e => s _ _ (h.row i b e), h.nd⟩
section
variable {P : Program} {w : World} {K : PySem.W.Frag} {mg : Str → Option Value} {base : Heap}
def spLosG : Sp := fun vs H Q _ => ∃ (m : Int) (r : Addr) (n : Nat) (rs : List Addr) (cs : List (List Nat)), vs = [.int m, .ref r] ∧ Stp H r n rs cs ∧ m = (cs.length : Int) ∧ n ≤ 16 ∧ cs.length ≤ 5 ∧ (∀ c ∈ cs, Chg n c) ∧ ∀ H', Same H H' → Q .non H'
theorem sk11 : FnScope ["commands", "steps", "command", "entry"] ["commands", "steps"] (defScope (top 20)) := ⟨rfl, rfl, rfl, by decide +kernel, rfl, by decide +kernel, by decide +kernel⟩
theorem ok_losG {f : Addr} {fd : FuncData} (B : Bl mg) (F : Fun K "first_losing" "first_losing" (top 20) f fd) : FnOk P w K mg base CX0 1 f fd ["commands", "steps"] spLosG := by
  refine F.ok sk11 (fun vs H Q E h => ?_) (fun cdv A outer s H vs Q E hr h => ⟨_,
    (pss_cons (ps_for PassesOwn.never rfl (pi_range1 (by rfl) B.range (pa_cons (pv 0) pa_nil)) (pg_name (i := 2) sk11.nd rfl (.inr rfl)) (pss_one (ps_if (pt_cmpR op_lt (RZ.pe_lenSetI (by rfl) B.len (by rfl) B.set (pe_lc (own := [("entry", 3)]) (g := gName 3) (tt := tYes) rfl sk11.nd (pi_list (pv 1)) (blkOk_by (N := ["commands", "steps", "command", "entry"]) (sc := defScope (top 20)) (by decide +kernel))
        (fun _ _ _ _ _ => (pg_name (i := 3) sk11.nd rfl (Or.inl rfl))) (fun _ _ _ _ _ => pts_nil) (fun _ _ _ _ _ => (pe_ix (r := rIxL K) ix_list (pv 3) (pv 2) (fun _ _ => rfl))))) (pe_callB call_len_seq (by rfl) B.len PySem.boot_len (pa_cons (pv 1) pa_nil)) (nomark _)) (pss_one (ps_ret (pv 2))) pss_nil)))
    (pss_one (ps_ret pe_non))), ?_⟩)
  · obtain ⟨m, r, n, rs, cs, rfl, _⟩ := h
    rfl
  obtain ⟨m, r, n, rs, cs, rfl, hS, rfl, n16, c5, hc, q⟩ := h
  refine ⟨_, rfl, (cs.length : Int), rfl, by omega, by omega, for_range (n := (cs.length : Int).toNat) (fun i σ H' => (∃ v2 : Option V, σ = [some (.int (cs.length : Int)), some (.ref r), v2, none]) ∧ Same H H') ⟨⟨none, rfl⟩, Same.refl H⟩ ?_ ?_⟩
  · rintro i σ G hi ⟨⟨v2, rfl⟩, s1⟩
    have il : i < cs.length := by omega
    have S1 := hS.same s1
    obtain ⟨c, ec⟩ : ∃ c, cs[i]? = some c := ⟨_, List.getElem?_eq_getElem il⟩
    have hg := hc c (List.mem_of_getElem? ec)
    dsimp only [gName]
    refine ⟨_, rfl, r, rfl, ⟨_, SqL.of S1.lst⟩, fun D hD => lc_list (xs := rs.map V.ref) (fun j G2 => Same G G2 ∧ G2 D = some (.lst (vi (c.take j)))) ⟨Same.new hD, upd_same⟩ (fun j G2 _ z => SqL.of (z.1 _ _ S1.lst)) ?_ ?_⟩
    · rintro j x G2 hx ⟨u1, u2⟩
      obtain ⟨b, hb, rfl⟩ := ref_at hx
      have jn : j < n := by have := (List.getElem?_eq_some_iff.mp hb).1; rw [S1.len] at this; exact this
      have hr := u1 _ _ (S1.row j b hb)
      have hj : c[j]? = some (c.getD j 0) := at_getD (by rw [hg.len]; exact jn)
      have hv : (vi (row cs j))[i]? = some (V.int (c.getD j 0 : Nat)) := vi_get (by unfold row; rw [List.getElem?_map, ec]; rfl)
      refine ⟨rfl, _, rfl, _, rfl, b, _, _, _, rfl, rfl, SqL.of hr, atI_eq (show (0 : Int) + (i : Int) = (i : Int) by omega) hv, _, u2, len_lt (by have := List.length_take_le' j c; have := hg.len; simp only [vi, List.length_map]; omega), Same.upd u1 hD, ?_⟩
      rw [upd_same, take_at hj, vi_app]
      rfl
    · rintro G2 ⟨u1, u2⟩
      have u2 : G2 D = some (.lst (vi c)) := by
        rw [List.length_map, S1.len, ← hg.len, List.take_length] at u2
        exact u2
      refine ⟨D, zi c, rfl, by rw [← vi_zi]; exact SqL.of u2, zi_nodup hg.nd, by unfold zi; rw [List.length_map, hg.len]; omega, _, rfl, r, _, rfl, .inl (SqL.of (u1 _ _ S1.lst)), _, _, rfl, rfl, _, rfl, iteN ?_ ⟨⟨_, rfl⟩, s1.trans u1⟩⟩
      have e1 : (zi c).length = n := by unfold zi; rw [List.length_map, hg.len]
      have e2 : (rs.map V.ref).length = n := by rw [List.length_map, S1.len]
      rw [e1, e2]
      simp
  · rintro σ G ⟨⟨v2, rfl⟩, s1⟩
    exact q G s1

end
end KV

/-! lists or tuples -/
namespace KV
open PySem PySem.Spec PyProof.Rows L2
/-- at a stands a list or a tuple of xs -/
def SqA (K : PySem.W.Frag) (H : Hp) (a : Addr) (xs : List V) : Prop := SqL K H a xs ∨ SqT K H a xs
theorem Same.sqA {K : PySem.W.Frag} {H H' : Hp} {a : Addr} {xs : List V} (e : Same H H') (h : SqA K H a xs) : SqA K H' a xs := by
  rcases h with h | h
  · exact .inl (e.seq h)
  · exact .inr (Same.seqT e h)
section
variable {X : Cx} {tg : Expr}
def iSq (K : PySem.W.Frag) (tl : TE) : TI := fun σ H R => tl σ H fun x H1 => ∃ a, x = .ref a ∧ (((∃ xs, SqL K H1 a xs) ∧ R (Itl K a) H1) ∨ ((∃ xs, SqT K H1 a xs) ∧ R (Itt K a) H1))
theorem pi_sq {l : Expr} {tl : TE} (hl : PE X l tl) : PI X tg l (iSq X.K tl) := by
  refine ⟨fun pins s σ H R I h => ?_⟩
  refine thn (hl.run pins s σ H _ I h) fun v s1 ⟨x, H1, I1, r1, q1⟩ => ?_
  obtain ⟨a, e, q⟩ := q1
  subst e
  cases r1
  rcases q with ⟨⟨xs, hq⟩, q⟩ | ⟨⟨xs, hq⟩, q⟩
  · obtain ⟨its, rv, p, hz⟩ := I1.list hq
    refine wpAny_pyIter_list p.isList ?_
    refine ⟨s1.heap.objs.size, [s1.heap.objs.size], _, _, H1, rfl, I1.kept (t' := s1.toks) fun b o e => Heap.get?_push_of_some _ e, turn_list a _, ⟨_, Heap.get?_push_size _ rfl, rfl, rfl⟩, fun b hb => ?_, q⟩
    have e : b = s1.heap.objs.size := by simpa using hb
    subst e
    exact I1.fpOk (Nat.le_refl _) (I1.hok.fresh (Nat.le_refl _))
  · obtain ⟨its, rv, p, hz⟩ := I1.tuple hq
    refine wpAny_pyIter_tuple (show s1.heap.IsTuple a its.toArray from p) ?_
    refine ⟨s1.heap.objs.size, [s1.heap.objs.size], _, _, H1, rfl, I1.kept (t' := s1.toks) fun b o e => Heap.get?_push_of_some _ e, turn_tuple a _, ⟨_, Heap.get?_push_size _ rfl, rfl, rfl⟩, fun b hb => ?_, q⟩
    have e : b = s1.heap.objs.size := by simpa using hb
    subst e
    exact I1.fpOk (Nat.le_refl _) (I1.hok.fresh (Nat.le_refl _))
end
/-- the heap keeps what stands at a -/
def Ke (K : PySem.W.Frag) (H H' : Hp) (a : Addr) : Prop := ∀ xs, (SqL K H a xs → SqL K H' a xs) ∧ (SqT K H a xs → SqT K H' a xs)
theorem Ke.of {K : PySem.W.Frag} {H H' : Hp} {a : Addr} (s : Same H H') : Ke K H H' a := fun _ => ⟨fun h => s.seq h, fun h => Same.seqT s h⟩
theorem for_sq {K : PySem.W.Frag} {a : Addr} {xs : List V} {g : TG} {tb : TS} {D : Ends} {σ : L2.St} {H : Hp} (hS : SqA K H a xs) (Pv : Nat → L2.St → Hp → Prop) (h0 : Pv 0 σ H) (hl : ∀ i σ H', i ≤ xs.length → Pv i σ H' → Ke K H H' a)
    (hs : ∀ i x σ H, xs[i]? = some x → Pv i σ H → g x σ H fun σ2 H2 => tb { D with nx := Pv (i + 1), ct := Pv (i + 1), bk := D.nx } σ2 H2) (hd : ∀ σ H, Pv xs.length σ H → D.nx σ H) :
    ((∃ xs, SqL K H a xs) ∧ ∃ W : Nat → Nat → L2.St → Hp → Prop, (∃ m, W 0 m σ H) ∧ ∀ i m σ H, W i m σ H →
      ((Itl K a).stop i H ∧ D.nx σ H) ∨ ((Itl K a).go i H ∧ ∃ N : L2.St → Hp → Prop, (∀ σ' H', N σ' H' → ∃ m', m' < m ∧ W (i + 1) m' σ' H') ∧ ∀ x H', (Itl K a).yld i H x H' → g x σ H' fun σ2 H2 => tb { D with nx := N, ct := N, bk := D.nx } σ2 H2)) ∨
    ((∃ xs, SqT K H a xs) ∧ ∃ W : Nat → Nat → L2.St → Hp → Prop, (∃ m, W 0 m σ H) ∧ ∀ i m σ H, W i m σ H →
      ((Itt K a).stop i H ∧ D.nx σ H) ∨ ((Itt K a).go i H ∧ ∃ N : L2.St → Hp → Prop, (∀ σ' H', N σ' H' → ∃ m', m' < m ∧ W (i + 1) m' σ' H') ∧ ∀ x H', (Itt K a).yld i H x H' → g x σ H' fun σ2 H2 => tb { D with nx := N, ct := N, bk := D.nx } σ2 H2)) := by
  rcases hS with hS | hS
  · exact .inl ⟨⟨_, hS⟩, for_list Pv h0 (fun i σ H' hi p => (hl i σ H' hi p _).1 hS) hs hd⟩
  · exact .inr ⟨⟨_, hS⟩, for_tup Pv h0 (fun i σ H' hi p => (hl i σ H' hi p _).2 hS) hs hd⟩
theorem lc_sq {K : PySem.W.Frag} {a : Addr} {xs : List V} {g : TG} {tt : TT} {te : TE} {vs : List Nat} {σ : L2.St} {H1 : Hp} {Qd : Addr → Hp → Prop} (hS : SqA K H1 a xs) (Pv : Addr → Nat → Hp → Prop) (h0 : ∀ D, H1 D = none → Pv D 0 (upd H1 D (.lst []))) (hl : ∀ D i H, Pv D i H → Ke K H1 H a)
    (hs : ∀ D i x H, H1 D = none → xs[i]? = some x → Pv D i H → g x (wipe σ vs) H fun σ2 H2 => wipe σ2 vs = wipe σ vs ∧ tt σ2 H2 fun b H3 =>
      if b = true then te σ2 H3 fun y H4 => ∃ acc, H4 D = some (.lst acc) ∧ acc.length < sizeLine ∧ Pv D (i + 1) (upd H4 D (.lst (acc ++ [y]))) else Pv D (i + 1) H3) (hd : ∀ D H, H1 D = none → Pv D xs.length H → Qd D H) :
    ((∃ xs, SqL K H1 a xs) ∧ ∀ D, H1 D = none → ∃ W : Nat → Nat → Hp → Prop, (∃ m, W 0 m (upd H1 D (.lst []))) ∧ ∀ i m H, W i m H →
      ((Itl K a).stop i H ∧ Qd D H) ∨ ((Itl K a).go i H ∧ ∃ Nx : Hp → Prop, (∀ H', Nx H' → ∃ m', m' < m ∧ W (i + 1) m' H') ∧ ∀ x H', (Itl K a).yld i H x H' → g x (wipe σ vs) H' fun σ2 H2 => wipe σ2 vs = wipe σ vs ∧ tt σ2 H2 fun b H3 =>
        if b = true then te σ2 H3 fun y H4 => ∃ acc, H4 D = some (.lst acc) ∧ acc.length < sizeLine ∧ Nx (upd H4 D (.lst (acc ++ [y]))) else Nx H3)) ∨
    ((∃ xs, SqT K H1 a xs) ∧ ∀ D, H1 D = none → ∃ W : Nat → Nat → Hp → Prop, (∃ m, W 0 m (upd H1 D (.lst []))) ∧ ∀ i m H, W i m H →
      ((Itt K a).stop i H ∧ Qd D H) ∨ ((Itt K a).go i H ∧ ∃ Nx : Hp → Prop, (∀ H', Nx H' → ∃ m', m' < m ∧ W (i + 1) m' H') ∧ ∀ x H', (Itt K a).yld i H x H' → g x (wipe σ vs) H' fun σ2 H2 => wipe σ2 vs = wipe σ vs ∧ tt σ2 H2 fun b H3 =>
        if b = true then te σ2 H3 fun y H4 => ∃ acc, H4 D = some (.lst acc) ∧ acc.length < sizeLine ∧ Nx (upd H4 D (.lst (acc ++ [y]))) else Nx H3)) := by
  rcases hS with hS | hS
  · exact .inl ⟨⟨_, hS⟩, fun D hD => lc_list (Qd := Qd D) (Pv D) (h0 D hD) (fun i H hi p => (hl D i H p _).1 hS) (fun i x H hx p => hs D i x H hD hx p) (fun H p => hd D H hD p)⟩
  · exact .inr ⟨⟨_, hS⟩, fun D hD => lc_tup (Qd := Qd D) (Pv D) (h0 D hD) (fun i H hi p => (hl D i H p _).2 hS) (fun i x H hx p => hs D i x H hD hx p) (fun H p => hd D H hD p)⟩
end KV

/-! the program: is_sequence of a list or a tuple; a line that is right -/
namespace KV
open PySem PySem.Spec PyProof.Rows L2 KC
theorem kit2 {K : PySem.W.Frag} {T : String} {b c : Bool} (h1 : PySem.W.kitOne K (.type T) (.type "list") = some b) (h2 : PySem.W.kitOne K (.type T) (.type "tuple") = some c) : PySem.W.kitAny K (.type T) [.type "list", .type "tuple"] = some (b || c) := by
  refine kitAny_cons h1 (fun e => ?_) (fun e => by rw [e]; rfl)
  subst e
  refine kitAny_cons h2 (fun e => ?_) (fun e => by rw [e]; rfl)
  subst e
  exact kitAny_nil
section
variable {P : Program} {w : World} {K : PySem.W.Frag} {mg : Str → Option Value} {base : Heap}
def spSeqG : Sp := fun vs H Q _ => ∃ (a : Addr) (xs : List V), vs = [.ref a] ∧ (H a = some (.lst xs) ∨ H a = some (.tup xs)) ∧ ∀ H', Same H H' → Q (.bl true) H'
theorem sk7 : FnScope ["value"] ["value"] (defScope (top 10)) := ⟨rfl, rfl, rfl, by decide +kernel, rfl, by decide +kernel, by decide +kernel⟩
theorem ok_seqG {f : Addr} {fd : FuncData} (B : Bl mg) (F : Fun K "is_sequence" "is_sequence" (top 10) f fd) : FnOk P w K mg base CX0 1 f fd ["value"] spSeqG := by
  refine F.ok sk7 (fun vs H Q E h => ?_) (fun cdv A outer s H vs Q E hr h => ⟨_,
    (pss_one (ps_ret (pe_callB call_isiT (by rfl) B.isi (by decide +kernel) (pa_cons (pv 0) (pa_cons (pe_tup (pa_cons (pe_bltn (v := .ty "list") (by rfl) B.list (by decide +kernel) rfl) (pa_cons (pe_bltn (v := .ty "tuple") (by rfl) B.tuple (by decide +kernel) rfl) pa_nil))) pa_nil))))), ?_⟩)
  · obtain ⟨a, xs, rfl, _⟩ := h
    rfl
  obtain ⟨a, xs, rfl, ha, q⟩ := h
  refine ⟨_, rfl, (by show 2 ≤ sizeLine; decide), fun t ht => ?_⟩
  have s1 : Same H (upd H t (.tup [V.ty "list", V.ty "tuple"])) := Same.new ht
  rcases ha with ha | ha
  · exact ⟨.ref a, t, _, .type "list", _, true, rfl, upd_same, .cons (.ty _) (.cons (.ty _) .nil), .base (.lst (s1 _ _ ha)), kit2 (b := true) (c := false) (kit_ty (by decide +kernel)) (kit_ty (by decide +kernel)), q _ s1⟩
  · exact ⟨.ref a, t, _, .type "tuple", _, true, rfl, upd_same, .cons (.ty _) (.cons (.ty _) .nil), .base (.tup (s1 _ _ ha)), kit2 (b := false) (c := true) (kit_ty (by decide +kernel)) (kit_ty (by decide +kernel)), q _ s1⟩

def spEntG : Sp := fun vs H Q _ => ∃ (a : Addr) (xs : List Nat) (m n : Int), vs = [.ref a, .int m, .int n] ∧ (H a = some (.lst (vi xs)) ∨ H a = some (.tup (vi xs))) ∧ (xs.length : Int) = m ∧ xs.length ≤ 1000 ∧ (∀ x ∈ xs, (x : Int) < n) ∧ ∀ H', Same H H' → Q (.bl true) H'
theorem sk10 : FnScope ["value", "commands", "states", "state"] ["value", "commands", "states"] (defScope (top 19)) := ⟨rfl, rfl, rfl, by decide +kernel, rfl, by decide +kernel, by decide +kernel⟩
theorem ok_entG {f : Addr} {fd : FuncData} (B : Bl mg) (CS : Cal P w K mg base CX0 1 "is_sequence" ["value"] spSeqG) (CB : Cal P w K mg base CX0 2 "is_below" ["value", "bound"] spBelow) (F : Fun K "_is_entry" "_is_entry" (top 19) f fd) : FnOk P w K mg base CX0 3 f fd ["value", "commands", "states"] spEntG := by
  refine F.ok sk10 (fun vs H Q E h => ?_) (fun cdv A outer s H vs Q E hr h => ⟨_,
    (pss_cons (ps_if (PW.pt (pw_or (pt_not (pt_val (by exact (pe_cal (X := L2.Cx.nox _) CS hr (by decide) (pa_cons (pv 0) pa_nil))))) (pw_or1 (pt_cmpR op_ne (pe_callB call_len_seq (by rfl) B.len PySem.boot_len (pa_cons (pv 0) pa_nil)) (pv 1) (nomark _))))) (pss_one (ps_ret pe_bl)) pss_nil)
    (pss_one (ps_ret (pe_callB (cr_all rfl) (by rfl) B.all (by decide +kernel) (pa_cons (pe_lc (own := [("state", 3)]) (g := gName 3) (tt := tYes) rfl sk10.nd (pi_sq (pv 0)) (blkOk_by (N := ["value", "commands", "states", "state"]) (sc := defScope (top 19)) (by decide +kernel))
        (fun _ _ _ _ _ => (pg_name (i := 3) sk10.nd rfl (Or.inl rfl))) (fun _ _ _ _ _ => pts_nil) (fun _ _ _ _ _ => (pe_cal CB hr (by decide) (pa_cons (pv 3) (pa_cons (pv 2) pa_nil))))) pa_nil))))), ?_⟩)
  · obtain ⟨a, xs, m, n, rfl, _⟩ := h
    rfl
  obtain ⟨a, xs, m, n, rfl, ha, hm, hl, hB, q⟩ := h
  have ex : (vi xs).length = xs.length := List.length_map ..
  have hq : ∀ H', Same H H' → SqA K H' a (vi xs) := fun H' s => by
    rcases ha with ha | ha
    · exact .inl (SqL.of (s _ _ ha))
    · exact .inr (SqT.of (s _ _ ha))
  refine ⟨_, rfl, a, _, rfl, ha, fun H1 s1 => ⟨_, rfl, iteF ⟨_, rfl, a, _, rfl, hq _ s1, _, rfl, rfl, _, rfl, iteN (by rw [ex, hm]; simp) ?_⟩⟩⟩
  refine ⟨_, rfl, a, rfl, lc_sq (hq _ s1) (fun D i H' => Same H1 H' ∧ H' D = some (.lst ((List.replicate i true).map V.bl))) (fun D hD => ⟨Same.new hD, upd_same⟩) (fun D i H' p => Ke.of p.1) ?_ ?_⟩
  · rintro D i x H2 hD hx ⟨p1, p2⟩
    obtain ⟨v, hv, rfl⟩ := vi_at hx
    have hv2 := hB v (List.mem_of_getElem? hv)
    have il := (List.getElem?_eq_some_iff.mp hv).1
    have eb : belB n (.int (v : Int)) = true := by
      show (decide ((0 : Int) ≤ (v : Int)) && decide ((v : Int) < n)) = true
      rw [decide_eq_true (Int.natCast_nonneg v), decide_eq_true hv2]
      rfl
    refine ⟨rfl, _, rfl, _, rfl, .int (v : Int), n, rfl, .inl ⟨_, rfl⟩, _, p2, len_lt (by rw [List.length_map, List.length_replicate]; omega), Same.upd p1 hD, ?_⟩
    rw [upd_same, eb, List.replicate_succ', List.map_append]
    rfl
  · rintro D H2 hD ⟨p1, p2⟩
    refine ⟨D, _, rfl, SqL.of p2, ?_⟩
    have e : ∀ k : Nat, (List.replicate k true).all id = true := fun k => by simp
    rw [e]
    exact q _ (s1.trans p1)

end
end KV

/-! values of any kind: what is asked of them -/
namespace KV
open PySem PySem.Spec PyProof.Rows L2 KC
/-- a value: a list or a tuple of items (some), or of another kind (none) -/
def SqV (K : PySem.W.Frag) (H : Hp) (v : V) : Option (List V) → Prop
  | some xs => ∃ a : Addr, v = .ref a ∧ (H a = some (.lst xs) ∨ H a = some (.tup xs))
  | none => ∃ T : String, TyX K H v (.type T) ∧ (T = "NoneType" ∨ T = "int" ∨ T = "str" ∨ T = "bool" ∨ T = "dict")
theorem SqV.same {K : PySem.W.Frag} {H H' : Hp} (s : Same H H') {v : V} {ms : Option (List V)} (h : SqV K H v ms) : SqV K H' v ms := by
  cases ms with
  | none =>
    obtain ⟨T, h1, h2⟩ := h
    exact ⟨T, tyx_same s h1, h2⟩
  | some xs =>
    obtain ⟨a, h1, h2⟩ := h
    exact ⟨a, h1, h2.elim (fun z => .inl (s _ _ z)) fun z => .inr (s _ _ z)⟩
theorem SqV.kit {K : PySem.W.Frag} {H : Hp} {v : V} {ms : Option (List V)} (h : SqV K H v ms) : ∃ t : Value, TyX K H v t ∧ PySem.W.kitAny K t [.type "list", .type "tuple"] = some ms.isSome := by
  cases ms with
  | some xs =>
    obtain ⟨a, rfl, ha | ha⟩ := h
    · exact ⟨.type "list", .base (.lst ha), kit2 (b := true) (c := false) (kit_ty (by decide +kernel)) (kit_ty (by decide +kernel))⟩
    · exact ⟨.type "tuple", .base (.tup ha), kit2 (b := false) (c := true) (kit_ty (by decide +kernel)) (kit_ty (by decide +kernel))⟩
  | none =>
    obtain ⟨T, ty, hT⟩ := h
    refine ⟨_, ty, ?_⟩
    rcases hT with rfl | rfl | rfl | rfl | rfl
    · exact kit2 (b := false) (c := false) (kit_ty (by decide +kernel)) (kit_ty (by decide +kernel))
    · exact kit2 (b := false) (c := false) (kit_ty (by decide +kernel)) (kit_ty (by decide +kernel))
    · exact kit2 (b := false) (c := false) (kit_ty (by decide +kernel)) (kit_ty (by decide +kernel))
    · exact kit2 (b := false) (c := false) (kit_ty (by decide +kernel)) (kit_ty (by decide +kernel))
    · exact kit2 (b := false) (c := false) (kit_ty (by decide +kernel)) (kit_ty (by decide +kernel))
/-- an item: an int, or of a kind that is none -/
def AnyV (K : PySem.W.Frag) (H : Hp) (v : V) : Prop := (∃ i : Int, v = .int i) ∨ (isI v = false ∧ (∀ b, belB b v = false) ∧ ∃ T : String, TyX K H v (.type T) ∧ (T = "NoneType" ∨ T = "str" ∨ T = "bool" ∨ T = "tuple" ∨ T = "list" ∨ T = "dict"))
theorem AnyV.same {K : PySem.W.Frag} {H H' : Hp} (s : Same H H') {v : V} (h : AnyV K H v) : AnyV K H' v := by
  rcases h with h | ⟨h1, h2, T, h3, h4⟩
  · exact .inl h
  · exact .inr ⟨h1, h2, T, tyx_same s h3, h4⟩
theorem AnyV.int {K : PySem.W.Frag} {H : Hp} (i : Int) : AnyV K H (.int i) := .inl ⟨i, rfl⟩
theorem AnyV.bl {K : PySem.W.Frag} {H : Hp} (b : Bool) : AnyV K H (.bl b) := .inr ⟨rfl, fun _ => rfl, "bool", .base (.bl b), by simp⟩
theorem AnyV.non {K : PySem.W.Frag} {H : Hp} : AnyV K H .non := .inr ⟨rfl, fun _ => rfl, "NoneType", .base .non, by simp⟩
theorem AnyV.str {K : PySem.W.Frag} {H : Hp} (z : Str) : AnyV K H (.str z) := .inr ⟨rfl, fun _ => rfl, "str", .base (.str z), by simp⟩
theorem AnyV.tup {K : PySem.W.Frag} {H : Hp} {a : Addr} {xs : List V} (h : H a = some (.tup xs)) : AnyV K H (.ref a) := .inr ⟨rfl, fun _ => rfl, "tuple", .base (.tup h), by simp⟩
theorem AnyV.lst {K : PySem.W.Frag} {H : Hp} {a : Addr} {xs : List V} (h : H a = some (.lst xs)) : AnyV K H (.ref a) := .inr ⟨rfl, fun _ => rfl, "list", .base (.lst h), by simp⟩
theorem AnyV.kit {K : PySem.W.Frag} {H : Hp} {x : V} (h : AnyV K H x) : ∃ (t : Value) (b c : Bool), TyX K H x t ∧ PySem.W.kitOne K t (.type "int") = some b ∧ PySem.W.kitOne K t (.type "bool") = some c ∧ (b && !c) = isI x := by
  rcases h with ⟨i, rfl⟩ | ⟨e, _, T, ty, hT⟩
  · exact ⟨.type "int", true, false, .base (.int i), kit_ty (by decide +kernel), kit_ty (by decide +kernel), rfl⟩
  · rw [e]
    rcases hT with rfl | rfl | rfl | rfl | rfl | rfl
    · exact ⟨_, false, false, ty, kit_ty (by decide +kernel), kit_ty (by decide +kernel), rfl⟩
    · exact ⟨_, false, false, ty, kit_ty (by decide +kernel), kit_ty (by decide +kernel), rfl⟩
    · exact ⟨_, true, true, ty, kit_ty (by decide +kernel), kit_ty (by decide +kernel), rfl⟩
    · exact ⟨_, false, false, ty, kit_ty (by decide +kernel), kit_ty (by decide +kernel), rfl⟩
    · exact ⟨_, false, false, ty, kit_ty (by decide +kernel), kit_ty (by decide +kernel), rfl⟩
    · exact ⟨_, false, false, ty, kit_ty (by decide +kernel), kit_ty (by decide +kernel), rfl⟩
/-- an item that is right or not, as a bound tells -/
theorem AnyV.int_of {K : PySem.W.Frag} {H : Hp} {x : V} (h : AnyV K H x) (e : isI x = true) : ∃ i : Int, x = .int i := by
  rcases h with h | ⟨z, _⟩
  · exact h
  · rw [z] at e
    cases e
section
variable {P : Program} {w : World} {K : PySem.W.Frag} {mg : Str → Option Value} {base : Heap}
def spIsI2 (K : PySem.W.Frag) : Sp := fun vs H Q _ => ∃ v : V, vs = [v] ∧ AnyV K H v ∧ Q (.bl (isI v)) H
theorem ok_isI2 {f : Addr} {fd : FuncData} (B : Bl mg) (F : Fun K "is_integer" "is_integer" (top 8) f fd) : FnOk P w K mg base CX0 1 f fd ["value"] (spIsI2 K) := by
  refine F.ok sk5 (fun vs H Q E h => ?_) (fun cdv A outer s H vs Q E hr h => ⟨_,
    pss_one (ps_ret (pe_and (pe_callB call_isi (by rfl) B.isi (by decide +kernel) (pa_cons (pv 0) (pa_cons (pe_bltn (v := .ty "int") (by rfl) B.int PyProof.Rows.boot_int rfl) pa_nil)))
      (pe_one (pe_not (pe_callB call_isi (by rfl) B.isi (by decide +kernel) (pa_cons (pv 0) (pa_cons (pe_bltn (v := .ty "bool") (by rfl) B.bool (by decide +kernel) rfl) pa_nil))))))), ?_⟩)
  · obtain ⟨v, rfl, _⟩ := h
    rfl
  obtain ⟨v, rfl, hv, q⟩ := h
  obtain ⟨t, b, c, ty, h1, h2, e⟩ := hv.kit
  rw [← e] at q
  refine ⟨_, rfl, v, _, t, _, b, rfl, .ty _, ty, h1, b, rfl, ?_⟩
  cases b with
  | false => exact q
  | true => exact ⟨_, rfl, v, _, t, _, c, rfl, .ty _, ty, h2, c, rfl, q⟩
def spBel2 (K : PySem.W.Frag) : Sp := fun vs H Q _ => ∃ (v : V) (b : Int), vs = [v, .int b] ∧ AnyV K H v ∧ Q (.bl (belB b v)) H
theorem ok_bel2 {f : Addr} {fd : FuncData} (C : Cal P w K mg base CX0 1 "is_integer" ["value"] (spIsI2 K)) (F : Fun K "is_below" "is_below" (top 9) f fd) : FnOk P w K mg base CX0 2 f fd ["value", "bound"] (spBel2 K) := by
  refine F.ok sk6 (fun vs H Q E h => ?_) (fun cdv A outer s H vs Q E hr h => ⟨_,
    pss_one (ps_ret (pe_and (pe_cal (X := L2.Cx.nox _) C hr (by decide) (pa_cons (pv 0) pa_nil)) (pe_one (pe_chain op_le op_lt pe_int (pv 0) (pv 1))))), ?_⟩)
  · obtain ⟨v, b, rfl, _⟩ := h
    rfl
  obtain ⟨v, b, rfl, hv, q⟩ := h
  refine ⟨_, rfl, v, rfl, hv, _, rfl, ?_⟩
  rcases hv with ⟨i, rfl⟩ | ⟨e1, e2, _⟩
  · refine iteT ⟨_, rfl, _, _, rfl, rfl, _, rfl, ?_⟩
    have e : belB b (.int i) = (decide (0 ≤ i) && decide (i < b)) := rfl
    rw [e] at q
    cases z : decide (0 ≤ i) with
    | true =>
      rw [z] at q
      exact iteT ⟨_, rfl, _, _, rfl, rfl, q⟩
    | false =>
      rw [z] at q
      exact iteF q
  · rw [e1]
    rw [e2] at q
    exact iteF q
def spSeq2 (K : PySem.W.Frag) : Sp := fun vs H Q _ => ∃ (v : V) (ms : Option (List V)), vs = [v] ∧ SqV K H v ms ∧ ∀ H', Same H H' → Q (.bl ms.isSome) H'
theorem ok_seq2 {f : Addr} {fd : FuncData} (B : Bl mg) (F : Fun K "is_sequence" "is_sequence" (top 10) f fd) : FnOk P w K mg base CX0 1 f fd ["value"] (spSeq2 K) := by
  refine F.ok sk7 (fun vs H Q E h => ?_) (fun cdv A outer s H vs Q E hr h => ⟨_,
    (pss_one (ps_ret (pe_callB call_isiT (by rfl) B.isi (by decide +kernel) (pa_cons (pv 0) (pa_cons (pe_tup (pa_cons (pe_bltn (v := .ty "list") (by rfl) B.list (by decide +kernel) rfl) (pa_cons (pe_bltn (v := .ty "tuple") (by rfl) B.tuple (by decide +kernel) rfl) pa_nil))) pa_nil))))), ?_⟩)
  · obtain ⟨v, ms, rfl, _⟩ := h
    rfl
  obtain ⟨v, ms, rfl, hv, q⟩ := h
  refine ⟨_, rfl, (by show 2 ≤ sizeLine; decide), fun t ht => ?_⟩
  have s1 : Same H (upd H t (.tup [V.ty "list", V.ty "tuple"])) := Same.new ht
  obtain ⟨ty, h1, h2⟩ := (hv.same s1).kit
  exact ⟨v, t, _, ty, _, _, rfl, upd_same, .cons (.ty _) (.cons (.ty _) .nil), h1, h2, q _ s1⟩
/-- is a line right? -/
def entB (m n : Int) : Option (List V) → Bool
  | none => false
  | some xs => decide ((xs.length : Int) = m) && xs.all (belB n)
def spEnt2 (K : PySem.W.Frag) : Sp := fun vs H Q _ => ∃ (v : V) (m n : Int) (ms : Option (List V)), vs = [v, .int m, .int n] ∧ SqV K H v ms ∧ (∀ xs, ms = some xs → (∀ x ∈ xs, AnyV K H x) ∧ xs.length ≤ 1000) ∧ ∀ H', Same H H' → Q (.bl (entB m n ms)) H'
theorem ok_ent2 {f : Addr} {fd : FuncData} (B : Bl mg) (CS : Cal P w K mg base CX0 1 "is_sequence" ["value"] (spSeq2 K)) (CB : Cal P w K mg base CX0 2 "is_below" ["value", "bound"] (spBel2 K)) (F : Fun K "_is_entry" "_is_entry" (top 19) f fd) : FnOk P w K mg base CX0 3 f fd ["value", "commands", "states"] (spEnt2 K) := by
  refine F.ok sk10 (fun vs H Q E h => ?_) (fun cdv A outer s H vs Q E hr h => ⟨_,
    (pss_cons (ps_if (PW.pt (pw_or (pt_not (pt_val (by exact (pe_cal (X := L2.Cx.nox _) CS hr (by decide) (pa_cons (pv 0) pa_nil))))) (pw_or1 (pt_cmpR op_ne (pe_callB call_len_seq (by rfl) B.len PySem.boot_len (pa_cons (pv 0) pa_nil)) (pv 1) (nomark _))))) (pss_one (ps_ret pe_bl)) pss_nil)
    (pss_one (ps_ret (pe_callB (cr_all rfl) (by rfl) B.all (by decide +kernel) (pa_cons (pe_lc (own := [("state", 3)]) (g := gName 3) (tt := tYes) rfl sk10.nd (pi_sq (pv 0)) (blkOk_by (N := ["value", "commands", "states", "state"]) (sc := defScope (top 19)) (by decide +kernel))
        (fun _ _ _ _ _ => (pg_name (i := 3) sk10.nd rfl (Or.inl rfl))) (fun _ _ _ _ _ => pts_nil) (fun _ _ _ _ _ => (pe_cal CB hr (by decide) (pa_cons (pv 3) (pa_cons (pv 2) pa_nil))))) pa_nil))))), ?_⟩)
  · obtain ⟨v, m, n, ms, rfl, _⟩ := h
    rfl
  obtain ⟨v, m, n, ms, rfl, hv, hI, q⟩ := h
  refine ⟨_, rfl, v, ms, rfl, hv, fun H1 s1 => ⟨_, rfl, ?_⟩⟩
  cases ms with
  | none => exact iteT (iteT (q _ s1))
  | some xs =>
    obtain ⟨hI, hl⟩ := hI xs rfl
    obtain ⟨a, rfl, ha⟩ := hv
    have hq : SqA K H1 a xs := by
      rcases ha with ha | ha
      · exact .inl (SqL.of (s1 _ _ ha))
      · exact .inr (SqT.of (s1 _ _ ha))
    refine iteF ⟨_, rfl, a, xs, rfl, hq, _, rfl, rfl, _, rfl, ?_⟩
    by_cases el : (xs.length : Int) = m
    · refine iteN (by rw [el]; simp) ⟨_, rfl, a, rfl, lc_sq hq (fun D i H' => Same H1 H' ∧ H' D = some (.lst (((xs.take i).map (belB n)).map V.bl))) (fun D hD => ⟨Same.new hD, upd_same⟩) (fun D i H' p => Ke.of p.1) ?_ ?_⟩
      · rintro D i x H2 hD hx ⟨p1, p2⟩
        have il := (List.getElem?_eq_some_iff.mp hx).1
        refine ⟨rfl, _, rfl, _, rfl, x, n, rfl, (hI x (List.mem_of_getElem? hx)).same (s1.trans p1), _, p2, len_lt (by rw [List.length_map, List.length_map, List.length_take]; omega), Same.upd p1 hD, ?_⟩
        rw [upd_same, List.take_add_one, hx, List.map_append, List.map_append]
        rfl
      · rintro D H2 hD ⟨p1, p2⟩
        rw [List.take_length] at p2
        refine ⟨D, _, rfl, SqL.of p2, ?_⟩
        have z := q _ (s1.trans p1)
        have e : entB m n (some xs) = (xs.map (belB n)).all id := by
          show (decide ((xs.length : Int) = m) && xs.all (belB n)) = _
          rw [decide_eq_true el, Bool.true_and, List.all_map]
          rfl
        rw [e] at z
        exact z
    · refine iteP (by simp [el]) ?_
      have z := q _ s1
      have e : entB m n (some xs) = false := by
        show (decide ((xs.length : Int) = m) && xs.all (belB n)) = false
        rw [decide_eq_false el, Bool.false_and]
      rw [e] at z
      exact z
end
end KV

/-! the program: does a command lead two states to one? -/
namespace KV
open PySem PySem.Spec PyProof.Rows L2 KC
theorem met_mem (val : Nat → Int) (i : Nat) (k : Int) : k ∈ PyProof.Rows.firstMet val i ↔ k ∈ (List.range i).map val := by
  have z := PyProof.Rows.firstMet_any val i k
  rw [Bool.eq_iff_iff, List.any_eq_true, List.any_eq_true] at z
  simp only [beq_iff_eq, exists_eq_right] at z
  exact z
theorem met_len (val : Nat → Int) : ∀ i : Nat, (PyProof.Rows.firstMet val i).length = i ↔ ((List.range i).map val).Nodup
  | 0 => by simp [PyProof.Rows.firstMet_zero]
  | i + 1 => by
    have le := PyProof.Rows.firstMet_length_le val i
    have ih := met_len val i
    have mm := met_mem val i (val i)
    rw [PyProof.Rows.firstMet_succ, PyProof.Rows.step_length, List.range_succ, List.map_append, List.nodup_append]
    have an : (PyProof.Rows.firstMet val i).any (· == val i) = true ↔ val i ∈ (List.range i).map val := by
      rw [← mm, List.any_eq_true]
      simp only [beq_iff_eq, exists_eq_right]
    by_cases h : (PyProof.Rows.firstMet val i).any (· == val i) = true
    · rw [if_pos h]
      constructor
      · intro e
        omega
      · rintro ⟨_, _, z⟩
        exact absurd rfl (z _ (an.mp h) (val i) (by simp))
    · rw [if_neg h]
      constructor
      · intro e
        refine ⟨ih.mp (by omega), by simp, fun a ha b hb => ?_⟩
        simp only [List.map_cons, List.map_nil, List.mem_singleton] at hb
        rw [hb]
        exact fun e => h (an.mpr (by rw [← e]; exact ha))
      · rintro ⟨z, _, _⟩
        rw [ih.mpr z]
theorem range_getD (ns : List Int) : (List.range ns.length).map (fun i => ns.getD i 0) = ns := by
  refine List.ext_getElem? fun i => ?_
  rw [List.getElem?_map]
  by_cases h : i < ns.length
  · rw [List.getElem?_range h, List.getElem?_eq_getElem h]
    show some (ns.getD i 0) = _
    rw [List.getD_eq_getElem?_getD, List.getElem?_eq_getElem h]
    rfl
  · rw [List.getElem?_eq_none (by rw [List.length_range]; omega), List.getElem?_eq_none (by omega)]
    rfl
/-- the number of different ints in a list: as many as it has, just when none comes twice -/
def tLenSetL (K : PySem.W.Frag) (ta : TE) : TE := fun σ H Q => ta σ H fun x H1 => ∃ (l : Addr) (ns : List Int), x = .ref l ∧ SqL K H1 l (ns.map V.int) ∧ ns.length ≤ 1000 ∧ ∀ k : Nat, k ≤ ns.length → (k = ns.length ↔ ns.Nodup) → Q (.int (k : Nat)) H1
theorem pe_lenSetL {X : Cx} {a : Expr} {ta : TE} {p p2 q pos : Pos} (gl : Gl X "len") (ml : X.mg "len" = none) (gs : Gl X "set") (ms : X.mg "set" = none) (ha : PE X a ta) (hc : X.calm = true := by rfl)
    (na : starEach [a] X.env = (false, eval a X.env) :: starEach [] X.env := by rfl) : PE X (.Call (.Name "len" p) [.Call (.Name "set" p2) [a] [] q] [] pos) (tLenSetL X.K ta) := by
  constructor
  intro pins s σ H Q I h
  refine Call_ (ld_blt I gl ml boot_len ?_)
  refine PyProof.Rows.callWith_builtin1 (PyProof.Rows.args_cons ?_ rfl) rfl rfl
  refine Call_ (ld_blt I gs ms PyProof.Rows.boot_set ?_)
  refine PyProof.Rows.callWith_type1 (PyProof.Rows.args_cons (thn (ha.run pins s σ H _ I h) fun v s1 ⟨x, H1, I1, r1, q1⟩ => PyProof.Rows.args_nil ?_) na) na rfl
  obtain ⟨l, ns, ex, hq, small, q1⟩ := q1
  subst ex
  cases r1
  obtain ⟨its, r, pl, _⟩ := I1.list hq
  have hlen : its.toArray.size = ns.length := by rw [List.size_toArray, ← r.length, List.length_map]
  refine call_set_list (I1.ok.hd hc) pl.isList (show PyProof.Rows.IntsAre its.toArray.toList ns from ints_of_vals r) (by rw [hlen]; unfold scanBound; omega) fun h' tk hS hk => ?_
  refine PyProof.Rows.args_nil ?_
  rw [hlen] at hS
  have le := PyProof.Rows.firstMet_length_le (fun i => ns.getD i 0) ns.length
  have iff := met_len (fun i => ns.getD i 0) ns.length
  rw [range_getD] at iff
  obtain ⟨o, es, ep, t, ho, hex, hd, _, _, _, hf, hn⟩ := hS
  have I2 : Inv X pins σ H1 { s1 with heap := h', toks := tk } := I1.kept fun b o e => hk b o (Heap.lt_size e) e
  exact call_len_set ho hex hd hf (by rw [hn] <;> omega) ⟨.int _, H1, I2.tok _, ⟨_, by rw [hn]⟩, q1 _ le iff⟩
/-- a subscript of a list or of a tuple -/
def rIxO (K : PySem.W.Frag) : R2 := fun x y H Q => rIxL K x y H Q ∨ rIxT K x y H Q
theorem ix_or {X : Cx} : IxR X (rIxO X.K) := by
  intro value slice pins s σ H x y v u Q I rx ry h hs
  rcases h with h | h
  · exact ix_list value slice pins s σ H x y v u Q I rx ry h hs
  · exact ix_tup value slice pins s σ H x y v u Q I rx ry h hs
/-- lines, as they are handed in -/
def LnS (H : Hp) (rows : List (List Nat)) (es : List V) : Prop := es.length = rows.length ∧ ∀ (j : Nat) (e : V), es[j]? = some e → ∃ (b : Addr) (ro : List Nat), e = V.ref b ∧ rows[j]? = some ro ∧ (H b = some (.lst (vi ro)) ∨ H b = some (.tup (vi ro)))
theorem LnS.same {H H' : Hp} {rows : List (List Nat)} {es : List V} (s : Same H H') (h : LnS H rows es) : LnS H' rows es := ⟨h.1, fun j e he => by
  obtain ⟨b, ro, h1, h2, h3⟩ := h.2 j e he
  exact ⟨b, ro, h1, h2, h3.elim (fun z => .inl (s _ _ z)) fun z => .inr (s _ _ z)⟩⟩
def col (rows : List (List Nat)) (k : Nat) : List Nat := rows.map fun ro => ro.getD k 0
/-- the first command that leads two states to one -/
def losK (rows : List (List Nat)) (m : Nat) : Option Nat := (List.range m).find? fun k => !decide ((col rows k).Nodup)
def losV (rows : List (List Nat)) (m : Nat) : V := match losK rows m with
  | none => .non
  | some k => .int (k : Int)
theorem losK_at {rows : List (List Nat)} {m i : Nat} (hi : i < m) (no : ∀ k, k < i → (col rows k).Nodup) (h : ¬ (col rows i).Nodup) : losK rows m = some i := by
  unfold losK
  rw [List.find?_range_eq_some]
  refine ⟨by simp [h], List.mem_range.mpr hi, fun j hj => by simp [no j hj]⟩
theorem losK_no {rows : List (List Nat)} {m : Nat} (no : ∀ k, k < m → (col rows k).Nodup) : losK rows m = none := by
  unfold losK
  rw [List.find?_eq_none]
  intro k hk
  simp [no k (List.mem_range.mp hk)]
section
variable {P : Program} {w : World} {K : PySem.W.Frag} {mg : Str → Option Value} {base : Heap}
def spLos2 : Sp := fun vs H Q _ => ∃ (m : Nat) (r : Addr) (es : List V) (rows : List (List Nat)), vs = [.int (m : Int), .ref r] ∧ (H r = some (.lst es) ∨ H r = some (.tup es)) ∧ LnS H rows es ∧ m ≤ 1000 ∧ rows.length ≤ 1000 ∧ (∀ ro ∈ rows, ro.length = m) ∧ ∀ H', Same H H' → Q (losV rows m) H'
theorem ok_los2 {f : Addr} {fd : FuncData} (B : Bl mg) (F : Fun K "first_losing" "first_losing" (top 20) f fd) : FnOk P w K mg base CX0 1 f fd ["commands", "steps"] spLos2 := by
  refine F.ok sk11 (fun vs H Q E h => ?_) (fun cdv A outer s H vs Q E hr h => ⟨_,
    (pss_cons (ps_for PassesOwn.never rfl (pi_range1 (by rfl) B.range (pa_cons (pv 0) pa_nil)) (pg_name (i := 2) sk11.nd rfl (.inr rfl)) (pss_one (ps_if (pt_cmpR op_lt (pe_lenSetL (by rfl) B.len (by rfl) B.set (pe_lc (own := [("entry", 3)]) (g := gName 3) (tt := tYes) rfl sk11.nd (pi_sq (pv 1)) (blkOk_by (N := ["commands", "steps", "command", "entry"]) (sc := defScope (top 20)) (by decide +kernel))
        (fun _ _ _ _ _ => (pg_name (i := 3) sk11.nd rfl (Or.inl rfl))) (fun _ _ _ _ _ => pts_nil) (fun _ _ _ _ _ => (pe_ix (r := rIxO K) ix_or (pv 3) (pv 2) (fun _ _ => rfl))))) (pe_callB call_len_seq (by rfl) B.len PySem.boot_len (pa_cons (pv 1) pa_nil)) (nomark _)) (pss_one (ps_ret (pv 2))) pss_nil)))
    (pss_one (ps_ret pe_non))), ?_⟩)
  · obtain ⟨m, r, es, rows, rfl, _⟩ := h
    rfl
  obtain ⟨m, r, es, rows, rfl, hr, hS, m16, rl, hm, q⟩ := h
  have hq : ∀ {H'}, Same H H' → SqA K H' r es := fun s => by
    rcases hr with hr | hr
    · exact .inl (SqL.of (s _ _ hr))
    · exact .inr (SqT.of (s _ _ hr))
  refine ⟨_, rfl, (m : Int), rfl, by omega, by omega, for_range (n := (m : Int).toNat) (fun i σ H' => (∃ v2 : Option V, σ = [some (.int (m : Int)), some (.ref r), v2, none]) ∧ Same H H' ∧ ∀ k, k < i → (col rows k).Nodup) ⟨⟨none, rfl⟩, Same.refl H, fun k hk => absurd hk (by omega)⟩ ?_ ?_⟩
  · rintro i σ G hi ⟨⟨v2, rfl⟩, s1, no⟩
    have il : i < m := by omega
    have S1 := hS.same s1
    dsimp only [gName]
    refine ⟨_, rfl, r, rfl, lc_sq (hq s1) (fun D j G2 => Same G G2 ∧ G2 D = some (.lst (vi ((col rows i).take j)))) (fun D hD => ⟨Same.new hD, upd_same⟩) (fun D j G2 p => Ke.of p.1) ?_ ?_⟩
    · rintro D j x G2 hD hx ⟨u1, u2⟩
      obtain ⟨b, ro, rfl, hro, hb⟩ := S1.2 j x hx
      have rj : ro.length = m := hm ro (List.mem_of_getElem? hro)
      have jl := (List.getElem?_eq_some_iff.mp hro).1
      have hv : (vi ro)[i]? = some (V.int (ro.getD i 0 : Nat)) := vi_get (at_getD (by omega))
      have hcl : (col rows i)[j]? = some (ro.getD i 0) := by unfold col; rw [List.getElem?_map, hro]; rfl
      refine ⟨rfl, _, rfl, _, rfl, ?_⟩
      have go : ∀ {Z : Prop}, Z → Z := fun z => z
      have fin : ∃ acc, G2 D = some (.lst acc) ∧ acc.length < sizeLine ∧ Same G (upd G2 D (.lst (acc ++ [V.int (ro.getD i 0 : Nat)]))) ∧ upd G2 D (.lst (acc ++ [V.int (ro.getD i 0 : Nat)])) D = some (.lst (vi ((col rows i).take (j + 1)))) := by
        refine ⟨_, u2, len_lt ?_, Same.upd u1 hD, ?_⟩
        · have := List.length_take_le' j (col rows i)
          simp only [vi, List.length_map]
          unfold col at this ⊢
          rw [List.length_map] at this
          omega
        · rw [upd_same, take_at hcl, vi_app]
          rfl
      rcases hb with hb | hb
      · exact .inl ⟨b, _, _, _, rfl, rfl, SqL.of (u1 _ _ hb), atI_eq (show (0 : Int) + (i : Int) = (i : Int) by omega) hv, fin⟩
      · exact .inr ⟨b, _, _, _, rfl, rfl, SqT.of (u1 _ _ hb), atI_eq (show (0 : Int) + (i : Int) = (i : Int) by omega) hv, fin⟩
    · rintro D G2 hD ⟨u1, u2⟩
      have cl : (col rows i).length = es.length := by unfold col; rw [List.length_map, hS.1]
      have u2 : G2 D = some (.lst (vi (col rows i))) := by
        rw [← cl, List.take_length] at u2
        exact u2
      have zl : (zi (col rows i)).length = es.length := by unfold zi; rw [List.length_map, cl]
      refine ⟨D, zi (col rows i), rfl, by rw [← vi_zi]; exact SqL.of u2, by rw [zl, hS.1]; exact rl, fun k hk iff => ?_⟩
      have nd : (zi (col rows i)).Nodup ↔ (col rows i).Nodup := ⟨fun z => by
        unfold zi List.Nodup at z
        rw [List.pairwise_map] at z
        exact z.imp fun ne e => ne (by rw [e]), zi_nodup⟩
      rw [zl] at hk iff
      rw [nd] at iff
      refine ⟨_, rfl, r, _, rfl, hq (s1.trans u1), _, _, rfl, rfl, _, rfl, ?_⟩
      by_cases d : (col rows i).Nodup
      · have := iff.mpr d
        exact iteN (by rw [decide_eq_true_eq]; omega) ⟨⟨_, rfl⟩, s1.trans u1, fun k hk => by
          by_cases e : k = i
          · rw [e]; exact d
          · exact no k (by omega)⟩
      · have : k ≠ es.length := fun e => d (iff.mp e)
        refine iteP (by rw [decide_eq_true_eq]; omega) ⟨_, rfl, ?_⟩
        have z := q G2 (s1.trans u1)
        unfold losV at z
        rw [losK_at il no d] at z
        rw [Int.zero_add]
        exact z
  · rintro σ G ⟨⟨v2, rfl⟩, s1, no⟩
    have z := q G s1
    unfold losV at z
    rw [losK_no (fun k hk => no k (by omega))] at z
    exact z
end
end KV

/-! the program: a machine that is right is made -/
namespace KV
open PySem PySem.Spec PyProof.Rows L2 KC
/-- a method's statement -/
def mth (i j : Nat) : Stmt := match top i with
  | .ClassDef _ _ _ body _ _ _ _ _ _ _ => body.getD j (.Pass ⟨0, 0, 0, 0⟩)
  | s => s
def Kx (x : Addr) (H H' : Hp) : Prop := ∀ b o, b ≠ x → H b = some o → H' b = some o
section
variable {P : Program} {w : World} {K : PySem.W.Frag} {mg : Str → Option Value} {base : Heap} {C fI Cm : Addr}
def spInitG (K : PySem.W.Frag) (Cm : Addr) : Sp := fun vs H Q _ => ∃ (x dx r : Addr) (m : Int) (n : Nat) (rs : List Addr) (cs : List (List Nat)), vs = [.ref x, .int m, .ref r] ∧ H x = some (.ins Cm dx []) ∧ Cls K Cm ∧ NoAttr K Cm "commands" ∧ NoAttr K Cm "states" ∧ NoAttr K Cm "steps" ∧
  Stp H r n rs cs ∧ m = (cs.length : Int) ∧ 0 < n ∧ n ≤ 16 ∧ 0 < cs.length ∧ cs.length ≤ 5 ∧ (∀ c ∈ cs, Chg n c) ∧
  ∀ (t : Addr) (ts : List Addr) (H' : Hp), Kx x H H' → H t = none → H' t = some (.tup (ts.map V.ref)) → ts.length = n → (∀ s b, ts[s]? = some b → H' b = some (.tup (vi (row cs s)))) →
    H' x = some (.ins Cm dx (putF "steps" (.ref t) (putF "states" (.int n) (putF "commands" (.int m) [])))) → Q .non H'
theorem sk9i : FnScope ["self", "commands", "steps", "states", "state", "entry", "command"] ["self", "commands", "steps"] (defScope (mth 18 0)) := ⟨rfl, rfl, rfl, by decide +kernel, rfl, by decide +kernel, by decide +kernel⟩
theorem ok_initG {f : Addr} {fd : FuncData} (B : Bl mg) (T : PySem.LowX.LowTxt K mg "InvalidMachine" "InvalidMachine.__init__" C fI) (CI : Cal P w K mg base CX0 1 "is_integer" ["value"] spIsInt) (CS : Cal P w K mg base CX0 1 "is_sequence" ["value"] spSeqG)
    (CE : Cal P w K mg base CX0 3 "_is_entry" ["value", "commands", "states"] spEntG) (CL : Cal P w K mg base CX0 1 "first_losing" ["commands", "steps"] spLosG) (F : Fun K "__init__" "Machine.__init__" (mth 18 0) f fd) : FnOk P w K mg base (L2.CX P w) 4 f fd ["self", "commands", "steps"] (spInitG K Cm) := by
  refine F.okX sk9i (fun vs H Q E h => ?_) (fun cdv A outer s H vs Q E hr h => ⟨_,
    (pss_cons (ps_if (PW.pt (pw_or (pt_not (pt_val (by exact (pe_cal CI hr (by decide) (pa_cons (pv 1) pa_nil))))) (pw_or1 (pt_cmpR op_lt (pv 1) pe_int (nomark _))))) (pss_one (ps_raiseLow rfl T hr (takes_of rfl rfl rfl rfl) (by exact (pa_cons pe_int pa_nil)))) pss_nil)
    (pss_cons (ps_if (PW.pt (pw_or (pt_not (pt_val (by exact (pe_cal CS hr (by decide) (pa_cons (pv 2) pa_nil))))) (pw_or1 (pt_cmpR op_eq (pe_callB call_len_seq (by rfl) B.len PySem.boot_len (pa_cons (pv 2) pa_nil)) pe_int (nomark _))))) (pss_one (ps_raiseLow rfl T hr (takes_of rfl rfl rfl rfl) (by exact (pa_cons pe_int pa_nil)))) pss_nil)
    (pss_cons (ps_set (i := 3) sk9i.nd rfl (.inl rfl) (pe_callB call_len_seq (by rfl) B.len PySem.boot_len (pa_cons (pv 2) pa_nil)))
    (pss_cons (ps_for (passes_of rfl) rfl (pi_enum (by rfl) B.enumerate (pa_cons (pv 2) pa_nil)) (pg_tup rfl (pgs_cons (pg_name (i := 4) sk9i.nd rfl (.inl rfl)) (pgs_cons (pg_name (i := 5) sk9i.nd rfl (.inl rfl)) pgs_nil))) (pss_one (ps_if (pt_not (pt_val (by exact (pe_cal CE hr (by decide) (pa_cons (pv 5) (pa_cons (pv 1) (pa_cons (pv 3) pa_nil))))))) (pss_one (ps_raiseLow rfl T hr (takes_of rfl rfl rfl rfl) (by exact (pa_cons (pe_op op_add pe_int (pv 4)) pa_nil)))) pss_nil)))
    (pss_cons (ps_set (i := 6) sk9i.nd rfl (.inl rfl) (by exact (pe_cal CL hr (by decide) (pa_cons (pv 1) (pa_cons (pv 2) pa_nil)))))
    (pss_cons (ps_if (pt_cmpR op_notN (pv 6) pe_non (nomark _)) (pss_one (ps_raiseLow rfl T hr (takes_of rfl rfl rfl rfl) (by exact (pa_cons (pe_op op_add (pe_op op_add pe_int (pv 3)) (pv 6)) pa_nil)))) pss_nil)
    (pss_cons (ps_fld (pv 0) (pv 1) (by rfl))
    (pss_cons (ps_fld (pv 0) (pv 3) (by rfl))
    (pss_one (ps_fld (pv 0) (pe_callTy call_tuple_of (by rfl) B.tuple (by decide +kernel) (pa_cons (pe_lc (own := [("entry", 5)]) (g := gName 5) (tt := tYes) rfl sk9i.nd (pi_list (pv 2)) (blkOk_by (N := ["self", "commands", "steps", "states", "state", "entry", "command"]) (sc := defScope (mth 18 0)) (by decide +kernel))
        (fun _ _ _ _ _ => (pg_name (i := 5) sk9i.nd rfl (Or.inl rfl))) (fun _ _ _ _ _ => pts_nil) (fun _ _ _ _ _ => (pe_callTy (r := rTupOf K) call_tupK (by rfl) B.tuple boot_tup (pa_cons (pv 5) pa_nil)))) pa_nil)) (by rfl))))))))))), ?_⟩)
  · obtain ⟨x, dx, r, m, n, rs, cs, rfl, _⟩ := h
    rfl
  obtain ⟨x, dx, r, m, n, rs, cs, rfl, hx, cl, na1, na2, na3, hS, rfl, n0, n16, c0, c5, hc, q⟩ := h
  have rl : (rs.map V.ref).length = n := by rw [List.length_map, hS.len]
  refine ⟨_, rfl, .int (cs.length : Int), rfl, .inl ⟨_, rfl⟩, _, rfl, iteF ⟨_, rfl, _, _, rfl, rfl, _, rfl, iteN (by simp; omega) ?_⟩⟩
  refine ⟨_, rfl, r, _, rfl, .inl hS.lst, fun H1 s1 => ⟨_, rfl, iteF ⟨_, rfl, r, _, rfl, .inl (SqL.of (s1 _ _ hS.lst)), rfl, _, rfl, iteN (by rw [rl]; simp; omega) ?_⟩⟩⟩
  refine ⟨_, rfl, r, _, rfl, .inl (SqL.of (s1 _ _ hS.lst)), ?_⟩
  rw [rl]
  dsimp only [gName]
  have hx1 := s1 _ _ hx
  have S1 := hS.same s1
  refine sq_cut (fun σ H' => (∃ v4 v5 : Option V, σ = [some (.ref x), some (.int (cs.length : Int)), some (.ref r), some (.int (n : Nat)), v4, v5, none]) ∧ Same H1 H') (fun Z hZ => ?_) ?_
  · refine ⟨_, rfl, r, _, rfl, SqL.of S1.lst, for_it walk_enum (fun i σ H' => (∃ v4 v5 : Option V, σ = [some (.ref x), some (.int (cs.length : Int)), some (.ref r), some (.int (n : Nat)), v4, v5, none]) ∧ Same H1 H') ⟨⟨none, none, rfl⟩, Same.refl H1⟩ (fun i σ H' _ p => SqL.of (p.2 _ _ S1.lst)) ?_ ?_⟩
    · rintro i y σ G H' hi ⟨⟨v4, v5, rfl⟩, s2⟩ ⟨Tt, a1, b1, rfl, hT, rfl, ea, eb⟩
      cases ea
      obtain ⟨b, hb, rfl⟩ := ref_at eb
      have il : i < n := by rw [rl] at hi; exact hi
      have sT := s2.trans (Same.new (o := .tup [V.int (i : Nat), V.ref b]) hT)
      have hr := sT _ _ (S1.row i b hb)
      refine ⟨Tt, _, rfl, SqT.of upd_same, rfl, _, _, rfl, _, _, rfl, rfl, ?_⟩
      dsimp only [gName, gNil]
      refine ⟨_, rfl, _, rfl, _, rfl, b, row cs i, _, _, rfl, .inl hr, by unfold row; rw [List.length_map], by unfold row; rw [List.length_map]; omega, fun z hz => ?_, fun H3 s3 => ⟨_, rfl, iteF ⟨⟨_, _, rfl⟩, sT.trans s3⟩⟩⟩
      obtain ⟨c, hcc, rfl⟩ := List.mem_map.mp hz
      have := (hc c hcc).at_lt il
      omega
    · rintro σ G ⟨⟨v4, v5, rfl⟩, s2⟩
      exact hZ _ _ ⟨⟨v4, v5, rfl⟩, s2⟩
  rintro σ H2 ⟨⟨v4, v5, rfl⟩, s2⟩
  refine ⟨_, rfl, _, rfl, _, r, n, rs, cs, rfl, S1.same s2, rfl, n16, c5, hc, fun H3 s3 => ?_⟩
  dsimp only [gName]
  refine ⟨_, rfl, rfl, _, rfl, iteN (by simp) ?_⟩
  have s03 := (s1.trans s2).trans s3
  have x3 := s03 _ _ hx
  have S3 := hS.same s03
  clear s1 s2 s3 hx1 S1
  have rx : r ≠ x := fun z => by have := hS.lst; rw [z, hx] at this; cases this
  have bx : ∀ s b, rs[s]? = some b → b ≠ x := fun s b hb z => by have := hS.row s b hb; rw [z, hx] at this; cases this
  refine ⟨_, rfl, _, rfl, x, Cm, dx, _, rfl, x3, cl, na1, (by decide), _, rfl, _, rfl, x, Cm, dx, _, rfl, upd_same, cl, na2, (by simp [putF]), ?_⟩
  have k5 : Kx x H (upd (upd H3 x (.ins Cm dx (putF "commands" (.int (cs.length : Int)) []))) x (.ins Cm dx (putF "states" (.int (n : Nat)) (putF "commands" (.int (cs.length : Int)) [])))) := fun b o ne e => by
    rw [upd_ne ne, upd_ne ne]
    exact s03 b o e
  have x5 : (upd (upd H3 x (.ins Cm dx (putF "commands" (.int (cs.length : Int)) []))) x (.ins Cm dx (putF "states" (.int (n : Nat)) (putF "commands" (.int (cs.length : Int)) [])))) x = some (.ins Cm dx (putF "states" (.int (n : Nat)) (putF "commands" (.int (cs.length : Int)) []))) := upd_same
  generalize upd (upd H3 x (.ins Cm dx (putF "commands" (.int (cs.length : Int)) []))) x (.ins Cm dx (putF "states" (.int (n : Nat)) (putF "commands" (.int (cs.length : Int)) []))) = H5 at k5 x5
  have r5 := k5 _ _ rx hS.lst
  refine ⟨_, rfl, r, rfl, ⟨_, SqL.of r5⟩, fun D hD => lc_list (xs := rs.map V.ref) (fun j G => Same H5 G ∧ ∃ ts : List Addr, G D = some (.lst (ts.map V.ref)) ∧ ts.length = j ∧ ∀ s b, ts[s]? = some b → G b = some (.tup (vi (row cs s)))) ⟨Same.new hD, [], upd_same, rfl, fun s b h => by simp at h⟩ (fun j G _ z => SqL.of (z.1 _ _ r5)) ?_ ?_⟩
  · rintro j y G hy ⟨p1, ts, p2, p3, p4⟩
    obtain ⟨b, hb, rfl⟩ := ref_at hy
    have jl : j < n := by have := (List.getElem?_eq_some_iff.mp hb).1; rw [hS.len] at this; exact this
    have hr := p1 _ _ (k5 _ _ (bx j b hb) (hS.row j b hb))
    refine ⟨rfl, _, rfl, b, _, rfl, .inl ⟨SqL.of hr, fun t ht => ?_⟩⟩
    have st := Same.new (o := .tup (vi (row cs j))) ht
    have nt : D ≠ t := ne_of_none p2 ht
    refine ⟨_, st _ _ p2, len_lt (by rw [List.length_map]; omega), Same.upd (p1.trans st) hD, ts ++ [t], ?_, by rw [List.length_append, p3]; rfl, fun s b hs => ?_⟩
    · rw [upd_same, List.map_append]
      rfl
    · rw [List.getElem?_append] at hs
      split at hs
      · have h4 := st _ _ (p4 s b hs)
        rw [upd_ne (fun z => by have := st _ _ p2; rw [← z, h4] at this; cases this)]
        exact h4
      · next z =>
        have : s = j := by
          have := (List.getElem?_eq_some_iff.mp hs).1
          simp at this
          omega
        subst this
        rw [p3, Nat.sub_self] at hs
        have : b = t := (Option.some.inj hs).symm
        rw [this, upd_ne nt.symm]
        exact upd_same
  · rintro G ⟨p1, ts, p2, p3, p4⟩
    rw [rl] at p3
    refine ⟨D, _, rfl, .inl ⟨SqL.of p2, fun t ht => ?_⟩⟩
    have st := Same.new (o := .tup (ts.map V.ref)) ht
    have xt := st _ _ (p1 _ _ x5)
    refine ⟨_, rfl, x, Cm, dx, _, rfl, xt, cl, na3, Nat.lt_of_le_of_lt (length_putF _ _ _) (Nat.lt_of_le_of_lt (Nat.succ_le_succ (length_putF _ _ _)) (by show 0 + 1 + 1 < 1000; decide)), ?_⟩
    have tx : t ≠ x := fun z => by have := p1 _ _ x5; rw [← z, ht] at this; cases this
    have tH : H t = none := by
      cases e : H t with
      | none => rfl
      | some o =>
        have := (p1 _ _ (k5 _ _ tx e))
        rw [ht] at this
        cases this
    refine q t ts _ (fun b o ne e => by rw [upd_ne ne]; exact st _ _ (p1 _ _ (k5 _ _ ne e))) tH (by rw [upd_ne tx]; exact upd_same) p3 (fun s b hs => ?_) upd_same
    have h4 := st _ _ (p4 s b hs)
    rw [upd_ne (fun z => by rw [z, xt] at h4; cases h4)]
    exact h4
end
end KV

/-! the program: the change of a row -/
namespace KV
open PySem PySem.Spec PyProof.Rows L2 KC
/-- a machine that stands -/
structure Mc (K : PySem.W.Frag) (Cm : Addr) (H : Hp) (x : Addr) (n : Nat) (cs : List (List Nat)) : Prop where
  cl : Cls K Cm
  na1 : NoAttr K Cm "commands"
  na2 : NoAttr K Cm "states"
  na3 : NoAttr K Cm "steps"
  ex : ∃ (dx t : Addr) (ts : List Addr), H x = some (.ins Cm dx (putF "steps" (.ref t) (putF "states" (.int n) (putF "commands" (.int (cs.length : Int)) [])))) ∧ H t = some (.tup (ts.map V.ref)) ∧ ts.length = n ∧ ∀ s b, ts[s]? = some b → H b = some (.tup (vi (row cs s)))
  chg : ∀ c ∈ cs, Chg n c
theorem Mc.same {K : PySem.W.Frag} {Cm : Addr} {H H' : Hp} {x : Addr} {n : Nat} {cs : List (List Nat)} (h : Mc K Cm H x n cs) (s : Same H H') : Mc K Cm H' x n cs := by
  obtain ⟨dx, t, ts, h1, h2, h3, h4⟩ := h.ex
  exact ⟨h.cl, h.na1, h.na2, h.na3, ⟨dx, t, ts, s _ _ h1, s _ _ h2, h3, fun i b e => s _ _ (h4 i b e)⟩, h.chg⟩
/-- where a row leads a state -/
def ends (cs : List (List Nat)) (rw_ : List Nat) (s : Nat) : Nat := rw_.foldl (fun s k => (cs.getD k []).getD s 0) s
theorem ends_lt {n : Nat} {cs : List (List Nat)} (hc : ∀ c ∈ cs, Chg n c) : ∀ (rw_ : List Nat) (s : Nat), (∀ k ∈ rw_, k < cs.length) → s < n → ends cs rw_ s < n
  | [], s, _, h => h
  | k :: r, s, hk, h => by
    have kl := hk k (by simp)
    have e : cs.getD k [] = cs[k] := by rw [List.getD_eq_getElem?_getD, List.getElem?_eq_getElem kl]; rfl
    refine ends_lt hc r _ (fun j hj => hk j (List.mem_cons_of_mem _ hj)) ?_
    show (cs.getD k []).getD s 0 < n
    rw [e]
    exact (hc _ (List.getElem_mem kl)).at_lt h
section
variable {P : Program} {w : World} {K : PySem.W.Frag} {mg : Str → Option Value} {base : Heap}
def spChR (K : PySem.W.Frag) (Cm : Addr) : Sp := fun vs H Q _ => ∃ (x a : Addr) (n : Nat) (cs : List (List Nat)) (rw_ : List Nat), vs = [.ref x, .ref a] ∧ Mc K Cm H x n cs ∧ n ≤ 16 ∧ H a = some (.tup (vi rw_)) ∧ (∀ k ∈ rw_, k < cs.length) ∧
  ∀ (t : Addr) (H' : Hp), Same H H' → H t = none → H' t = some (.tup (vi ((List.range n).map (ends cs rw_)))) → Q (.ref t) H'
theorem sk14 : FnScope ["machine", "row", "out", "start", "state", "command"] ["machine", "row"] (defScope (top 27)) := ⟨rfl, rfl, rfl, by decide +kernel, rfl, by decide +kernel, by decide +kernel⟩
theorem ok_chR {f : Addr} {fd : FuncData} {Cm : Addr} (B : Bl mg) (F : Fun K "change_of_row" "change_of_row" (top 27) f fd) : FnOk P w K mg base CX0 1 f fd ["machine", "row"] (spChR K Cm) := by
  refine F.ok sk14 (fun vs H Q E h => ?_) (fun cdv A outer s H vs Q E hr h => ⟨_,
    (pss_cons (ps_set (i := 2) sk14.nd rfl (.inl rfl) (pe_lst pa_nil))
    (pss_cons (ps_for PassesOwn.never rfl (pi_range1 (by rfl) B.range (pa_cons (pe_fld (pv 0) (by rfl)) pa_nil)) (pg_name (i := 3) sk14.nd rfl (.inl rfl)) (pss_cons (ps_set (i := 4) sk14.nd rfl (.inl rfl) (pv 3))
    (pss_cons (ps_for PassesOwn.never rfl (pi_tup (pv 1)) (pg_name (i := 5) sk14.nd rfl (.inl rfl)) (pss_one (ps_set (i := 4) sk14.nd rfl (.inl rfl) (pe_ix ix_tup (pe_ix ix_tup (pe_fld (pv 0) (by rfl)) (pv 4) (fun _ _ => rfl)) (pv 5) (fun _ _ => rfl)))))
    (pss_one (ps_expr (pe_bm PySem.F.plainAttrs_list PySem.F.slot_list_append PySem.F.type_list_append mt_append (pv 2) (pa_cons (pv 4) pa_nil)))))))
    (pss_one (ps_ret (pe_callTy call_tuple_of (by rfl) B.tuple (by decide +kernel) (pa_cons (pv 2) pa_nil)))))), ?_⟩)
  · obtain ⟨x, a, n, cs, rw_, rfl, _⟩ := h
    rfl
  obtain ⟨x, a, n, cs, rw_, rfl, hM, n16, ha, hk, q⟩ := h
  obtain ⟨dx, tt_, ts, h1, h2, h3, h4⟩ := hM.ex
  refine ⟨(by show 0 ≤ sizeLine; decide), fun o ho => ?_⟩
  have s1 := Same.new (o := .lst []) ho
  have o1 : upd H o (.lst []) o = some (.lst []) := upd_same
  generalize upd H o (.lst []) = H1 at s1 o1
  dsimp only [gName]
  have lk1 : (putF "steps" (V.ref tt_) (putF "states" (V.int n) (putF "commands" (V.int (cs.length : Int)) []))).lookup ("states" : Str) = some (V.int n) := by
    rw [lookup_putF, if_neg (by decide), lookup_putF, if_pos rfl]
  have lk2 : (putF "steps" (V.ref tt_) (putF "states" (V.int n) (putF "commands" (V.int (cs.length : Int)) []))).lookup ("steps" : Str) = some (V.ref tt_) := by
    rw [lookup_putF, if_pos rfl]
  refine ⟨_, rfl, x, Cm, dx, _, _, rfl, s1 _ _ h1, hM.cl, hM.na2, lk1, (n : Int), rfl, by omega, by omega, for_range (n := (n : Int).toNat) (fun i σ H' => (∃ v3 v4 v5 : Option V, σ = [some (.ref x), some (.ref a), some (.ref o), v3, v4, v5]) ∧ Same H H' ∧ H' o = some (.lst (vi ((List.range i).map (ends cs rw_))))) ⟨⟨none, none, none, rfl⟩, s1, o1⟩ ?_ ?_⟩
  · rintro i σ G hi ⟨⟨v3, v4, v5, rfl⟩, s2, o2⟩
    have il : i < n := by omega
    dsimp only [gName]
    refine ⟨_, rfl, ?_⟩
    dsimp only [gName]
    refine sq_cut (fun σ H' => (∃ v5 : Option V, σ = [some (.ref x), some (.ref a), some (.ref o), some (.int (0 + (i : Int))), some (.int ((ends cs rw_ i : Nat) : Int)), v5]) ∧ H' = G) (fun Z hZ => ?_) ?_
    · refine ⟨_, rfl, a, rfl, ⟨_, SqT.of (s2 _ _ ha)⟩, for_tup (xs := vi rw_) (fun j σ H' => (∃ (st : Int) (v5 : Option V), σ = [some (.ref x), some (.ref a), some (.ref o), some (.int (0 + (i : Int))), some (.int st), v5] ∧ st = ((ends cs (rw_.take j) i : Nat) : Int)) ∧ H' = G) ⟨⟨_, v5, rfl, by show (0 : Int) + (i : Int) = (i : Int); omega⟩, rfl⟩ (fun j σ H' _ p => by rw [p.2]; exact SqT.of (s2 _ _ ha)) ?_ ?_⟩
      · rintro j y σ G2 hy ⟨⟨st, v5, rfl, est⟩, e2⟩
        subst e2
        obtain ⟨k, ek, rfl⟩ := vi_at hy
        have kl := hk k (List.mem_of_getElem? ek)
        have sl : ends cs (rw_.take j) i < n := ends_lt hM.chg _ _ (fun z hz => hk z (List.mem_of_mem_take hz)) il
        obtain ⟨b, eb⟩ : ∃ b, ts[ends cs (rw_.take j) i]? = some b := ⟨_, List.getElem?_eq_getElem (by rw [h3]; exact sl)⟩
        have hb := s2 _ _ (h4 _ b eb)
        have ec : cs[k]? = some (cs.getD k []) := by rw [List.getD_eq_getElem?_getD, List.getElem?_eq_getElem kl]; rfl
        have hv : (vi (row cs (ends cs (rw_.take j) i)))[k]? = some (V.int (((cs.getD k []).getD (ends cs (rw_.take j) i) 0 : Nat) : Int)) := vi_get (by unfold row; rw [List.getElem?_map, ec]; rfl)
        have hT : (ts.map V.ref)[ends cs (rw_.take j) i]? = some (V.ref b) := by rw [List.getElem?_map, eb]; rfl
        dsimp only [gName]
        refine ⟨_, rfl, x, Cm, dx, _, _, rfl, s2 _ _ h1, hM.cl, hM.na3, lk2, _, rfl, tt_, _, _, _, rfl, rfl, SqT.of (s2 _ _ h2), atI_eq est hT, _, rfl, b, _, _, _, rfl, rfl, SqT.of hb, atI_nat hv, ⟨_, _, rfl, ?_⟩, rfl⟩
        rw [take_at ek]
        unfold ends
        rw [List.foldl_append]
        rfl
      · rintro σ G2 ⟨⟨st, v5, rfl, est⟩, e2⟩
        rw [show (vi rw_).length = rw_.length from List.length_map .., List.take_length] at est
        rw [est]
        exact hZ _ _ ⟨⟨v5, rfl⟩, e2⟩
    rintro σ G2 ⟨⟨v5, rfl⟩, e2⟩
    subst e2
    refine ⟨_, rfl, .inl ⟨rfl, _, SqL.of o2⟩, _, rfl, o, _, _, rfl, rfl, o2, len_lt (by simp only [vi, List.length_map, List.length_range]; omega), ⟨_, _, _, rfl⟩, Same.upd s2 ho, ?_⟩
    rw [upd_same, List.range_succ, List.map_append, vi_app]
    rfl
  · rintro σ G ⟨⟨v3, v4, v5, rfl⟩, s2, o2⟩
    have o2 : G o = some (.lst (vi ((List.range n).map (ends cs rw_)))) := o2
    refine ⟨_, rfl, o, _, rfl, .inl ⟨SqL.of o2, fun t ht => q t _ (s2.trans (Same.new ht)) (s2.free ht) upd_same⟩⟩

end
end KV

/-! the program: a row that is right -/
namespace KV
open PySem PySem.Spec PyProof.Rows L2 KC
def iOr (i j : TI) : TI := fun σ H R => i σ H R ∨ j σ H R
theorem pi_or {X : Cx} {tg e : Expr} {i j : TI} (hi : PI X tg e i) (hj : PI X tg e j) : PI X tg e (iOr i j) := ⟨fun pins s σ H R I h => h.elim (hi.run pins s σ H R I) (hj.run pins s σ H R I)⟩
theorem Mc.f1 {K : PySem.W.Frag} {Cm : Addr} {H : Hp} {x : Addr} {n : Nat} {cs : List (List Nat)} (h : Mc K Cm H x n cs) : ∃ dx fs, H x = some (.ins Cm dx fs) ∧ fs.lookup ("commands" : Str) = some (V.int (cs.length : Int)) := by
  obtain ⟨dx, t, ts, h1, _⟩ := h.ex
  exact ⟨dx, _, h1, by rw [lookup_putF, if_neg (by decide), lookup_putF, if_neg (by decide), lookup_putF, if_pos rfl]⟩
section
variable {P : Program} {w : World} {K : PySem.W.Frag} {mg : Str → Option Value} {base : Heap}
def spCkR (K : PySem.W.Frag) (Cm : Addr) : Sp := fun vs H Q _ => ∃ (x a : Addr) (n : Nat) (cs : List (List Nat)) (rw_ : List Nat), vs = [.ref x, .ref a] ∧ Mc K Cm H x n cs ∧ (H a = some (.lst (vi rw_)) ∨ H a = some (.tup (vi rw_))) ∧ (∀ k ∈ rw_, k < cs.length) ∧
  ∀ (t : Addr) (H' : Hp), Same H H' → H' t = some (.tup (vi rw_)) → Q (.ref t) H'
theorem sk12 : FnScope ["machine", "value", "at", "command"] ["machine", "value"] (defScope (top 21)) := ⟨rfl, rfl, rfl, by decide +kernel, rfl, by decide +kernel, by decide +kernel⟩
theorem ok_ckR {f : Addr} {fd : FuncData} {Cm C fI : Addr} (B : Bl mg) (T : PySem.LowX.LowTxt K mg "InvalidRow" "InvalidRow.__init__" C fI) (CS : Cal P w K mg base CX0 1 "is_sequence" ["value"] spSeqG) (CB : Cal P w K mg base CX0 2 "is_below" ["value", "bound"] spBelow) (F : Fun K "checked_row" "checked_row" (top 21) f fd) : FnOk P w K mg base (L2.CX P w) 3 f fd ["machine", "value"] (spCkR K Cm) := by
  refine F.okX sk12 (fun vs H Q E h => ?_) (fun cdv A outer s H vs Q E hr h => ⟨_,
    (pss_cons (ps_if (pt_not (pt_val (by exact (pe_cal CS hr (by decide) (pa_cons (pv 1) pa_nil))))) (pss_one (ps_raiseLow rfl T hr (takes_of rfl rfl rfl rfl) (by exact (pa_cons pe_int pa_nil)))) pss_nil)
    (pss_cons (ps_for (passes_of rfl) rfl (pi_or (pi_enum (by rfl) B.enumerate (pa_cons (pv 1) pa_nil)) (pi_enumT (by rfl) B.enumerate (pa_cons (pv 1) pa_nil))) (pg_tup rfl (pgs_cons (pg_name (i := 2) sk12.nd rfl (.inl rfl)) (pgs_cons (pg_name (i := 3) sk12.nd rfl (.inl rfl)) pgs_nil))) (pss_one (ps_if (pt_not (pt_val (by exact (pe_cal CB hr (by decide) (pa_cons (pv 3) (pa_cons (pe_fld (pv 0) (by rfl)) pa_nil)))))) (pss_one (ps_raiseLow rfl T hr (takes_of rfl rfl rfl rfl) (by exact (pa_cons (pv 2) pa_nil)))) pss_nil)))
    (pss_one (ps_ret (pe_callTy call_tuple_of (by rfl) B.tuple (by decide +kernel) (pa_cons (pv 1) pa_nil)))))), ?_⟩)
  · obtain ⟨x, a, n, cs, rw_, rfl, _⟩ := h
    rfl
  obtain ⟨x, a, n, cs, rw_, rfl, hM, ha, hk, q⟩ := h
  refine sq_cut (fun σ H' => σ = [some (.ref x), some (.ref a), none, none] ∧ Same H H') (fun Z hZ => ⟨_, rfl, a, _, rfl, ha, fun H1 s1 => ⟨_, rfl, iteF (hZ _ _ ⟨rfl, s1⟩)⟩⟩) ?_
  rintro σ H1 ⟨rfl, s1⟩
  refine sq_cut (fun σ H' => (∃ v2 v3 : Option V, σ = [some (.ref x), some (.ref a), v2, v3]) ∧ Same H1 H') (fun Z hZ => ?_) ?_
  · rcases ha with ha | ha
    · have h1 := s1 _ _ ha
      refine .inl ⟨_, rfl, a, _, rfl, SqL.of h1, for_it walk_enum (fun i σ H' => (∃ v2 v3 : Option V, σ = [some (.ref x), some (.ref a), v2, v3]) ∧ Same H1 H') ⟨⟨none, none, rfl⟩, Same.refl H1⟩ (fun i σ H' _ p => SqL.of (p.2 _ _ h1)) ?_ ?_⟩
      · rintro i y σ G H' hi ⟨⟨v2, v3, rfl⟩, s2⟩ ⟨Tt, a1, b1, rfl, hT, rfl, ea, eb⟩
        cases ea
        obtain ⟨k, ek, rfl⟩ := vi_at eb
        have kl := hk k (List.mem_of_getElem? ek)
        have sT := s2.trans (Same.new (o := .tup [V.int (i : Nat), V.int (k : Int)]) hT)
        obtain ⟨dx, fs, g1, g2⟩ := (hM.same (s1.trans sT)).f1
        refine ⟨Tt, _, rfl, SqT.of upd_same, rfl, _, _, rfl, _, _, rfl, rfl, ?_⟩
        dsimp only [gName, gNil]
        have eb2 : belB (cs.length : Int) (.int (k : Int)) = true := by
          show (decide ((0 : Int) ≤ (k : Int)) && decide ((k : Int) < (cs.length : Int))) = true
          rw [decide_eq_true (Int.natCast_nonneg k), decide_eq_true (by omega)]
          rfl
        refine ⟨_, rfl, _, rfl, x, Cm, dx, fs, _, rfl, g1, hM.cl, hM.na1, g2, .int (k : Int), _, rfl, .inl ⟨_, rfl⟩, ?_⟩
        rw [eb2]
        exact ⟨_, rfl, iteF ⟨⟨_, _, rfl⟩, sT⟩⟩
      · rintro σ G ⟨⟨v2, v3, rfl⟩, s2⟩
        exact hZ _ _ ⟨⟨v2, v3, rfl⟩, s2⟩
  
    · have h1 := s1 _ _ ha
      refine .inr ⟨_, rfl, a, _, rfl, SqT.of h1, for_enumT (xs := vi rw_) (fun i σ H' => (∃ v2 v3 : Option V, σ = [some (.ref x), some (.ref a), v2, v3]) ∧ Same H1 H') ⟨⟨none, none, rfl⟩, Same.refl H1⟩ (fun i σ H' _ p => SqT.of (p.2 _ _ h1)) ?_ ?_⟩
      · rintro i y σ G Tt eb ⟨⟨v2, v3, rfl⟩, s2⟩ hT
        obtain ⟨k, ek, rfl⟩ := vi_at eb
        have kl := hk k (List.mem_of_getElem? ek)
        have sT := s2.trans (Same.new (o := .tup [V.int (i : Nat), V.int (k : Int)]) hT)
        obtain ⟨dx, fs, g1, g2⟩ := (hM.same (s1.trans sT)).f1
        refine ⟨Tt, _, rfl, SqT.of upd_same, rfl, _, _, rfl, _, _, rfl, rfl, ?_⟩
        dsimp only [gName, gNil]
        have eb2 : belB (cs.length : Int) (.int (k : Int)) = true := by
          show (decide ((0 : Int) ≤ (k : Int)) && decide ((k : Int) < (cs.length : Int))) = true
          rw [decide_eq_true (Int.natCast_nonneg k), decide_eq_true (by omega)]
          rfl
        refine ⟨_, rfl, _, rfl, x, Cm, dx, fs, _, rfl, g1, hM.cl, hM.na1, g2, .int (k : Int), _, rfl, .inl ⟨_, rfl⟩, ?_⟩
        rw [eb2]
        exact ⟨_, rfl, iteF ⟨⟨_, _, rfl⟩, sT⟩⟩
      · rintro σ G ⟨⟨v2, v3, rfl⟩, s2⟩
        exact hZ _ _ ⟨⟨v2, v3, rfl⟩, s2⟩
  
  rintro σ G ⟨⟨v2, v3, rfl⟩, s2⟩
  rcases ha with ha | ha
  · exact ⟨_, rfl, a, _, rfl, .inl ⟨SqL.of ((s1.trans s2) _ _ ha), fun t ht => q t _ ((s1.trans s2).trans (Same.new ht)) upd_same⟩⟩
  · exact ⟨_, rfl, a, _, rfl, .inr ⟨SqT.of ((s1.trans s2) _ _ ha), q a _ (s1.trans s2) ((s1.trans s2) _ _ ha)⟩⟩

def spCh (K : PySem.W.Frag) (Cm : Addr) : Sp := fun vs H Q _ => ∃ (x a : Addr) (n : Nat) (cs : List (List Nat)) (rw_ : List Nat), vs = [.ref x, .ref a] ∧ Mc K Cm H x n cs ∧ n ≤ 16 ∧ (H a = some (.lst (vi rw_)) ∨ H a = some (.tup (vi rw_))) ∧ (∀ k ∈ rw_, k < cs.length) ∧
  ∀ (t : Addr) (H' : Hp), Same H H' → H' t = some (.tup (vi ((List.range n).map (ends cs rw_)))) → Q (.ref t) H'
theorem sk15 : FnScope ["machine", "row"] ["machine", "row"] (defScope (top 28)) := ⟨rfl, rfl, rfl, by decide +kernel, rfl, by decide +kernel, by decide +kernel⟩
theorem ok_ch {f : Addr} {fd : FuncData} {Cm : Addr} (CK : Cal P w K mg base (L2.CX P w) 3 "checked_row" ["machine", "value"] (spCkR K Cm)) (CR : Cal P w K mg base CX0 1 "change_of_row" ["machine", "row"] (spChR K Cm)) (F : Fun K "change_of" "change_of" (top 28) f fd) : FnOk P w K mg base (L2.CX P w) 4 f fd ["machine", "row"] (spCh K Cm) := by
  refine F.okX sk15 (fun vs H Q E h => ?_) (fun cdv A outer s H vs Q E hr h => ⟨_,
    (pss_one (ps_ret (by exact (pe_cal CR hr (by decide) (pa_cons (pv 0) (pa_cons (by exact (pe_calX CK hr (by decide) (takes_of rfl rfl rfl rfl) (fun _ _ _ _ z => z) (pa_cons (pv 0) (pa_cons (pv 1) pa_nil)))) pa_nil)))))), ?_⟩)
  · obtain ⟨x, a, n, cs, rw_, rfl, _⟩ := h
    rfl
  obtain ⟨x, a, n, cs, rw_, rfl, hM, n16, ha, hk, q⟩ := h
  refine ⟨_, rfl, _, rfl, _, rfl, x, a, n, cs, rw_, rfl, hM, ha, hk, fun t H1 s1 ht => ⟨x, t, n, cs, rw_, rfl, hM.same s1, n16, ht, hk, fun t2 H2 s2 _ h2 => q t2 H2 (s1.trans s2) h2⟩⟩

end
end KV

/-! the program: a machine is made, or refused -/
namespace KV
open PySem PySem.Spec PyProof.Rows L2 KC
/-- a loop over the items of a list or of a tuple with their places -/
theorem for_enO {K : PySem.W.Frag} {k : Nat} {r : Addr} {es : List V} {g : TG} {tb : TS} {D : Ends} {σ : L2.St} {H : Hp} (hk : σ[k]? = some (some (.ref r))) (hr : SqA K H r es) (Pv : Nat → L2.St → Hp → Prop) (h0 : Pv 0 σ H) (hl : ∀ i σ H', Pv i σ H' → Ke K H H' r)
    (hs : ∀ (i : Nat) (x : V) (σ : L2.St) (G : Hp) (T : Addr), es[i]? = some x → Pv i σ G → G T = none → g (.ref T) σ (upd G T (.tup [.int (i : Nat), x])) fun σ2 H2 => tb { D with nx := Pv (i + 1), ct := Pv (i + 1), bk := D.nx } σ2 H2) (hd : ∀ σ H, Pv es.length σ H → D.nx σ H) :
    tFor (iOr (iEnum K (tCons (tVar k) tNil)) (iEnumT K (tCons (tVar k) tNil))) g tb D σ H := by
  rcases hr with hr | hr
  · refine .inl ⟨_, hk, r, es, rfl, hr, for_it walk_enum Pv h0 (fun i σ H' _ p => (hl i σ H' p _).1 hr) ?_ hd⟩
    rintro i y σ G H' hi p ⟨Tt, a1, b1, rfl, hT, rfl, ea, eb⟩
    cases ea
    exact hs i b1 σ G Tt eb p hT
  · exact .inr ⟨_, hk, r, es, rfl, hr, for_enumT (xs := es) Pv h0 (fun i σ H' _ p => (hl i σ H' p _).2 hr) (fun i x σ G T hx p hT => hs i x σ G T hx p hT) hd⟩
/-- an exception that tells a number -/
def BadN (C : Addr) (n : Int) (H : Hp) (E : XK) : Prop := ∀ (H' : Hp) (d : Addr), Same H H' → H' d = none → E (.ref C) (some d) (L2.upd H' d (.xd [(("at" : Str), .int n)]))
theorem BadN.same {C : Addr} {n : Int} {H H' : Hp} {E : XK} (s : Same H H') (b : BadN C n H E) : BadN C n H' E := fun H2 d t => b H2 d (s.trans t)
/-- a line of any kind -/
def EnO (K : PySem.W.Frag) (H : Hp) (e : V) (ms : Option (List V)) : Prop := SqV K H e ms ∧ ∀ xs, ms = some xs → (∀ x ∈ xs, AnyV K H x) ∧ xs.length ≤ 1000
theorem EnO.same {K : PySem.W.Frag} {H H' : Hp} {e : V} {ms : Option (List V)} (s : Same H H') (h : EnO K H e ms) : EnO K H' e ms := ⟨h.1.same s, fun xs hx => ⟨fun x hxx => ((h.2 xs hx).1 x hxx).same s, (h.2 xs hx).2⟩⟩
/-- which lines are right up to the first that is not -/
def Lines (K : PySem.W.Frag) (H : Hp) (m n : Int) (es : List V) (i : Nat) : Prop := ∀ (j : Nat) (e : V), j < i → es[j]? = some e → ∃ ms, EnO K H e ms ∧ entB m n ms = true
/-- what is handed in, and what comes of it -/
def MkB (K : PySem.W.Frag) (H : Hp) (vc vst : V) : Option Int → Prop
  | none => ∃ (m : Nat) (r : Addr) (es : List V) (rows : List (List Nat)), vc = .int (m : Int) ∧ 0 < m ∧ m ≤ 1000 ∧ vst = .ref r ∧ (H r = some (.lst es) ∨ H r = some (.tup es)) ∧ LnS H rows es ∧ 0 < rows.length ∧ rows.length ≤ 1000 ∧ (∀ ro ∈ rows, ro.length = m ∧ ∀ y ∈ ro, y < rows.length) ∧ losK rows m = none
  | some at_ => (at_ = 0 ∧ AnyV K H vc ∧ ∀ i : Int, vc = .int i → i < 1) ∨
    (∃ (m : Int) (ms : Option (List V)), vc = .int m ∧ 1 ≤ m ∧ SqV K H vst ms ∧ (ms = none ∨ ms = some []) ∧ at_ = 1) ∨
    (∃ (m : Int) (r : Addr) (es : List V) (i : Nat) (e : V) (ms : Option (List V)), vc = .int m ∧ 1 ≤ m ∧ vst = .ref r ∧ (H r = some (.lst es) ∨ H r = some (.tup es)) ∧ es.length ≤ 1000 ∧ es[i]? = some e ∧ Lines K H m (es.length : Int) es i ∧ EnO K H e ms ∧ entB m (es.length : Int) ms = false ∧ at_ = 2 + (i : Int)) ∨
    ∃ (m : Nat) (r : Addr) (es : List V) (rows : List (List Nat)) (k : Nat), vc = .int (m : Int) ∧ 0 < m ∧ m ≤ 1000 ∧ vst = .ref r ∧ (H r = some (.lst es) ∨ H r = some (.tup es)) ∧ LnS H rows es ∧ 0 < rows.length ∧ rows.length ≤ 1000 ∧ (∀ ro ∈ rows, ro.length = m ∧ ∀ y ∈ ro, y < rows.length) ∧ losK rows m = some k ∧ at_ = 2 + (rows.length : Int) + (k : Int)
/-- a machine's object -/
def MkO (Cm x dx t : Addr) (ts : List Addr) (m : Int) (rows : List (List Nat)) (H : Hp) : Prop := H x = some (.ins Cm dx (putF "steps" (.ref t) (putF "states" (.int (rows.length : Nat)) (putF "commands" (.int m) [])))) ∧ H t = some (.tup (ts.map V.ref)) ∧ ts.length = rows.length ∧ ∀ (s : Nat) (b : Addr), ts[s]? = some b → ∃ ro, rows[s]? = some ro ∧ H b = some (.tup (vi ro))
def OutK (out : Option Int) (rows : List (List Nat)) (mn : Nat) : Prop := match out with
  | none => losK rows mn = none
  | some at_ => ∃ k, losK rows mn = some k ∧ at_ = 2 + (rows.length : Int) + (k : Int)
theorem LnS.ok {K : PySem.W.Frag} {H : Hp} {rows : List (List Nat)} {es : List V} {m : Nat} (h : LnS H rows es) (m16 : m ≤ 1000) (hm : ∀ ro ∈ rows, ro.length = m ∧ ∀ y ∈ ro, y < rows.length) {j : Nat} {e : V} (he : es[j]? = some e) : ∃ ms, EnO K H e ms ∧ entB (m : Int) (es.length : Int) ms = true := by
  obtain ⟨b, ro, rfl, hro, hb⟩ := h.2 j e he
  obtain ⟨h1, h2⟩ := hm ro (List.mem_of_getElem? hro)
  have l : (vi ro).length = m := by rw [← h1]; exact List.length_map ..
  refine ⟨some (vi ro), ⟨⟨b, rfl, hb⟩, fun xs hx => ?_⟩, ?_⟩
  · cases hx
    exact ⟨fun x hx => by obtain ⟨y, _, rfl⟩ := List.mem_map.mp hx; exact .int _, by omega⟩
  · show (decide (((vi ro).length : Int) = (m : Int)) && (vi ro).all (belB (es.length : Int))) = true
    rw [Bool.and_eq_true]
    refine ⟨decide_eq_true (by omega), ?_⟩
    rw [List.all_eq_true]
    intro x hx
    obtain ⟨y, hy, rfl⟩ := List.mem_map.mp hx
    have := h2 y hy
    show (decide ((0 : Int) ≤ (y : Int)) && decide ((y : Int) < (es.length : Int))) = true
    rw [decide_eq_true (by omega), decide_eq_true (by rw [h.1]; omega)]
    rfl
section
variable {P : Program} {w : World} {K : PySem.W.Frag} {mg : Str → Option Value} {base : Heap} {C fI Cm : Addr}
def spInit2 (K : PySem.W.Frag) (Cm C : Addr) : Sp := fun vs H Q E => ∃ (x dx : Addr) (vc vst : V) (out : Option Int), vs = [.ref x, vc, vst] ∧ H x = some (.ins Cm dx []) ∧ Cls K Cm ∧ NoAttr K Cm "commands" ∧ NoAttr K Cm "states" ∧ NoAttr K Cm "steps" ∧ MkB K H vc vst out ∧
  match out with
  | some at_ => BadN C at_ H E
  | none => ∀ (m : Int) (rows : List (List Nat)) (r : Addr) (es : List V) (t : Addr) (ts : List Addr) (H' : Hp), vc = .int m → vst = .ref r → (H r = some (.lst es) ∨ H r = some (.tup es)) → LnS H rows es → Kx x H H' → H t = none → MkO Cm x dx t ts m rows H' → Q .non H'
theorem ok_init2 {f : Addr} {fd : FuncData} (B : Bl mg) (T : PySem.LowX.LowTxt K mg "InvalidMachine" "InvalidMachine.__init__" C fI) (CI : Cal P w K mg base CX0 1 "is_integer" ["value"] (spIsI2 K)) (CS : Cal P w K mg base CX0 1 "is_sequence" ["value"] (spSeq2 K))
    (CE : Cal P w K mg base CX0 3 "_is_entry" ["value", "commands", "states"] (spEnt2 K)) (CL : Cal P w K mg base CX0 1 "first_losing" ["commands", "steps"] spLos2) (F : Fun K "__init__" "Machine.__init__" (mth 18 0) f fd) : FnOk P w K mg base (L2.CX P w) 4 f fd ["self", "commands", "steps"] (spInit2 K Cm C) := by
  refine F.okX sk9i (fun vs H Q E h => ?_) (fun cdv A outer s H vs Q E hr h => ⟨_,
    (pss_cons (ps_if (PW.pt (pw_or (pt_not (pt_val (by exact (pe_cal CI hr (by decide) (pa_cons (pv 1) pa_nil))))) (pw_or1 (pt_cmpR op_lt (pv 1) pe_int (nomark _))))) (pss_one (ps_raiseLow rfl T hr (takes_of rfl rfl rfl rfl) (by exact (pa_cons pe_int pa_nil)))) pss_nil)
    (pss_cons (ps_if (PW.pt (pw_or (pt_not (pt_val (by exact (pe_cal CS hr (by decide) (pa_cons (pv 2) pa_nil))))) (pw_or1 (pt_cmpR op_eq (pe_callB call_len_seq (by rfl) B.len PySem.boot_len (pa_cons (pv 2) pa_nil)) pe_int (nomark _))))) (pss_one (ps_raiseLow rfl T hr (takes_of rfl rfl rfl rfl) (by exact (pa_cons pe_int pa_nil)))) pss_nil)
    (pss_cons (ps_set (i := 3) sk9i.nd rfl (.inl rfl) (pe_callB call_len_seq (by rfl) B.len PySem.boot_len (pa_cons (pv 2) pa_nil)))
    (pss_cons (ps_for (passes_of rfl) rfl (pi_or (pi_enum (by rfl) B.enumerate (pa_cons (pv 2) pa_nil)) (pi_enumT (by rfl) B.enumerate (pa_cons (pv 2) pa_nil))) (pg_tup rfl (pgs_cons (pg_name (i := 4) sk9i.nd rfl (.inl rfl)) (pgs_cons (pg_name (i := 5) sk9i.nd rfl (.inl rfl)) pgs_nil))) (pss_one (ps_if (pt_not (pt_val (by exact (pe_cal CE hr (by decide) (pa_cons (pv 5) (pa_cons (pv 1) (pa_cons (pv 3) pa_nil))))))) (pss_one (ps_raiseLow rfl T hr (takes_of rfl rfl rfl rfl) (by exact (pa_cons (pe_op op_add pe_int (pv 4)) pa_nil)))) pss_nil)))
    (pss_cons (ps_set (i := 6) sk9i.nd rfl (.inl rfl) (by exact (pe_cal CL hr (by decide) (pa_cons (pv 1) (pa_cons (pv 2) pa_nil)))))
    (pss_cons (ps_if (pt_cmpR op_notN (pv 6) pe_non (nomark _)) (pss_one (ps_raiseLow rfl T hr (takes_of rfl rfl rfl rfl) (by exact (pa_cons (pe_op op_add (pe_op op_add pe_int (pv 3)) (pv 6)) pa_nil)))) pss_nil)
    (pss_cons (ps_fld (pv 0) (pv 1) (by rfl))
    (pss_cons (ps_fld (pv 0) (pv 3) (by rfl))
    (pss_one (ps_fld (pv 0) (pe_callTy call_tuple_of (by rfl) B.tuple (by decide +kernel) (pa_cons (pe_lc (own := [("entry", 5)]) (g := gName 5) (tt := tYes) rfl sk9i.nd (pi_sq (pv 2)) (blkOk_by (N := ["self", "commands", "steps", "states", "state", "entry", "command"]) (sc := defScope (mth 18 0)) (by decide +kernel))
        (fun _ _ _ _ _ => (pg_name (i := 5) sk9i.nd rfl (Or.inl rfl))) (fun _ _ _ _ _ => pts_nil) (fun _ _ _ _ _ => (pe_callTy (r := rTupOf K) call_tupK (by rfl) B.tuple boot_tup (pa_cons (pv 5) pa_nil)))) pa_nil)) (by rfl))))))))))), ?_⟩)
  · obtain ⟨x, dx, vc, vst, out, rfl, _⟩ := h
    rfl
  obtain ⟨x, dx, vc, vst, out, rfl, hx, cl, na1, na2, na3, hM, hO⟩ := h
  -- the commands
  have int0 : ∀ m : Int, 1 ≤ m → ∀ {Z1 Z2 : Prop}, Z2 → (if decide (m < 1) = true then Z1 else Z2) := fun m h _ _ z => by rw [if_neg (by rw [decide_eq_true_eq]; omega)]; exact z
  refine sq_cut (fun σ H' => σ = [some (.ref x), some vc, some vst, none, none, none, none] ∧ H = H' ∧ ∃ m : Int, vc = .int m ∧ 1 ≤ m) (fun Z hZ => ?_) ?_
  · have anyc : AnyV K H vc := by
      cases out with
      | none => obtain ⟨m, _, _, _, rfl, _⟩ := hM; exact .int _
      | some a =>
        rcases hM with ⟨_, h, _⟩ | ⟨m, _, rfl, _⟩ | ⟨m, _, _, _, _, _, rfl, _⟩ | ⟨m, _, _, _, _, rfl, _⟩
        · exact h
        · exact .int _
        · exact .int _
        · exact .int _
    refine ⟨_, rfl, vc, rfl, anyc, _, rfl, ?_⟩
    by_cases ok : ∃ m : Int, vc = .int m ∧ 1 ≤ m
    · obtain ⟨m, rfl, hm⟩ := ok
      exact iteF ⟨_, rfl, _, _, rfl, rfl, _, rfl, iteN (by rw [decide_eq_true_eq]; omega) (hZ _ _ ⟨rfl, rfl, m, rfl, hm⟩)⟩
    · have b0 : BadN C 0 H E := by
        cases out with
        | none => obtain ⟨m, _, _, _, rfl, m0, _⟩ := hM; exact absurd ⟨_, rfl, by omega⟩ ok
        | some a =>
          rcases hM with ⟨rfl, _⟩ | ⟨m, _, rfl, m0, _⟩ | ⟨m, _, _, _, _, _, rfl, m0, _⟩ | ⟨m, _, _, _, _, rfl, m0, _⟩
          · exact hO
          · exact absurd ⟨_, rfl, m0⟩ ok
          · exact absurd ⟨_, rfl, m0⟩ ok
          · exact absurd ⟨_, rfl, by omega⟩ ok
      rcases anyc with ⟨i, rfl⟩ | ⟨e1, _⟩
      · exact iteF ⟨_, rfl, _, _, rfl, rfl, _, rfl, iteP (by rw [decide_eq_true_eq]; exact Classical.byContradiction fun z => ok ⟨i, rfl, by omega⟩) ⟨_, rfl, fun d hd => b0 _ d (Same.refl H) hd⟩⟩
      · rw [e1]
        exact iteT (iteT ⟨_, rfl, fun d hd => b0 _ d (Same.refl H) hd⟩)
  rintro σ H' ⟨rfl, rfl, m, rfl, m1⟩
  -- the steps
  have D : (∃ ms, SqV K H vst ms ∧ (ms = none ∨ ms = some []) ∧ BadN C 1 H E) ∨ ∃ (r : Addr) (es : List V) (i : Nat), vst = .ref r ∧ (H r = some (.lst es) ∨ H r = some (.tup es)) ∧ 0 < es.length ∧ es.length ≤ 1000 ∧ i ≤ es.length ∧ Lines K H m (es.length : Int) es i ∧
      ((i = es.length ∧ ∃ (mn : Nat) (rows : List (List Nat)), m = (mn : Int) ∧ mn ≤ 1000 ∧ LnS H rows es ∧ rows.length ≤ 1000 ∧ (∀ ro ∈ rows, ro.length = mn ∧ ∀ y ∈ ro, y < rows.length) ∧ OutK out rows mn) ∨
        ∃ (e : V) (ms : Option (List V)), es[i]? = some e ∧ EnO K H e ms ∧ entB m (es.length : Int) ms = false ∧ BadN C (2 + (i : Int)) H E) := by
    cases out with
    | none =>
      obtain ⟨mn, r, es, rows, e1, m0, m16, rfl, hr, hL, r0, r16, hm, hk⟩ := hM
      cases e1
      have el := hL.1
      exact .inr ⟨r, es, es.length, rfl, hr, by omega, by omega, Nat.le_refl _, fun j e _ he => hL.ok m16 hm he, .inl ⟨rfl, mn, rows, rfl, m16, hL, r16, hm, hk⟩⟩
    | some a =>
      rcases hM with ⟨_, _, h⟩ | ⟨_, ms, e1, _, h, h2, rfl⟩ | ⟨m2, r, es, i, e, ms, e1, _, rfl, hr, l16, he, hl, hE, hB, rfl⟩ | ⟨mn, r, es, rows, k, e1, m0, m16, rfl, hr, hL, r0, r16, hm, hk, rfl⟩
      · exact absurd (h m rfl) (by omega)
      · exact .inl ⟨ms, h, h2, hO⟩
      · cases e1
        have il := (List.getElem?_eq_some_iff.mp he).1
        exact .inr ⟨r, es, i, rfl, hr, by omega, l16, by omega, hl, .inr ⟨e, ms, he, hE, hB, hO⟩⟩
      · cases e1
        have el := hL.1
        exact .inr ⟨r, es, es.length, rfl, hr, by omega, by omega, Nat.le_refl _, fun j e _ he => hL.ok m16 hm he, .inl ⟨rfl, mn, rows, rfl, m16, hL, r16, hm, k, hk, rfl⟩⟩
  rcases D with ⟨ms, hs, hcase, bad⟩ | ⟨r, es, i, rfl, hr, l0, l16, ile, hl, hcase⟩
  · refine ⟨_, rfl, vst, ms, rfl, hs, fun H1 s1 => ⟨_, rfl, ?_⟩⟩
    rcases hcase with rfl | rfl
    · exact iteT (iteT ⟨_, rfl, fun d hd => bad _ d s1 hd⟩)
    · obtain ⟨r, rfl, hr⟩ := hs
      have hq : SqA K H1 r [] := by
        rcases hr with hr | hr
        · exact .inl (SqL.of (s1 _ _ hr))
        · exact .inr (SqT.of (s1 _ _ hr))
      exact iteF ⟨_, rfl, r, [], rfl, hq, rfl, _, rfl, iteP (by simp) ⟨_, rfl, fun d hd => bad _ d s1 hd⟩⟩
  have hq : ∀ {H'}, Same H H' → SqA K H' r es := fun s => by
    rcases hr with hr | hr
    · exact .inl (SqL.of (s _ _ hr))
    · exact .inr (SqT.of (s _ _ hr))
  refine ⟨_, rfl, .ref r, some es, rfl, ⟨r, rfl, hr⟩, fun H1 s1 => ⟨_, rfl, iteF ⟨_, rfl, r, es, rfl, hq s1, rfl, _, rfl, iteN (by simp; intro z; rw [z] at l0; exact absurd l0 (by decide)) ?_⟩⟩⟩
  dsimp only [tNext]
  refine ⟨_, rfl, r, es, rfl, hq s1, ?_⟩
  dsimp only [gName]
  -- the lines
  refine sq_cut (fun σ H' => (∃ v4 v5 : Option V, σ = [some (.ref x), some (.int m), some (.ref r), some (.int (es.length : Nat)), v4, v5, none]) ∧ Same H H' ∧ i = es.length) (fun Z hZ => ?_) ?_
  · refine for_enO (es := es) rfl (hq s1) (fun j σ H' => (∃ v4 v5 : Option V, σ = [some (.ref x), some (.int m), some (.ref r), some (.int (es.length : Nat)), v4, v5, none]) ∧ Same H1 H' ∧ j ≤ i) ⟨⟨none, none, rfl⟩, Same.refl H1, Nat.zero_le _⟩ (fun j σ H' p => Ke.of p.2.1) ?_ ?_
    · rintro j e σ G Tt he ⟨⟨v4, v5, rfl⟩, s2, ji⟩ hT
      have sT := s2.trans (Same.new (o := .tup [V.int (j : Nat), e]) hT)
      refine ⟨Tt, _, rfl, SqT.of upd_same, rfl, _, _, rfl, _, _, rfl, rfl, ?_⟩
      dsimp only [gName, gNil]
      by_cases eq : j = i
      · subst eq
        rcases hcase with ⟨e1, _⟩ | ⟨e', ms, he', hE, hB, bad⟩
        · have := (List.getElem?_eq_some_iff.mp he).1
          omega
        · rw [he'] at he
          cases he
          refine ⟨_, rfl, _, rfl, _, rfl, e, m, _, ms, rfl, (hE.same (s1.trans sT)).1, (hE.same (s1.trans sT)).2, fun H3 s3 => ?_⟩
          rw [hB]
          exact ⟨_, rfl, iteT ⟨_, rfl, _, _, rfl, rfl, _, rfl, fun d hd => bad _ d ((s1.trans sT).trans s3) hd⟩⟩
      · obtain ⟨ms, hE, hB⟩ := hl j e (by omega) he
        refine ⟨_, rfl, _, rfl, _, rfl, e, m, _, ms, rfl, (hE.same (s1.trans sT)).1, (hE.same (s1.trans sT)).2, fun H3 s3 => ?_⟩
        rw [hB]
        exact ⟨_, rfl, iteF ⟨⟨_, _, rfl⟩, sT.trans s3, by omega⟩⟩
    · rintro σ G ⟨⟨v4, v5, rfl⟩, s2, ji⟩
      exact hZ _ _ ⟨⟨v4, v5, rfl⟩, s1.trans s2, by omega⟩
  rintro σ H2 ⟨⟨v4, v5, rfl⟩, s2, ei⟩
  rcases hcase with ⟨_, mn, rows, rfl, m16, hL, r16, hm, hk⟩ | ⟨e, _, he, _⟩
  rotate_left
  · have := (List.getElem?_eq_some_iff.mp he).1
    omega
  have hr2 : ∀ {H'}, Same H H' → (H' r = some (.lst es) ∨ H' r = some (.tup es)) := fun s => hr.elim (fun z => .inl (s _ _ z)) fun z => .inr (s _ _ z)
  refine ⟨_, rfl, _, rfl, mn, r, es, rows, rfl, hr2 s2, hL.same s2, m16, r16, fun ro h => (hm ro h).1, fun H3 s3 => ?_⟩
  dsimp only [gName]
  have s03 := s2.trans s3
  unfold OutK at hk
  unfold losV
  cases out with
  | some at_ =>
    obtain ⟨k, hk, rfl⟩ := hk
    rw [hk]
    refine ⟨_, rfl, rfl, _, rfl, iteP (by simp) ⟨_, rfl, _, _, rfl, rfl, _, rfl, _, _, rfl, rfl, _, rfl, fun d hd => ?_⟩⟩
    have z := hO _ d s03 hd
    rw [← hL.1] at z
    exact z
  | none =>
    have hk : losK rows mn = none := hk
    rw [hk]
    refine ⟨_, rfl, rfl, _, rfl, iteN (by simp) ?_⟩
    have x3 := s03 _ _ hx
    have L3 := hL.same s03
    have el := hL.1
    have rx : r ≠ x := fun z => by rcases hr with h | h <;> rw [z, hx] at h <;> cases h
    have bx : ∀ {b : Addr} {ro : List Nat}, (H3 b = some (.lst (vi ro)) ∨ H3 b = some (.tup (vi ro))) → b ≠ x := fun h z => by rcases h with h | h <;> rw [z, x3] at h <;> cases h
    refine ⟨_, rfl, _, rfl, x, Cm, dx, _, rfl, x3, cl, na1, (by decide), _, rfl, _, rfl, x, Cm, dx, _, rfl, upd_same, cl, na2, (by simp [putF]), ?_⟩
    rw [el]
    have k5 : Kx x H3 (upd (upd H3 x (.ins Cm dx (putF "commands" (.int (mn : Int)) []))) x (.ins Cm dx (putF "states" (.int (rows.length : Nat)) (putF "commands" (.int (mn : Int)) [])))) := fun b o ne e => by
      rw [upd_ne ne, upd_ne ne]
      exact e
    have x5 : (upd (upd H3 x (.ins Cm dx (putF "commands" (.int (mn : Int)) []))) x (.ins Cm dx (putF "states" (.int (rows.length : Nat)) (putF "commands" (.int (mn : Int)) [])))) x = some (.ins Cm dx (putF "states" (.int (rows.length : Nat)) (putF "commands" (.int (mn : Int)) []))) := upd_same
    generalize upd (upd H3 x (.ins Cm dx (putF "commands" (.int (mn : Int)) []))) x (.ins Cm dx (putF "states" (.int (rows.length : Nat)) (putF "commands" (.int (mn : Int)) []))) = H5 at k5 x5
    have hq5 : SqA K H5 r es := by
      rcases hr2 s03 with h | h
      · exact .inl (SqL.of (k5 _ _ rx h))
      · exact .inr (SqT.of (k5 _ _ rx h))
    refine ⟨_, rfl, r, rfl, lc_sq hq5 (fun D j G => Same H5 G ∧ ∃ ts : List Addr, G D = some (.lst (ts.map V.ref)) ∧ ts.length = j ∧ ∀ (s : Nat) (b : Addr), ts[s]? = some b → ∃ ro, rows[s]? = some ro ∧ G b = some (.tup (vi ro))) (fun D hD => ⟨Same.new hD, [], upd_same, rfl, fun s b h => by simp at h⟩) (fun D j G z => Ke.of z.1) ?_ ?_⟩
    · rintro D j y G hD hy ⟨p1, ts, p2, p3, p4⟩
      obtain ⟨b, ro, rfl, hro, hb⟩ := L3.2 j y hy
      have hb5 : G b = some (.lst (vi ro)) ∨ G b = some (.tup (vi ro)) := hb.elim (fun z => .inl (p1 _ _ (k5 _ _ (bx hb) z))) fun z => .inr (p1 _ _ (k5 _ _ (bx hb) z))
      have jl := (List.getElem?_eq_some_iff.mp hro).1
      have app : ∀ {t : Addr} {G' : Hp}, Same G G' → G' t = some (.tup (vi ro)) → t ≠ D → ∃ acc, G' D = some (.lst acc) ∧ acc.length < sizeLine ∧ Same H5 (upd G' D (.lst (acc ++ [V.ref t]))) ∧ ∃ ts : List Addr, upd G' D (.lst (acc ++ [V.ref t])) D = some (.lst (ts.map V.ref)) ∧ ts.length = j + 1 ∧ ∀ (s : Nat) (b : Addr), ts[s]? = some b → ∃ ro, rows[s]? = some ro ∧ upd G' D (.lst (acc ++ [V.ref t])) b = some (.tup (vi ro)) := fun {t G'} st ht nt => by
        refine ⟨_, st _ _ p2, len_lt (by rw [List.length_map]; omega), Same.upd (p1.trans st) hD, ts ++ [t], ?_, by rw [List.length_append, p3]; rfl, fun s b hs => ?_⟩
        · rw [upd_same, List.map_append]
          rfl
        · rw [List.getElem?_append] at hs
          split at hs
          · obtain ⟨ro2, h4, h5⟩ := p4 s b hs
            have h6 := st _ _ h5
            refine ⟨ro2, h4, ?_⟩
            rw [upd_ne (fun z => by have := st _ _ p2; rw [← z, h6] at this; cases this)]
            exact h6
          · next z =>
            have : s = j := by
              have := (List.getElem?_eq_some_iff.mp hs).1
              simp at this
              omega
            subst this
            rw [p3, Nat.sub_self] at hs
            have : b = t := (Option.some.inj hs).symm
            refine ⟨ro, hro, ?_⟩
            rw [this, upd_ne nt]
            exact ht
      rcases hb5 with hb5 | hb5
      · refine ⟨rfl, _, rfl, b, _, rfl, .inl ⟨SqL.of hb5, fun t ht => ?_⟩⟩
        exact app (Same.new ht) upd_same (fun z => by rw [z, p2] at ht; cases ht)
      · refine ⟨rfl, _, rfl, b, _, rfl, .inr ⟨SqT.of hb5, ?_⟩⟩
        exact app (Same.refl G) hb5 (fun z => by rw [z, p2] at hb5; cases hb5)
    · rintro D G hD ⟨p1, ts, p2, p3, p4⟩
      rw [el] at p3
      refine ⟨D, _, rfl, .inl ⟨SqL.of p2, fun t ht => ?_⟩⟩
      have st := Same.new (o := .tup (ts.map V.ref)) ht
      have xt := st _ _ (p1 _ _ x5)
      refine ⟨_, rfl, x, Cm, dx, _, rfl, xt, cl, na3, Nat.lt_of_le_of_lt (length_putF _ _ _) (Nat.lt_of_le_of_lt (Nat.succ_le_succ (length_putF _ _ _)) (by show 0 + 1 + 1 < 1000; decide)), ?_⟩
      have tx : t ≠ x := fun z => by have := p1 _ _ x5; rw [← z, ht] at this; cases this
      have tH : H t = none := by
        cases e : H t with
        | none => rfl
        | some o =>
          have := (p1 _ _ (k5 _ _ tx (s03 _ _ e)))
          rw [ht] at this
          cases this
      refine hO (mn : Int) rows r es t ts _ rfl rfl hr hL (fun b o ne e => ?_) tH ⟨?_, ?_, p3, fun s b hs => ?_⟩
      · rw [upd_ne ne]
        exact st _ _ (p1 _ _ (k5 _ _ ne (s03 _ _ e)))
      · exact upd_same
      · rw [upd_ne tx]
        exact upd_same
      · obtain ⟨ro, h4, h5⟩ := p4 s b hs
        refine ⟨ro, h4, ?_⟩
        have h6 := st _ _ h5
        rw [upd_ne (fun z => by rw [z, xt] at h6; cases h6)]
        exact h6
end
end KV

/-! the program: a row that is right, or refused; the change of it -/
namespace KV
open PySem PySem.Spec PyProof.Rows L2 KC
/-- where a row goes wrong -/
def RowB (K : PySem.W.Frag) (H : Hp) (m : Int) (ms : Option (List V)) (at_ : Int) : Prop := (ms = none ∧ at_ = 0) ∨
  ∃ (xs : List V) (i : Nat) (x : V), ms = some xs ∧ xs[i]? = some x ∧ AnyV K H x ∧ belB m x = false ∧ (∀ (j : Nat) (y : V), j < i → xs[j]? = some y → AnyV K H y ∧ belB m y = true) ∧ at_ = (i : Int)
theorem RowB.same {K : PySem.W.Frag} {H H' : Hp} {m : Int} {ms : Option (List V)} {at_ : Int} (s : Same H H') (h : RowB K H m ms at_) : RowB K H' m ms at_ := by
  rcases h with h | ⟨xs, i, x, h1, h2, h3, h4, h5, h6⟩
  · exact .inl h
  · exact .inr ⟨xs, i, x, h1, h2, h3.same s, h4, fun j y hj hy => ⟨(h5 j y hj hy).1.same s, (h5 j y hj hy).2⟩, h6⟩
section
variable {P : Program} {w : World} {K : PySem.W.Frag} {mg : Str → Option Value} {base : Heap}
def RowS (K : PySem.W.Frag) (Cm C : Addr) (G : Hp → Nat → List (List Nat) → List Nat → VK → Prop) : Sp := fun vs H Q E => ∃ (x : Addr) (v : V) (n : Nat) (cs : List (List Nat)), vs = [.ref x, v] ∧ Mc K Cm H x n cs ∧
  ((∃ rw_ : List Nat, SqV K H v (some (vi rw_)) ∧ (∀ k ∈ rw_, k < cs.length) ∧ G H n cs rw_ Q) ∨ ∃ (ms : Option (List V)) (at_ : Int), SqV K H v ms ∧ RowB K H (cs.length : Int) ms at_ ∧ BadN C at_ H E)
def spCkR2 (K : PySem.W.Frag) (Cm C : Addr) : Sp := RowS K Cm C fun H _ _ rw_ Q => ∀ (t : Addr) (H' : Hp), Same H H' → H' t = some (.tup (vi rw_)) → Q (.ref t) H'
theorem ok_ckR2 {f : Addr} {fd : FuncData} {Cm C fI : Addr} (B : Bl mg) (T : PySem.LowX.LowTxt K mg "InvalidRow" "InvalidRow.__init__" C fI) (CS : Cal P w K mg base CX0 1 "is_sequence" ["value"] (spSeq2 K)) (CB : Cal P w K mg base CX0 2 "is_below" ["value", "bound"] (spBel2 K)) (F : Fun K "checked_row" "checked_row" (top 21) f fd) : FnOk P w K mg base (L2.CX P w) 3 f fd ["machine", "value"] (spCkR2 K Cm C) := by
  refine F.okX sk12 (fun vs H Q E h => ?_) (fun cdv A outer s H vs Q E hr h => ⟨_,
    (pss_cons (ps_if (pt_not (pt_val (by exact (pe_cal CS hr (by decide) (pa_cons (pv 1) pa_nil))))) (pss_one (ps_raiseLow rfl T hr (takes_of rfl rfl rfl rfl) (by exact (pa_cons pe_int pa_nil)))) pss_nil)
    (pss_cons (ps_for (passes_of rfl) rfl (pi_or (pi_enum (by rfl) B.enumerate (pa_cons (pv 1) pa_nil)) (pi_enumT (by rfl) B.enumerate (pa_cons (pv 1) pa_nil))) (pg_tup rfl (pgs_cons (pg_name (i := 2) sk12.nd rfl (.inl rfl)) (pgs_cons (pg_name (i := 3) sk12.nd rfl (.inl rfl)) pgs_nil))) (pss_one (ps_if (pt_not (pt_val (by exact (pe_cal CB hr (by decide) (pa_cons (pv 3) (pa_cons (pe_fld (pv 0) (by rfl)) pa_nil)))))) (pss_one (ps_raiseLow rfl T hr (takes_of rfl rfl rfl rfl) (by exact (pa_cons (pv 2) pa_nil)))) pss_nil)))
    (pss_one (ps_ret (pe_callTy call_tuple_of (by rfl) B.tuple (by decide +kernel) (pa_cons (pv 1) pa_nil)))))), ?_⟩)
  · obtain ⟨x, v, n, cs, rfl, _⟩ := h
    rfl
  obtain ⟨x, v, n, cs, rfl, hM, h⟩ := h
  have key : ∀ {H1 : Hp} {k : V}, Same H H1 → AnyV K H1 k → ∀ (σ : L2.St) (Z : V → Hp → Prop), σ[0]? = some (some (.ref x)) → Z (.bl (belB (cs.length : Int) k)) H1 → ∃ dx fs, H1 x = some (.ins Cm dx fs) ∧ fs.lookup ("commands" : Str) = some (V.int (cs.length : Int)) := fun s _ _ _ _ _ => (hM.same s).f1
  rcases h with ⟨rw_, hv, hk, q⟩ | ⟨ms, at_, hv, hB, bad⟩
  · refine ⟨_, rfl, v, some (vi rw_), rfl, hv, fun H1 s1 => ⟨_, rfl, iteF ?_⟩⟩
    obtain ⟨a, rfl, ha⟩ := hv
    have hq : SqA K H1 a (vi rw_) := by
      rcases ha with ha | ha
      · exact .inl (SqL.of (s1 _ _ ha))
      · exact .inr (SqT.of (s1 _ _ ha))
    dsimp only [tNext]
    refine sq_cut (fun σ H' => (∃ v2 v3 : Option V, σ = [some (.ref x), some (.ref a), v2, v3]) ∧ Same H1 H') (fun Z hZ => ?_) ?_
    · refine for_enO (es := vi rw_) rfl hq (fun i σ H' => (∃ v2 v3 : Option V, σ = [some (.ref x), some (.ref a), v2, v3]) ∧ Same H1 H') ⟨⟨none, none, rfl⟩, Same.refl H1⟩ (fun i σ H' p => Ke.of p.2) ?_ ?_
      · rintro i y σ G Tt eb ⟨⟨v2, v3, rfl⟩, s2⟩ hT
        obtain ⟨k, ek, rfl⟩ := vi_at eb
        have kl := hk k (List.mem_of_getElem? ek)
        have sT := s2.trans (Same.new (o := .tup [V.int (i : Nat), V.int (k : Int)]) hT)
        obtain ⟨dx, fs, g1, g2⟩ := (hM.same (s1.trans sT)).f1
        refine ⟨Tt, _, rfl, SqT.of upd_same, rfl, _, _, rfl, _, _, rfl, rfl, ?_⟩
        dsimp only [gName, gNil]
        have eb2 : belB (cs.length : Int) (.int (k : Int)) = true := by
          show (decide ((0 : Int) ≤ (k : Int)) && decide ((k : Int) < (cs.length : Int))) = true
          rw [decide_eq_true (Int.natCast_nonneg k), decide_eq_true (by omega)]
          rfl
        refine ⟨_, rfl, _, rfl, x, Cm, dx, fs, _, rfl, g1, hM.cl, hM.na1, g2, .int (k : Int), _, rfl, .int _, ?_⟩
        rw [eb2]
        exact ⟨_, rfl, iteF ⟨⟨_, _, rfl⟩, sT⟩⟩
      · rintro σ G ⟨⟨v2, v3, rfl⟩, s2⟩
        exact hZ _ _ ⟨⟨v2, v3, rfl⟩, s2⟩
    rintro σ G ⟨⟨v2, v3, rfl⟩, s2⟩
    rcases ha with ha | ha
    · exact ⟨_, rfl, a, _, rfl, .inl ⟨SqL.of ((s1.trans s2) _ _ ha), fun t ht => q t _ ((s1.trans s2).trans (Same.new ht)) upd_same⟩⟩
    · exact ⟨_, rfl, a, _, rfl, .inr ⟨SqT.of ((s1.trans s2) _ _ ha), q a _ (s1.trans s2) ((s1.trans s2) _ _ ha)⟩⟩
  · refine ⟨_, rfl, v, ms, rfl, hv, fun H1 s1 => ⟨_, rfl, ?_⟩⟩
    rcases hB with ⟨rfl, rfl⟩ | ⟨xs, i, y, rfl, hy, hya, hyb, hlt, rfl⟩
    · exact iteT ⟨_, rfl, fun d hd => bad _ d s1 hd⟩
    obtain ⟨a, rfl, ha⟩ := hv
    have hq : SqA K H1 a xs := by
      rcases ha with ha | ha
      · exact .inl (SqL.of (s1 _ _ ha))
      · exact .inr (SqT.of (s1 _ _ ha))
    refine iteF ?_
    dsimp only [tNext]
    refine sq_cut (fun σ H' => False) (fun Z hZ => ?_) (fun _ _ z => z.elim)
    refine for_enO (es := xs) rfl hq (fun j σ H' => (∃ v2 v3 : Option V, σ = [some (.ref x), some (.ref a), v2, v3]) ∧ Same H1 H' ∧ j ≤ i) ⟨⟨none, none, rfl⟩, Same.refl H1, Nat.zero_le _⟩ (fun i σ H' p => Ke.of p.2.1) ?_ ?_
    · rintro j e σ G Tt eb ⟨⟨v2, v3, rfl⟩, s2, ji⟩ hT
      have sT := s2.trans (Same.new (o := .tup [V.int (j : Nat), e]) hT)
      obtain ⟨dx, fs, g1, g2⟩ := (hM.same (s1.trans sT)).f1
      refine ⟨Tt, _, rfl, SqT.of upd_same, rfl, _, _, rfl, _, _, rfl, rfl, ?_⟩
      dsimp only [gName, gNil]
      by_cases eq : j = i
      · subst eq
        rw [hy] at eb
        cases eb
        refine ⟨_, rfl, _, rfl, x, Cm, dx, fs, _, rfl, g1, hM.cl, hM.na1, g2, y, _, rfl, hya.same (s1.trans sT), ?_⟩
        rw [hyb]
        exact ⟨_, rfl, iteT ⟨_, rfl, _, rfl, fun d hd => bad _ d (s1.trans sT) hd⟩⟩
      · obtain ⟨h1, h2⟩ := hlt j e (by omega) eb
        refine ⟨_, rfl, _, rfl, x, Cm, dx, fs, _, rfl, g1, hM.cl, hM.na1, g2, e, _, rfl, h1.same (s1.trans sT), ?_⟩
        rw [h2]
        exact ⟨_, rfl, iteF ⟨⟨_, _, rfl⟩, sT, by omega⟩⟩
    · rintro σ G ⟨_, _, z⟩
      have := (List.getElem?_eq_some_iff.mp hy).1
      omega
def spCh2 (K : PySem.W.Frag) (Cm C : Addr) : Sp := RowS K Cm C fun H n cs rw_ Q => n ≤ 16 ∧ ∀ (t : Addr) (H' : Hp), Same H H' → H' t = some (.tup (vi ((List.range n).map (ends cs rw_)))) → Q (.ref t) H'
theorem ok_ch2 {f : Addr} {fd : FuncData} {Cm C : Addr} (CK : Cal P w K mg base (L2.CX P w) 3 "checked_row" ["machine", "value"] (spCkR2 K Cm C)) (CR : Cal P w K mg base CX0 1 "change_of_row" ["machine", "row"] (spChR K Cm)) (F : Fun K "change_of" "change_of" (top 28) f fd) : FnOk P w K mg base (L2.CX P w) 4 f fd ["machine", "row"] (spCh2 K Cm C) := by
  refine F.okX sk15 (fun vs H Q E h => ?_) (fun cdv A outer s H vs Q E hr h => ⟨_,
    (pss_one (ps_ret (by exact (pe_cal CR hr (by decide) (pa_cons (pv 0) (pa_cons (by exact (pe_calX CK hr (by decide) (takes_of rfl rfl rfl rfl) (fun _ _ _ _ z => z) (pa_cons (pv 0) (pa_cons (pv 1) pa_nil)))) pa_nil)))))), ?_⟩)
  · obtain ⟨x, v, n, cs, rfl, _⟩ := h
    rfl
  obtain ⟨x, v, n, cs, rfl, hM, h⟩ := h
  rcases h with ⟨rw_, hv, hk, n16, q⟩ | ⟨ms, at_, hv, hB, bad⟩
  · exact ⟨_, rfl, _, rfl, _, rfl, x, v, n, cs, rfl, hM, .inl ⟨rw_, hv, hk, fun t H1 s1 ht => ⟨x, t, n, cs, rw_, rfl, hM.same s1, n16, ht, hk, fun t2 H2 s2 _ h2 => q t2 H2 (s1.trans s2) h2⟩⟩⟩
  · exact ⟨_, rfl, _, rfl, _, rfl, x, v, n, cs, rfl, hM, .inr ⟨ms, at_, hv, hB, bad⟩⟩
/-- the machine that is made stands -/
theorem Mc.of {K : PySem.W.Frag} {Cm x dx t : Addr} {ts : List Addr} {H : Hp} {n : Nat} {cs : List (List Nat)} (cl : Cls K Cm) (na1 : NoAttr K Cm "commands") (na2 : NoAttr K Cm "states") (na3 : NoAttr K Cm "steps") (h : MkO Cm x dx t ts (cs.length : Int) ((List.range n).map (row cs)) H) (hc : ∀ c ∈ cs, Chg n c) : Mc K Cm H x n cs := by
  obtain ⟨h1, h2, h3, h4⟩ := h
  rw [List.length_map, List.length_range] at h1 h3
  refine ⟨cl, na1, na2, na3, ⟨dx, t, ts, h1, h2, h3, fun s b hs => ?_⟩, hc⟩
  obtain ⟨ro, h5, h6⟩ := h4 s b hs
  have sn : s < n := by have := (List.getElem?_eq_some_iff.mp hs).1; omega
  rw [List.getElem?_map, List.getElem?_range sn] at h5
  rw [h6, ← Option.some.inj h5]
end
end KV

/-! == and != by a class's own __eq__ -/
namespace HE
open PySem PySem.Spec PyProof.Rows
section
variable {M : Model} {prog : Program} {w : World} {A : Around} {E : Value → Shared → Prop} {s : Shared} {K : PySem.W.Frag} {x C f : Addr} {ox : Obj} {od : Option Obj} {b tb : Value}
theorem ifBound_ne {args : List Value} {Q : Option Value → Shared → Prop} (Y : K.In s.heap) (I : PySem.W.InstAt s.heap x ox C od) (hs : PySem.W.findIn K (.ref C) "__ne__" = some (some (.builtin "object.__ne__")))
    (h : wpAny M A (call (.builtin "object.__ne__") (.ref x :: args)) (fun v => Q (some v)) E s) : wpAny M A (callSpecialIfBound? (.ref x) "__ne__" args) Q E s := by
  simp only [callSpecialIfBound?, bindSpecialIfBound?]
  refine wpAny_holding (wpAny_bind (wpAny_bind (wpAny_bind (I.type.here ((PySem.W.looks_findIn Y hs).here ?_)))))
  refine wpAny_bind (wpAny_askSetting (wpAny_ite ?_))
  have last : wpAny M A (call (.builtin "object.__ne__") ([.ref x] ++ args) >>= fun v => pure (some v)) Q E s := wpAny_bind (wpAny_mono h (fun v s' h' => wpAny_pure h') fun _ _ h' => h')
  split
  · exact wpAny_bind (wpAny_of_eq (F.cmp_object.ne.bind _) (wpAny_pure (by exact last)))
  · exact wpAny_tryCatch (wpAny_bind (wpAny_of_eq (F.cmp_object.ne.bind _) (wpAny_pure (by exact last))))
open Builtin in
theorem call_ne {Q : Value → Shared → Prop} (hu : A.in1.units < cLine) (Y : K.In s.heap) (I : PySem.W.InstAt s.heap x ox C od) (hm : PySem.W.mroIn K C (.type "object") = some true)
    (hs : PySem.W.findIn K (.ref C) "__eq__" = some (some (.ref f))) (hf : PySem.W.isFn K (.ref f) = true) (h : wpAny (model prog w) A.in1 (call (.ref f) [.ref x, b]) (fun v s' => ∃ r, v = .bool r ∧ Q (.bool (!r)) s') E s) :
    wpAny (model prog w) A (call (.builtin "object.__ne__") [.ref x, b]) Q E s := by
  refine wpAny_call (codeAny_call_builtin F.cmp_object.ne.plain F.cmpEntry_ne (PySem.W.check_slot F.cmpKind_ne F.cmpSplit_ne (I.type.andThen (PySem.W.looks_mroIn Y hm)) (F.cmpArgs_ne _ _) ?_))
  unfold Builtin.«object.__ne__»
  refine wpAny_bind (m := slotArgs "__ne__" 1 _) (wpAny_pure ?_)
  refine wpAny_bind (m := cRoomFor _ _) (wpAny_cRoomFor hu ?_)
  refine wpAny_bind (m := callSpecialIfBound? (.ref x) (Str.ofString "__eq__") _) (PySem.W.ifBound_K Y I hs hf (wpAny_mono h (fun r s' hq => ?_) fun _ _ y => y))
  obtain ⟨c, rfl, q⟩ := hq
  exact wpAny_bind (wpAny_truthy_bool (wpAny_pure q))
/-- x != b by the own __eq__ -/
theorem rc_ne {Q : Value → Shared → Prop} (hu : A.units < cLine) (hu1 : A.in1.units < cLine) (Y : K.In s.heap) (I : PySem.W.InstAt s.heap x ox C od) (hb : PySem.W.Looks (model prog w) s.heap (typeOf b) tb) (hn : PySem.W.notFirst K C tb = true) (hm : PySem.W.mroIn K C (.type "object") = some true)
    (hne : PySem.W.findIn K (.ref C) "__ne__" = some (some (.builtin "object.__ne__"))) (hs : PySem.W.findIn K (.ref C) "__eq__" = some (some (.ref f))) (hf : PySem.W.isFn K (.ref f) = true)
    (h : wpAny (model prog w) A.in1 (call (.ref f) [.ref x, b]) (fun v s' => ∃ r, v = .bool r ∧ Q (.bool (!r)) s') E s) : wpAny (model prog w) A (richCompare .NotEq (.ref x) b) Q E s := by
  have one : wpAny (model prog w) A (tryCompare (.ref x) "__ne__" b) (fun r s' => ∃ v, r = some v ∧ Q v s') E s := by
    unfold tryCompare
    refine wpAny_bind (ifBound_ne Y I hne (call_ne hu1 Y I hm hs hf (wpAny_mono h (fun v s' hv => ?_) fun _ _ e => e)))
    obtain ⟨r, rfl, q⟩ := hv
    exact ⟨r, rfl, wpAny_pure ⟨_, rfl, q⟩⟩
  unfold richCompare
  simp only [oneThing_ref]
  refine wpAny_holding (wpAny_bind (wpAny_cRoomFor hu ?_))
  refine wpAny_bind (I.type.here (wpAny_bind (hb.here ?_)))
  split
  · rename_i q
    have e : PySem.W.subIn K tb (.ref C) = some false := by
      rcases Bool.or_eq_true_iff.mp hn with e | e
      · rw [beq_iff_eq.mp e] at q; simp at q
      · exact beq_iff_eq.mp e
    refine wpAny_bind ((PySem.W.looks_subIn Y e).here ?_)
    simp only [Bool.false_eq_true, if_false]
    refine wpAny_bind (wpAny_mono one (fun r s' z => ?_) fun _ _ e => e)
    obtain ⟨v, rfl, hq⟩ := z
    exact wpAny_pure hq
  · refine wpAny_bind (wpAny_pure ?_)
    simp only [Bool.false_eq_true, if_false]
    refine wpAny_bind (wpAny_mono one (fun r s' z => ?_) fun _ _ e => e)
    obtain ⟨v, rfl, hq⟩ := z
    exact wpAny_pure hq
end
end HE
namespace KV
open PySem PySem.Spec PyProof.Rows L2
/-- what is asked of the right hand's kind -/
inductive TyE (K : PySem.W.Frag) (H : Hp) : V → Value → Prop
  | str (z : Str) : TyE K H (.str z) (.type "str")
  | tup {a : Addr} {xs : List V} (e : H a = some (.tup xs)) : TyE K H (.ref a) (.type "tuple")
  | ins {a C dx : Addr} {fs : List (Str × V)} (e : H a = some (.ins C dx fs)) : TyE K H (.ref a) (.ref C)
theorem TyE.looks {X : Cx} {pins : List (Addr × Obj)} {σ : L2.St} {H : Hp} {s : Shared} (I : Inv X pins σ H s) {y : V} {u t : Value} (ry : RelV y u) (h : TyE X.K H y t) : PySem.W.Looks (model X.prog X.w) s.heap (typeOf u) t := by
  cases h with
  | str z =>
    obtain ⟨k, rfl⟩ := (show ∃ t, u = Value.str z t from ry)
    exact PySem.W.Looks.of_pure rfl
  | @tup a xs ea =>
    obtain rfl : u = Value.ref a := ry
    obtain ⟨_, _, _, p⟩ := (show ObjOk X.prog X.w H s.heap a (.tup xs) from I.hok a _ ea)
    obtain ⟨o, h1, h2, _⟩ := p
    exact fun A Q E s k q => wpAny_typeOf_ref (k _ _ h1) (by rw [h2]; exact q)
  | @ins a C dx fs ea =>
    obtain rfl : u = Value.ref a := ry
    obtain ⟨mA, J, _⟩ := ins_get I.hok ea
    obtain ⟨od, J, _⟩ := J.look
    exact J.type
/-- a class with its own == -/
structure OwnE (P : Program) (w : World) (K : PySem.W.Frag) (mg : Str → Option Value) (base : Heap) (n : Nat) (C f : Addr) (fd : FuncData) (ps : List Str) (sp : Sp) : Prop where
  F : FnOk P w K mg base CX0 n f fd ps sp
  hs : PySem.W.findIn K (.ref C) "__eq__" = some (some (.ref f))
  hf : PySem.W.isFn K (.ref f) = true
  hb : Binds K fd ps []
  hm : PySem.W.mroIn K C (.type "object") = some true
  hne : PySem.W.findIn K (.ref C) "__ne__" = some (some (.builtin "object.__ne__"))
section
variable {X : Cx} {n : Nat} {C f : Addr} {fd : FuncData} {ps : List Str} {sp : Sp}
theorem run_own (O : OwnE X.prog X.w X.K X.mg X.base n C f fd ps sp) {A : Around} (sb : Sub X n A) {pins : List (Addr × Obj)} {s : Shared} {σ : L2.St} {H : Hp} {a : Addr} {y : V} {v : Value} (I : Inv X pins σ H s) (ry : RelV y v) {R : Bool → Hp → Prop}
    (h : sp [.ref a, y] H (fun z H' => ∃ b, z = .bl b ∧ R b H') fun _ _ _ => False) : wpAny (model X.prog X.w) A (call (.ref f) [.ref a, v]) (fun r s' => ∃ b, r = .bool b ∧ ∃ H', Inv X pins σ H' s' ∧ R b H') X.xe s := by
  have e0 : Env0 X.prog X.w X.K X.mg X.base A X.stack s H := by
    have e := I.env0
    exact ⟨by rw [sb.fr]; exact e.frames, e.mod, e.bs, e.bsz, e.funs, e.frf, e.hok, e.bare⟩
  have hl := O.F.len _ _ _ _ h
  have r2 : Vals [V.ref a, y] [Value.ref a, v] := .cons rfl (.cons ry .nil)
  refine wpAny_call (codeAny_mono (O.F.run A X.stack s H ⟨[.ref a, v], []⟩ [.ref a, v] [.ref a, y] _ _ sb.room e0 (by
    have := O.hb s [.ref a, v] I.kIn (by simpa using hl)
    simpa using this) r2 h) fun r s' hq => ?_)
  cases r with
  | error e => exact (show False from hq).elim
  | ok fl =>
    cases fl with
    | ret w =>
      obtain ⟨z, H', I', rz, b, ez, q⟩ := I.after hq
      subst ez
      cases rz
      exact ⟨b, rfl, H', I', q⟩
    | next => exact False.elim hq
    | brk => exact False.elim hq
    | cont => exact False.elim hq
/-- x == y, x != y, x an instance of the class -/
def rOwn (K : PySem.W.Frag) (C : Addr) (sp : Sp) (no : Bool) : R2 := fun x y H Q => ∃ (a dx : Addr) (fs : List (Str × V)) (t : Value), x = .ref a ∧ H a = some (.ins C dx fs) ∧ TyE K H y t ∧ PySem.W.notFirst K C t = true ∧ sp [.ref a, y] H (fun z H' => ∃ b, z = .bl b ∧ Q (.bl (b ^^ no)) H') fun _ _ _ => False
theorem op_eqO (O : OwnE X.prog X.w X.K X.mg X.base n C f fd ps sp) (hr : Room n X.A) : OpR X (compareOp .Eq) (rOwn X.K C sp false) := by
  intro pins s σ H x y v u Q I rx ry hq
  obtain ⟨a, dx, fs, t, rfl, ha, ty, nf, h⟩ := hq
  obtain rfl : v = Value.ref a := rx
  obtain ⟨mA, J, _⟩ := ins_get I.hok ha
  obtain ⟨od, J, _⟩ := J.look
  obtain ⟨m, hF⟩ := I.fr
  show wpAny (model X.prog X.w) X.A (richCompare .Eq (.ref a) u) (EP X pins σ Q) X.xe s
  refine PySem.W.cmp_K (op := .Eq) hr.units0 hF I.ok.mod.kin J (ty.looks I ry) nf O.hs O.hf ?_
  refine wpAny_mono (run_own O ⟨hr, rfl⟩ I ry h) (fun r s' z => ?_) fun _ _ z => z
  obtain ⟨b, rfl, H', I', q⟩ := z
  rw [Bool.xor_false] at q
  exact ⟨.bl b, H', I', rfl, q⟩
theorem op_neO (O : OwnE X.prog X.w X.K X.mg X.base n C f fd ps sp) (hr : Room (n + 1) X.A) : OpR X (compareOp .NotEq) (rOwn X.K C sp true) := by
  intro pins s σ H x y v u Q I rx ry hq
  obtain ⟨a, dx, fs, t, rfl, ha, ty, nf, h⟩ := hq
  obtain rfl : v = Value.ref a := rx
  obtain ⟨mA, J, _⟩ := ins_get I.hok ha
  obtain ⟨od, J, _⟩ := J.look
  show wpAny (model X.prog X.w) X.A (richCompare .NotEq (.ref a) u) (EP X pins σ Q) X.xe s
  refine HE.rc_ne hr.units0 hr.in1.units0 I.kIn J (ty.looks I ry) nf O.hm O.hne O.hs O.hf ?_
  refine wpAny_mono (run_own O (Sub.in1 ⟨hr, rfl⟩) I ry h) (fun r s' z => ?_) fun _ _ z => z
  obtain ⟨b, rfl, H', I', q⟩ := z
  rw [Bool.xor_true] at q
  exact ⟨b, rfl, .bl (!b), H', I', rfl, q⟩
end
end KV

/-! the class of machines: its facts, its == -/
namespace KV
open PySem PySem.Spec PyProof.Rows L2 KC He
/-- what the written part tells of the class -/
structure MF (K : PySem.W.Frag) (Cm fI fE : Addr) : Prop where
  cl : Cls K Cm
  na1 : NoAttr K Cm "commands"
  na2 : NoAttr K Cm "states"
  na3 : NoAttr K Cm "steps"
  mkr : Mk K Cm fI
  ha : PySem.W.findIn K (.ref Cm) "__class__" = some (some (.builtin "object.__class__"))
  hn : PySem.W.specialIn K (.builtin "object.__class__") "__get__" = some (some (.builtin "getset_descriptor.__get__"))
  htk : PySem.W.takesIn K (.builtin "object.__class__") = some true
  hm : PySem.W.mroIn K Cm (.type "object") = some true
  kM : PySem.W.kitOne K (.ref Cm) (.ref Cm) = some true
  kS : PySem.W.kitOne K (.type "str") (.ref Cm) = some false
  kT : PySem.W.kitOne K (.type "tuple") (.ref Cm) = some false
  eq : PySem.W.findIn K (.ref Cm) "__eq__" = some (some (.ref fE))
  eqf : PySem.W.isFn K (.ref fE) = true
  ne : PySem.W.findIn K (.ref Cm) "__ne__" = some (some (.builtin "object.__ne__"))
  fS : PySem.W.notFirst K Cm (.type "str") = true
  fT : PySem.W.notFirst K Cm (.type "tuple") = true
  fM : PySem.W.notFirst K Cm (.ref Cm) = true
def machB (K : PySem.W.Frag) (x : Str) : Bool :=
  PySem.W.plainGet K (ga K x) Str.empty && (PySem.W.hasDictIn K (ga K x) && (PySem.W.plainOver K (ga K x) && (He.eqO (PySem.W.findIn K (.ref (ga K x)) "__setattr__") (some (some (.builtin "object.__setattr__"))) &&
  (He.eqO (PySem.W.findIn K (.ref (ga K x)) "commands") (some none) && (He.eqO (PySem.W.findIn K (.ref (ga K x)) "states") (some none) && (He.eqO (PySem.W.findIn K (.ref (ga K x)) "steps") (some none) &&
  (PySem.W.makesIn K (ga K x) && (He.eqO (PySem.W.findIn K (.ref (ga K x)) "__init__") (some (some (.ref (ma K (ga K x) "__init__")))) && (PySem.W.isFn K (.ref (ma K (ga K x) "__init__")) && (PySem.W.keepIn K (.ref (ga K x)) &&
  (He.eqO (PySem.W.findIn K (.ref (ga K x)) "__class__") (some (some (.builtin "object.__class__"))) && (He.eqO (PySem.W.specialIn K (.builtin "object.__class__") "__get__") (some (some (.builtin "getset_descriptor.__get__"))) && (decide (PySem.W.takesIn K (.builtin "object.__class__") = some true) && (decide (PySem.W.mroIn K (ga K x) (.type "object") = some true) &&
  (decide (PySem.W.kitOne K (.ref (ga K x)) (.ref (ga K x)) = some true) && (decide (PySem.W.kitOne K (.type "str") (.ref (ga K x)) = some false) && (decide (PySem.W.kitOne K (.type "tuple") (.ref (ga K x)) = some false) &&
  (He.eqO (PySem.W.findIn K (.ref (ga K x)) "__eq__") (some (some (.ref (ma K (ga K x) "__eq__")))) && (PySem.W.isFn K (.ref (ma K (ga K x) "__eq__")) && (He.eqO (PySem.W.findIn K (.ref (ga K x)) "__ne__") (some (some (.builtin "object.__ne__"))) && (PySem.W.notFirst K (ga K x) (.type "str") && (PySem.W.notFirst K (ga K x) (.type "tuple") && PySem.W.notFirst K (ga K x) (.ref (ga K x))))))))))))))))))))))))
theorem machB_ok {K : PySem.W.Frag} {x : Str} (b : machB K x = true) : MF K (ga K x) (ma K (ga K x) "__init__") (ma K (ga K x) "__eq__") := by
  obtain ⟨b1, b⟩ := He.ba b
  obtain ⟨b2, b⟩ := He.ba b
  obtain ⟨b3, b⟩ := He.ba b
  obtain ⟨b4, b⟩ := He.ba b
  obtain ⟨b5, b⟩ := He.ba b
  obtain ⟨b6, b⟩ := He.ba b
  obtain ⟨b7, b⟩ := He.ba b
  obtain ⟨b8, b⟩ := He.ba b
  obtain ⟨b9, b⟩ := He.ba b
  obtain ⟨b10, b⟩ := He.ba b
  obtain ⟨b11, b⟩ := He.ba b
  obtain ⟨b12, b⟩ := He.ba b
  obtain ⟨b13, b⟩ := He.ba b
  obtain ⟨b14, b⟩ := He.ba b
  obtain ⟨b15, b⟩ := He.ba b
  obtain ⟨b16, b⟩ := He.ba b
  obtain ⟨b17, b⟩ := He.ba b
  obtain ⟨b18, b⟩ := He.ba b
  obtain ⟨b19, b⟩ := He.ba b
  obtain ⟨b20, b⟩ := He.ba b
  obtain ⟨b21, b⟩ := He.ba b
  obtain ⟨b22, b⟩ := He.ba b
  obtain ⟨b23, b24⟩ := He.ba b
  exact ⟨⟨b1, b2, b3, He.eqO_ok b4⟩, He.eqO_ok b5, He.eqO_ok b6, He.eqO_ok b7, ⟨b8, He.eqO_ok b9, b10, b11⟩, He.eqO_ok b12, He.eqO_ok b13, of_decide_eq_true b14, of_decide_eq_true b15, of_decide_eq_true b16, of_decide_eq_true b17, of_decide_eq_true b18, He.eqO_ok b19, b20, He.eqO_ok b21, b22, b23, b24⟩
/-- a machine, by its lines -/
def MkS (Cm x : Addr) (m : Int) (rows : List (List Nat)) (H : Hp) : Prop := ∃ (dx t : Addr) (ts : List Addr), MkO Cm x dx t ts m rows H
theorem MkS.same {Cm x : Addr} {m : Int} {rows : List (List Nat)} {H H' : Hp} (s : Same H H') (h : MkS Cm x m rows H) : MkS Cm x m rows H' := by
  obtain ⟨dx, t, ts, h1, h2, h3, h4⟩ := h
  exact ⟨dx, t, ts, s _ _ h1, s _ _ h2, h3, fun i b hb => by obtain ⟨ro, a, c⟩ := h4 i b hb; exact ⟨ro, a, s _ _ c⟩⟩
def rowsD (rows : List (List Nat)) : List PyData := rows.map fun ro => .tuple ((zi ro).map PyData.int)
theorem eqv_rows : ∀ a b : List (List Nat), PyData.eqvAll (rowsD a) (rowsD b) = decide (a = b)
  | [], [] => rfl
  | [], _ :: _ => rfl
  | _ :: _, [] => rfl
  | n :: r, m :: s => by
    show (PyData.eqvAll ((zi n).map PyData.int) ((zi m).map PyData.int) && PyData.eqvAll (rowsD r) (rowsD s)) = _
    rw [eqv_rows r s, eqv_ints]
    rw [Bool.eq_iff_iff, Bool.and_eq_true, decide_eq_true_eq, decide_eq_true_eq, decide_eq_true_eq, List.cons.injEq, zi_inj]
theorem lay_rows : ∀ a : List (List Nat), PyData.canLayAll0 (rowsD a) = true
  | [] => rfl
  | n :: r => by
    have h := shaped_intsT (zi n)
    unfold SeqAt.shaped at h
    rw [Bool.and_eq_true] at h
    show (PyData.canLayAll0 ((zi n).map PyData.int) && PyData.canLayAll0 (rowsD r)) = true
    rw [lay_rows r, Bool.and_true]
    exact h.1
theorem depthI : ∀ ns : List Int, PyData.depthAll (ns.map PyData.int) = 0
  | [] => rfl
  | n :: r => by
    simp only [List.map_cons, PyData.depthAll, PyData.depth]
    rw [depthI r]
    rfl
theorem depth_rows : ∀ a : List (List Nat), PyData.depthAll (rowsD a) ≤ 3
  | [] => by decide
  | n :: r => by
    have h2 := depth_rows r
    show max (PyData.depth (.tuple ((zi n).map PyData.int))) (PyData.depthAll (rowsD r)) ≤ 3
    simp only [PyData.depth, depthI]
    omega
theorem shaped_rows (a : List (List Nat)) : SeqAt.shaped (.tuple (rowsD a)) = true := by
  have h := depth_rows a
  show (PyData.canLayAll0 (rowsD a) && decide (PyData.depth (.tuple (rowsD a)) ≤ 64)) = true
  rw [lay_rows, Bool.true_and, decide_eq_true_eq]
  simp only [PyData.depth]
  omega
theorem dp_rows {K : PySem.W.Frag} {H : Hp} : ∀ {ts : List Addr} {rows : List (List Nat)}, ts.length = rows.length → (∀ (s : Nat) (b : Addr), ts[s]? = some b → ∃ ro, rows[s]? = some ro ∧ H b = some (.tup (vi ro))) → DpAll K H (ts.map V.ref) (rowsD rows)
  | [], [], _, _ => .nil
  | t :: ts, ro :: rows, l, h => by
    obtain ⟨r2, e1, e2⟩ := h 0 t rfl
    cases e1
    exact .cons (dpT e2) (dp_rows (Nat.succ.inj l) fun s b hb => h (s + 1) b hb)
  | [], _ :: _, l, _ => by cases l
  | _ :: _, [], l, _ => by cases l
section
variable {P : Program} {w : World} {K : PySem.W.Frag} {mg : Str → Option Value} {base : Heap} {Cm fI fE : Addr}
/-- what the own == tells -/
def spMEq (K : PySem.W.Frag) (Cm : Addr) : Sp := fun vs H Q _ => ∃ (a : Addr) (y : V) (m : Int) (rows : List (List Nat)), vs = [.ref a, y] ∧ MkS Cm a m rows H ∧
  ((∃ (b : Addr) (m2 : Int) (rows2 : List (List Nat)), y = .ref b ∧ MkS Cm b m2 rows2 H ∧ Q (.bl (decide (m = m2) && decide (rows = rows2))) H) ∨
    (((∃ z : Str, y = .str z) ∨ ∃ (b : Addr) (xs : List V), y = .ref b ∧ H b = some (.tup xs)) ∧ Q (.bl false) H))
theorem sk9e : FnScope ["self", "other"] ["self", "other"] (defScope (mth 18 1)) := ⟨rfl, rfl, rfl, by decide +kernel, rfl, by decide +kernel, by decide +kernel⟩
theorem ok_meq {f : Addr} {fd : FuncData} (B : Bl mg) (M : MF K Cm fI fE) (gM : mg "Machine" = some (.ref Cm)) (F : Fun K "__eq__" "Machine.__eq__" (mth 18 1) f fd) : FnOk P w K mg base CX0 1 f fd ["self", "other"] (spMEq K Cm) := by
  refine F.ok sk9e (fun vs H Q E h => ?_) (fun cdv A outer s H vs Q E hr h => ⟨_,
    (pss_one (ps_ret (pe_and (pe_callB call_isi (by rfl) B.isi (by decide +kernel) (pa_cons (pv 1) (pa_cons (pe_glob (v := .ref Cm) (by rfl) gM rfl) pa_nil)))
      (pe_and (pe_cmpR op_eq (pe_fld (pv 0) (by rfl)) (pe_fld (pv 1) (by rfl)) (nomark _)) (pe_one (pe_cmpR (op_eqD hr.units) (pe_fld (pv 0) (by rfl)) (pe_fld (pv 1) (by rfl)) (nomark _))))))), ?_⟩)
  · obtain ⟨a, y, m, rows, rfl, _⟩ := h
    rfl
  obtain ⟨a, y, m, rows, rfl, hA, h⟩ := h
  rcases h with ⟨b, m2, rows2, rfl, hB, q⟩ | ⟨hy, q⟩
  · obtain ⟨dx, t, ts, h1, h2, h3, h4⟩ := hA
    obtain ⟨dy, u, us, g1, g2, g3, g4⟩ := hB
    have lk1 : ∀ (t : Addr) (n : Nat) (m : Int), (putF "steps" (V.ref t) (putF "states" (V.int n) (putF "commands" (V.int m) []))).lookup ("commands" : Str) = some (V.int m) := fun t n m => by
      rw [lookup_putF, if_neg (by decide), lookup_putF, if_neg (by decide), lookup_putF, if_pos rfl]
    have lk2 : ∀ (t : Addr) (n : Nat) (m : Int), (putF "steps" (V.ref t) (putF "states" (V.int n) (putF "commands" (V.int m) []))).lookup ("steps" : Str) = some (V.ref t) := fun t n m => by
      rw [lookup_putF, if_pos rfl]
    refine ⟨_, rfl, .ref b, .ref Cm, .ref Cm, _, _, rfl, .own Cm, .base (.ins g1 M.cl M.ha M.hn M.htk M.hm), M.kM, true, rfl, iteT ?_⟩
    refine ⟨_, rfl, a, Cm, dx, _, _, rfl, h1, M.cl, M.na1, lk1 _ _ _, _, rfl, b, Cm, dy, _, _, rfl, g1, M.cl, M.na1, lk1 _ _ _, rfl, _, rfl, ?_⟩
    by_cases em : m = m2
    · subst em
      refine iteP (decide_eq_true rfl) ⟨_, rfl, a, Cm, dx, _, _, rfl, h1, M.cl, M.na3, lk2 _ _ _, _, rfl, b, Cm, dy, _, _, rfl, g1, M.cl, M.na3, lk2 _ _ _, _, _, .tup (SqT.of h2) (dp_rows h3 h4), .tup (SqT.of g2) (dp_rows g3 g4), shaped_rows _, shaped_rows _, ?_⟩
      have z : PyData.eqv (.tuple (rowsD rows)) (.tuple (rowsD rows2)) = decide (rows = rows2) := eqv_rows rows rows2
      rw [z]
      rw [decide_eq_true rfl, Bool.true_and] at q
      exact q
    · rw [decide_eq_false em, Bool.false_and] at q
      have e : decide (V.int m = V.int m2) = false := decide_eq_false (fun z => em (V.int.inj z))
      rw [e]
      exact iteF q
  · rcases hy with ⟨z, rfl⟩ | ⟨b, xs, rfl, hb⟩
    · exact ⟨_, rfl, .str z, .ref Cm, .type "str", _, _, rfl, .own Cm, .base (.str z), M.kS, false, rfl, iteF q⟩
    · exact ⟨_, rfl, .ref b, .ref Cm, .type "tuple", _, _, rfl, .own Cm, .base (.tup hb), M.kT, false, rfl, iteF q⟩
theorem ownE_of {f : Addr} {fd : FuncData} (M : MF K Cm fI f) (h : FnOk P w K mg base CX0 1 f fd ["self", "other"] (spMEq K Cm)) (hb : L2.Binds K fd ["self", "other"] []) : OwnE P w K mg base 1 Cm f fd ["self", "other"] (spMEq K Cm) := ⟨h, M.eq, M.eqf, hb, M.hm, M.ne⟩
end
end KV

/-! an instance of an own class made, by places or by names; what __init__ raises passes on -/
namespace KV
open PySem PySem.Spec PyProof.Rows L2
section
variable {X : Cx} {CX : CXT} {k : Nat} {C f : Addr} {fd : FuncData} {ps ks : List Str} {sp : Sp} {E : L2.St → XK} {x : Str} {p pos : Pos} {e : Expr} {es : List Expr} {kws : List Keyword} {t tk : TA}
theorem run_mkS {pins : List (Addr × Obj)} {σ : L2.St} {H : Hp} {s : Shared} {Q : VK} {E0 : XK} {us : List Value} {kw : List (Str × Value)} {all : Value → List Value} {vall : V → List V} (M : Mk X.K C f) (F : FnOk X.prog X.w X.K X.mg X.base CX k f fd ps sp) (hr : Room (k + 1) X.A)
    (hb : ∀ (z : Shared) (self : Value), X.K.In z.heap → BindsTo z fd ⟨self :: us, kw⟩ (ps.zip (all self))) (hv : ∀ a : Addr, Vals (vall (.ref a)) (all (.ref a))) (hx : PassesAt CX X σ E0) (I : Inv X pins σ H s)
    (h : ∀ a da, H a = none → H da = none → da ≠ a → sp (vall (.ref a)) (upd (upd H da (.own a)) a (.ins C da [])) (fun v H2 => v = .non ∧ Q (.ref a) H2) E0) :
    wpAny (model X.prog X.w) X.A (call (.ref C) us kw) (EP X pins σ Q) X.xe s := by
  have n0 : H s.heap.objs.size = none := I.hok.fresh (Nat.le_refl _)
  have n1 : H (s.heap.objs.size + 1) = none := I.hok.fresh (Nat.le_succ _)
  have J := Inv.made (C := C) I
  have goal := F.run _ X.stack _ _ ⟨Value.ref (s.heap.objs.size + 1) :: us, kw⟩ (all (.ref (s.heap.objs.size + 1))) _ _ E0 (hr.make C us kw) (J.env0.make C us kw) (hb _ _ J.kIn) (hv _) (h _ _ n1 n0 (Nat.ne_of_lt (Nat.lt_succ_self _)))
  refine wpAny_call (make_map (f := f) I.kIn M.makes M.init (beq_iff_eq.mp M.fn) (codeAny_mono goal fun r s' hq => ?_))
  cases r with
  | error er => exact hx pins _ _ er s' J hq
  | ok fl =>
    cases fl with
    | ret u =>
      obtain ⟨v, H', I3, rv, rfl, q3⟩ := J.after hq
      exact ⟨rv, ⟨V.ref (s.heap.objs.size + 1), H', I3, rfl, q3⟩⟩
    | next => exact False.elim hq
    | brk => exact False.elim hq
    | cont => exact False.elim hq
/-- C(e, ..) -/
def tMk (C : Addr) (sp : Sp) (E : L2.St → XK) (t : TA) : TE := fun σ H Q => t σ H fun vs H1 => ∀ a da, H1 a = none → H1 da = none → da ≠ a → sp (.ref a :: vs) (upd (upd H1 da (.own a)) a (.ins C da [])) (fun v H2 => v = .non ∧ Q (.ref a) H2) (E σ)
theorem pe_mkS (M : Mk X.K C f) (F : FnOk X.prog X.w X.K X.mg X.base CX k f fd ps sp) (hr : Room (k + 1) X.A) (hm : X.mg x = some (.ref C)) (hb : Binds X.K fd ps []) (hx : ∀ σ, PassesAt CX X σ (E σ)) (ha : PA X (e :: es) t)
    (hg : Gl X x := by rfl) (hdb : (x == ("__debug__" : Str)) = false := by decide) (he : starEach (e :: es) X.env = (false, eval e X.env) :: starEach es X.env := by rfl) (hpl : (backTo pos (starEach es X.env)).any (·.1) = false := by rfl) :
    PE X (.Call (.Name x p) (e :: es) [] pos) (tMk C sp E t) := by
  constructor
  intro pins s σ H Q I h
  refine wpAny_Call_Name_kw (ld_glob I hg hm ?_ hdb)
  refine PySem.W.callWith_K (h₀ := X.base) I.ok.mod.kin M.kp (thn (ha.run pos pins s σ H _ I h) fun us s1 ⟨vs, H1, I1, r, q⟩ => ⟨I1.kIn, ?_⟩) he hpl
  have l : vs.length + 1 = ps.length := F.len _ _ _ _ (q (s1.heap.objs.size + 1) s1.heap.objs.size (I1.hok.fresh (Nat.le_succ _)) (I1.hok.fresh (Nat.le_refl _)) (Nat.ne_of_lt (Nat.lt_succ_self _)))
  refine run_mkS (kw := []) (all := fun v => v :: us) (vall := fun v => v :: vs) M F hr (fun z self hz => ?_) (fun a => .cons rfl r) (hx σ) I1 q
  have := hb z (self :: us) hz (by rw [List.append_nil, List.length_cons, ← r.length]; exact l)
  rwa [List.append_nil] at this
/-- C(name = e, ..) -/
def tMkK (C : Addr) (m : Nat) (sp : Sp) (g : V → List V → List V) (E : L2.St → XK) (tk : TA) : TE := fun σ H Q => tk σ H fun zs H1 => zs.length = m ∧ ∀ a da, H1 a = none → H1 da = none → da ≠ a → sp (g (.ref a) zs) (upd (upd H1 da (.own a)) a (.ins C da [])) (fun v H2 => v = .non ∧ Q (.ref a) H2) (E σ)
theorem pe_mkSK {g : {α : Type} → α → List α → List α} (M : Mk X.K C f) (F : FnOk X.prog X.w X.K X.mg X.base CX k f fd ps sp) (hr : Room (k + 1) X.A) (hm : X.mg x = some (.ref C))
    (hb : ∀ (z : Shared) (self : Value) (ws : List Value), X.K.In z.heap → ws.length = ks.length → BindsTo z fd ⟨[self], ks.zip ws⟩ (ps.zip (g self ws))) (hrel : ∀ {v : V} {u : Value} {zs : List V} {ws : List Value}, RelV v u → Vals zs ws → zs.length = ks.length → Vals (g v zs) (g u ws)) (hx : ∀ σ, PassesAt CX X σ (E σ)) (hkw : PK X kws tk)
    (hg : Gl X x := by rfl) (hall : (backToKw pos (keywordEach kws X.env)).all (·.1.isSome) = true := by rfl) (hks : (backToKw pos (keywordEach kws X.env)).filterMap (·.1) = ks := by rfl) (hdb : (x == ("__debug__" : Str)) = false := by decide)
    (hpl : ((backTo pos (starEach [] X.env)).any (·.1) || (backToKw pos (keywordEach kws X.env)).any (·.1.isNone)) = false := by rfl) :
    PE X (.Call (.Name x p) [] kws pos) (tMkK C ks.length sp (fun v zs => g v zs) E tk) := by
  constructor
  intro pins s σ H Q I h
  refine wpAny_Call_Name_kw (ld_glob I hg hm ?_ hdb)
  refine PySem.W.callWith_KW0 (h₀ := X.base) I.ok.mod.kin M.kp hall ?_ hpl
  refine thn (hkw.run pos pins s σ H _ I h) fun ws s1 ⟨zs, H1, I1, rz, l, q⟩ => ⟨I1.kIn, ?_⟩
  rw [hks]
  exact run_mkS (us := []) (kw := ks.zip ws) (all := fun v => g v ws) (vall := fun v => g v zs) M F hr (fun z self hz => hb z self ws hz (by rw [← rz.length, l])) (fun a => hrel (v := .ref a) rfl rz l) (hx σ) I1 q
end
end KV

/-! calls by keywords alone; asked -/
namespace KV
open PySem PySem.Spec PyProof.Rows L2 KC
def rv {α : Type} (b : Bool) (l : List α) : List α := if b = true then l.reverse else l
theorem vals_app : ∀ {vs zs : List V} {us ws : List Value}, Vals vs us → Vals zs ws → Vals (vs ++ zs) (us ++ ws)
  | [], _, _, _, .nil, k => k
  | _ :: _, _, _, _, .cons r h, k => .cons r (vals_app h k)
theorem vals_rev : ∀ {vs : List V} {us : List Value}, Vals vs us → Vals vs.reverse us.reverse
  | [], _, .nil => .nil
  | _ :: _, _, .cons r h => by
    rw [List.reverse_cons, List.reverse_cons]
    exact vals_app (vals_rev h) (.cons r .nil)
theorem vals_rv {b : Bool} {vs : List V} {us : List Value} (h : Vals vs us) : Vals (rv b vs) (rv b us) := by
  cases b with
  | false => exact h
  | true => exact vals_rev h
/-- how a call with keywords alone binds: the names ks stand in the parameters' order, or the other way round (b) -/
def KB (K : PySem.W.Frag) (fd : FuncData) (ps ks : List Str) (b : Bool) : Prop := ∀ (s : Shared) (ws : List Value), K.In s.heap → (rv b ws).length = ps.length → BindsTo s fd ⟨[], ks.zip ws⟩ (ps.zip (rv b ws))
theorem KB.mk {K : PySem.W.Frag} {x qual : Str} {st : Stmt} {f : Addr} {fd : FuncData} {ps ks : List Str} {b : Bool} (F : Fun K x qual st f fd)
    (h : ∀ (kV doc pm : Value) (an : Option Addr) (cdv ct : Value) (us : List Value), us.length = ps.length → bindArgs (PySem.W.fnOf x qual (defArgs st) (defBody st) (defScope st) .none kV doc pm an cdv ct) ⟨[], ks.zip us⟩ = pure (ps.zip (rv b us))) : KB K fd ps ks b := by
  obtain ⟨oc, od, kV, doc, pm, an, cdv, ct, osl, rfl, lk, hcd⟩ := F.ex
  intro s ws _ hl
  refine .of_eq (h kV doc pm an cdv ct ws ?_)
  cases b with
  | false => exact hl
  | true => exact (List.length_reverse (as := ws)).symm.trans hl
/-- a def of the module that may be called with keywords alone -/
def CalK (P : Program) (w : World) (K : PySem.W.Frag) (mg : Str → Option Value) (base : Heap) (Z : CXT) (k : Nat) (x : Str) (ps ks : List Str) (b : Bool) (sp : Sp) : Prop :=
  ∃ (f : Addr) (fd : FuncData), FnOk P w K mg base Z k f fd ps sp ∧ mg x = some (.ref f) ∧ PySem.W.keepIn K (.ref f) = true ∧ KB K fd ps ks b
section
variable {X : Cx} {Z : CXT} {k j : Nat} {f : Addr} {fd : FuncData} {x : Str} {ps ks : List Str} {b : Bool} {sp : Sp} {p pos : Pos} {kws : List Keyword} {tk : TA} {E : L2.St → XK}
theorem run_fnSK {pins : List (Addr × Obj)} {σ : L2.St} {H : Hp} {s : Shared} {Q : VK} {ws : List Value} {zs : List V} (F : FnOk X.prog X.w X.K X.mg X.base Z k f fd ps sp) (hr : Room k X.A) (hb : KB X.K fd ps ks b) (hx : PassesAt Z X σ (E σ))
    (I : L2.Inv X pins σ H s) (rz : Vals zs ws) (h : sp (rv b zs) H Q (E σ)) : wpAny (model X.prog X.w) X.A (call (.ref f) [] (ks.zip ws)) (EP X pins σ Q) X.xe s := by
  have r2 := vals_rv (b := b) rz
  have hl : (rv b ws).length = ps.length := by rw [← r2.length]; exact F.len _ _ _ _ h
  refine wpAny_call (codeAny_mono (F.run X.A X.stack s H ⟨[], ks.zip ws⟩ (rv b ws) (rv b zs) Q (E σ) hr I.env0 (hb s ws I.kIn hl) r2 h) fun r s' hq => ?_)
  cases r with
  | error e => exact hx pins H s e s' I hq
  | ok fl =>
    cases fl with
    | ret u => exact I.after hq
    | next => exact False.elim hq
    | brk => exact False.elim hq
    | cont => exact False.elim hq
def tCallSK (sp : Sp) (b : Bool) (E : L2.St → XK) (tk : TA) : TE := fun σ H Q => tk σ H fun zs H1 => sp (rv b zs) H1 Q (E σ)
theorem pe_calSK (C : CalK X.prog X.w X.K X.mg X.base Z k x ps ks b sp) (hr : Room j X.A) (hj : k ≤ j) (hx : ∀ σ, PassesAt Z X σ (E σ)) (hkw : PK X kws tk) (hg : Gl X x := by rfl)
    (hall : (backToKw pos (keywordEach kws X.env)).all (·.1.isSome) = true := by rfl) (hks : (backToKw pos (keywordEach kws X.env)).filterMap (·.1) = ks := by rfl)
    (hdb : (x == ("__debug__" : Str)) = false := by decide)
    (hpl : ((backTo pos (starEach [] X.env)).any (·.1) || (backToKw pos (keywordEach kws X.env)).any (·.1.isNone)) = false := by rfl) :
    PE X (.Call (.Name x p) [] kws pos) (tCallSK sp b E tk) := by
  obtain ⟨f, fd, F, hm, hk, hb⟩ := C
  refine ⟨fun pins s σ H Q I h => ?_⟩
  refine wpAny_Call_Name_kw (ld_glob I hg hm ?_ hdb)
  refine PySem.W.callWith_KW0 (first := []) (h₀ := X.base) I.ok.mod.kin hk hall (thn (hkw.run pos pins s σ H _ I h) fun ws s2 ⟨zs, H2, I2, rz, q2⟩ => ⟨I2.kIn, ?_⟩) hpl
  rw [hks]
  exact run_fnSK F (hr.mono hj) hb (hx σ) I2 rz q2
theorem pe_calS {e : Expr} {es : List Expr} {t : TA} (C : Cal X.prog X.w X.K X.mg X.base Z k x ps sp) (hr : Room j X.A) (hj : k ≤ j) (hx : ∀ σ, PassesAt Z X σ (E σ)) (ha : PA X (e :: es) t)
    (hg : Gl X x := by rfl) (hdb : (x == ("__debug__" : Str)) = false := by decide)
    (he : starEach (e :: es) X.env = (false, eval e X.env) :: starEach es X.env := by rfl)
    (hpl : (backTo pos (starEach es X.env)).any (·.1) = false := by rfl) :
    PE X (.Call (.Name x p) (e :: es) [] pos) (tCallS sp E t) := by
  obtain ⟨f, fd, F, h1, h2, h3⟩ := C
  exact pe_callS F (hr.mono hj) hg h1 h2 h3 hx ha hdb he hpl
end
theorem passL {X : Cx} (σ : L2.St) : PassesAt (L2.CX X.prog X.w) X σ E0 := fun _ _ _ _ _ _ ⟨_, _, _, _, _, _, _, _, _, _, _, _, h⟩ => h.elim
end KV
/-! the law's arithmetic -/
namespace KV
open PySem PySem.Spec PyProof.Rows L2 KC
theorem shownAll_ints : ∀ ns : List Int, PyData.shownAll (ns.map PyData.int) = ns.map fun n => Str.ofString (toString n)
  | [] => rfl
  | n :: r => by
    show (PyData.int n).shown :: PyData.shownAll (r.map PyData.int) = _
    rw [shownAll_ints r]
    rfl
theorem piled_le : ∀ ts : List Str, (∀ t ∈ ts, t.length ≤ 1921) → piled ts ≤ 1923 * ts.length
  | [], _ => Nat.le_refl _
  | t :: r, h => by
    have h1 := h t (by simp)
    have h2 := piled_le r fun x hx => h x (by simp [hx])
    rw [piled_cons, List.length_cons]
    omega
theorem shown_len {ns : List Int} (hb : ∀ n ∈ ns, n.natAbs.log2 < 1920) (hl : ns.length ≤ 1000) : (PyData.tuple (ns.map PyData.int)).shown.length ≤ sizeLine := by
  show (tupleText (PyData.shownAll (ns.map PyData.int))).length ≤ sizeLine
  rw [shownAll_ints]
  have hp := piled_le (ns.map fun n => Str.ofString (toString n)) fun t ht => by
    obtain ⟨n, hn, rfl⟩ := List.mem_map.mp ht
    exact int_text_len_1921 (hb n hn)
  rw [List.length_map] at hp
  have hj : (Str.join ", " (ns.map fun n => Str.ofString (toString n))).length ≤ 1923 * 1000 := by
    cases e : ns with
    | nil => show 0 ≤ _; omega
    | cons n r =>
      have := join_length_add (ns.map fun n => Str.ofString (toString n)) (by rw [e]; simp)
      rw [e] at this hp hl
      omega
  unfold tupleText
  rw [strLen_append, strLen_append]
  have e1 : (("(" : String) : Str).length = 1 := rfl
  have e2 : (((if ((ns.map fun n => Str.ofString (toString n)).length == 1) = true then ",)" else ")" : String)) : Str).length ≤ 2 := by
    split <;> decide
  have e3 : 1923 * 1000 + 3 ≤ sizeLine := by decide
  omega
theorem log_sm {k : Nat} {n : Int} (h : sm k n) (hk : k ≤ 1920) (h0 : 0 < k) : n.natAbs.log2 < 1920 := by
  by_cases z : n.natAbs = 0
  · rw [z]
    show Nat.log2 0 < 1920
    decide
  · exact Nat.lt_of_lt_of_le ((Nat.log2_lt z).mpr h) hk
end KV
/-! mathematics for the law -/
namespace KC
section
variable {n : Nat} {c : List Nat}
theorem und_of_comp {e : List Nat} (h : Chg n c) (le : e.length = n) (z : comp c e = tab n id) : Und n c e := by
  refine ⟨le, fun i hi => ?_⟩
  have l1 : c.getD i 0 < e.length := by rw [le]; exact h.at_lt hi
  rw [at_getD l1]
  have hi' : i < c.length := by rw [h.len]; exact hi
  have g := tab_get (n := n) (f := id) hi
  rw [← z] at g
  unfold comp at g
  rw [List.getElem?_map, at_getD hi'] at g
  exact g
theorem chg_perm {ms : List Nat} (h : ms.Perm (tab n id)) : Chg n ms := by
  have z : tab n id = List.range n := by unfold tab; simp
  rw [z] at h
  refine ⟨by rw [h.length_eq, List.length_range], fun x hx => List.mem_range.mp (h.mem_iff.mp hx), (h.nodup_iff).mpr List.nodup_range⟩
theorem tab_id_iff {m : Nat} : tab n (it c m) = tab n id ↔ ∀ i, i < n → it c m i = i :=
  ⟨fun e i hi => tab_inj e i hi, fun e => tab_congr fun i hi => e i hi⟩
end
end KC

/-! the law: a machine refused; a row asked -/
namespace KV
open PySem PySem.Spec PyProof.Rows L2 KC
theorem MkB.same {K : PySem.W.Frag} {H H' : Hp} (s : Same H H') {vc vst : V} {out : Option Int} (h : MkB K H vc vst out) : MkB K H' vc vst out := by
  have sq : ∀ {r : Addr} {es : List V}, (H r = some (.lst es) ∨ H r = some (.tup es)) → (H' r = some (.lst es) ∨ H' r = some (.tup es)) := fun h => h.elim (fun z => .inl (s _ _ z)) fun z => .inr (s _ _ z)
  cases out with
  | none =>
    obtain ⟨m, r, es, rows, h1, h2, h3, h4, h5, h6, h7⟩ := h
    exact ⟨m, r, es, rows, h1, h2, h3, h4, sq h5, h6.same s, h7⟩
  | some a =>
    rcases h with ⟨h1, h2, h3⟩ | ⟨m, ms, h1, h2, h3, h4⟩ | ⟨m, r, es, i, e, ms, h1, h2, h3, h4, h5, h6, h7, h8, h9⟩ | ⟨m, r, es, rows, k, h1, h2, h3, h4, h5, h6, h7⟩
    · exact .inl ⟨h1, h2.same s, h3⟩
    · exact .inr (.inl ⟨m, ms, h1, h2, h3.same s, h4⟩)
    · exact .inr (.inr (.inl ⟨m, r, es, i, e, ms, h1, h2, h3, sq h4, h5, h6, fun j e hj he => by obtain ⟨ms, a, b⟩ := h7 j e hj he; exact ⟨ms, a.same s, b⟩, h8.same s, h9⟩))
    · exact .inr (.inr (.inr ⟨m, r, es, rows, k, h1, h2, h3, h4, sq h5, h6.same s, h7⟩))
section
variable {P : Program} {w : World} {K : PySem.W.Frag} {mg : Str → Option Value} {base : Heap} {Cm C fI fE fT C2 fT2 : Addr} {fdI : FuncData}
def spRfs (K : PySem.W.Frag) : Sp := fun vs H Q _ => ∃ (vc vst : V) (n : Int), vs = [vc, vst] ∧ MkB K H vc vst (some n) ∧ ∀ H', Same H H' → Q (.int n) H'
theorem rel2 {v : V} {u : Value} {zs : List V} {ws : List Value} (r : RelV v u) (h : Vals zs ws) : Vals (v :: zs.reverse) (u :: ws.reverse) := .cons r (vals_rev h)
def spAskR (K : PySem.W.Frag) (Cm : Addr) : Sp := fun vs H Q _ => ∃ (x : Addr) (form : Int) (v : V) (n : Nat) (cs : List (List Nat)), vs = [.ref x, .int form, v] ∧ Mc K Cm H x n cs ∧ n ≤ 16 ∧
  ((∃ rw_ : List Nat, SqV K H v (some (vi rw_)) ∧ (∀ k ∈ rw_, k < cs.length) ∧ ∀ (t : Addr) (H' : Hp), Same H H' → H' t = some (.tup (vi (if form = 0 then rw_ else (List.range n).map (ends cs rw_)))) → Q (.ref t) H') ∨
    ∃ (ms : Option (List V)) (at_ : Int), SqV K H v ms ∧ RowB K H (cs.length : Int) ms at_ ∧ ∀ (l : Addr) (H' : Hp), Same H H' → H' l = some (.lst [.int at_]) → Q (.ref l) H')
end
end KV

/-! a text times an int -/
namespace KV
open PySem PySem.Spec PyProof.Rows L2
def rRepS : R2 := fun x y H Q => ∃ (z : Str) (k : Int), x = .str z ∧ y = .int k ∧ 1 ≤ k ∧ k ≤ 1000 ∧ z.length = 1 ∧ ∀ y', Q (.str y') H
theorem op_repS {X : Cx} : OpR X (binaryOp .Mult) rRepS := by
  intro pins s σ H x y v u Q I rx ry h
  obtain ⟨z, k, rfl, rfl, h1, h2, hz, q⟩ := h
  obtain ⟨t, rfl⟩ := rx
  obtain ⟨t2, rfl⟩ := ry
  have hm : z.length * k.toNat ≤ sizeLine := by
    rw [hz]
    exact Nat.le_trans (show 1 * k.toNat ≤ 1000 by omega) (by decide)
  have hT : PySem.Builtin.Str.tooLong (z.length * k.toNat) = false := by
    unfold PySem.Builtin.Str.tooLong
    exact decide_eq_false (by omega)
  refine PySem.P.mul_str ?_ (fun _ _ => ?_) (fun _ _ => hT) ?_
  · rw [decide_eq_false (by omega), decide_eq_false (by omega)]
    rfl
  · rw [hz]
    intro e
    have e1 : (2 ^ 63 - 1 : Int) / k < 1 := e
    have e2 : (1 : Int) ≤ (2 ^ 63 - 1) / k := (Int.le_ediv_iff_mul_le (by omega)).mpr (by omega)
    omega
  · rw [if_neg (by omega)]
    split
    · exact ⟨.str z, H, I, ⟨_, rfl⟩, q _⟩
    · exact ⟨fits_reps hT, .str _, H, I.tok _, ⟨_, rfl⟩, q _⟩
end KV

/-! the law: what is no machine -/
namespace KV
open PySem PySem.Spec PyProof.Rows L2 KC
theorem sm_nat {k n : Nat} (h : n < 2 ^ k) : sm k (n : Int) := by
  show ((n : Nat) : Int).natAbs < 2 ^ k
  omega
/-- a literal: an int, None, a bool, a text, a tuple -/
def Lit (H : Hp) (v : V) : Prop := (∃ i : Int, v = .int i) ∨ v = .non ∨ (∃ b, v = .bl b) ∨ (∃ z, v = .str z) ∨ ∃ (a : Addr) (xs : List V), v = .ref a ∧ H a = some (.tup xs)
theorem Lit.same {H H' : Hp} (s : Same H H') {v : V} (h : Lit H v) : Lit H' v := by
  rcases h with h | h | h | h | ⟨a, xs, e, ha⟩
  · exact .inl h
  · exact .inr (.inl h)
  · exact .inr (.inr (.inl h))
  · exact .inr (.inr (.inr (.inl h)))
  · exact .inr (.inr (.inr (.inr ⟨a, xs, e, s _ _ ha⟩)))
theorem Lit.kp {d c : Addr} {H H' : Hp} (D : Dl H d c) (k : Kp d c H H') {v : V} (h : Lit H v) : Lit H' v := by
  rcases h with h | h | h | h | ⟨a, xs, e, ha⟩
  · exact .inl h
  · exact .inr (.inl h)
  · exact .inr (.inr (.inl h))
  · exact .inr (.inr (.inr (.inl h)))
  · exact .inr (.inr (.inr (.inr ⟨a, xs, e, k _ _ (D.neT ha).1 (D.neT ha).2 ha⟩)))
theorem Lit.any {K : PySem.W.Frag} {H : Hp} {v : V} (h : Lit H v) : AnyV K H v := by
  rcases h with ⟨i, rfl⟩ | rfl | ⟨b, rfl⟩ | ⟨z, rfl⟩ | ⟨a, xs, rfl, ha⟩
  · exact .int i
  · exact .non
  · exact .bl b
  · exact .str z
  · exact .tup ha
/-- what holds no line -/
def Emp (d c : Addr) (H : Hp) (v : V) : Prop := v = .non ∨ (∃ i, v = .int i) ∨ (∃ z, v = .str z) ∨ ∃ a : Addr, v = .ref a ∧ a ≠ d ∧ a ≠ c ∧ (H a = some (.lst []) ∨ H a = some (.tup []) ∨ H a = some (.dK []))
theorem Emp.kp {d c : Addr} {H H' : Hp} (k : Kp d c H H') {v : V} (h : Emp d c H v) : Emp d c H' v := by
  rcases h with h | h | h | ⟨a, e, n1, n2, ha⟩
  · exact .inl h
  · exact .inr (.inl h)
  · exact .inr (.inr (.inl h))
  · exact .inr (.inr (.inr ⟨a, e, n1, n2, by rcases ha with h | h | h; exact .inl (k _ _ n1 n2 h); exact .inr (.inl (k _ _ n1 n2 h)); exact .inr (.inr (k _ _ n1 n2 h))⟩))
theorem Emp.sq {K : PySem.W.Frag} {d c : Addr} {H : Hp} {v : V} (h : Emp d c H v) : ∃ ms, SqV K H v ms ∧ (ms = none ∨ ms = some []) := by
  rcases h with rfl | ⟨i, rfl⟩ | ⟨z, rfl⟩ | ⟨a, rfl, _, _, ha⟩
  · exact ⟨none, ⟨"NoneType", .base .non, by simp⟩, .inl rfl⟩
  · exact ⟨none, ⟨"int", .base (.int i), by simp⟩, .inl rfl⟩
  · exact ⟨none, ⟨"str", .base (.str z), by simp⟩, .inl rfl⟩
  · rcases ha with ha | ha | ha
    · exact ⟨some [], ⟨a, rfl, .inl ha⟩, .inr rfl⟩
    · exact ⟨some [], ⟨a, rfl, .inr ha⟩, .inr rfl⟩
    · exact ⟨none, ⟨"dict", .base (.dK ha), by simp⟩, .inl rfl⟩
theorem cut_from {xs : List V} {s : Nat} (h : s ≤ xs.length) : cutV xs (some (s : Int)) none = xs.drop s := by
  unfold cutV
  rw [HT.sIx_nat, show HT.sIx xs.length xs.length none = xs.length from rfl, Nat.min_eq_left h]
  exact List.take_of_length_le (by rw [List.length_drop]; exact Nat.le_refl _)
theorem cut_to {xs : List V} {s : Nat} (h : s ≤ xs.length) : cutV xs none (some (s : Int)) = xs.take s := by
  unfold cutV
  rw [HT.sIx_nat, show HT.sIx xs.length 0 none = 0 from rfl, Nat.min_eq_left h, List.drop_zero, Nat.sub_zero]
theorem cut_m1 {xs : List V} (h : 0 < xs.length) : (cutV xs none (some (-1))).length = xs.length - 1 := by
  unfold cutV
  have e : HT.sIx xs.length xs.length (some (-1)) = xs.length - 1 := by
    show (if (-1 : Int) < 0 then ((-1 : Int) + (xs.length : Int)).toNat else min (-1 : Int).toNat xs.length) = _
    rw [if_pos (by decide)]
    omega
  rw [e, show HT.sIx xs.length 0 none = 0 from rfl, List.drop_zero, List.length_take]
  omega
/-- lists of lists of ints held against [] -/
theorem lns_data {K : PySem.W.Frag} {H : Hp} : ∀ {xs : List V}, (∀ x ∈ xs, ∃ (b : Addr) (ns : List Int), x = .ref b ∧ H b = some (.lst (ns.map V.int))) → ∃ ds, DpAll K H xs ds ∧ PyData.canLayAll0 ds = true ∧ PyData.depthAll ds ≤ 5 ∧ (xs = [] ↔ ds = [])
  | [], _ => ⟨[], .nil, rfl, by decide, by simp⟩
  | x :: r, h => by
    obtain ⟨ds, h1, h2, h3, h4⟩ := lns_data (K := K) (xs := r) fun y hy => h y (List.mem_cons_of_mem _ hy)
    obtain ⟨b, ns, rfl, hb⟩ := h x (by simp)
    refine ⟨.list (ns.map PyData.int) :: ds, .cons (.lst (SqL.of hb) (dp_ints ns)) h1, ?_, ?_, by simp⟩
    · simp only [PyData.canLayAll0, PyData.canLay0, canLay_ints, h2, Bool.and_self]
    · simp only [PyData.depthAll, PyData.depth, depth_ints]
      omega
theorem lns_ne {K : PySem.W.Frag} {H : Hp} {a b : Addr} {xs : List V} {Q : VK} (h1 : SqL K H a xs) (he : ∀ x ∈ xs, ∃ (b : Addr) (ns : List Int), x = .ref b ∧ H b = some (.lst (ns.map V.int))) (h2 : SqL K H b []) (q : Q (.bl (!decide (xs = []))) H) : rNeD K (.ref a) (.ref b) H Q := by
  obtain ⟨ds, d1, d2, d3, d4⟩ := lns_data (K := K) he
  refine ⟨_, _, .lst h1 d1, .lst h2 .nil, ?_, by decide +kernel, ?_⟩
  · unfold SeqAt.shaped
    rw [Bool.and_eq_true]
    refine ⟨?_, decide_eq_true ?_⟩
    · simp only [PyData.canLay0, d2]
    · simp only [PyData.depth]
      omega
  · have e : PyData.eqv (.list ds) (.list []) = decide (xs = []) := by
      cases ds with
      | nil => rw [d4.mpr rfl]; rfl
      | cons y r =>
        have : xs ≠ [] := fun z => by have := d4.mp z; cases this
        rw [decide_eq_false this]
        rfl
    rw [e]
    exact q
theorem row_ok {K : PySem.W.Frag} {H : Hp} {n j : Nat} {cs : List (List Nat)} {b : Addr} (hb : H b = some (.lst (vi (row cs j)))) (hc : ∀ e ∈ cs, Chg n e) (c4 : cs.length ≤ 4) (hj : j < n) : ∃ ms, EnO K H (.ref b) ms ∧ entB (cs.length : Int) (n : Int) ms = true := by
  have l : (vi (row cs j)).length = cs.length := by unfold row; rw [List.length_map, List.length_map]
  refine ⟨some (vi (row cs j)), ⟨⟨b, rfl, .inl hb⟩, fun xs hx => ?_⟩, ?_⟩
  · cases hx
    exact ⟨fun x hx => by obtain ⟨y, _, rfl⟩ := List.mem_map.mp hx; exact .int _, by omega⟩
  · show (decide (((vi (row cs j)).length : Int) = (cs.length : Int)) && (vi (row cs j)).all (belB (n : Int))) = true
    rw [Bool.and_eq_true]
    refine ⟨decide_eq_true (by omega), ?_⟩
    rw [List.all_eq_true]
    intro x hx
    obtain ⟨y, hy, rfl⟩ := List.mem_map.mp hx
    unfold row at hy
    obtain ⟨e, he, rfl⟩ := List.mem_map.mp hy
    have := (hc e he).at_lt hj
    show (decide ((0 : Int) ≤ ((e.getD j 0 : Nat) : Int)) && decide (((e.getD j 0 : Nat) : Int) < (n : Int))) = true
    rw [decide_eq_true (by omega), decide_eq_true (by omega)]
    rfl
/-- a line that is wrong by its kind or by its length -/
def BdE (d c : Addr) (H : Hp) (m : Int) (x : V) : Prop := x = .non ∨ (∃ i, x = .int i) ∨ (∃ z, x = .str z) ∨ ∃ (a : Addr) (ns : List Int), x = .ref a ∧ a ≠ d ∧ a ≠ c ∧ H a = some (.lst (ns.map V.int)) ∧ (ns.length : Int) ≠ m ∧ ns.length ≤ 100
theorem BdE.kp {d c : Addr} {H H' : Hp} (k : Kp d c H H') {m : Int} {x : V} (h : BdE d c H m x) : BdE d c H' m x := by
  rcases h with h | h | h | ⟨a, ns, e, n1, n2, ha, r⟩
  · exact .inl h
  · exact .inr (.inl h)
  · exact .inr (.inr (.inl h))
  · exact .inr (.inr (.inr ⟨a, ns, e, n1, n2, k _ _ n1 n2 ha, r⟩))
theorem BdE.bad {K : PySem.W.Frag} {d c : Addr} {H : Hp} {m n : Int} {x : V} (h : BdE d c H m x) : ∃ ms, EnO K H x ms ∧ entB m n ms = false := by
  rcases h with rfl | ⟨i, rfl⟩ | ⟨z, rfl⟩ | ⟨a, ns, rfl, _, _, ha, l, hl⟩
  · exact ⟨none, ⟨⟨"NoneType", .base .non, by simp⟩, fun xs h => by cases h⟩, rfl⟩
  · exact ⟨none, ⟨⟨"int", .base (.int i), by simp⟩, fun xs h => by cases h⟩, rfl⟩
  · exact ⟨none, ⟨⟨"str", .base (.str z), by simp⟩, fun xs h => by cases h⟩, rfl⟩
  · refine ⟨some (ns.map V.int), ⟨⟨a, rfl, .inl ha⟩, fun xs h => ?_⟩, ?_⟩
    · cases h
      exact ⟨fun x hx => by obtain ⟨y, _, rfl⟩ := List.mem_map.mp hx; exact .int _, by rw [List.length_map]; omega⟩
    · show (decide (((ns.map V.int).length : Int) = m) && _) = false
      rw [List.length_map, decide_eq_false l, Bool.false_and]
theorem Dl.updn {H : Hp} {d c p : Addr} {o : HO} (h : Dl H d c) (n1 : p ≠ d) (n2 : p ≠ c) : Dl (L2.upd H p o) d c := by
  obtain ⟨ne, cs, b, h1, h2, r⟩ := h
  exact ⟨ne, cs, b, by rw [upd_ne n1.symm]; exact h1, by rw [upd_ne n2.symm]; exact h2, r⟩
/-- a line with a wrong item -/
theorem set_bad {K : PySem.W.Frag} {H : Hp} {a : Addr} {c : List Nat} {j : Nat} {x : V} {m n : Int} (ha : H a = some (.lst ((vi c).set j x))) (hj : j < c.length) (hl : c.length ≤ 100) (hx : AnyV K H x) (hb : belB n x = false) : ∃ ms, EnO K H (.ref a) ms ∧ entB m n ms = false := by
  refine ⟨some ((vi c).set j x), ⟨⟨a, rfl, .inl ha⟩, fun xs h => ?_⟩, ?_⟩
  · cases h
    refine ⟨fun y hy => ?_, by rw [List.length_set]; simp only [vi, List.length_map]; omega⟩
    rcases List.mem_or_eq_of_mem_set hy with z | z
    · obtain ⟨i, _, rfl⟩ := List.mem_map.mp z
      exact .int _
    · rw [z]
      exact hx
  · show (decide ((((vi c).set j x).length : Int) = m) && ((vi c).set j x).all (belB n)) = false
    rw [Bool.and_eq_false_iff]
    refine .inr ?_
    rw [List.all_eq_false]
    refine ⟨x, List.mem_iff_getElem?.mpr ⟨j, by rw [List.getElem?_set_self (by simp only [vi, List.length_map]; exact hj)]⟩, by rw [hb]; decide⟩
/-- lines of which the one at a place is wrong -/
theorem wr2 {K : PySem.W.Frag} {H : Hp} {p : Addr} {n at_ : Nat} {rs : List Addr} {cs : List (List Nat)} {es' : List V} {x : V} {ms : Option (List V)} (hp : H p = some (.lst ((rs.map V.ref).take at_ ++ [x] ++ es'))) (hrow : ∀ (j : Nat) (b : Addr), rs[j]? = some b → H b = some (.lst (vi (row cs j)))) (hl : rs.length = n) (an : at_ < n) (n12 : n ≤ 12) (c1 : 1 ≤ cs.length) (c4 : cs.length ≤ 4)
    (hc : ∀ e ∈ cs, Chg n e) (el : es'.length = n - (at_ + 1)) (hx : EnO K H x ms) (hB : entB (cs.length : Int) (n : Int) ms = false) : MkB K H (.int (cs.length : Int)) (.ref p) (some (2 + (at_ : Int))) := by
  have tl : ((rs.map V.ref).take at_).length = at_ := by rw [List.length_take, List.length_map]; omega
  have len : ((rs.map V.ref).take at_ ++ [x] ++ es').length = n := by
    rw [List.length_append, List.length_append, tl, el]
    show at_ + 1 + (n - (at_ + 1)) = n
    omega
  refine .inr (.inr (.inl ⟨(cs.length : Int), p, _, at_, x, ms, rfl, by omega, rfl, .inl hp, by omega, ?_, fun j e hj he => ?_, hx, by rw [len]; exact hB, rfl⟩))
  · rw [List.append_assoc, List.getElem?_append_right (by omega), tl, Nat.sub_self]
    rfl
  · rw [List.append_assoc, List.getElem?_append_left (by omega), List.getElem?_take_of_lt hj, List.getElem?_map] at he
    cases eb : rs[j]? with
    | none => rw [eb] at he; cases he
    | some b =>
      rw [eb] at he
      have e2 : e = .ref b := (Option.some.inj he).symm
      subst e2
      rw [len]
      exact row_ok (hrow j b eb) hc c4 (by omega)
theorem row_get {cs : List (List Nat)} {j k : Nat} (h : k < cs.length) : (row cs j).getD k 0 = (cs[k]).getD j 0 := by
  unfold row
  rw [List.getD_eq_getElem?_getD, List.getElem?_map, List.getElem?_eq_getElem h]
  rfl
/-- the lines, one of them another -/
def rws (n at_ : Nat) (R : List Nat) (cs : List (List Nat)) : List (List Nat) := (List.range n).map fun j => if j = at_ then R else row cs j
theorem rws_len {n at_ : Nat} {R : List Nat} {cs : List (List Nat)} : (rws n at_ R cs).length = n := by
  unfold rws
  rw [List.length_map, List.length_range]
theorem rws_at {n at_ j : Nat} {R : List Nat} {cs : List (List Nat)} (h : j < n) : (rws n at_ R cs)[j]? = some (if j = at_ then R else row cs j) := by
  unfold rws
  rw [List.getElem?_map, List.getElem?_range h]
  rfl
theorem rws_col {n at_ k : Nat} {R : List Nat} {cs : List (List Nat)} (hk : k < cs.length) (hR : R.getD k 0 = (row cs at_).getD k 0) (hc : ∀ e ∈ cs, Chg n e) : (col (rws n at_ R cs) k).Nodup := by
  have hg := hc _ (List.getElem_mem hk)
  have e : col (rws n at_ R cs) k = cs[k] := by
    rw [eq_tab hg.len]
    unfold col rws tab
    rw [List.map_map]
    refine List.map_congr_left fun j _ => ?_
    show (if j = at_ then R else row cs j).getD k 0 = (cs[k]).getD j 0
    by_cases z : j = at_
    · rw [if_pos z, hR, row_get hk, z]
    · rw [if_neg z, row_get hk]
  rw [e]
  exact hg.nd
theorem rws_dup {n at_ nx k : Nat} {R : List Nat} {cs : List (List Nat)} (ha : at_ < n) (hn : nx < n) (ne : nx ≠ at_) (hR : R.getD k 0 = (row cs nx).getD k 0) : ¬ (col (rws n at_ R cs) k).Nodup := fun nd => by
  have l : (col (rws n at_ R cs) k).length = n := by unfold col; rw [List.length_map, rws_len]
  have g : ∀ {j : Nat} (h : j < n), (col (rws n at_ R cs) k)[j]? = some ((if j = at_ then R else row cs j).getD k 0) := fun h => by
    unfold col
    rw [List.getElem?_map, rws_at h]
    rfl
  have g1 := g ha
  have g2 := g hn
  rw [if_pos rfl, hR] at g1
  rw [if_neg ne] at g2
  rw [List.getElem?_eq_getElem (by rw [l]; exact ha)] at g1
  rw [List.getElem?_eq_getElem (by rw [l]; exact hn)] at g2
  exact ne ((List.getElem_inj nd).mp ((Option.some.inj g2).trans (Option.some.inj g1).symm))
/-- the changed list of lines -/
theorem es_at {rs : List Addr} {n at_ j : Nat} {wr : Addr} (hl : rs.length = n) (ha : at_ < n) (hj : j < n) : ((rs.map V.ref).take at_ ++ [V.ref wr] ++ (rs.map V.ref).drop (at_ + 1))[j]? = if j = at_ then some (V.ref wr) else (rs.map V.ref)[j]? := by
  have tl : ((rs.map V.ref).take at_).length = at_ := by rw [List.length_take, List.length_map]; omega
  by_cases z : j = at_
  · rw [if_pos z, z, List.append_assoc, List.getElem?_append_right (by omega), tl, Nat.sub_self]
    rfl
  · rw [if_neg z]
    by_cases y : j < at_
    · rw [List.append_assoc, List.getElem?_append_left (by omega), List.getElem?_take_of_lt y]
    · rw [List.getElem?_append_right (by rw [List.length_append, tl]; show at_ + 1 ≤ j; omega), List.length_append, tl, List.getElem?_drop]
      congr 1
      show at_ + 1 + (j - (at_ + 1)) = j
      omega
theorem es_len {rs : List Addr} {n at_ : Nat} {wr : Addr} (hl : rs.length = n) (ha : at_ < n) : ((rs.map V.ref).take at_ ++ [V.ref wr] ++ (rs.map V.ref).drop (at_ + 1)).length = n := by
  rw [List.length_append, List.length_append, List.length_take, List.length_drop, List.length_map]
  show min at_ rs.length + 1 + _ = n
  omega
section
variable {P : Program} {w : World} {K : PySem.W.Frag} {mg : Str → Option Value} {base : Heap}
def spWrM (K : PySem.W.Frag) : Sp := fun vs H Q _ => ∃ (d c r : Addr) (n : Nat) (rs : List Addr) (cs : List (List Nat)), vs = [.ref d, .int (cs.length : Int), .ref r] ∧ Dl H d c ∧ Stp H r n rs cs ∧ (∀ b ∈ r :: rs, b ≠ d ∧ b ≠ c) ∧ 1 ≤ n ∧ n ≤ 12 ∧ 1 ≤ cs.length ∧ cs.length ≤ 4 ∧ (∀ e ∈ cs, Chg n e) ∧
  ∀ (p : Addr) (vc vst : V) (num : Int) (H' : Hp), H' p = some (.tup [vc, vst, .int num]) → MkB K H' vc vst (some num) → Dl H' d c → Kp d c H H' → Q (.ref p) H'
set_option maxHeartbeats 8000000 in
end
end KV

/-! tuples joined, cut, repeated: what comes out holds the items, at some address -/
namespace KV
open PySem PySem.Spec PyProof.Rows L2 KC
theorem mul_tuple1 (l : Addr) (items : Array Value) (n : Nat) (dd : Option Addr) (sl : Array (Option Value)) (u : Tok) (hne : items.isEmpty = false) :
    Meets (Builtin.«tuple.__mul__» ⟨[.ref l, .int 1 u], []⟩) (fun _ R s => s.heap.get? l = some { cls := .type "tuple", dict := dd, data := .seq items n, slots := sl } ∧ R (.ok (.ret (Value.ref l))) s) :=
  .of_wp fun prog w A R s h => by
    obtain ⟨hp, g, d, tk, os⟩ := s
    obtain ⟨hl, h⟩ := h
    have f1 := AutoSeq1.idx_int
    wp_walk using wpAny_loadPart' hl
    exact ⟨_, rfl, h⟩
section
variable {X : Cx}
def rRep1 : R2 := fun x y H Q => ∃ l xs, x = .ref l ∧ y = .int 1 ∧ H l = some (.tup xs) ∧ xs ≠ [] ∧ Q (.ref l) H
theorem op_rep1 : OpR X (binaryOp .Mult) rRep1 := by
  intro pins s σ H x y v u Q I rx ry h
  obtain ⟨l, xs, rfl, rfl, hT, hne, q⟩ := h
  cases rx
  obtain ⟨t, rfl⟩ := ry
  obtain ⟨its, r, ⟨⟨cls, dd, data, sl⟩, ho, hc, n, hd⟩, hs⟩ := I.tuple (SqT.of hT)
  simp only at hc hd
  subst hc hd
  have hle : its.length = xs.length := r.length.symm
  have hi : its.toArray.isEmpty = false := by
    cases its with
    | nil => exact absurd (List.eq_nil_of_length_eq_zero hle.symm) hne
    | cons a b => rfl
  exact wpAny_binaryOp_repeat_ref (T := "tuple") (U := "int") (by decide) ⟨_, ho, rfl⟩ (fun s' => typeIs_int s' 1 t) noFill_tuple_mul F.fills_int_mul F.slot_int_rmul repeat_tuple F.slot_int_index.lookup
    (call_meets F.slot_int_rmul (typeIs_int s 1 t) F.entry_int_rmul (F.args_int_rmul_2 _ _) (int_rmul_tuple 1 t l its.toArray n dd sl)
      ⟨ho, rfl, ⟨_, ho, rfl⟩, call_meets F.slot_tuple_mul ⟨_, ho, rfl⟩ F.entry_tuple_mul (F.args_tuple_mul_2 _ _) (mul_tuple1 l its.toArray n dd sl t hi) ⟨ho, .ref l, H, I, rfl, q⟩⟩)
def rRepP : R2 := fun x y H Q => ∃ (l : Addr) (k : Int) (xs : List V), x = .ref l ∧ y = .int k ∧ H l = some (.tup xs) ∧ xs ≠ [] ∧ 1 ≤ k ∧ k ≤ 1000 ∧ xs.length ≤ 1000 ∧ ∀ p H', Same H H' → H' p = some (.tup (List.replicate k.toNat xs).flatten) → Q (.ref p) H'
theorem op_repP : OpR X (binaryOp .Mult) rRepP := by
  intro pins s σ H x y v u Q I rx ry h
  obtain ⟨l, k, xs, rfl, rfl, hT, hne, h1, h2, hz, q⟩ := h
  by_cases e : k = 1
  · subst e
    exact op_rep1 pins s σ H _ _ v u Q I rx ry ⟨l, xs, rfl, rfl, hT, hne, q l H (Same.refl H) (by
      show H l = some (.tup (xs ++ []))
      rw [List.append_nil]
      exact hT)⟩
  · exact op_repT pins s σ H _ _ v u Q I rx ry ⟨l, k, xs, rfl, rfl, SqT.of hT, hne, by omega, h2, hz, fun p hp => q p _ (Same.new hp) upd_same⟩
def rCatP : R2 := fun x y H Q => ∃ (a b : Addr) (xs ys : List V), x = .ref a ∧ y = .ref b ∧ H a = some (.tup xs) ∧ H b = some (.tup ys) ∧ xs.length + ys.length ≤ 1000 ∧ ∀ p H', Same H H' → H' p = some (.tup (xs ++ ys)) → Q (.ref p) H'
theorem op_catP : OpR X (binaryOp .Add) rCatP := by
  intro pins s σ H x y v u Q I rx ry h
  obtain ⟨a, b, xs, ys, rfl, rfl, ha, hb, hz, q⟩ := h
  exact op_catA pins s σ H _ _ v u Q I rx ry ⟨a, b, xs, ys, rfl, rfl, SqT.of ha, SqT.of hb, Nat.le_of_lt (len_lt hz), fun e => q b H (Same.refl H) (by rw [e, hb]; rfl), fun _ e => q a H (Same.refl H) (by rw [e, ha, List.append_nil]),
    fun _ _ p hp => q p _ (Same.new hp) upd_same⟩
def rSlP : V → Option Int → Option Int → Hp → VK → Prop := fun x lo hi H Q => ∃ (a : Addr) (xs : List V), x = .ref a ∧ H a = some (.tup xs) ∧ ∀ p H', Same H H' → H' p = some (.tup (cutV xs lo hi)) → Q (.ref p) H'
theorem sl_tupP : SlR X rSlP := by
  intro pins s σ H x v vl vu lo hi sl Q I rx hs pl pu h
  obtain ⟨a, xs, rfl, hx, q⟩ := h
  refine sl_tupA pins s σ H _ v vl vu lo hi sl Q I rx hs pl pu ⟨a, xs, rfl, SqT.of hx, fun e => q a H (Same.refl H) ?_, fun _ p hp => q p _ (Same.new hp) upd_same⟩
  unfold cutV
  rw [e.1, e.2, List.drop_zero, Nat.sub_zero, List.take_length]
  exact hx
end
theorem cutV_from (xs : List V) (k : Nat) : cutV xs (some (k : Int)) none = xs.drop k := by
  unfold cutV
  have e1 : HT.sIx xs.length 0 (some (k : Int)) = min k xs.length := HT.sIx_nat _ _ k
  have e2 : HT.sIx xs.length xs.length none = xs.length := rfl
  rw [e1, e2]
  rcases Nat.le_total k xs.length with h | h
  · rw [Nat.min_eq_left h, ← List.length_drop, List.take_length]
  · rw [Nat.min_eq_right h, List.drop_eq_nil_of_le h, List.drop_eq_nil_of_le (Nat.le_refl _), List.take_nil]
theorem cutV_to (xs : List V) (k : Nat) : cutV xs none (some (k : Int)) = xs.take k := by
  unfold cutV
  have e1 : HT.sIx xs.length 0 none = 0 := rfl
  have e2 : HT.sIx xs.length xs.length (some (k : Int)) = min k xs.length := HT.sIx_nat _ _ k
  rw [e1, e2, List.drop_zero, Nat.sub_zero]
  exact List.take_eq_take_min.symm
end KV

/-! repr of nested sequences -/
namespace KV
open PySem PySem.Spec PyProof.Rows L2
theorem shownAll_mp {α : Type} (g : α → PyData) : ∀ xs : List α, PyData.shownAll (xs.map g) = xs.map fun x => (g x).shown
  | [] => rfl
  | x :: r => by
    show (g x).shown :: PyData.shownAll (r.map g) = _
    rw [shownAll_mp g r]
    rfl
theorem piled_cap {c : Nat} : ∀ ts : List Str, (∀ t ∈ ts, t.length ≤ c) → piled ts ≤ (c + 2) * ts.length
  | [], _ => Nat.zero_le _
  | t :: r, h => by
    have a := h t List.mem_cons_self
    have b := piled_cap r fun u hu => h u (List.mem_cons_of_mem _ hu)
    rw [piled_cons, List.length_cons, Nat.mul_add, Nat.mul_one]
    omega
theorem tupText_cap {c : Nat} (ts : List Str) (h : ∀ t ∈ ts, t.length ≤ c) : (tupleText ts).length ≤ (c + 2) * ts.length + 3 := by
  have hp := piled_cap ts h
  unfold tupleText
  rw [strLen_append, strLen_append]
  have e1 : (("(" : String) : Str).length = 1 := rfl
  have e2 : (((if (ts.length == 1) = true then ",)" else ")" : String)) : Str).length ≤ 2 := by
    split <;> decide
  have hj : (Str.join ", " ts).length ≤ (c + 2) * ts.length := by
    cases ts with
    | nil => show 0 ≤ _; omega
    | cons n r =>
      have := join_length_add (n :: r) (by simp)
      omega
  omega
/-- a tuple of small numbers -/
def tpN (ns : List Nat) : PyData := .tuple (ns.map fun n => .int (n : Nat))
/-- what shows: it may be shown, no deeper than e, no longer than c -/
structure ShB (t : PyData) (e c : Nat) : Prop where
  sh : t.showable = true
  nd : t.hasDict = false
  dp : t.depth ≤ e
  ln : t.shown.length ≤ c
theorem ShB.all {c e : Nat} : ∀ {ts : List PyData}, (∀ t ∈ ts, ShB t e c) → PyData.showableAll ts = true ∧ PyData.hasDictAll ts = false ∧ PyData.depthAll ts ≤ e
  | [], _ => ⟨rfl, rfl, Nat.zero_le _⟩
  | t :: r, h => by
    obtain ⟨h1, h2, h3⟩ := ShB.all fun u hu => h u (List.mem_cons_of_mem _ hu)
    have g := h t List.mem_cons_self
    refine ⟨by simp only [PyData.showableAll, g.sh, h1, Bool.and_self], by simp only [PyData.hasDictAll, g.nd, h2, Bool.or_self], ?_⟩
    simp only [PyData.depthAll]
    have := g.dp
    omega
theorem ShB.tup {c e : Nat} {ts : List PyData} (h : ∀ t ∈ ts, ShB t e c) : ShB (.tuple ts) (e + 5) ((c + 2) * ts.length + 3) := by
  obtain ⟨h1, h2, h3⟩ := ShB.all h
  refine ⟨by simp only [PyData.showable]; exact h1, by simp only [PyData.hasDict]; exact h2, by simp only [PyData.depth]; omega, ?_⟩
  show (tupleText (PyData.shownAll ts)).length ≤ _
  have e := shownAll_mp (fun t : PyData => t) ts
  rw [List.map_id'] at e
  rw [e]
  have := tupText_cap (c := c) (ts.map fun x => x.shown) fun t ht => by
    obtain ⟨u, hu, rfl⟩ := List.mem_map.mp ht
    exact (h u hu).ln
  rw [List.length_map] at this
  exact this
theorem ShB.int {i : Int} (h : i.natAbs.log2 < 1920) : ShB (.int i) 0 1921 := ⟨by simp only [PyData.showable, h, decide_true], rfl, by simp only [PyData.depth]; exact Nat.le_refl _, int_text_len_1921 h⟩
theorem ShB.nat {n : Nat} (h : n ≤ 1000) : ShB (.int (n : Nat)) 0 1921 := ShB.int (by
  show (n : Nat).log2 < 1920
  have := Nat.log2_le_self n
  omega)
theorem ShB.mono {t : PyData} {e c e2 c2 : Nat} (h : ShB t e c) (he : e ≤ e2) (hc : c ≤ c2) : ShB t e2 c2 := ⟨h.sh, h.nd, Nat.le_trans h.dp he, Nat.le_trans h.ln hc⟩
theorem ShB.tpN {ns : List Nat} (h : ∀ n ∈ ns, n ≤ 1000) (hl : ns.length ≤ 1000) : ShB (tpN ns) 5 2000000 := (ShB.tup fun t ht => by
  obtain ⟨n, hn, rfl⟩ := List.mem_map.mp ht
  exact ShB.nat (h n hn)).mono (Nat.le_refl _) (by rw [List.length_map]; omega)
def rReprD (K : PySem.W.Frag) : List V → Hp → VK → Prop := fun xs H Q =>
  ∃ (a : Addr) (t : PyData) (e c : Nat), xs = [.ref a] ∧ Dp K H (.ref a) t ∧ ShB t e c ∧ e ≤ 30 ∧ c ≤ sizeLine ∧ Q (.str t.shown) H
theorem call_reprD {X : Cx} (hg : X.A.guards = some []) (hu : X.A.units + 64 < cLine) : CallR X (.builtin "repr") (rReprD X.K) := by
  intro pins s σ H xs us Q I r h
  obtain ⟨a, t, e, c, rfl, hd, h1, h3, h4, q⟩ := h
  obtain ⟨u, rfl, r1⟩ := vals1 r
  have r2 : RelV (.ref a) u := r1
  obtain ⟨as, rd⟩ := Dp.reads I t (.ref a) u hd r2
  have h5 := h1.dp
  cases r1
  refine repr_of_reads' rd h1.sh (fun z => ?_) hg (by omega) (fun _ _ z => z) (fun h' u tk kk => ?_) (Nat.le_trans h1.ln h4)
  · rw [h1.nd] at z
    cases z
  · exact ⟨.str _, H, I.kept kk, ⟨_, rfl⟩, q⟩
theorem dp_nats {K : PySem.W.Frag} {H : Hp} : ∀ ns : List Nat, DpAll K H (vi ns) (ns.map fun n => PyData.int (n : Nat))
  | [] => .nil
  | n :: r => .cons (.int n) (dp_nats r)
theorem dp_tpN {K : PySem.W.Frag} {H : Hp} {a : Addr} {ns : List Nat} (h : SqT K H a (vi ns)) : Dp K H (.ref a) (tpN ns) := .tup h (dp_nats ns)
/-- a tuple of tuples of small numbers -/
def tpR (rows : List (List Nat)) : PyData := .tuple (rows.map tpN)
theorem dpA_rows {K : PySem.W.Frag} {H : Hp} : ∀ (ts : List Addr) (rows : List (List Nat)), ts.length = rows.length → (∀ (s : Nat) (b : Addr), ts[s]? = some b → ∃ ro, rows[s]? = some ro ∧ H b = some (.tup (vi ro))) → DpAll K H (ts.map V.ref) (rows.map tpN)
  | [], [], _, _ => .nil
  | [], _ :: _, h, _ => by cases h
  | _ :: _, [], h, _ => by cases h
  | t :: ts, ro :: rows, h, g => by
    obtain ⟨r2, e, z⟩ := g 0 t rfl
    have : ro = r2 := Option.some.inj e
    subst this
    exact .cons (dp_tpN (SqT.of z)) (dpA_rows ts rows (Nat.succ.inj h) fun s b e => g (s + 1) b e)
theorem ShB.tpR {rows : List (List Nat)} (h : ∀ ro ∈ rows, (∀ n ∈ ro, n ≤ 1000) ∧ ro.length ≤ 4) (hl : rows.length ≤ 12) : ShB (tpR rows) 10 200000 := (ShB.tup (e := 5) (c := 7700) fun t ht => by
  obtain ⟨ro, hr, rfl⟩ := List.mem_map.mp ht
  refine (ShB.tup (e := 0) (c := 1921) fun t ht => ?_).mono (Nat.le_refl _) (by rw [List.length_map]; have := (h ro hr).2; omega)
  obtain ⟨n, hn, rfl⟩ := List.mem_map.mp ht
  exact ShB.nat ((h ro hr).1 n hn)).mono (Nat.le_refl _) (by rw [List.length_map]; omega)
/-- the triple that the law shows -/
def tp3 (m n : Nat) (rows : List (List Nat)) : PyData := .tuple [.int (m : Nat), .int (n : Nat), tpR rows]
theorem ShB.tp3 {m n : Nat} {rows : List (List Nat)} (hm : m ≤ 1000) (hn : n ≤ 1000) (h : ∀ ro ∈ rows, (∀ n ∈ ro, n ≤ 1000) ∧ ro.length ≤ 4) (hl : rows.length ≤ 12) : ShB (tp3 m n rows) 15 1000000 := (ShB.tup (e := 10) (c := 200000) (ts := [.int (m : Nat), .int (n : Nat), KV.tpR rows]) fun t ht => by
  simp only [List.mem_cons, List.not_mem_nil, or_false] at ht
  rcases ht with rfl | rfl | rfl
  · exact (ShB.nat hm).mono (by decide) (by decide)
  · exact (ShB.nat hn).mono (by decide) (by decide)
  · exact ShB.tpR h hl).mono (Nat.le_refl _) (by show (200000 + 2) * 3 + 3 ≤ 1000000; decide)
theorem dp_tp3 {K : PySem.W.Frag} {H : Hp} {p t : Addr} {ts : List Addr} {m n : Nat} {rows : List (List Nat)} (hp : H p = some (.tup [.int (m : Nat), .int (n : Nat), .ref t])) (ht : H t = some (.tup (ts.map V.ref))) (hl : ts.length = rows.length) (g : ∀ (s : Nat) (b : Addr), ts[s]? = some b → ∃ ro, rows[s]? = some ro ∧ H b = some (.tup (vi ro))) : Dp K H (.ref p) (tp3 m n rows) :=
  .tup (SqT.of hp) (.cons (.int _) (.cons (.int _) (.cons (.tup (SqT.of ht) (dpA_rows ts rows hl g)) .nil)))
end KV

/-! the law's machines -/
namespace KV
open PySem PySem.Spec PyProof.Rows L2 KC
section
variable {P : Program} {w : World} {K : PySem.W.Frag} {mg : Str → Option Value} {base : Heap} {Cm C fI fE : Addr} {fdI fdE : FuncData}
def rListOf (K : PySem.W.Frag) : List V → Hp → VK → Prop := fun xs H Q => ∃ p ys, xs = [.ref p] ∧ (SqL K H p ys ∨ SqT K H p ys) ∧ ∀ l, H l = none → Q (.ref l) (upd H l (.lst ys))
theorem call_listK {X : Cx} : CallR X (Value.type "list") (rListOf X.K) := call_list_of
theorem boot_lst : bootBuiltins ("list" : Str) = some (.type "list") := by decide +kernel
/-- what stands through the law -/
structure LMk (d c l r : Addr) (n : Nat) (bs : List Addr) (cs : List (List Nat)) (rs : List Addr) (H : Hp) : Prop where
  dl : Dl H d c
  gens : Gens H l n bs cs
  nl : l ≠ d ∧ l ≠ c
  stp : Stp H r n rs cs
  nr : ∀ b ∈ r :: rs, b ≠ d ∧ b ≠ c
theorem LMk.same {d c l r : Addr} {n : Nat} {bs : List Addr} {cs : List (List Nat)} {rs : List Addr} {H H' : Hp} (h : LMk d c l r n bs cs rs H) (s : Same H H') : LMk d c l r n bs cs rs H' := ⟨h.dl.same s, h.gens.same s, h.nl, h.stp.same s, h.nr⟩
theorem LMk.kp {d c l r : Addr} {n : Nat} {bs : List Addr} {cs : List (List Nat)} {rs : List Addr} {H H' : Hp} (h : LMk d c l r n bs cs rs H) (D : Dl H' d c) (k : Kp d c H H') : LMk d c l r n bs cs rs H' :=
  ⟨D, ⟨k _ _ h.nl.1 h.nl.2 h.gens.lst, tups_keep (fun b xs e => h.dl.kT k e) h.gens.tups, h.gens.chg, h.gens.n0, h.gens.c0⟩, h.nl, ⟨k _ _ (h.nr r (by simp)).1 (h.nr r (by simp)).2 h.stp.lst, h.stp.len, fun i b e => k _ _ (h.nr b (List.mem_cons_of_mem _ (List.mem_of_getElem? e))).1 (h.nr b (List.mem_cons_of_mem _ (List.mem_of_getElem? e))).2 (h.stp.row i b e), h.stp.nd⟩, h.nr⟩
theorem vi_injN {a b : List Nat} (h : vi a = vi b) : a = b := by
  have : zi a = zi b := by
    have z := h
    rw [vi_zi, vi_zi] at z
    exact List.map_inj_right (fun x y e => V.int.inj e) |>.mp z
  exact zi_inj.mp this
theorem LnS.uniq {H : Hp} {rows rows2 : List (List Nat)} {es : List V} (h : LnS H rows es) (g : LnS H rows2 es) : rows = rows2 := by
  refine List.ext_getElem? fun j => ?_
  by_cases z : j < es.length
  · obtain ⟨b, ro, e1, h1, h2⟩ := h.2 j _ (List.getElem?_eq_getElem z)
    obtain ⟨b2, ro2, e2, g1, g2⟩ := g.2 j _ (List.getElem?_eq_getElem z)
    rw [e1] at e2
    cases e2
    rw [h1, g1]
    rcases h2 with h2 | h2 <;> rcases g2 with g2 | g2 <;> have e := h2.symm.trans g2
    · injection e with e
      injection e with e
      rw [vi_injN e]
    · injection e with e
      injection e
    · injection e with e
      injection e
    · injection e with e
      injection e with e
      rw [vi_injN e]
  · rw [List.getElem?_eq_none (by have := h.1; omega), List.getElem?_eq_none (by have := g.1; omega)]
/-- all lines of a machine -/
def rowsOf (n : Nat) (cs : List (List Nat)) : List (List Nat) := (List.range n).map (row cs)
theorem rowsOf_at {n j : Nat} {cs : List (List Nat)} (h : j < n) : (rowsOf n cs)[j]? = some (row cs j) := by
  unfold rowsOf
  rw [List.getElem?_map, List.getElem?_range h]
  rfl
theorem rowsOf_len {n : Nat} {cs : List (List Nat)} : (rowsOf n cs).length = n := by
  unfold rowsOf
  rw [List.length_map, List.length_range]
theorem rowsOf_ok {n : Nat} {cs : List (List Nat)} (hc : ∀ e ∈ cs, Chg n e) : ∀ ro ∈ rowsOf n cs, ro.length = cs.length ∧ ∀ y ∈ ro, y < (rowsOf n cs).length := fun ro h => by
  unfold rowsOf at h
  obtain ⟨j, hj, rfl⟩ := List.mem_map.mp h
  rw [rowsOf_len]
  refine ⟨by unfold row; rw [List.length_map], fun y hy => ?_⟩
  unfold row at hy
  obtain ⟨e, he, rfl⟩ := List.mem_map.mp hy
  exact (hc e he).at_lt (List.mem_range.mp hj)
theorem rowsOf_los {n : Nat} {cs : List (List Nat)} (hc : ∀ e ∈ cs, Chg n e) : losK (rowsOf n cs) cs.length = none := losK_no fun k hk => by
  have hg := hc _ (List.getElem_mem hk)
  have e : col (rowsOf n cs) k = cs[k] := by
    rw [eq_tab hg.len]
    unfold col rowsOf tab
    rw [List.map_map]
    refine List.map_congr_left fun j _ => ?_
    exact row_get hk
  rw [e]
  exact hg.nd
/-- one line more: the new state, by all commands -/
theorem chg_snoc {n : Nat} {c : List Nat} (h : Chg n c) : Chg (n + 1) (c ++ [n]) :=
  ⟨by rw [List.length_append, h.len]; rfl, fun x hx => by
    rcases List.mem_append.mp hx with z | z
    · have := h.lt x z
      omega
    · rw [List.mem_singleton.mp z]
      omega, List.nodup_append.mpr ⟨h.nd, by simp, fun a ha b hb e => by
    rw [List.mem_singleton.mp hb] at e
    have := h.lt a ha
    omega⟩⟩
def moreC (n : Nat) (cs : List (List Nat)) : List (List Nat) := cs.map (· ++ [n])
theorem moreC_len {n : Nat} {cs : List (List Nat)} : (moreC n cs).length = cs.length := List.length_map ..
theorem moreC_chg {n : Nat} {cs : List (List Nat)} (hc : ∀ e ∈ cs, Chg n e) : ∀ e ∈ moreC n cs, Chg (n + 1) e := fun e he => by
  obtain ⟨c, h, rfl⟩ := List.mem_map.mp he
  exact chg_snoc (hc c h)
theorem moreC_row {n j : Nat} {cs : List (List Nat)} (hc : ∀ e ∈ cs, Chg n e) (hj : j < n) : row (moreC n cs) j = row cs j := by
  unfold row moreC
  rw [List.map_map]
  refine List.map_congr_left fun c h => ?_
  show (c ++ [n]).getD j 0 = _
  have := (hc c h).len
  rw [List.getD_eq_getElem?_getD, List.getElem?_append_left (by omega), ← List.getD_eq_getElem?_getD]
theorem moreC_last {n : Nat} {cs : List (List Nat)} (hc : ∀ e ∈ cs, Chg n e) : row (moreC n cs) n = List.replicate cs.length n := by
  unfold row moreC
  rw [List.map_map]
  refine List.eq_replicate_iff.mpr ⟨List.length_map .., fun b hb => ?_⟩
  obtain ⟨c, h, rfl⟩ := List.mem_map.mp hb
  show (c ++ [n]).getD n 0 = n
  have := (hc c h).len
  rw [List.getD_eq_getElem?_getD, List.getElem?_append_right (by omega), this, Nat.sub_self]
  rfl
/-- the first command once more -/
theorem row_snoc {cs : List (List Nat)} {e : List Nat} {j : Nat} : row (cs ++ [e]) j = row cs j ++ [e.getD j 0] := by
  unfold row
  rw [List.map_append]
  rfl
/-- the first and the last line changed about -/
def sw (n j : Nat) : Nat := if j = 0 then n - 1 else if j = n - 1 then 0 else j
theorem sw_lt {n j : Nat} (h : j < n) : sw n j < n := by
  unfold sw
  split <;> (try split) <;> omega
theorem sw_inj {n i j : Nat} (hi : i < n) (hj : j < n) (e : sw n i = sw n j) : i = j := by
  unfold sw at e
  split at e <;> split at e <;> (try split at e) <;> (try split at e) <;> omega
def turn (n : Nat) (c : List Nat) : List Nat := tab n fun j => c.getD (sw n j) 0
theorem turn_chg {n : Nat} {c : List Nat} (h : Chg n c) : Chg n (turn n c) :=
  chg_tab (fun i hi => h.at_lt (sw_lt hi)) fun i hi j hj e => sw_inj hi hj (h.at_inj (sw_lt hi) (sw_lt hj) e)
theorem turn_row {n j : Nat} {cs : List (List Nat)} (hj : j < n) : row (cs.map (turn n)) j = row cs (sw n j) := by
  unfold row
  rw [List.map_map]
  refine List.map_congr_left fun c _ => ?_
  show (turn n c).getD j 0 = _
  exact tab_getD hj
/-- the lines of a machine handed in -/
theorem lines_ok {K : PySem.W.Frag} {H : Hp} {r : Addr} {es : List V} {n : Nat} {cs : List (List Nat)} (hr : H r = some (.lst es) ∨ H r = some (.tup es)) (hl : es.length = n) (he : ∀ (j : Nat) (e : V), es[j]? = some e → ∃ b : Addr, e = .ref b ∧ (H b = some (.lst (vi (row cs j))) ∨ H b = some (.tup (vi (row cs j))))) (hc : ∀ e ∈ cs, Chg n e) (n0 : 0 < n) (n12 : n ≤ 1000) (c0 : 0 < cs.length) (c4 : cs.length ≤ 1000) :
    LnS H (rowsOf n cs) es ∧ MkB K H (.int (cs.length : Int)) (.ref r) none := by
  have L : LnS H (rowsOf n cs) es := ⟨by rw [hl, rowsOf_len], fun j e h => by
    have jn : j < n := by have := (List.getElem?_eq_some_iff.mp h).1; omega
    obtain ⟨b, e1, e2⟩ := he j e h
    exact ⟨b, _, e1, rowsOf_at jn, e2⟩⟩
  exact ⟨L, cs.length, r, es, rowsOf n cs, rfl, c0, by omega, rfl, hr, L, by rw [rowsOf_len]; exact n0, by rw [rowsOf_len]; omega, rowsOf_ok hc, rowsOf_los hc⟩
theorem mk_right {K : PySem.W.Frag} {C fE : Addr} {H : Hp} {a da r : Addr} {m : Nat} {es : List V} {rows : List (List Nat)} {Q : Hp → Prop} {E : XK} (M : MF K Cm fI fE) (ha : H a = none) (hda : H da = none) (ne : da ≠ a) (hr : H r = some (.lst es) ∨ H r = some (.tup es)) (L : LnS H rows es) (B : MkB K H (.int (m : Int)) (.ref r) none)
    (q : ∀ (t : Addr) (ts : List Addr) (H' : Hp), Same H H' → MkO Cm a da t ts m rows H' → Q H') :
    spInit2 K Cm C [.ref a, .int (m : Int), .ref r] (upd (upd H da (.own a)) a (.ins Cm da [])) (fun v H2 => v = .non ∧ Q H2) E := by
  have s1 : Same H (upd (upd H da (.own a)) a (.ins Cm da [])) := (Same.new hda).trans (Same.new (by rw [upd_ne ne.symm]; exact ha))
  refine ⟨a, da, _, _, none, rfl, upd_same, M.cl, M.na1, M.na2, M.na3, B.same s1, fun m2 rows2 r2 es2 t ts H' e1 e2 hr2 L2 kx _ O => ⟨rfl, ?_⟩⟩
  cases e1
  cases e2
  have hes : es2 = es := by
    rcases hr with h | h <;> rcases hr2 with h2 | h2 <;> have e := (s1 _ _ h).symm.trans h2
    · injection e with e
      injection e with e
      exact e.symm
    · injection e with e
      injection e
    · injection e with e
      injection e
    · injection e with e
      injection e with e
      exact e.symm
  subst hes
  have e := LnS.uniq (L2) (show LnS _ rows es2 from ⟨L.1, fun j e h => by
    obtain ⟨b, ro, z1, z2, z3⟩ := L.2 j e h
    exact ⟨b, ro, z1, z2, z3.imp (s1 _ _) (s1 _ _)⟩⟩)
  subst e
  exact q t ts H' (fun b o h => kx b o (fun z => by rw [z, ha] at h; cases h) (s1 _ _ h)) O
/-- a machine made of changes -/
theorem mk_gens {K : PySem.W.Frag} {C fE : Addr} {H : Hp} {a da r : Addr} {m : Int} {es : List V} {n : Nat} {cs : List (List Nat)} {Q : Hp → Prop} {E : XK} (M : MF K Cm fI fE) (ha : H a = none) (hda : H da = none) (ne : da ≠ a) (hr : H r = some (.lst es) ∨ H r = some (.tup es)) (hl : es.length = n)
    (he : ∀ (j : Nat) (e : V), es[j]? = some e → ∃ b : Addr, e = .ref b ∧ (H b = some (.lst (vi (row cs j))) ∨ H b = some (.tup (vi (row cs j))))) (hc : ∀ e ∈ cs, Chg n e) (n0 : 0 < n) (n12 : n ≤ 1000) (c0 : 0 < cs.length) (c4 : cs.length ≤ 1000) (hm : m = (cs.length : Int))
    (q : ∀ (t : Addr) (ts : List Addr) (H' : Hp), Same H H' → MkO Cm a da t ts m (rowsOf n cs) H' → Q H') :
    spInit2 K Cm C [.ref a, .int m, .ref r] (upd (upd H da (.own a)) a (.ins Cm da [])) (fun v H2 => v = .non ∧ Q H2) E := by
  subst hm
  have z := lines_ok (K := K) hr hl he hc n0 n12 c0 c4
  exact mk_right M ha hda ne hr z.1 z.2 q
/-- tuples made one behind another -/
def Acc (H : Hp) (D : Addr) (f : Nat → List Nat) (j : Nat) (H' : Hp) : Prop := Same H H' ∧ ∃ ts : List Addr, ts.length = j ∧ H' D = some (.lst (ts.map V.ref)) ∧ ∀ (s : Nat) (b : Addr), ts[s]? = some b → H' b = some (.tup (vi (f s)))
theorem Acc.init {H : Hp} {D : Addr} {f : Nat → List Nat} (hD : H D = none) : Acc H D f 0 (upd H D (.lst [])) := ⟨Same.new hD, [], rfl, upd_same, fun s b h => by simp at h⟩
theorem Acc.step {H H1 H2 : Hp} {D t : Addr} {f : Nat → List Nat} {j : Nat} (h : Acc H D f j H1) (hD : H D = none) (s : Same H1 H2) (ht : H2 t = some (.tup (vi (f j)))) (jl : j < 1000) : ∃ acc, H2 D = some (.lst acc) ∧ acc.length < sizeLine ∧ Acc H D f (j + 1) (upd H2 D (.lst (acc ++ [.ref t]))) := by
  obtain ⟨z1, ts, z2, z3, z4⟩ := h
  refine ⟨_, s _ _ z3, len_lt (by rw [List.length_map]; omega), Same.upd (z1.trans s) hD, ts ++ [t], by rw [List.length_append, z2]; rfl, by rw [upd_same, List.map_append]; rfl, fun k b hb => ?_⟩
  have nD : ∀ {o : List V}, H2 b = some (.tup o) → upd H2 D (.lst (ts.map V.ref ++ [.ref t])) b = some (.tup o) := fun e => by
    rw [upd_ne (fun z => by rw [z, s _ _ z3] at e; cases e)]
    exact e
  refine nD ?_
  rw [List.getElem?_append] at hb
  split at hb
  · exact s _ _ (z4 k b hb)
  · next z =>
    have : k = j := by
      have := (List.getElem?_eq_some_iff.mp hb).1
      simp at this
      omega
    subst this
    rw [z2, Nat.sub_self] at hb
    rw [← Option.some.inj hb]
    exact ht
theorem row_take1 {cs : List (List Nat)} {j : Nat} (h : 0 < cs.length) : (row cs j).take 1 = [(cs[0]).getD j 0] := by
  cases cs with
  | nil => cases h
  | cons c r => rfl
/-- drawn numbers one behind another -/
def AccD (d c : Addr) (H : Hp) (D : Addr) (m : Nat) (j : Nat) (H' : Hp) : Prop := Dl H' d c ∧ Kp d c H H' ∧ ∃ rw_ : List Nat, rw_.length = j ∧ (∀ k ∈ rw_, k < m) ∧ H' D = some (.lst (vi rw_))
theorem AccD.init {d c : Addr} {H : Hp} {D : Addr} {m : Nat} (h : Dl H d c) (hD : H D = none) : AccD d c H D m 0 (upd H D (.lst [])) := ⟨h.same (Same.new hD), Kp.of (Same.new hD), [], rfl, fun _ h => (by cases h), upd_same⟩
theorem AccD.step {d c : Addr} {H H1 H2 : Hp} {D : Addr} {m j : Nat} {r : Int} (h : AccD d c H D m j H1) (h0 : Dl H d c) (hD : H D = none) (D2 : Dl H2 d c) (k : Kp d c H1 H2) (r0 : 0 ≤ r) (r1 : r < (m : Int)) (jl : j < 1000) : ∃ acc, H2 D = some (.lst acc) ∧ acc.length < sizeLine ∧ AccD d c H D m (j + 1) (upd H2 D (.lst (acc ++ [.int r]))) := by
  obtain ⟨z1, z2, rw_, z3, z4, z5⟩ := h
  obtain ⟨n1, n2⟩ := h0.ne hD
  refine ⟨_, k _ _ n1 n2 z5, len_lt (by unfold vi; rw [List.length_map]; omega), D2.updn n1 n2, (z2.trans k).updn hD, rw_ ++ [r.toNat], by rw [List.length_append, z3]; rfl, fun x hx => ?_, ?_⟩
  · rcases List.mem_append.mp hx with h | h
    · exact z4 x h
    · rw [List.mem_singleton.mp h]
      omega
  · rw [upd_same]
    unfold vi
    rw [List.map_append]
    show _ = some (HO.lst (_ ++ [V.int ((r.toNat : Nat) : Int)]))
    rw [Int.toNat_of_nonneg r0]
theorem MkO.keep {x dx t : Addr} {ts : List Addr} {m : Int} {rows : List (List Nat)} {H H' : Hp} (h : MkO Cm x dx t ts m rows H) (k : ∀ b o, H b = some o → (∀ l, o ≠ .lst l) → H' b = some o) : MkO Cm x dx t ts m rows H' :=
  ⟨k _ _ h.1 (fun _ => nofun), k _ _ h.2.1 (fun _ => nofun), h.2.2.1, fun s b e => by obtain ⟨ro, e1, e2⟩ := h.2.2.2 s b e; exact ⟨ro, e1, k _ _ e2 (fun _ => nofun)⟩⟩
theorem MkO.same {x dx t : Addr} {ts : List Addr} {m : Int} {rows : List (List Nat)} {H H' : Hp} (h : MkO Cm x dx t ts m rows H) (s : Same H H') : MkO Cm x dx t ts m rows H' := h.keep fun b o e _ => s b o e
theorem MkO.kp {x dx t d c : Addr} {ts : List Addr} {m : Int} {rows : List (List Nat)} {H H' : Hp} (h : MkO Cm x dx t ts m rows H) (D : Dl H d c) (k : Kp d c H H') : MkO Cm x dx t ts m rows H' := by
  obtain ⟨_, cs2, b2, h1, h2, _⟩ := D
  exact h.keep fun b o e nl => k b o (fun z => by rw [z, h1] at e; exact nl _ (Option.some.inj e).symm) (fun z => by rw [z, h2] at e; exact nl _ (Option.some.inj e).symm) e
/-- the row's change, one command more -/
theorem ends_comp {n : Nat} {cs : List (List Nat)} {rw_ : List Nat} {k : Nat} : comp ((List.range n).map (ends cs rw_)) (cs.getD k []) = (List.range n).map (ends cs (rw_ ++ [k])) := by
  unfold comp
  rw [List.map_map]
  refine List.map_congr_left fun s _ => ?_
  show _ = ends cs (rw_ ++ [k]) s
  unfold ends
  rw [List.foldl_append]
  rfl
theorem ends_nil {n : Nat} {cs : List (List Nat)} : (List.range n).map (ends cs []) = List.range n := List.map_id _
/-- a row with something in it that is no command -/
theorem bad_row {K : PySem.W.Frag} {H : Hp} {m pl : Nat} {rw_ : List Nat} {x : V} {zs : List V} (hk : ∀ k ∈ rw_, k < m) (hp : pl ≤ rw_.length) (hx : AnyV K H x) (hb : belB (m : Int) x = false) : RowB K H (m : Int) (some ((vi rw_).take pl ++ [x] ++ (vi rw_).drop pl ++ zs)) (pl : Int) := by
  have lv : ((vi rw_).take pl).length = pl := by
    unfold vi
    rw [List.length_take, List.length_map]
    omega
  refine .inr ⟨_, pl, x, rfl, ?_, hx, hb, fun j y hj hy => ?_, rfl⟩
  · rw [List.append_assoc, List.append_assoc, List.getElem?_append_right (by omega), lv, Nat.sub_self]
    rfl
  · rw [List.append_assoc, List.append_assoc, List.getElem?_append_left (by omega), List.getElem?_take, if_pos hj] at hy
    have hy' : (rw_[j]?).map (fun k : Nat => V.int (k : Int)) = some y := by rw [← List.getElem?_map]; exact hy
    obtain ⟨k, hk2, rfl⟩ := Option.map_eq_some_iff.mp hy'
    have := hk k (List.mem_of_getElem? hk2)
    exact ⟨.int _, by unfold belB; simp; omega⟩
theorem paired_of {R : Addr → List Nat → Prop} : ∀ {bs : List Addr} {cs : List (List Nat)}, bs.length = cs.length → (∀ (j : Nat) (b : Addr), bs[j]? = some b → ∃ c, cs[j]? = some c ∧ R b c) → Paired R bs cs
  | [], [], _, _ => .nil
  | b :: bs, c :: cs, hl, h => .cons (by obtain ⟨c2, e, r⟩ := h 0 b rfl; cases e; exact r) (paired_of (by simpa using hl) fun j b2 e => h (j + 1) b2 e)
  | [], _ :: _, hl, _ => by simp at hl
  | _ :: _, [], hl, _ => by simp at hl
/-- the lines with the first and the last changed about -/
def turnL (n : Nat) (cs : List (List Nat)) : List (List Nat) := [row cs (n - 1)] ++ ((rowsOf n cs).drop 1).take (n - 2) ++ [row cs 0]
theorem cut_mid {xs : List V} (h : 0 < xs.length) : cutV xs (some 1) (some (-1)) = (xs.drop 1).take (xs.length - 2) := by
  unfold cutV
  have e1 : HT.sIx xs.length 0 (some 1) = 1 := by
    rw [show (1 : Int) = ((1 : Nat) : Int) from rfl, HT.sIx_nat]
    omega
  have e2 : HT.sIx xs.length xs.length (some (-1)) = xs.length - 1 := by
    show (if (-1 : Int) < 0 then ((-1 : Int) + (xs.length : Int)).toNat else min (-1 : Int).toNat xs.length) = _
    rw [if_pos (by decide)]
    omega
  rw [e1, e2]
  rfl
theorem turnL_mem {n : Nat} {cs : List (List Nat)} (n0 : 0 < n) (hc : ∀ e ∈ cs, Chg n e) : ∀ ro ∈ turnL n cs, ro.length = cs.length ∧ ∀ y ∈ ro, y < n := fun ro h => by
  have g : ∀ j, j < n → (row cs j).length = cs.length ∧ ∀ y ∈ row cs j, y < n := fun j hj => by
    have := rowsOf_ok hc _ (List.mem_of_getElem? (rowsOf_at hj))
    rw [rowsOf_len] at this
    exact this
  unfold turnL at h
  rcases List.mem_append.mp h with h | h
  · rcases List.mem_append.mp h with h | h
    · rw [List.mem_singleton.mp h]
      exact g _ (by omega)
    · have := rowsOf_ok hc _ (List.mem_of_mem_drop (List.mem_of_mem_take h))
      rw [rowsOf_len] at this
      exact this
  · rw [List.mem_singleton.mp h]
    exact g _ n0
theorem turnL_len {n : Nat} {cs : List (List Nat)} : (turnL n cs).length = 1 + min (n - 2) (n - 1) + 1 := by
  unfold turnL
  rw [List.length_append, List.length_append, List.length_take, List.length_drop, rowsOf_len]
  rfl
theorem turnL_ats {n : Nat} {cs : List (List Nat)} {H : Hp} {rt : List Addr} {bL b0 : Addr} (n0 : 0 < n) (hl : rt.length = n) (hr : ∀ (s : Nat) (b : Addr), rt[s]? = some b → H b = some (.tup (vi (row cs s)))) (eL : rt[n - 1]? = some bL) (e0 : rt[0]? = some b0) {j : Nat} {b : Addr} (h : ([bL] ++ (rt.drop 1).take (n - 2) ++ [b0])[j]? = some b) :
    ∃ ro, (turnL n cs)[j]? = some ro ∧ H b = some (.tup (vi ro)) := by
  have lm : ((rt.drop 1).take (n - 2)).length = (((rowsOf n cs).drop 1).take (n - 2)).length := by
    rw [List.length_take, List.length_take, List.length_drop, List.length_drop, rowsOf_len, hl]
  cases j with
  | zero =>
    rw [List.append_assoc] at h
    have e : bL = b := Option.some.inj h
    rw [← e]
    refine ⟨row cs (n - 1), ?_, hr _ _ eL⟩
    unfold turnL
    rw [List.append_assoc]
    rfl
  | succ j =>
    rw [List.append_assoc] at h
    have h2 : ((rt.drop 1).take (n - 2) ++ [b0])[j]? = some b := h
    have g : (turnL n cs)[j + 1]? = (((rowsOf n cs).drop 1).take (n - 2) ++ [row cs 0])[j]? := by
      unfold turnL
      rw [List.append_assoc]
      rfl
    rw [g]
    by_cases z : j < ((rt.drop 1).take (n - 2)).length
    · rw [List.getElem?_append_left z] at h2
      rw [List.getElem?_append_left (by omega)]
      have zn : j < n - 2 := by rw [List.length_take] at z; omega
      rw [List.getElem?_take, if_pos zn, List.getElem?_drop] at h2 ⊢
      exact ⟨_, rowsOf_at (by omega), hr _ _ h2⟩
    · rw [List.getElem?_append_right (by omega)] at h2
      rw [List.getElem?_append_right (by omega), ← lm]
      have zj : j - ((rt.drop 1).take (n - 2)).length = 0 := by
        have := (List.getElem?_eq_some_iff.mp h2).1
        rw [List.length_singleton] at this
        omega
      rw [zj] at h2 ⊢
      have e : b0 = b := Option.some.inj h2
      rw [← e]
      exact ⟨_, rfl, hr _ _ e0⟩
theorem turnL_sw {n : Nat} {cs : List (List Nat)} (n2 : 2 ≤ n) {j : Nat} {ro : List Nat} (h : (turnL n cs)[j]? = some ro) : ro = row cs (sw n j) := by
  have lm : (((rowsOf n cs).drop 1).take (n - 2)).length = n - 2 := by
    rw [List.length_take, List.length_drop, rowsOf_len]
    omega
  unfold turnL at h
  rw [List.append_assoc] at h
  cases j with
  | zero => exact (Option.some.inj h).symm
  | succ j =>
    have h2 : (((rowsOf n cs).drop 1).take (n - 2) ++ [row cs 0])[j]? = some ro := h
    by_cases z : j < n - 2
    · rw [List.getElem?_append_left (by omega), List.getElem?_take, if_pos z, List.getElem?_drop, rowsOf_at (by omega)] at h2
      rw [← Option.some.inj h2]
      unfold sw
      rw [if_neg (by omega), if_neg (by omega), Nat.add_comm]
    · rw [List.getElem?_append_right (by omega), lm] at h2
      have zj : j - (n - 2) = 0 := by
        have := (List.getElem?_eq_some_iff.mp h2).1
        rw [List.length_singleton] at this
        omega
      rw [zj] at h2
      rw [← Option.some.inj h2]
      unfold sw
      rw [if_neg (by omega), if_pos (by omega)]
/-- lists made one behind another -/
def AccL (H : Hp) (D : Addr) (f : Nat → List Nat) (j : Nat) (H' : Hp) : Prop := Same H H' ∧ ∃ gs : List Addr, gs.length = j ∧ H' D = some (.lst (gs.map V.ref)) ∧ (∀ (s : Nat) (b : Addr), gs[s]? = some b → H' b = some (.lst (vi (f s)))) ∧ (∀ b ∈ gs, H b = none ∧ b ≠ D) ∧ gs.Nodup
theorem AccL.init {H : Hp} {D : Addr} {f : Nat → List Nat} (hD : H D = none) : AccL H D f 0 (upd H D (.lst [])) := ⟨Same.new hD, [], rfl, upd_same, fun s b h => by simp at h, fun b h => by simp at h, List.nodup_nil⟩
theorem AccL.step {H H1 : Hp} {D t : Addr} {f : Nat → List Nat} {j : Nat} (h : AccL H D f j H1) (hD : H D = none) (ht : H1 t = none) (jl : j < 1000) : ∃ acc, upd H1 t (.lst (vi (f j))) D = some (.lst acc) ∧ acc.length < sizeLine ∧ AccL H D f (j + 1) (upd (upd H1 t (.lst (vi (f j)))) D (.lst (acc ++ [.ref t]))) := by
  obtain ⟨z1, gs, z2, z3, z4, z5, z6⟩ := h
  have st := Same.new (o := .lst (vi (f j))) ht
  have nt : t ≠ D := fun z => by rw [z, z3] at ht; cases ht
  refine ⟨_, st _ _ z3, len_lt (by rw [List.length_map]; omega), Same.upd (z1.trans st) hD, gs ++ [t], by rw [List.length_append, z2]; rfl, by rw [upd_same, List.map_append]; rfl, fun s b hs => ?_, fun b hb => ?_, ?_⟩
  · rw [List.getElem?_append] at hs
    split at hs
    · rw [upd_ne (z5 b (List.mem_of_getElem? hs)).2]
      exact st _ _ (z4 s b hs)
    · next z =>
      have : s = j := by
        have := (List.getElem?_eq_some_iff.mp hs).1
        simp at this
        omega
      subst this
      rw [z2, Nat.sub_self] at hs
      have : b = t := (Option.some.inj hs).symm
      rw [this, upd_ne nt]
      exact upd_same
  · rcases List.mem_append.mp hb with h | h
    · exact z5 b h
    · rw [List.mem_singleton.mp h]
      exact ⟨z1.free ht, nt⟩
  · refine List.nodup_append.mpr ⟨z6, by simp, fun a ha b hb e => ?_⟩
    rw [List.mem_singleton.mp hb] at e
    obtain ⟨i, hi⟩ := List.mem_iff_getElem?.mp ha
    rw [e] at hi
    have := z4 i t hi
    rw [ht] at this
    cases this
theorem own_mm {K : PySem.W.Frag} {fE : Addr} {no : Bool} {Q : VK} {H : Hp} {x dx t y dy t2 : Addr} {ts ts2 : List Addr} {m m2 : Int} {rows rows2 : List (List Nat)} (M : MF K Cm fI fE) (O : MkO Cm x dx t ts m rows H) (O2 : MkO Cm y dy t2 ts2 m2 rows2 H) (q : Q (.bl ((decide (m = m2) && decide (rows = rows2)) ^^ no)) H) : rOwn K Cm (spMEq K Cm) no (.ref x) (.ref y) H Q :=
  ⟨x, dx, _, .ref Cm, rfl, O.1, .ins O2.1, M.fM, x, _, m, rows, rfl, ⟨_, _, _, O⟩, .inl ⟨y, m2, rows2, rfl, ⟨_, _, _, O2⟩, _, rfl, q⟩⟩
theorem own_mt {K : PySem.W.Frag} {fE : Addr} {no : Bool} {Q : VK} {H : Hp} {x dx t p : Addr} {ts : List Addr} {m : Int} {rows : List (List Nat)} {xs : List V} (M : MF K Cm fI fE) (O : MkO Cm x dx t ts m rows H) (hp : H p = some (.tup xs)) (q : Q (.bl (false ^^ no)) H) : rOwn K Cm (spMEq K Cm) no (.ref x) (.ref p) H Q :=
  ⟨x, dx, _, .type "tuple", rfl, O.1, .tup hp, M.fT, x, _, m, rows, rfl, ⟨_, _, _, O⟩, .inr ⟨.inr ⟨p, xs, rfl, hp⟩, _, rfl, q⟩⟩
theorem own_ms {K : PySem.W.Frag} {fE : Addr} {no : Bool} {Q : VK} {H : Hp} {x dx t : Addr} {ts : List Addr} {m : Int} {rows : List (List Nat)} {z : Str} (M : MF K Cm fI fE) (O : MkO Cm x dx t ts m rows H) (q : Q (.bl (false ^^ no)) H) : rOwn K Cm (spMEq K Cm) no (.ref x) (.str z) H Q :=
  ⟨x, dx, _, .type "str", rfl, O.1, .str z, M.fS, x, _, m, rows, rfl, ⟨_, _, _, O⟩, .inr ⟨.inl ⟨z, rfl⟩, _, rfl, q⟩⟩
def spLaw (K : PySem.W.Frag) : Sp := fun vs H Q _ => ∃ (a : Addr) (ns : List Int), vs = [.ref a] ∧ SqL K H a (ns.map V.int) ∧ ∀ H', Q (.bl true) H'
end
end KV

/-! values near shelvings: what is one -/
namespace L2
open PySem PySem.Spec PyProof.Rows
/-- a suite whose first statement goes nowhere -/
theorem pss_cut {X : Cx} {st : Stmt} {rest : List Stmt} {t : TS} (h1 : PS X st t) : PSs X (st :: rest) (fun D σ H => t { D with nx := fun _ _ => False } σ H) := by
  refine ⟨fun pins s σ H D I h => ?_⟩
  refine wpAny_execs_cons (thn (h1.run pins s σ H { D with nx := fun _ _ => False } I h) fun f s1 q => ?_)
  cases f with
  | next =>
    obtain ⟨σ', H', I', q⟩ := q
    exact False.elim q
  | ret v => exact q
  | brk => exact q
  | cont => exact q
end L2
namespace KV
open PySem PySem.Spec PyProof.Rows L2 KC
/-- types of what is no tuple -/
def NTy (T : String) : Prop := T = "NoneType" ∨ T = "int" ∨ T = "str" ∨ T = "list" ∨ T = "dict" ∨ T = "bool"
theorem NTy.tup {K : PySem.W.Frag} {T : String} (h : NTy T) : PySem.W.kitOne K (.type T) (.type "tuple") = some false := by
  rcases h with rfl | rfl | rfl | rfl | rfl | rfl <;> exact kit_ty (by decide +kernel)
/-- an item of weights -/
def EltV (H : Hp) (x : V) : Prop := Ent H x ∨ x = .non ∨ (∃ b, x = .bl b) ∨ ∃ z, x = .str z ∧ PyData.strOk z = true
theorem EltV.same {H H' : Hp} {x : V} (s : Same H H') (h : EltV H x) : EltV H' x := h.imp (fun z => z.same s) id
theorem EltV.any {K : PySem.W.Frag} {H : Hp} {x : V} (h : EltV H x) : AnyV K H x := by
  rcases h with (⟨i, rfl⟩ | ⟨t, ns, rfl, ht⟩) | rfl | ⟨b, rfl⟩ | ⟨z, rfl, _⟩
  · exact .int i
  · exact .tup ht
  · exact .non
  · exact .bl b
  · exact .str z
theorem elts_data {K : PySem.W.Frag} {H : Hp} : ∀ {xs : List V}, (∀ x ∈ xs, EltV H x) → ∃ ds, DpAll K H xs ds ∧ PyData.canLayAll0 ds = true ∧ PyData.depthAll ds ≤ 5 ∧ (xs = [] ↔ ds = [])
  | [], _ => ⟨[], .nil, rfl, by decide, by simp⟩
  | x :: r, h => by
    obtain ⟨ds, h1, h2, h3, h4⟩ := elts_data (K := K) (xs := r) fun y hy => h y (List.mem_cons_of_mem _ hy)
    rcases h x (by simp) with (⟨i, rfl⟩ | ⟨t, ns, rfl, ht⟩) | rfl | ⟨b, rfl⟩ | ⟨z, rfl, hz⟩
    · refine ⟨.int i :: ds, .cons (.int i) h1, ?_, ?_, by simp⟩
      · simp only [PyData.canLayAll0, PyData.canLay0, h2, Bool.and_self]
      · simp only [PyData.depthAll, PyData.depth]
        omega
    · refine ⟨.tuple (ns.map PyData.int) :: ds, .cons (.tup (SqT.of ht) (dp_ints ns)) h1, ?_, ?_, by simp⟩
      · simp only [PyData.canLayAll0, PyData.canLay0, canLay_ints, h2, Bool.and_self]
      · simp only [PyData.depthAll, PyData.depth, depth_ints]
        omega
    · refine ⟨.none :: ds, .cons .non h1, ?_, ?_, by simp⟩
      · simp only [PyData.canLayAll0, PyData.canLay0, h2, Bool.and_self]
      · simp only [PyData.depthAll, PyData.depth]
        omega
    · refine ⟨.bool b :: ds, .cons (.bl b) h1, ?_, ?_, by simp⟩
      · simp only [PyData.canLayAll0, PyData.canLay0, h2, Bool.and_self]
      · simp only [PyData.depthAll, PyData.depth]
        omega
    · refine ⟨.str z :: ds, .cons (.str z) h1, ?_, ?_, by simp⟩
      · simp only [PyData.canLayAll0, PyData.canLay0, h2, hz, Bool.and_self]
      · simp only [PyData.depthAll, PyData.depth]
        omega
theorem elt_eq {K : PySem.W.Frag} {H : Hp} {a b : Addr} {xs : List V} {Q : VK} (h1 : SqL K H a xs) (he : ∀ x ∈ xs, EltV H x) (h2 : SqL K H b []) (q : Q (.bl (decide (xs = []))) H) : rEqD K (.ref a) (.ref b) H Q := by
  obtain ⟨ds, d1, d2, d3, d4⟩ := elts_data (K := K) he
  refine ⟨_, _, .lst h1 d1, .lst h2 .nil, ?_, by decide +kernel, ?_⟩
  · unfold SeqAt.shaped
    rw [Bool.and_eq_true]
    refine ⟨?_, decide_eq_true ?_⟩
    · simp only [PyData.canLay0, d2]
    · simp only [PyData.depth]
      omega
  · have e : PyData.eqv (.list ds) (.list []) = decide (xs = []) := by
      cases ds with
      | nil => rw [d4.mpr rfl]; rfl
      | cons y r =>
        have : xs ≠ [] := fun z => by have := d4.mp z; cases this
        rw [decide_eq_false this]
        rfl
    rw [e]
    exact q
/-- a value, and whether it is a shelving -/
def ShV (K : PySem.W.Frag) (H : Hp) (v : V) (b : Bool) : Prop :=
  (b = false ∧ ∃ T, TyX K H v (.type T) ∧ NTy T) ∨
  ∃ (a : Addr) (xs : List V), v = .ref a ∧ H a = some (.tup xs) ∧ xs.length ≤ 1000 ∧ ((xs.length ≠ 2 ∧ b = false) ∨
    ∃ p u : V, xs = [p, u] ∧ AnyV K H p ∧ (((∀ i : Int, p = .int i → i < 1) ∧ b = false) ∨ ∃ i : Int, p = .int i ∧ 1 ≤ i ∧
      ((b = false ∧ ∃ T, TyX K H u (.type T) ∧ NTy T) ∨ ∃ (c : Addr) (ws : List V), u = .ref c ∧ H c = some (.tup ws) ∧ ws.length ≤ 1000 ∧ (∀ x ∈ ws, EltV H x) ∧ b = (decide (ws ≠ []) && ws.all (belB i)))))
theorem ShV.same {K : PySem.W.Frag} {H H' : Hp} {v : V} {b : Bool} (s : Same H H') (h : ShV K H v b) : ShV K H' v b := by
  rcases h with ⟨e, T, h1, h2⟩ | ⟨a, xs, e, h1, h2, h3⟩
  · exact .inl ⟨e, T, tyx_same s h1, h2⟩
  · refine .inr ⟨a, xs, e, s _ _ h1, h2, ?_⟩
    rcases h3 with h3 | ⟨p, u, e2, hp, h3⟩
    · exact .inl h3
    · refine .inr ⟨p, u, e2, hp.same s, ?_⟩
      rcases h3 with h3 | ⟨i, e3, i1, h3⟩
      · exact .inl h3
      · refine .inr ⟨i, e3, i1, ?_⟩
        rcases h3 with ⟨e4, T, h4, h5⟩ | ⟨c, ws, e4, h4, h5, h6, h7⟩
        · exact .inl ⟨e4, T, tyx_same s h4, h5⟩
        · exact .inr ⟨c, ws, e4, s _ _ h4, h5, fun x hx => (h6 x hx).same s, h7⟩
def whB (lo : Int) : V → Bool
  | .int i => decide (lo ≤ i)
  | _ => false
section
variable {P : Program} {w : World} {K : PySem.W.Frag} {mg : Str → Option Value} {base : Heap} {C fT : Addr}
def spTO (K : PySem.W.Frag) : Sp := fun vs H Q _ => ∃ (v : V) (k : Int), vs = [v, .int k] ∧ (((∃ T, TyX K H v (.type T) ∧ NTy T) ∧ Q (.bl false) H) ∨ ∃ (a : Addr) (xs : List V), v = .ref a ∧ H a = some (.tup xs) ∧ Q (.bl (decide ((xs.length : Int) = k))) H)
theorem sc11 : FnScope ["value", "many"] ["value", "many"] (defScope (top 11)) := ⟨rfl, rfl, rfl, by decide +kernel, rfl, by decide +kernel, by decide +kernel⟩
theorem ok_to {f : Addr} {fd : FuncData} (B : Bl mg) (F : Fun K "is_tuple_of" "is_tuple_of" (top 11) f fd) : FnOk P w K mg base CX0 1 f fd ["value", "many"] (spTO K) := by
  refine F.ok sc11 (fun vs H Q E h => ?_) (fun cdv A outer s H vs Q E hr h => ⟨_,
    (pss_one (ps_ret (pe_and (pe_callB call_isi (by rfl) B.isi (by decide +kernel) (pa_cons (pv 0) (pa_cons (pe_bltn (v := .ty "tuple") (by rfl) B.tuple (by decide +kernel) rfl) pa_nil))) (pe_one (pe_cmpR op_eq (pe_callB call_len_seq (by rfl) B.len PySem.boot_len (pa_cons (pv 0) pa_nil)) (pv 1) (nomark _)))))), ?_⟩)
  · obtain ⟨v, k, rfl, _⟩ := h
    rfl
  obtain ⟨v, k, rfl, h⟩ := h
  rcases h with ⟨⟨T, ty, hT⟩, q⟩ | ⟨a, xs, rfl, ha, q⟩
  · exact ⟨_, rfl, v, _, .type T, .type "tuple", false, rfl, .ty _, ty, hT.tup, false, rfl, iteF q⟩
  · refine ⟨_, rfl, .ref a, _, .type "tuple", .type "tuple", true, rfl, .ty _, .base (.tup ha), kit_ty (by decide +kernel), true, rfl, iteT ⟨_, rfl, a, xs, rfl, .inr (SqT.of ha), _, rfl, rfl, ?_⟩⟩
    rw [show decide (V.int (xs.length : Int) = V.int k) = decide ((xs.length : Int) = k) from by rw [decide_eq_decide, V.int.injEq]]
    exact q
def spIsSh (K : PySem.W.Frag) : Sp := fun vs H Q _ => ∃ (v : V) (b : Bool), vs = [v] ∧ ShV K H v b ∧ ∀ H', Same H H' → Q (.bl b) H'
theorem sc23 : FnScope ["value", "places", "weights", "weight"] ["value"] (defScope (top 23)) := ⟨rfl, rfl, rfl, by decide +kernel, rfl, by decide +kernel, by decide +kernel⟩
theorem ok_isSh {f : Addr} {fd : FuncData} (B : Bl mg) (CT : Cal P w K mg base CX0 1 "is_tuple_of" ["value", "many"] (spTO K)) (CI : Cal P w K mg base CX0 1 "is_integer" ["value"] (spIsI2 K)) (CB : Cal P w K mg base CX0 2 "is_below" ["value", "bound"] (spBel2 K)) (F : Fun K "is_shelving" "is_shelving" (top 23) f fd) : FnOk P w K mg base CX0 3 f fd ["value"] (spIsSh K) := by
  refine F.ok sc23 (fun vs H Q E h => ?_) (fun cdv A outer s H vs Q E hr h => ⟨_,
    (pss_cons (ps_if (pt_not (pt_val (by exact (pe_cal (X := L2.Cx.nox _) CT hr (by decide) (pa_cons (pv 0) (pa_cons pe_int pa_nil)))))) (pss_one (ps_ret pe_bl)) pss_nil)
    (pss_cons (ps_asg (pv 0) (pg_tup rfl (pgs_cons (pg_name (i := 1) sc23.nd rfl (.inr rfl)) (pgs_cons (pg_name (i := 2) sc23.nd rfl (.inl rfl)) pgs_nil))))
    (pss_cons (ps_if (PW.pt (pw_or (pt_not (pt_val (by exact (pe_cal (X := L2.Cx.nox _) CI hr (by decide) (pa_cons (pv 1) pa_nil))))) (pw_or (pt_cmpR op_lt (pv 1) pe_int (nomark _)) (pw_or (pt_not (pt_val (pe_callB call_isi (by rfl) B.isi (by decide +kernel) (pa_cons (pv 2) (pa_cons (pe_bltn (v := .ty "tuple") (by rfl) B.tuple (by decide +kernel) rfl) pa_nil))))) (pw_or1 (pt_cmpR op_eq (pe_callB call_len_seq (by rfl) B.len PySem.boot_len (pa_cons (pv 2) pa_nil)) pe_int (nomark _))))))) (pss_one (ps_ret pe_bl)) pss_nil)
    (pss_one (ps_ret (pe_callB (cr_all rfl) (by rfl) B.all (by decide +kernel) (pa_cons (pe_lc (own := [("weight", 3)]) (g := gName 3) (tt := tYes) rfl sc23.nd (pi_tup (pv 2)) (blkOk_by (N := ["value", "places", "weights", "weight"]) (sc := defScope (top 23)) (by decide +kernel))
        (fun _ _ _ _ _ => (pg_name (i := 3) sc23.nd rfl (Or.inl rfl))) (fun _ _ _ _ _ => pts_nil) (fun _ _ _ _ _ => (pe_cal CB hr (by decide) (pa_cons (pv 3) (pa_cons (pv 1) pa_nil))))) pa_nil))))))), ?_⟩)
  · obtain ⟨v, b, rfl, _⟩ := h
    rfl
  obtain ⟨v, b, rfl, h, q⟩ := h
  rcases h with ⟨rfl, T, ty, hT⟩ | ⟨a, xs, rfl, ha, hl, h⟩
  · exact ⟨_, rfl, v, 2, rfl, .inl ⟨⟨T, ty, hT⟩, _, rfl, iteT (q _ (Same.refl H))⟩⟩
  rcases h with ⟨h2, rfl⟩ | ⟨p, u, rfl, hp, h⟩
  · refine ⟨_, rfl, _, 2, rfl, .inr ⟨a, xs, rfl, ha, _, rfl, ?_⟩⟩
    rw [decide_eq_false (by omega)]
    exact iteT (q _ (Same.refl H))
  refine ⟨_, rfl, _, 2, rfl, .inr ⟨a, _, rfl, ha, _, rfl, ?_⟩⟩
  refine iteF ?_
  dsimp only [tNext]
  refine ⟨_, rfl, a, _, rfl, SqT.of ha, rfl, _, _, rfl, _, _, rfl, rfl, ?_⟩
  dsimp only [gName, gNil]
  refine ⟨_, rfl, p, rfl, hp, _, rfl, ?_⟩
  rcases h with ⟨hlt, rfl⟩ | ⟨i, rfl, i1, h⟩
  · rcases hp with ⟨i, rfl⟩ | ⟨e1, _⟩
    · have := hlt i rfl
      exact iteF ⟨_, rfl, _, _, rfl, rfl, _, rfl, iteP (by simp; omega) (iteP rfl (q _ (Same.refl H)))⟩
    · rw [e1]
      exact iteT (iteT (q _ (Same.refl H)))
  refine iteF ⟨_, rfl, _, _, rfl, rfl, _, rfl, iteN (by simp; omega) ?_⟩
  rcases h with ⟨rfl, T, ty, hT⟩ | ⟨c, ws, rfl, hc, wl, hw, rfl⟩
  · exact ⟨_, rfl, u, _, .type T, .type "tuple", false, rfl, .ty _, ty, hT.tup, false, rfl, iteT (iteT (q _ (Same.refl H)))⟩
  refine ⟨_, rfl, .ref c, _, .type "tuple", .type "tuple", true, rfl, .ty _, .base (.tup hc), kit_ty (by decide +kernel), true, rfl, iteF ⟨_, rfl, c, ws, rfl, .inr (SqT.of hc), rfl, _, rfl, ?_⟩⟩
  by_cases e0 : ws = []
  · subst e0
    exact iteP (by simp) (q _ (Same.refl H))
  refine iteN (by simp [e0]) ?_
  dsimp only [tNext]
  refine ⟨_, rfl, c, rfl, ⟨_, SqT.of hc⟩, fun D hD => lc_tup (xs := ws) (fun j H' => Same H H' ∧ H' D = some (.lst (((ws.take j).map (belB i)).map V.bl))) ⟨Same.new hD, upd_same⟩ (fun j H' _ z => SqT.of (z.1 _ _ hc)) ?_ ?_⟩
  · rintro j x H2 hx ⟨p1, p2⟩
    have il := (List.getElem?_eq_some_iff.mp hx).1
    refine ⟨rfl, _, rfl, _, rfl, x, i, rfl, ((hw x (List.mem_of_getElem? hx)).same p1).any, _, p2, len_lt (by rw [List.length_map, List.length_map, List.length_take]; omega), Same.upd p1 hD, ?_⟩
    rw [upd_same, List.take_add_one, hx, List.map_append, List.map_append]
    rfl
  · rintro H2 ⟨p1, p2⟩
    rw [List.take_length] at p2
    refine ⟨D, _, rfl, SqL.of p2, ?_⟩
    have z := q _ p1
    have e : (decide (ws ≠ []) && ws.all (belB i)) = (ws.map (belB i)).all id := by
      rw [decide_eq_true e0, Bool.true_and, List.all_map]
      rfl
    rw [e] at z
    exact z
def spCkS (K : PySem.W.Frag) (C : Addr) : Sp := fun vs H Q E => ∃ (v : V) (at_ : Int) (b : Bool), vs = [v, .int at_] ∧ ShV K H v b ∧ ((b = true ∧ ∀ H', Same H H' → Q v H') ∨ (b = false ∧ BadN C at_ H E))
theorem sc24 : FnScope ["value", "at"] ["value", "at"] (defScope (top 24)) := ⟨rfl, rfl, rfl, by decide +kernel, rfl, by decide +kernel, by decide +kernel⟩
theorem ok_ckS {f : Addr} {fd : FuncData} (T : PySem.LowX.LowTxt K mg "InvalidQuestion" "InvalidQuestion.__init__" C fT) (CS : Cal P w K mg base CX0 3 "is_shelving" ["value"] (spIsSh K)) (F : Fun K "checked_shelving" "checked_shelving" (top 24) f fd) : FnOk P w K mg base (L2.CX P w) 4 f fd ["value", "at"] (spCkS K C) := by
  refine F.okX sc24 (fun vs H Q E h => ?_) (fun cdv A outer s H vs Q E hr h => ⟨_,
    (pss_cons (ps_if (pt_not (pt_val (by exact (pe_cal CS hr (by decide) (pa_cons (pv 0) pa_nil))))) (pss_one (ps_raiseLow rfl T hr (takes_of rfl rfl rfl rfl) (by exact (pa_cons (pv 1) pa_nil)))) pss_nil)
    (pss_one (ps_ret (pv 0)))), ?_⟩)
  · obtain ⟨v, at_, b, rfl, _⟩ := h
    rfl
  obtain ⟨v, at_, b, rfl, hS, h⟩ := h
  refine ⟨_, rfl, v, b, rfl, hS, fun H1 s1 => ⟨_, rfl, ?_⟩⟩
  rcases h with ⟨rfl, q⟩ | ⟨rfl, bad⟩
  · exact iteF ⟨_, rfl, q _ s1⟩
  · exact iteT ⟨_, rfl, _, rfl, fun d hd => bad _ d s1 hd⟩
def spWh (K : PySem.W.Frag) : Sp := fun vs H Q _ => ∃ (v : V) (lo : Int), vs = [v, .int lo] ∧ AnyV K H v ∧ Q (.bl (whB lo v)) H
theorem sc50 : FnScope ["_law_value", "_law_low"] ["_law_value", "_law_low"] (defScope (top 50)) := ⟨rfl, rfl, rfl, by decide +kernel, rfl, by decide +kernel, by decide +kernel⟩
theorem ok_wh {f : Addr} {fd : FuncData} (B : Bl mg) (F : Fun K "_law_whole" "_law_whole" (top 50) f fd) : FnOk P w K mg base CX0 1 f fd ["_law_value", "_law_low"] (spWh K) := by
  refine F.ok sc50 (fun vs H Q E h => ?_) (fun cdv A outer s H vs Q E hr h => ⟨_,
    (pss_one (ps_ret (pe_and (pe_callB call_isi (by rfl) B.isi (by decide +kernel) (pa_cons (pv 0) (pa_cons (pe_bltn (v := .ty "int") (by rfl) B.int PyProof.Rows.boot_int rfl) pa_nil))) (pe_and (pe_not (pe_callB call_isi (by rfl) B.isi (by decide +kernel) (pa_cons (pv 0) (pa_cons (pe_bltn (v := .ty "bool") (by rfl) B.bool (by decide +kernel) rfl) pa_nil)))) (pe_one (pe_cmpR op_ge (pv 0) (pv 1) (nomark _))))))), ?_⟩)
  · obtain ⟨v, lo, rfl, _⟩ := h
    rfl
  obtain ⟨v, lo, rfl, hv, q⟩ := h
  obtain ⟨t, b, c, ty, h1, h2, e⟩ := hv.kit
  refine ⟨_, rfl, v, _, t, _, b, rfl, .ty _, ty, h1, b, rfl, ?_⟩
  have no : isI v = false → whB lo v = false := fun z => by
    cases v <;> first | rfl | (cases z)
  cases b with
  | false =>
    rw [no (by rw [← e]; rfl)] at q
    exact iteF q
  | true =>
    refine iteT ⟨_, rfl, v, _, t, _, c, rfl, .ty _, ty, h2, c, rfl, !c, rfl, ?_⟩
    cases c with
    | true =>
      rw [no (by rw [← e]; rfl)] at q
      exact iteF q
    | false =>
      obtain ⟨i, rfl⟩ := hv.int_of e.symm
      exact iteT ⟨_, rfl, _, rfl, _, _, rfl, rfl, q⟩
theorem sc51 : FnScope ["_law_value", "_law_weight"] ["_law_value"] (defScope (top 51)) := ⟨rfl, rfl, rfl, by decide +kernel, rfl, by decide +kernel, by decide +kernel⟩
theorem ok_lisSh {f : Addr} {fd : FuncData} (B : Bl mg) (CW : Cal P w K mg base CX0 1 "_law_whole" ["_law_value", "_law_low"] (spWh K)) (F : Fun K "_law_is_shelving" "_law_is_shelving" (top 51) f fd) : FnOk P w K mg base CX0 2 f fd ["_law_value"] (spIsSh K) := by
  refine F.ok sc51 (fun vs H Q E h => ?_) (fun cdv A outer s H vs Q E hr h => ⟨_,
    (pss_cons (ps_if (PW.pt (pw_or (pt_not (pt_val (pe_callB call_isi (by rfl) B.isi (by decide +kernel) (pa_cons (pv 0) (pa_cons (pe_bltn (v := .ty "tuple") (by rfl) B.tuple (by decide +kernel) rfl) pa_nil))))) (pw_or (pt_cmpR op_ne (pe_callB call_len_seq (by rfl) B.len PySem.boot_len (pa_cons (pv 0) pa_nil)) pe_int (nomark _)) (pw_or1 (pt_not (pt_val (by exact (pe_cal CW hr (by decide) (pa_cons (pe_ix ix_tup (pv 0) pe_int (fun _ _ => rfl)) (pa_cons pe_int pa_nil)))))))))) (pss_one (ps_ret pe_bl)) pss_nil)
    (pss_cons (ps_if (PW.pt (pw_or (pt_not (pt_val (pe_callB call_isi (by rfl) B.isi (by decide +kernel) (pa_cons (pe_ix ix_tup (pv 0) pe_int (fun _ _ => rfl)) (pa_cons (pe_bltn (v := .ty "tuple") (by rfl) B.tuple (by decide +kernel) rfl) pa_nil))))) (pw_or1 (pt_cmpR op_eq (pe_callB call_len_seq (by rfl) B.len PySem.boot_len (pa_cons (pe_ix ix_tup (pv 0) pe_int (fun _ _ => rfl)) pa_nil)) pe_int (nomark _))))) (pss_one (ps_ret pe_bl)) pss_nil)
    (pss_one (ps_ret (pe_cmpR (op_eqD hr.units) (pe_lc (own := [("_law_weight", 1)]) (g := gName 1) rfl sc51.nd (pi_tup (pe_ix ix_tup (pv 0) pe_int (fun _ _ => rfl))) (blkOk_by (N := ["_law_value", "_law_weight"]) (sc := defScope (top 51)) (by decide +kernel))
        (fun _ _ _ _ _ => (pg_name (i := 1) sc51.nd rfl (Or.inl rfl))) (fun _ _ _ _ _ => (pts_one (PW.pt (pw_or (pt_not (pt_val (pe_cal CW hr (by decide) (pa_cons (pv 1) (pa_cons pe_int pa_nil))))) (pw_or1 (pt_cmpR op_ge (pv 1) (pe_ix (r := rIxT K) ix_tup (pv 0) pe_int (fun _ _ => rfl)) (nomark _))))))) (fun _ _ _ _ _ => (pv 1))) (pe_lst pa_nil) (nomark _)))))), ?_⟩)
  · obtain ⟨v, b, rfl, _⟩ := h
    rfl
  obtain ⟨v, b, rfl, h, q⟩ := h
  rcases h with ⟨rfl, T, ty, hT⟩ | ⟨a, xs, rfl, ha, hl, h⟩
  · exact ⟨_, rfl, v, _, .type T, .type "tuple", false, rfl, .ty _, ty, hT.tup, false, rfl, iteT (iteT (q _ (Same.refl H)))⟩
  refine ⟨_, rfl, .ref a, _, .type "tuple", .type "tuple", true, rfl, .ty _, .base (.tup ha), kit_ty (by decide +kernel), true, rfl, iteF ⟨_, rfl, a, xs, rfl, .inr (SqT.of ha), rfl, ?_⟩⟩
  rcases h with ⟨h2, rfl⟩ | ⟨p, u, rfl, hp, h⟩
  · exact ⟨true, congrArg V.bl (by simp; omega), iteP rfl (iteP rfl (q _ (Same.refl H)))⟩
  refine ⟨false, congrArg V.bl (by simp), iteN Bool.false_ne_true ?_⟩
  refine ⟨_, rfl, a, _, 0, p, rfl, rfl, SqT.of ha, rfl, p, 1, rfl, hp, _, rfl, ?_⟩
  rcases h with ⟨hlt, rfl⟩ | ⟨i, rfl, i1, h⟩
  · have : whB 1 p = false := by
      rcases hp with ⟨i, rfl⟩ | ⟨e1, _⟩
      · have := hlt i rfl
        exact decide_eq_false (by omega)
      · cases p <;> first | rfl | (cases e1)
    rw [this]
    exact iteT (q _ (Same.refl H))
  have e1 : whB 1 (.int i) = true := decide_eq_true i1
  rw [e1]
  refine iteF ?_
  dsimp only [tNext]
  rcases h with ⟨rfl, T, ty, hT⟩ | ⟨c, ws, rfl, hc, wl, hw, rfl⟩
  · exact ⟨_, rfl, a, _, 1, u, rfl, rfl, SqT.of ha, rfl, u, _, .type T, .type "tuple", false, rfl, .ty _, ty, hT.tup, false, rfl, iteT (iteT (q _ (Same.refl H)))⟩
  refine ⟨_, rfl, a, _, 1, .ref c, rfl, rfl, SqT.of ha, rfl, .ref c, _, .type "tuple", .type "tuple", true, rfl, .ty _, .base (.tup hc), kit_ty (by decide +kernel), true, rfl, iteF ⟨_, rfl, a, _, 1, .ref c, rfl, rfl, SqT.of ha, rfl, c, ws, rfl, .inr (SqT.of hc), rfl, _, rfl, ?_⟩⟩
  by_cases e0 : ws = []
  · subst e0
    exact iteP (by simp) (q _ (Same.refl H))
  refine iteN (by simp [e0]) ?_
  dsimp only [tNext]
  refine ⟨_, rfl, a, _, 1, .ref c, rfl, rfl, SqT.of ha, rfl, c, rfl, ⟨_, SqT.of hc⟩, fun D hD => lc_tup (xs := ws) (fun j H' => Same H H' ∧ H' D = some (.lst ((ws.take j).filter fun x => !belB i x))) ⟨Same.new hD, upd_same⟩ (fun j H' _ z => SqT.of (z.1 _ _ hc)) ?_ ?_⟩
  · rintro j x H2 hx ⟨p1, p2⟩
    have il := (List.getElem?_eq_some_iff.mp hx).1
    have hX := (hw x (List.mem_of_getElem? hx)).same p1
    have lf : ((ws.take j).filter fun x => !belB i x).length ≤ 1000 := Nat.le_trans (List.length_filter_le _ _) (by rw [List.length_take]; omega)
    have go : belB i x = false → ∃ acc, H2 D = some (.lst acc) ∧ acc.length < sizeLine ∧ (Same H (upd H2 D (.lst (acc ++ [x]))) ∧ upd H2 D (.lst (acc ++ [x])) D = some (.lst ((ws.take (j + 1)).filter fun x => !belB i x))) := fun hb => by
      refine ⟨_, p2, Nat.lt_of_le_of_lt lf (by rw [sizeLine_eq]; omega), Same.upd p1 hD, ?_⟩
      rw [upd_same, List.take_add_one, hx, List.filter_append]
      simp [hb]
    have skp : belB i x = true → Same H H2 ∧ H2 D = some (.lst ((ws.take (j + 1)).filter fun x => !belB i x)) := fun hb => by
      refine ⟨p1, ?_⟩
      rw [p2, List.take_add_one, hx, List.filter_append]
      simp [hb]
    refine ⟨rfl, _, rfl, x, 0, rfl, hX.any, _, rfl, ?_⟩
    rcases hX.any (K := K) with ⟨y, rfl⟩ | ⟨e2, e3, _⟩
    · by_cases y0 : 0 ≤ y
      · rw [show whB 0 (.int y) = true from decide_eq_true y0]
        refine iteF ⟨_, rfl, _, rfl, a, _, 0, .int i, rfl, rfl, SqT.of (p1 _ _ ha), rfl, _, _, rfl, rfl, _, rfl, ?_⟩
        by_cases yi : i ≤ y
        · refine iteP (by simp [yi]) ⟨_, rfl, go ?_⟩
          show (decide (0 ≤ y) && decide (y < i)) = false
          simp
          omega
        · refine iteN (by simp; omega) (skp ?_)
          show (decide (0 ≤ y) && decide (y < i)) = true
          simp
          omega
      · rw [show whB 0 (.int y) = false from decide_eq_false y0]
        refine iteT (iteT ⟨_, rfl, go ?_⟩)
        show (decide (0 ≤ y) && decide (y < i)) = false
        simp
        omega
    · have : whB 0 x = false := by cases x <;> first | rfl | (cases e2)
      rw [this]
      exact iteT (iteT ⟨_, rfl, go (e3 i)⟩)
  · rintro H2 ⟨p1, p2⟩
    rw [List.take_length] at p2
    refine ⟨(by show 0 ≤ sizeLine; decide), fun z hz => ?_⟩
    have sz := Same.new (o := .lst []) hz
    refine elt_eq (SqL.of (sz _ _ p2)) (fun x hx => ((hw x (List.mem_filter.mp hx).1).same p1).same sz) (SqL.of upd_same) ?_
    have z2 := q _ (p1.trans sz)
    have e : (decide (ws ≠ []) && ws.all (belB i)) = decide ((ws.filter fun x => !belB i x) = []) := by
      rw [decide_eq_true e0, Bool.true_and, Bool.eq_iff_iff, List.all_eq_true, decide_eq_true_eq, List.filter_eq_nil_iff]
      exact ⟨fun h x hx => by simp [h x hx], fun h x hx => by simpa using h x hx⟩
    rw [e] at z2
    exact z2
end
end KV

/-! shelvings: their steps -/
namespace KV
open PySem PySem.Spec PyProof.Rows L2 KC
def stp (P : Nat) (ws : List Nat) (qr : Nat × Nat) (k : Nat) : Nat × Nat := if k = 0 then ((qr.1 + 1) % ws.length, qr.2) else (qr.1, (qr.2 + ws.getD qr.1 0) % P)
def sF (P : Nat) (ws : List Nat) (k s : Nat) : Nat := (stp P ws (s / P, s % P) k).1 * P + (stp P ws (s / P, s % P) k).2
/-- a shelving's numbers -/
structure Shg (P : Nat) (ws : List Nat) : Prop where
  p1 : 1 ≤ P
  w1 : 1 ≤ ws.length
  lt : ∀ x ∈ ws, x < P
  le : P * ws.length ≤ 60
section
variable {P : Nat} {ws : List Nat}
theorem Shg.get (h : Shg P ws) {q : Nat} (hq : q < ws.length) : ws.getD q 0 < P := by
  rw [List.getD_eq_getElem?_getD, List.getElem?_eq_getElem hq]
  exact h.lt _ (List.getElem_mem _)
theorem Shg.dv (h : Shg P ws) {s : Nat} (hs : s < P * ws.length) : s / P < ws.length := (Nat.div_lt_iff_lt_mul h.p1).mpr (by rw [Nat.mul_comm]; exact hs)
theorem qr_div {q r : Nat} (h : r < P) : (q * P + r) / P = q := by
  rw [Nat.mul_comm, Nat.mul_add_div (by omega), Nat.div_eq_of_lt h, Nat.add_zero]
theorem qr_mod {q r : Nat} (h : r < P) : (q * P + r) % P = r := by
  rw [Nat.mul_comm, Nat.mul_add_mod, Nat.mod_eq_of_lt h]
theorem qr_lt {q r W : Nat} (hq : q < W) (h : r < P) : q * P + r < P * W := by
  have : (q + 1) * P ≤ W * P := Nat.mul_le_mul_right P hq
  rw [Nat.add_mul, Nat.one_mul] at this
  rw [Nat.mul_comm P W]
  omega
theorem stp_ok (h : Shg P ws) {q r k : Nat} (hq : q < ws.length) (hr : r < P) : (stp P ws (q, r) k).1 < ws.length ∧ (stp P ws (q, r) k).2 < P := by
  unfold stp
  split
  · exact ⟨Nat.mod_lt _ (by omega), hr⟩
  · exact ⟨hq, Nat.mod_lt _ (by omega)⟩
theorem sF_qr (h : Shg P ws) {q r k : Nat} (hr : r < P) : sF P ws k (q * P + r) = (stp P ws (q, r) k).1 * P + (stp P ws (q, r) k).2 := by
  unfold sF
  rw [qr_div hr, qr_mod hr]
theorem sF_lt (h : Shg P ws) {s k : Nat} (hs : s < P * ws.length) : sF P ws k s < P * ws.length := by
  have := stp_ok h (k := k) (h.dv hs) (Nat.mod_lt s h.p1)
  exact qr_lt this.1 this.2
theorem modw {a N : Nat} (h : a < 2 * N) : a % N = if a < N then a else a - N := by
  split
  · next z => exact Nat.mod_eq_of_lt z
  · next z => rw [Nat.mod_eq_sub_mod (by omega), Nat.mod_eq_of_lt (by omega)]
theorem stp_inj (h : Shg P ws) {q r q2 r2 k : Nat} (hq : q < ws.length) (hr : r < P) (hq2 : q2 < ws.length) (hr2 : r2 < P) (e : stp P ws (q, r) k = stp P ws (q2, r2) k) : q = q2 ∧ r = r2 := by
  unfold stp at e
  split at e
  · have e1 := congrArg Prod.fst e
    have e2 := congrArg Prod.snd e
    dsimp only at e1 e2
    rw [modw (by omega), modw (by omega)] at e1
    refine ⟨?_, e2⟩
    split at e1 <;> split at e1 <;> omega
  · have e1 := congrArg Prod.fst e
    have e2 := congrArg Prod.snd e
    dsimp only at e1 e2
    subst e1
    have := h.get hq
    rw [modw (by omega), modw (by omega)] at e2
    refine ⟨rfl, ?_⟩
    split at e2 <;> split at e2 <;> omega
theorem sF_inj (h : Shg P ws) {s s2 k : Nat} (hs : s < P * ws.length) (hs2 : s2 < P * ws.length) (e : sF P ws k s = sF P ws k s2) : s = s2 := by
  have a := stp_ok h (k := k) (h.dv hs) (Nat.mod_lt s h.p1)
  have b := stp_ok h (k := k) (h.dv hs2) (Nat.mod_lt s2 h.p1)
  unfold sF at e
  have e1 : ((stp P ws (s / P, s % P) k).1 * P + (stp P ws (s / P, s % P) k).2) / P = ((stp P ws (s2 / P, s2 % P) k).1 * P + (stp P ws (s2 / P, s2 % P) k).2) / P := by rw [e]
  have e2 : ((stp P ws (s / P, s % P) k).1 * P + (stp P ws (s / P, s % P) k).2) % P = ((stp P ws (s2 / P, s2 % P) k).1 * P + (stp P ws (s2 / P, s2 % P) k).2) % P := by rw [e]
  rw [qr_div a.2, qr_div b.2] at e1
  rw [qr_mod a.2, qr_mod b.2] at e2
  obtain ⟨z1, z2⟩ := stp_inj h (h.dv hs) (Nat.mod_lt s h.p1) (h.dv hs2) (Nat.mod_lt s2 h.p1) (Prod.ext e1 e2)
  have u1 := Nat.div_add_mod s P
  have u2 := Nat.div_add_mod s2 P
  rw [z1, z2] at u1
  omega
/-- the two commands of a shelving's machine -/
def shC (P : Nat) (ws : List Nat) : List (List Nat) := [tab (P * ws.length) (sF P ws 0), tab (P * ws.length) (sF P ws 1)]
theorem shC_chg (h : Shg P ws) : ∀ e ∈ shC P ws, Chg (P * ws.length) e := fun e he => by
  unfold shC at he
  simp only [List.mem_cons, List.not_mem_nil, or_false] at he
  rcases he with rfl | rfl <;> exact chg_tab (fun s hs => sF_lt h hs) fun a ha b hb e => sF_inj h ha hb e
theorem shC_row {s : Nat} (hs : s < P * ws.length) : row (shC P ws) s = [sF P ws 0 s, sF P ws 1 s] := by
  unfold row shC
  rw [List.map_cons, List.map_cons, List.map_nil, tab_getD hs, tab_getD hs]
theorem sF0 (h : Shg P ws) {q r : Nat} (hq : q < ws.length) (hr : r < P) : (q * P + P + r) % (P * ws.length) = sF P ws 0 (q * P + r) := by
  rw [sF_qr h hr]
  show _ = (q + 1) % ws.length * P + r
  by_cases z : q + 1 < ws.length
  · rw [Nat.mod_eq_of_lt z, Nat.mod_eq_of_lt (by have := qr_lt (P := P) z hr; rw [Nat.add_mul, Nat.one_mul] at this; exact this), Nat.add_mul, Nat.one_mul]
  · have e : q + 1 = ws.length := by omega
    have e2 : q * P + P + r = P * ws.length + r := by rw [← e, Nat.mul_comm P, Nat.add_mul, Nat.one_mul]
    rw [e, Nat.mod_self, Nat.zero_mul, Nat.zero_add, e2, Nat.add_mod_left, Nat.mod_eq_of_lt]
    have : P * 1 ≤ P * ws.length := Nat.mul_le_mul_left P h.w1
    omega
theorem sF1 (h : Shg P ws) {q r : Nat} (hr : r < P) : q * P + (r + ws.getD q 0) % P = sF P ws 1 (q * P + r) := by
  rw [sF_qr h hr]
  rfl
end
end KV

/-! shelvings: their machines; what is none is refused -/
namespace KV
open PySem PySem.Spec PyProof.Rows L2 KC
/-- a shelving that stands -/
def ShG (H : Hp) (v : V) (P : Nat) (ws : List Nat) : Prop := ∃ a c : Addr, v = .ref a ∧ H a = some (.tup [.int (P : Int), .ref c]) ∧ H c = some (.tup (vi ws))
theorem ShG.same {H H' : Hp} {v : V} {P : Nat} {ws : List Nat} (s : Same H H') (h : ShG H v P ws) : ShG H' v P ws := by
  obtain ⟨a, c, e, h1, h2⟩ := h
  exact ⟨a, c, e, s _ _ h1, s _ _ h2⟩
theorem ShG.shv {K : PySem.W.Frag} {H : Hp} {v : V} {P : Nat} {ws : List Nat} (h : ShG H v P ws) (g : Shg P ws) : ShV K H v true := by
  obtain ⟨a, c, rfl, h1, h2⟩ := h
  have lw : (vi ws).length = ws.length := List.length_map ..
  have wl : 1 * ws.length ≤ P * ws.length := Nat.mul_le_mul_right _ g.p1
  have := g.le
  have p1 := g.p1
  refine .inr ⟨a, _, rfl, h1, by show 2 ≤ 1000; decide, .inr ⟨_, _, rfl, .int _, .inr ⟨(P : Int), rfl, by omega, .inr ⟨c, _, rfl, h2, by omega, fun x hx => ?_, ?_⟩⟩⟩⟩
  · obtain ⟨y, _, rfl⟩ := List.mem_map.mp hx
    exact .inl (.inl ⟨_, rfl⟩)
  · have e0 : vi ws ≠ [] := fun z => by
      have h0 := congrArg List.length z
      rw [lw] at h0
      have h1 := g.w1
      simp only [List.length_nil] at h0
      omega
    rw [decide_eq_true e0, Bool.true_and]
    symm
    rw [List.all_eq_true]
    intro x hx
    obtain ⟨y, hy, rfl⟩ := List.mem_map.mp hx
    have := g.lt y hy
    show (decide ((0 : Int) ≤ (y : Int)) && decide ((y : Int) < (P : Int))) = true
    simp
    omega
theorem Ke.at {K : PySem.W.Frag} {H H' : Hp} {a : Addr} (e : H' a = H a) : Ke K H H' a := fun xs => ⟨fun h => by unfold SqL Rd at h ⊢; rw [e]; exact h, fun h => by unfold SqT Rd at h ⊢; rw [e]; exact h⟩
theorem cmulN {a b : Nat} (ha : a ≤ 1000) (hb : b ≤ 1000) : CMulW (a : Int) (b : Int) := by
  have h1 := Nat.log2_le_self a
  have h2 := Nat.log2_le_self b
  show a.log2 + b.log2 < 1000000
  omega
section
variable {P_ : Program} {w : World} {K : PySem.W.Frag} {mg : Str → Option Value} {base : Heap} {Cm C Ci fI fE : Addr} {fdI : FuncData}
def spShM (K : PySem.W.Frag) (Cm C : Addr) : Sp := fun vs H Q E => ∃ v : V, vs = [v] ∧ ((ShV K H v false ∧ BadN C 0 H E) ∨ ∃ (P : Nat) (ws : List Nat), Shg P ws ∧ ShG H v P ws ∧ ∀ (x dx tt : Addr) (ts : List Addr) (H' : Hp), Same H H' → MkO Cm x dx tt ts 2 (rowsOf (P * ws.length) (shC P ws)) H' → Q (.ref x) H')
theorem sc25 : FnScope ["shelving", "places", "weights", "states", "steps", "shelf", "weight", "first", "place"] ["shelving"] (defScope (top 25)) := ⟨rfl, rfl, rfl, by decide +kernel, rfl, by decide +kernel, by decide +kernel⟩
set_option maxHeartbeats 4000000 in
theorem ok_shM {f : Addr} {fd : FuncData} (B : Bl mg) (M : MF K Cm fI fE) (gM : mg "Machine" = some (.ref Cm)) (FI : FnOk P_ w K mg base (L2.CX P_ w) 4 fI fdI ["self", "commands", "steps"] (spInit2 K Cm Ci)) (BI : L2.Binds K fdI ["self", "commands", "steps"] [])
    (CK : Cal P_ w K mg base (L2.CX P_ w) 4 "checked_shelving" ["value", "at"] (spCkS K C)) (F : Fun K "shelf_machine" "shelf_machine" (top 25) f fd) : FnOk P_ w K mg base (L2.CX P_ w) 6 f fd ["shelving"] (spShM K Cm C) := by
  refine F.okX sc25 (fun vs H Q E h => ?_) (fun cdv A outer s H vs Q E hr h => ⟨_,
    (pss_cons (ps_asg (by exact (pe_calX CK hr (by decide) (takes_of rfl rfl rfl rfl) (fun _ _ _ _ z => z) (pa_cons (pv 0) (pa_cons pe_int pa_nil)))) (pg_tup rfl (pgs_cons (pg_name (i := 1) sc25.nd rfl (.inl rfl)) (pgs_cons (pg_name (i := 2) sc25.nd rfl (.inl rfl)) pgs_nil))))
    (pss_cons (ps_set (i := 3) sc25.nd rfl (.inl rfl) (pe_op op_mulW (pv 1) (pe_callB call_len_seq (by rfl) B.len PySem.boot_len (pa_cons (pv 2) pa_nil))))
    (pss_cons (ps_set (i := 4) sc25.nd rfl (.inl rfl) (pe_lst pa_nil))
    (pss_cons (ps_for (passes_of rfl) rfl (pi_or (pi_enum (by rfl) B.enumerate (pa_cons (pv 2) pa_nil)) (pi_enumT (by rfl) B.enumerate (pa_cons (pv 2) pa_nil))) (pg_tup rfl (pgs_cons (pg_name (i := 5) sc25.nd rfl (.inl rfl)) (pgs_cons (pg_name (i := 6) sc25.nd rfl (.inl rfl)) pgs_nil))) (pss_cons (ps_set (i := 7) sc25.nd rfl (.inl rfl) (pe_op op_mulW (pv 5) (pv 1)))
    (pss_one (ps_for (passes_of rfl) rfl (pi_range1 (by rfl) B.range (pa_cons (pv 1) pa_nil)) (pg_name (i := 8) sc25.nd rfl (.inl rfl)) (pss_one (ps_expr (pe_bm PySem.F.plainAttrs_list PySem.F.slot_list_append PySem.F.type_list_append mt_append (pv 4) (pa_cons (pe_tup (pa_cons (pe_op op_mod (pe_op op_add (pe_op op_add (pv 7) (pv 1)) (pv 8)) (pv 3)) (pa_cons (pe_op op_add (pv 7) (pe_op op_mod (pe_op op_add (pv 8) (pv 6)) (pv 1))) pa_nil))) pa_nil))))))))
    (pss_one (ps_ret (by exact (pe_mkS M.mkr FI (hr.mono (by decide)) gM BI (fun σ => passL σ) (pa_cons pe_int (pa_cons (pv 4) pa_nil)))))))))), ?_⟩)
  · obtain ⟨v, rfl, _⟩ := h
    rfl
  obtain ⟨v, rfl, h⟩ := h
  rcases h with ⟨hv, bad⟩ | ⟨P, ws, hg, hs, q⟩
  · exact ⟨_, rfl, v, 0, false, rfl, hv, .inr ⟨rfl, bad⟩⟩
  refine ⟨_, rfl, v, 0, true, rfl, hs.shv hg, .inl ⟨rfl, fun H1 s1 => ?_⟩⟩
  obtain ⟨a, c, rfl, ha, hc⟩ := hs.same s1
  refine ⟨a, _, rfl, SqT.of ha, rfl, _, _, rfl, _, _, rfl, rfl, ?_⟩
  dsimp only [gName, gNil]
  have lw : (vi ws).length = ws.length := List.length_map ..
  refine ⟨_, rfl, _, rfl, c, _, rfl, .inr (SqT.of hc), ?_⟩
  have pl : 1 * ws.length ≤ P * ws.length := Nat.mul_le_mul_right _ hg.p1
  have pp : P * 1 ≤ P * ws.length := Nat.mul_le_mul_left _ hg.w1
  have le := hg.le
  rw [lw]
  refine ⟨_, _, rfl, rfl, cmulN (by omega) (by omega), ?_⟩
  dsimp only [gName]
  rw [show (P : Int) * (ws.length : Int) = ((P * ws.length : Nat) : Int) from rfl]
  refine ⟨(by show 0 ≤ sizeLine; decide), fun D hD => ?_⟩
  have A0 : Acc H1 D (fun s => [sF P ws 0 s, sF P ws 1 s]) (0 * P) (upd H1 D (.lst [])) := by rw [Nat.zero_mul]; exact Acc.init hD
  generalize upd H1 D (.lst []) = H2 at A0
  dsimp only [gName]
  refine sq_cut (fun σ H' => (∃ v5 v6 v7 v8 : Option V, σ = [some (.ref a), some (.int (P : Int)), some (.ref c), some (.int ((P * ws.length : Nat) : Int)), some (.ref D), v5, v6, v7, v8]) ∧ Acc H1 D (fun s => [sF P ws 0 s, sF P ws 1 s]) (ws.length * P) H') (fun Z hZ => ?_) ?_
  · refine for_enO (es := vi ws) rfl (.inr (SqT.of (A0.1 _ _ hc))) (fun q σ H' => (∃ v5 v6 v7 v8 : Option V, σ = [some (.ref a), some (.int (P : Int)), some (.ref c), some (.int ((P * ws.length : Nat) : Int)), some (.ref D), v5, v6, v7, v8]) ∧ Acc H1 D (fun s => [sF P ws 0 s, sF P ws 1 s]) (q * P) H' ∧ H' c = some (.tup (vi ws))) ⟨⟨none, none, none, none, rfl⟩, A0, A0.1 _ _ hc⟩ (fun q σ H' z => Ke.at (z.2.2.trans (A0.1 _ _ hc).symm)) ?_ ?_
    · rintro q x σ G T hx ⟨⟨v5, v6, v7, v8, rfl⟩, A, hcG⟩ hT
      have hx' : (ws[q]?).map (fun k : Nat => V.int (k : Int)) = some x := by rw [← List.getElem?_map]; exact hx
      obtain ⟨wq, hwq, rfl⟩ := Option.map_eq_some_iff.mp hx'
      have ql := (List.getElem?_eq_some_iff.mp hwq).1
      have gw : ws.getD q 0 = wq := by rw [List.getD_eq_getElem?_getD, hwq]; rfl
      have sT := Same.new (o := .tup [V.int (q : Nat), V.int (wq : Int)]) hT
      refine ⟨T, _, rfl, SqT.of upd_same, rfl, _, _, rfl, _, _, rfl, rfl, ?_⟩
      dsimp only [gName, gNil]
      refine ⟨_, rfl, _, rfl, _, _, rfl, rfl, cmulN (by omega) (by omega), ?_⟩
      dsimp only [gName]
      rw [show (q : Int) * (P : Int) = ((q * P : Nat) : Int) from rfl]
      have AT : Acc H1 D (fun s => [sF P ws 0 s, sF P ws 1 s]) (q * P + 0) (upd G T (.tup [V.int (q : Nat), V.int (wq : Int)])) := by
        obtain ⟨y1, ts, y2, y3, y4⟩ := A
        exact ⟨y1.trans sT, ts, y2, sT _ _ y3, fun s b e => sT _ _ (y4 s b e)⟩
      have hcT := sT _ _ hcG
      generalize upd G T (.tup [V.int (q : Nat), V.int (wq : Int)]) = G1 at AT hcT
      refine ⟨_, rfl, (P : Int), rfl, by omega, by omega, for_range (n := (P : Int).toNat) (fun r σ H' => (∃ v8 : Option V, σ = [some (.ref a), some (.int (P : Int)), some (.ref c), some (.int ((P * ws.length : Nat) : Int)), some (.ref D), some (.int (q : Nat)), some (.int (wq : Int)), some (.int ((q * P : Nat) : Int)), v8]) ∧ Acc H1 D (fun s => [sF P ws 0 s, sF P ws 1 s]) (q * P + r) H' ∧ H' c = some (.tup (vi ws))) ⟨⟨_, rfl⟩, AT, hcT⟩ ?_ ?_⟩
      · rintro r σ G2 hr0 ⟨⟨v8, rfl⟩, A2, hc2⟩
        have hrP : r < P := by omega
        obtain ⟨y1, ts, y2, y3, y4⟩ := id A2
        dsimp only [gName]
        refine ⟨_, rfl, .inl ⟨rfl, _, SqL.of y3⟩, _, rfl, _, rfl, _, _, rfl, rfl, _, rfl, _, _, rfl, rfl, _, rfl, _, _, rfl, rfl, ?_, _, rfl, _, rfl, _, rfl, _, _, rfl, rfl, _, rfl, _, _, rfl, rfl, ?_, _, _, rfl, rfl, (by show 2 ≤ sizeLine; decide), fun t ht => ?_⟩
        · show (0 : Int) < ((P * ws.length : Nat) : Int)
          omega
        · show (0 : Int) < (P : Int)
          omega
        have ev : [V.int ((((q * P : Nat) : Int) + (P : Int) + (0 + (r : Int))) % ((P * ws.length : Nat) : Int)), V.int (((q * P : Nat) : Int) + (0 + (r : Int) + (wq : Int)) % (P : Int))] = vi [sF P ws 0 (q * P + r), sF P ws 1 (q * P + r)] := by
          rw [Int.zero_add, ← sF0 hg ql hrP, ← sF1 hg hrP, gw]
          rfl
        have lt60 := qr_lt (P := P) ql hrP
        have st := A2.step hD (Same.new (o := .tup (vi [sF P ws 0 (q * P + r), sF P ws 1 (q * P + r)])) ht) upd_same (by omega)
        rw [← ev] at st
        obtain ⟨acc, a1, a2, a3⟩ := st
        have cD : c ≠ D := fun z => by rw [z, hD] at hc; cases hc
        exact ⟨D, acc, _, rfl, rfl, a1, a2, ⟨_, rfl⟩, a3, by rw [upd_ne cD]; exact Same.new ht _ _ hc2⟩
      · rintro σ G2 ⟨⟨v8, rfl⟩, A2, hc2⟩
        rw [Int.toNat_natCast] at A2
        refine ⟨⟨_, _, _, _, rfl⟩, ?_, hc2⟩
        rw [Nat.add_mul, Nat.one_mul]
        exact A2
    · rintro σ G ⟨⟨v5, v6, v7, v8, rfl⟩, A, _⟩
      rw [lw] at A
      exact hZ _ _ ⟨⟨v5, v6, v7, v8, rfl⟩, A⟩
  rintro σ G ⟨⟨v5, v6, v7, v8, rfl⟩, A⟩
  obtain ⟨y1, ts, y2, y3, y4⟩ := A
  refine ⟨_, rfl, fun x dx hx hdx ne => ?_⟩
  refine mk_gens M hx hdx ne (n := P * ws.length) (cs := shC P ws) (.inl y3) (by rw [List.length_map, y2, Nat.mul_comm]) (fun j e he => ?_) (shC_chg hg) (Nat.mul_pos hg.p1 hg.w1) (Nat.le_trans hg.le (by decide)) (by show 0 < 2; decide) (by show 2 ≤ 1000; decide) rfl fun tt ts2 H' s' O' => q x dx tt ts2 H' ((s1.trans y1).trans s') O'
  obtain ⟨b, hb, rfl⟩ := ref_at he
  have jl : j < P * ws.length := by
    have := (List.getElem?_eq_some_iff.mp hb).1
    rw [y2, Nat.mul_comm] at this
    exact this
  exact ⟨b, rfl, .inr (by rw [shC_row jl]; exact y4 j b hb)⟩
end
end KV

/-! a tuple times a number, also times one -/
namespace KV
open PySem PySem.Spec PyProof.Rows L2
theorem tuple_mul1 (l : Addr) (items : Array Value) (n : Nat) (dd : Option Addr) (sl : Array (Option Value)) (x : Int) (u : Tok) (c0 : (decide (x < -(2 ^ 63)) || decide (x ≥ 2 ^ 63)) = false) (c1 : (items.isEmpty || x == 1) = true) :
    Meets (Builtin.«tuple.__mul__» ⟨[.ref l, .int x u], []⟩) (fun _ R s => s.heap.get? l = some { cls := .type "tuple", dict := dd, data := .seq items n, slots := sl } ∧ R (.ok (.ret (Value.ref l))) s) :=
  .of_wp fun prog w A R s h => by
    obtain ⟨hp, g, d, tk, os⟩ := s
    obtain ⟨hl, h⟩ := h
    have f1 := AutoSeq1.idx_int
    wp_walk using wpAny_loadPart' hl
    repeat (first
      | (refine wpAny_ite_false (decide_eq_false (by rw [c0]; exact Bool.false_ne_true)) ?_; wp_walk using wpAny_loadPart' hl)
      | (refine wpAny_ite_true (decide_eq_true c1) ?_; wp_walk using wpAny_loadPart' hl))
    exact ⟨_, rfl, h⟩
def rRepU (K : PySem.W.Frag) : R2 := fun x y H Q => ∃ l k xs, x = .ref l ∧ y = .int k ∧ SqT K H l xs ∧ xs ≠ [] ∧ 1 ≤ k ∧ k ≤ 1000 ∧ xs.length ≤ 1000 ∧ (k = 1 → Q (.ref l) H) ∧ ∀ p, 2 ≤ k → H p = none → Q (.ref p) (upd H p (.tup (List.replicate k.toNat xs).flatten))
section
variable {X : Cx}
theorem op_repU : OpR X (binaryOp .Mult) (rRepU X.K) := by
  intro pins s σ H x y v u Q I rx ry h
  obtain ⟨l, k, xs, rfl, rfl, hT, hne, h1, h2, hz, q1, q2⟩ := h
  by_cases k1 : k = 1
  · subst k1
    cases rx
    obtain ⟨t, rfl⟩ := ry
    obtain ⟨its, r, ⟨⟨cls, dd, data, sl⟩, ho, hc, n, hd⟩, hs⟩ := I.tuple hT
    simp only at hc hd
    subst hc hd
    refine wpAny_binaryOp_repeat_ref (T := "tuple") (U := "int") (by decide) ⟨_, ho, rfl⟩ (fun s' => typeIs_int s' 1 t) noFill_tuple_mul F.fills_int_mul F.slot_int_rmul repeat_tuple F.slot_int_index.lookup
      (call_meets F.slot_int_rmul (typeIs_int s 1 t) F.entry_int_rmul (F.args_int_rmul_2 _ _) (int_rmul_tuple 1 t l its.toArray n dd sl)
        ⟨ho, rfl, ⟨_, ho, rfl⟩, call_meets F.slot_tuple_mul ⟨_, ho, rfl⟩ F.entry_tuple_mul (F.args_tuple_mul_2 _ _) (tuple_mul1 l its.toArray n dd sl 1 t (by decide) (by rw [Bool.or_eq_true]; exact .inr rfl)) ⟨ho, ?_⟩⟩)
    exact ⟨.ref l, H, I, rfl, q1 rfl⟩
  · exact op_repT pins s σ H (.ref l) (.int k) v u Q I rx ry ⟨l, k, xs, rfl, rfl, hT, hne, by omega, h2, hz, fun p hp => q2 p (by omega) hp⟩
/-- the same, asked once -/
def rRepW (K : PySem.W.Frag) : R2 := fun x y H Q => ∃ l k xs, x = .ref l ∧ y = .int k ∧ H l = some (.tup xs) ∧ xs ≠ [] ∧ 1 ≤ k ∧ k ≤ 1000 ∧ xs.length ≤ 1000 ∧ ∀ (p : Addr) (H' : Hp), Same H H' → H' p = some (.tup (List.replicate k.toNat xs).flatten) → Q (.ref p) H'
theorem op_repW : OpR X (binaryOp .Mult) (rRepW X.K) := by
  intro pins s σ H x y v u Q I rx ry h
  obtain ⟨l, k, xs, rfl, rfl, hT, hne, h1, h2, hz, q⟩ := h
  refine op_repU pins s σ H (.ref l) (.int k) v u Q I rx ry ⟨l, k, xs, rfl, rfl, SqT.of hT, hne, h1, h2, hz, fun e => ?_, fun p _ hp => q p _ (Same.new hp) upd_same⟩
  subst e
  exact q l H (fun _ _ h => h) (by rw [hT]; simp)
end
end KV

/-! a tuple times a number, also times none -/
namespace KV
open PySem PySem.Spec PyProof.Rows L2
theorem tuple_mul0 (l : Addr) (items : Array Value) (n : Nat) (dd : Option Addr) (sl : Array (Option Value)) (x : Int) (u : Tok) (c0 : (decide (x < -(2 ^ 63)) || decide (x ≥ 2 ^ 63)) = false) (c1 : (items.isEmpty || x == 1) = false) (c2 : (decide (x ≤ 0) || items.isEmpty) = true) :
    Meets (Builtin.«tuple.__mul__» ⟨[.ref l, .int x u], []⟩) (fun _ R s => s.heap.get? l = some { cls := .type "tuple", dict := dd, data := .seq items n, slots := sl } ∧
      R (.ok (.ret (Value.ref s.heap.objs.size))) { s with heap := s.heap.push { cls := Value.type "tuple", data := Data.seq #[] }, toks := s.toks }) :=
  .of_wp fun prog w A R s h => by
    obtain ⟨hp, g, d, tk, os⟩ := s
    obtain ⟨hl, h⟩ := h
    have f1 := AutoSeq1.idx_int
    wp_walk using wpAny_loadPart' hl
    repeat (first
      | (refine wpAny_ite_false (decide_eq_false (by rw [c0]; exact Bool.false_ne_true)) ?_; wp_walk using wpAny_loadPart' hl)
      | (refine wpAny_ite_false (decide_eq_false (by rw [c1]; exact Bool.false_ne_true)) ?_; wp_walk using wpAny_loadPart' hl)
      | (refine wpAny_ite_true (decide_eq_true c2) ?_; wp_walk using wpAny_loadPart' hl))
    exact ⟨_, rfl, h⟩
def rRepV : R2 := fun x y H Q => ∃ l k xs, x = .ref l ∧ y = .int k ∧ H l = some (.tup xs) ∧ xs ≠ [] ∧ 0 ≤ k ∧ k ≤ 1000 ∧ xs.length ≤ 1000 ∧ ∀ (p : Addr) (H' : Hp), Same H H' → H' p = some (.tup (List.replicate k.toNat xs).flatten) → Q (.ref p) H'
section
variable {X : Cx}
theorem op_repV : OpR X (binaryOp .Mult) rRepV := by
  intro pins s σ H x y v u Q I rx ry h
  obtain ⟨l, k, xs, rfl, rfl, hT, hne, h1, h2, hz, q⟩ := h
  by_cases k1 : k = 0
  · subst k1
    have hT' : SqT X.K H l xs := SqT.of hT
    cases rx
    obtain ⟨t, rfl⟩ := ry
    obtain ⟨its, r, ⟨⟨cls, dd, data, sl⟩, ho, hc, n, hd⟩, hs⟩ := I.tuple hT'
    simp only at hc hd
    subst hc hd
    have hle : its.length = xs.length := r.length.symm
    have hi : its.toArray.isEmpty = false := by
      cases its with
      | nil => exact absurd (List.eq_nil_of_length_eq_zero hle.symm) hne
      | cons a b => rfl
    refine wpAny_binaryOp_repeat_ref (T := "tuple") (U := "int") (by decide) ⟨_, ho, rfl⟩ (fun s' => typeIs_int s' 0 t) noFill_tuple_mul F.fills_int_mul F.slot_int_rmul repeat_tuple F.slot_int_index.lookup
      (call_meets F.slot_int_rmul (typeIs_int s 0 t) F.entry_int_rmul (F.args_int_rmul_2 _ _) (int_rmul_tuple 0 t l its.toArray n dd sl)
        ⟨ho, rfl, ⟨_, ho, rfl⟩, call_meets F.slot_tuple_mul ⟨_, ho, rfl⟩ F.entry_tuple_mul (F.args_tuple_mul_2 _ _) (tuple_mul0 l its.toArray n dd sl 0 t (by decide) (by rw [hi]; rfl) (by rfl)) ⟨ho, ?_⟩⟩)
    refine ⟨.ref s.heap.objs.size, _, I.laid (t' := s.toks) (o := .tup []) (fun b ob q => Heap.get?_push_of_some _ q) (Nat.le_refl _) ?_, rfl, q _ _ (Same.new (I.hok.fresh (Nat.le_refl _))) upd_same⟩
    exact ⟨Nat.zero_le _, _, .nil, IsTup.new _ _⟩
  · exact op_repW pins s σ H (.ref l) (.int k) v u Q I rx ry ⟨l, k, xs, rfl, rfl, hT, hne, by omega, h2, hz, q⟩
end
end KV

/-! the law's shelvings -/
namespace KV
open PySem PySem.Spec PyProof.Rows L2 KC
section
variable {P_ : Program} {w : World} {K : PySem.W.Frag} {mg : Str → Option Value} {base : Heap}
def spLSh : Sp := fun vs H Q _ => ∃ d c : Addr, vs = [.ref d] ∧ Dl H d c ∧ ∀ (v : V) (P : Nat) (ws : List Nat) (H' : Hp), Shg P ws → ShG H' v P ws → Dl H' d c → Kp d c H H' → Q v H'
theorem sc49 : FnScope ["_law_deal", "_law_form", "_law_places", "_law_many", "_law_step", "_law_some", "_law_shelf"] ["_law_deal"] (defScope (top 49)) := ⟨rfl, rfl, rfl, by decide +kernel, rfl, by decide +kernel, by decide +kernel⟩
set_option maxHeartbeats 4000000 in
theorem ok_lsh {f : Addr} {fd : FuncData} (B : Bl mg) (CA : Cal P_ w K mg base CX0 1 "_law_any" ["_law_deal", "_law_bound"] spAny) (F : Fun K "_law_shelving" "_law_shelving" (top 49) f fd) : FnOk P_ w K mg base CX0 2 f fd ["_law_deal"] spLSh := by
  refine F.ok sc49 (fun vs H Q E h => ?_) (fun cdv A outer s H vs Q E hr h => ⟨_,
    (pss_cons (ps_asg (pe_tup (pa_cons (by exact (pe_cal (X := L2.Cx.nox _) CA hr (by decide) (pa_cons (pv 0) (pa_cons pe_int pa_nil)))) (pa_cons (pe_op op_add pe_int (by exact (pe_cal (X := L2.Cx.nox _) CA hr (by decide) (pa_cons (pv 0) (pa_cons pe_int pa_nil))))) pa_nil))) (pg_tup rfl (pgs_cons (pg_name (i := 1) sc49.nd rfl (.inl rfl)) (pgs_cons (pg_name (i := 2) sc49.nd rfl (.inr rfl)) pgs_nil))))
    (pss_cons (ps_set (i := 3) sc49.nd rfl (.inr rfl) (pe_op op_add pe_int (by exact (pe_cal (X := L2.Cx.nox _) CA hr (by decide) (pa_cons (pv 0) (pa_cons pe_int pa_nil))))))
    (pss_cons (ps_if (pt_cmpR op_eq (by exact (pe_cal (X := L2.Cx.nox _) CA hr (by decide) (pa_cons (pv 0) (pa_cons pe_int pa_nil)))) pe_int (nomark _)) (pss_one (ps_set (i := 3) sc49.nd rfl (.inr rfl) (pe_op op_fdivW pe_int (pv 2)))) pss_nil)
    (pss_cons (ps_if (pt_cmpR op_eq (pv 1) pe_int (nomark _)) (pss_one (ps_ret (pe_tup (pa_cons (pv 2) (pa_cons (pe_op op_repV (pe_tup (pa_cons (by exact (pe_cal (X := L2.Cx.nox _) CA hr (by decide) (pa_cons (pv 0) (pa_cons (pv 2) pa_nil)))) pa_nil)) (pv 3)) pa_nil))))) pss_nil)
    (pss_cons (ps_if (pt_cmpR op_eq (pv 1) pe_int (nomark _)) (pss_cons (ps_set (i := 4) sc49.nd rfl (.inr rfl) (pe_op op_add pe_int (by exact (pe_cal (X := L2.Cx.nox _) CA hr (by decide) (pa_cons (pv 0) (pa_cons pe_int pa_nil))))))
    (pss_one (ps_ret (pe_tup (pa_cons (pv 2) (pa_cons (pe_callTy call_tuple_of (by rfl) B.tuple (by decide +kernel) (pa_cons (pe_lc (own := [("_law_shelf", 6)]) (g := gName 6) (tt := tYes) rfl sc49.nd (pi_range1 (by rfl) B.range (pa_cons (pv 3) pa_nil)) (blkOk_by (N := ["_law_deal", "_law_form", "_law_places", "_law_many", "_law_step", "_law_some", "_law_shelf"]) (sc := defScope (top 49)) (by decide +kernel))
        (fun _ _ _ _ _ => (pg_name (i := 6) sc49.nd rfl (Or.inl rfl))) (fun _ _ _ _ _ => pts_nil) (fun _ _ _ _ _ => (pe_op op_mod (pe_callTy call_int1 (by rfl) B.int PyProof.Rows.boot_int (pa_cons (pe_op op_mulW (pv 4) (pv 6)) pa_nil)) (pv 2)))) pa_nil)) pa_nil)))))) pss_nil)
    (pss_cons (ps_if (PW.pt (pw_and (pt_cmpR op_eq (pv 1) pe_int (nomark _)) (pw_and (pt_cmpR op_gt (pv 2) pe_int (nomark _)) (pw_and1 (pt_cmpR op_gt (pv 3) pe_int (nomark _)))))) (pss_one (ps_ret (pe_tup (pa_cons (pv 2) (pa_cons (pe_op op_catP (pe_tup (pa_cons pe_int (pa_cons (pe_op op_sub (pv 2) pe_int) pa_nil))) (pe_op op_repV (pe_tup (pa_cons pe_int pa_nil)) (pe_op op_sub (pv 3) pe_int))) pa_nil))))) pss_nil)
    (pss_cons (ps_set (i := 5) sc49.nd rfl (.inr rfl) (pe_lc (own := [("_law_shelf", 6)]) (g := gName 6) (tt := tYes) rfl sc49.nd (pi_range1 (by rfl) B.range (pa_cons (pv 3) pa_nil)) (blkOk_by (N := ["_law_deal", "_law_form", "_law_places", "_law_many", "_law_step", "_law_some", "_law_shelf"]) (sc := defScope (top 49)) (by decide +kernel))
        (fun _ _ _ _ _ => (pg_name (i := 6) sc49.nd rfl (Or.inl rfl))) (fun _ _ _ _ _ => pts_nil) (fun _ _ _ _ _ => (pe_cal CA hr (by decide) (pa_cons (pv 0) (pa_cons (pv 2) pa_nil))))))
    (pss_cons (ps_if (pt_cmpR op_eq (pv 1) pe_int (nomark _)) (pss_one (ps_set (i := 5) sc49.nd rfl (.inr rfl) (pe_lc (own := [("_law_shelf", 6)]) (g := gName 6) (tt := tYes) rfl sc49.nd (pi_range1 (by rfl) B.range (pa_cons (pv 3) pa_nil)) (blkOk_by (N := ["_law_deal", "_law_form", "_law_places", "_law_many", "_law_step", "_law_some", "_law_shelf"]) (sc := defScope (top 49)) (by decide +kernel))
        (fun _ _ _ _ _ => (pg_name (i := 6) sc49.nd rfl (Or.inl rfl))) (fun _ _ _ _ _ => pts_nil) (fun _ _ _ _ _ => (pe_ix (r := rIxL K) ix_list (pv 5) (pe_op op_mod (pe_callTy call_int1 (by rfl) B.int PyProof.Rows.boot_int (pa_cons (pv 6) pa_nil)) (pe_callB (call_min2 rfl) (by rfl) B.min (by decide +kernel) (pa_cons pe_int (pa_cons (pv 3) pa_nil)))) (fun _ _ => rfl)))))) pss_nil)
    (pss_one (ps_ret (pe_tup (pa_cons (pv 2) (pa_cons (pe_callTy call_tuple_of (by rfl) B.tuple (by decide +kernel) (pa_cons (pv 5) pa_nil)) pa_nil))))))))))))), ?_⟩)
  · obtain ⟨d, c, rfl, _⟩ := h
    rfl
  obtain ⟨d, c, rfl, hD, q⟩ := h
  refine ⟨_, rfl, d, c, 5, rfl, hD, by decide, by decide, fun fm H1 f0 f1 D1 k1 => ⟨_, rfl, d, c, 10, rfl, D1, by decide, by decide, fun pz H2 p0 p1 D2 k2 => ⟨_, _, rfl, rfl, (by show 2 ≤ sizeLine; decide), fun t ht => ⟨t, _, rfl, SqT.of upd_same, rfl, _, _, rfl, _, _, rfl, rfl, ?_⟩⟩⟩⟩
  dsimp only [gName, gNil]
  obtain ⟨pn, rfl⟩ := Int.eq_ofNat_of_zero_le p0
  rw [show (1 : Int) + (pn : Int) = ((pn + 1 : Nat) : Int) by omega]
  generalize hP : pn + 1 = P
  have D3 := D2.same (Same.new (o := .tup [V.int fm, V.int ((pn + 1 : Nat) : Int)]) ht)
  have k3 := (k1.trans k2).trans (Kp.of (Same.new (o := .tup [V.int fm, V.int ((pn + 1 : Nat) : Int)]) ht))
  rw [hP] at D3 k3
  generalize upd H2 t (.tup [V.int fm, V.int (P : Int)]) = H3 at D3 k3
  have P1 : 1 ≤ P := by omega
  have P10 : P ≤ 10 := by omega
  clear p0 p1 hP k1 k2 D1 D2 ht
  refine ⟨_, rfl, d, c, 6, rfl, D3, by decide, by decide, fun wz H4 w0 w1 D4 k4 => ⟨_, _, rfl, rfl, ?_⟩⟩
  obtain ⟨wn, rfl⟩ := Int.eq_ofNat_of_zero_le w0
  dsimp only [gName]
  rw [show (1 : Int) + (wn : Int) = ((wn + 1 : Nat) : Int) by omega]
  refine sq_cut (fun σ H' => ∃ W : Nat, σ = [some (.ref d), some (.int (fm : Int)), some (.int (P : Int)), some (.int (W : Int)), none, none, none] ∧ Dl H' d c ∧ Kp d c H H' ∧ 1 ≤ W ∧ P * W ≤ 60) (fun Z hZ => ?_) ?_
  · refine ⟨_, rfl, d, c, 6, rfl, D4, by decide, by decide, fun yz H5 y0 y1 D5 k5 => ⟨rfl, _, rfl, ?_⟩⟩
    by_cases z : yz = 0
    · refine iteP (by simp [z]) ?_
      refine ⟨_, rfl, _, _, rfl, rfl, ⟨by omega, ?_⟩, ?_⟩
      · have := Nat.log2_le_self P
        show P.log2 < 9000
        omega
      exact hZ _ _ ⟨60 / P, rfl, D5, (k3.trans k4).trans k5, Nat.div_pos (by omega) P1, Nat.mul_div_le 60 P⟩
    · refine iteN (by simp [z]) (hZ _ _ ⟨_, rfl, D5, (k3.trans k4).trans k5, by omega, Nat.mul_le_mul P10 (show wn + 1 ≤ 6 by omega)⟩)
  rintro σ H5 ⟨W, rfl, D5, k5, W1, PW⟩
  clear k3 k4 D3 D4 w0 w1
  have W60 : W ≤ 60 := by
    have : 1 * W ≤ P * W := Nat.mul_le_mul_right W P1
    omega
  have fin : ∀ (t c2 : Addr) (ws : List Nat) (H' : Hp), ws.length = W → (∀ x ∈ ws, x < P) → H' t = some (.tup [.int (P : Int), .ref c2]) → H' c2 = some (.tup (vi ws)) → Dl H' d c → Kp d c H H' → Q (.ref t) H' := fun t c2 ws H' e1 e2 e3 e4 e5 e6 => q _ P ws H' ⟨P1, by omega, e2, by rw [e1]; exact PW⟩ ⟨t, c2, rfl, e3, e4⟩ e5 e6
  refine ⟨_, rfl, rfl, _, rfl, ?_⟩
  by_cases z0 : fm = 0
  · refine iteP (by simp [z0]) ?_
    refine ⟨_, rfl, _, rfl, _, rfl, d, c, (P : Int), rfl, D5, by omega, by omega, fun x H6 x0 x1 D6 k6 => ?_⟩
    obtain ⟨xn, rfl⟩ := Int.eq_ofNat_of_zero_le x0
    refine ⟨(by show 1 ≤ sizeLine; decide), fun t1 ht1 => ⟨_, rfl, t1, (W : Int), _, rfl, rfl, upd_same, by simp, by omega, by omega, by show 1 ≤ 1000; decide, fun t2 H7 s7 h7 => ⟨(by show 2 ≤ sizeLine; decide), fun t3 ht3 => ?_⟩⟩⟩
    have s8 := ((Same.new (o := .tup [V.int (xn : Int)]) ht1).trans s7).trans (Same.new (o := .tup [V.int (P : Int), V.ref t2]) ht3)
    refine fin t3 t2 (List.replicate W xn) _ (List.length_replicate ..) (fun y hy => by rw [(List.mem_replicate.mp hy).2]; omega) upd_same ?_ (D6.same s8) ((k5.trans k6).trans (Kp.of s8))
    rw [Same.new ht3 _ _ h7, rep_int, Int.toNat_natCast]
    unfold vi
    rw [List.map_replicate]
  refine iteN (by simp [z0]) ?_
  refine ⟨_, rfl, rfl, _, rfl, ?_⟩
  by_cases z1 : fm = 1
  · refine iteP (by simp [z1]) ?_
    refine ⟨_, rfl, d, c, 3, rfl, D5, by decide, by decide, fun sz H6 x0 x1 D6 k6 => ⟨_, _, rfl, rfl, ?_⟩⟩
    obtain ⟨sn, rfl⟩ := Int.eq_ofNat_of_zero_le x0
    dsimp only [gName]
    refine ⟨_, rfl, _, rfl, (W : Int), rfl, by omega, by omega, fun D hD => lc_range (n := (W : Int).toNat) (fun j H' => Same H6 H' ∧ H' D = some (.lst (vi ((List.range j).map fun s => ((sn + 1) * s) % P)))) ⟨Same.new hD, upd_same⟩ ?_ ?_⟩
    · rintro j H7 jl ⟨y1, y2⟩
      refine ⟨rfl, _, rfl, _, rfl, _, _, rfl, rfl, ?_, .inl ⟨_, rfl, _, rfl, _, _, rfl, rfl, ?_, _, y2, len_lt ?_, Same.upd y1 hD, ?_⟩⟩
      · rw [Int.zero_add, show (1 : Int) + (sn : Int) = ((sn + 1 : Nat) : Int) by omega]
        exact cmulN (by omega) (by omega)
      · show (0 : Int) < (P : Int)
        omega
      · unfold vi
        rw [List.length_map, List.length_map, List.length_range]
        omega
      · rw [upd_same, Int.zero_add, show (1 : Int) + (sn : Int) = ((sn + 1 : Nat) : Int) by omega, List.range_succ, List.map_append]
        unfold vi
        rw [List.map_append]
        rfl
    · rintro H7 ⟨y1, y2⟩
      refine ⟨D, _, rfl, .inl ⟨SqL.of y2, fun t2 ht2 => ⟨(by show 2 ≤ sizeLine; decide), fun t3 ht3 => ?_⟩⟩⟩
      rw [Int.toNat_natCast] at *
      have s8 := (y1.trans (Same.new (o := .tup (vi ((List.range W).map fun s => ((sn + 1) * s) % P))) ht2)).trans (Same.new (o := .tup [V.int (P : Int), V.ref t2]) ht3)
      exact fin t3 t2 _ _ (by rw [List.length_map, List.length_range]) (fun y hy => by
        obtain ⟨z, _, rfl⟩ := List.mem_map.mp hy
        exact Nat.mod_lt _ (by omega)) upd_same (Same.new ht3 _ _ upd_same) (D6.same s8) ((k5.trans k6).trans (Kp.of s8))
  refine iteN (by simp [z1]) ?_
  dsimp only [tNext]
  refine sq_cut (fun σ H' => σ = [some (.ref d), some (.int (fm : Int)), some (.int (P : Int)), some (.int (W : Int)), none, none, none] ∧ H' = H5) (fun Z hZ => ?_) ?_
  · refine ⟨_, rfl, rfl, _, rfl, ?_⟩
    by_cases z2 : fm = 2
    · refine iteP (by simp [z2]) ⟨_, rfl, _, _, rfl, rfl, _, rfl, ?_⟩
      by_cases zp : 1 < P
      · refine iteP (by simp; omega) ⟨_, rfl, _, _, rfl, rfl, _, rfl, ?_⟩
        by_cases zw : 1 < W
        · refine iteP (by simp; omega) ?_
          refine ⟨_, rfl, _, rfl, _, _, rfl, rfl, (by show 2 ≤ sizeLine; decide), fun t1 ht1 => ⟨(by show 1 ≤ sizeLine; decide), fun t2 ht2 => ⟨_, rfl, _, _, rfl, rfl, t2, _, _, rfl, rfl, upd_same, by simp, by omega, by omega, by show 1 ≤ 1000; decide, fun t3 H6 s6 h6 => ?_⟩⟩⟩
          have e1 : H6 t1 = some (.tup [.int 1, .int ((P : Int) - 1)]) := s6 _ _ (Same.new ht2 _ _ upd_same)
          refine ⟨t1, t3, _, _, rfl, rfl, e1, h6, ?_, fun t4 H7 s7 h7 => ⟨(by show 2 ≤ sizeLine; decide), fun t5 ht5 => ?_⟩⟩
          · rw [rep_int, List.length_replicate]
            show 2 + _ ≤ 1000
            omega
          have s8 := ((((Same.new (o := .tup [.int 1, .int ((P : Int) - 1)]) ht1).trans (Same.new (o := .tup [.int 0]) ht2)).trans s6).trans s7).trans (Same.new (o := .tup [V.int (P : Int), V.ref t4]) ht5)
          refine fin t5 t4 ([1, P - 1] ++ List.replicate (W - 2) 0) _ ?_ (fun y hy => ?_) upd_same ?_ (D5.same s8) (k5.trans (Kp.of s8))
          · rw [List.length_append, List.length_replicate]
            show 2 + _ = W
            omega
          · rcases List.mem_append.mp hy with hy | hy
            · simp only [List.mem_cons, List.not_mem_nil, or_false] at hy
              omega
            · rw [(List.mem_replicate.mp hy).2]
              omega
          · rw [Same.new ht5 _ _ h7, rep_int, show ((W : Int) - 2).toNat = W - 2 by omega, show (P : Int) - 1 = ((P - 1 : Nat) : Int) by omega]
            unfold vi
            rw [List.map_append, List.map_replicate]
            rfl
        · exact iteN (by simp; omega) (hZ _ _ ⟨rfl, rfl⟩)
      · exact iteN (by simp; omega) (hZ _ _ ⟨rfl, rfl⟩)
    · exact iteN (by simp [z2]) (hZ _ _ ⟨rfl, rfl⟩)
  rintro σ H6 ⟨rfl, rfl⟩
  refine ⟨_, rfl, (W : Int), rfl, by omega, by omega, fun D hD => lc_range (n := (W : Int).toNat) (fun j H' => AccD d c H6 D P j H') (AccD.init D5 hD) ?_ ?_⟩
  · intro j H' jl z
    refine ⟨rfl, _, rfl, _, rfl, d, c, (P : Int), rfl, z.1, by omega, by omega, fun r9 H7 r0 r1 D7 k7 => ?_⟩
    exact z.step D5 hD D7 k7 r0 r1 (by omega)
  rintro H7 ⟨D7, k7, ws0, e1, e2, e3⟩
  rw [Int.toNat_natCast] at e1
  dsimp only [gName]
  refine sq_cut (fun σ H' => ∃ (l : Addr) (ws : List Nat), σ = [some (.ref d), some (.int (fm : Int)), some (.int (P : Int)), some (.int (W : Int)), none, some (.ref l), none] ∧ Dl H' d c ∧ Kp d c H H' ∧ ws.length = W ∧ (∀ x ∈ ws, x < P) ∧ H' l = some (.lst (vi ws))) (fun Z hZ => ?_) ?_
  · refine ⟨_, rfl, rfl, _, rfl, ?_⟩
    by_cases z3 : fm = 3
    · refine iteP (by simp [z3]) ?_
      refine ⟨_, rfl, (W : Int), rfl, by omega, by omega, fun D2 hD2 => lc_range (n := (W : Int).toNat) (fun j H' => Same H7 H' ∧ ∃ ws : List Nat, ws.length = j ∧ (∀ x ∈ ws, x < P) ∧ H' D2 = some (.lst (vi ws))) ⟨Same.new hD2, [], rfl, fun _ h => (by cases h), upd_same⟩ ?_ ?_⟩
      · rintro j H8 jl ⟨y1, ws, y2, y3, y4⟩
        obtain ⟨mn, hmn, m1, m2⟩ : ∃ mn : Nat, (if (W : Int) < 2 then (W : Int) else 2) = (mn : Int) ∧ 1 ≤ mn ∧ mn ≤ W := by
          by_cases z : W < 2
          · exact ⟨W, by rw [if_pos (by omega)], W1, Nat.le_refl _⟩
          · exact ⟨2, by rw [if_neg (by omega)]; rfl, by omega, by omega⟩
        have jm : j % mn < ws0.length := by have := Nat.mod_lt j (show 0 < mn by omega); omega
        have eI : (0 + (j : Int)) % (mn : Int) = ((j % mn : Nat) : Int) := by rw [Int.zero_add]; rfl
        refine ⟨rfl, _, rfl, _, rfl, .inl ⟨_, rfl, _, rfl, _, _, rfl, _, _, rfl, rfl, ?_, D, _, _, .int ((ws0[j % mn] : Nat) : Int), rfl, rfl, SqL.of (y1 _ _ e3), ?_, _, y4, len_lt ?_, Same.upd y1 hD2, ws ++ [ws0[j % mn]], ?_, fun x hx => ?_, ?_⟩⟩
        · show (0 : Int) < if (W : Int) < 2 then (W : Int) else 2
          rw [hmn]
          omega
        · show atI (vi ws0) ((0 + (j : Int)) % (if (W : Int) < 2 then (W : Int) else 2)) = _
          rw [hmn, eI]
          exact atI_nat (by unfold vi; rw [List.getElem?_map, List.getElem?_eq_getElem jm]; rfl)
        · unfold vi
          rw [List.length_map]
          omega
        · rw [List.length_append, y2]
          rfl
        · rcases List.mem_append.mp hx with h | h
          · exact y3 x h
          · rw [List.mem_singleton.mp h]
            exact e2 _ (List.getElem_mem _)
        · rw [upd_same]
          unfold vi
          rw [List.map_append]
          rfl
      · rintro H8 ⟨y1, ws, y2, y3, y4⟩
        rw [Int.toNat_natCast] at y2
        dsimp only [gName]
        exact hZ _ _ ⟨D2, ws, rfl, D7.same y1, (k5.trans k7).trans (Kp.of y1), y2, y3, y4⟩
    · exact iteN (by simp [z3]) (hZ _ _ ⟨D, ws0, rfl, D7, k5.trans k7, e1, e2, e3⟩)
  rintro σ H8 ⟨l, ws, rfl, D8, k8, y2, y3, y4⟩
  refine ⟨_, rfl, _, rfl, l, _, rfl, .inl ⟨SqL.of y4, fun t2 ht2 => ⟨(by show 2 ≤ sizeLine; decide), fun t3 ht3 => ?_⟩⟩⟩
  have s8 := (Same.new (o := .tup (vi ws)) ht2).trans (Same.new (o := .tup [V.int (P : Int), V.ref t2]) ht3)
  exact fin t3 t2 ws _ y2 y3 upd_same (Same.new ht3 _ _ upd_same) (D8.same s8) (k8.trans (Kp.of s8))
end
end KV

/-! max of a tuple of ints, with default= too -/
namespace KV
open PySem PySem.Spec PyProof.Rows L2
section
variable {prog : Program} {w : World} {A : Around} {s : Shared} {E : Value → Shared → Prop} {Q : Value → Shared → Prop} {l : Addr} {its : List Value} {ns : List Int}
theorem maxT_raw (hh : A.handled = none) (hl : s.heap.IsTuple l its.toArray) (hi : IntsAre its ns) (hne : 0 < ns.length)
    (h : ∀ hp tk m t, (∀ b o, s.heap.get? b = some o → hp.get? b = some o) → m ∈ ns → (∀ y, y ∈ ns → y ≤ m) → Q (.int m t) { s with heap := hp, toks := tk }) : wpAny (model prog w) A (call (.builtin "max") [.ref l]) Q E s := by
  obtain ⟨xs, e⟩ := hi.allInts.items
  have hn : numsOf (intItems xs).toList = ns := by rw [← e]; exact hi.numsOf
  rw [nums_intItems] at hn
  subst hn
  rw [e] at hl
  have hsz : 0 < xs.size := by simpa using hne
  refine PySem.call_max_walkH (PySem.W.iter_tupleW (A := A.in1) hh hl fun s₂ es W st hfp hw hk => ?_)
  refine ⟨_, _, _, _, _, _, _, s.heap, _, rfl, W, st, hfp, by simpa [intItems] using hsz, hw, hk, fun i j vi vj s' Q' E' _ hi' hj' q => CmpOf.ints_gt (numAt xs) (fun _ _ => intItems_at) i j vi vj s' Q' E' hi' hj' q, fun v s' hP mv => ?_⟩
  obtain ⟨hp, tk, rfl, kk⟩ := PySem.W.moved_old es rfl mv
  have hs : (intItems xs).toList.toArray.size = xs.size := by simp [intItems]
  rw [hs] at hP
  have hP' : (intItems xs)[argBest (fun i j => decide (numAt xs i > numAt xs j)) (xs.size - 1)]? = some v := by simpa using hP
  obtain ⟨t, rfl⟩ := intItems_at hP'
  obtain ⟨h1, h2⟩ := argBest_gt (numAt xs) (xs.size - 1)
  refine h hp tk _ t kk ?_ fun a ha => ?_
  · rw [numAt_eq]
    exact PySem.getD_mem (by rw [List.length_map, Array.length_toList]; omega)
  · obtain ⟨j, hj, rfl⟩ := mem_getD ha
    rw [List.length_map, Array.length_toList] at hj
    rw [← numAt_eq]
    exact h2 j (by omega)
end
def rMaxT (K : PySem.W.Frag) : List V → Hp → VK → Prop := fun vs H Q => ∃ (a : Addr) (ns : List Int), vs = [.ref a] ∧ SqT K H a (ns.map V.int) ∧ 0 < ns.length ∧ ∀ m, m ∈ ns → (∀ y, y ∈ ns → y ≤ m) → Q (.int m) H
theorem cr_maxT {X : Cx} (hc : X.calm = true) : CallR X (.builtin "max") (rMaxT X.K) := by
  intro pins s σ H vs us Q I r h
  obtain ⟨a, ns, rfl, hs, hne, q⟩ := h
  obtain ⟨its, rv, hl, _⟩ := I.tuple hs
  rw [Vals.ref1 r]
  exact maxT_raw (I.ok.hd hc) hl rv.ints hne fun h' tk m t' hk h1 h2 => ⟨.int _, H, I.kept hk, ⟨_, rfl⟩, q m h1 h2⟩
end KV

/-! the law's values near a shelving -/
namespace KV
open PySem PySem.Spec PyProof.Rows L2 KC
/-- a pair of any kind -/
theorem shv_pair {K : PySem.W.Frag} {H : Hp} {t : Addr} {p u : V} (ht : H t = some (.tup [p, u])) (hp : AnyV K H p) (hu : (∃ T, TyX K H u (.type T) ∧ NTy T) ∨ ∃ (c : Addr) (ws : List V), u = .ref c ∧ H c = some (.tup ws) ∧ ws.length ≤ 1000 ∧ ∀ x ∈ ws, EltV H x) : ∃ b, ShV K H (.ref t) b := by
  by_cases z : ∃ i : Int, p = .int i ∧ 1 ≤ i
  · obtain ⟨i, rfl, i1⟩ := z
    rcases hu with hu | ⟨c, ws, e, h1, h2, h3⟩
    · exact ⟨false, .inr ⟨t, _, rfl, ht, by show 2 ≤ 1000; decide, .inr ⟨_, u, rfl, hp, .inr ⟨i, rfl, i1, .inl ⟨rfl, hu⟩⟩⟩⟩⟩
    · exact ⟨_, .inr ⟨t, _, rfl, ht, by show 2 ≤ 1000; decide, .inr ⟨_, u, rfl, hp, .inr ⟨i, rfl, i1, .inr ⟨c, ws, e, h1, h2, h3, rfl⟩⟩⟩⟩⟩
  · exact ⟨false, .inr ⟨t, _, rfl, ht, by show 2 ≤ 1000; decide, .inr ⟨p, u, rfl, hp, .inl ⟨fun i e => Classical.byContradiction fun h => z ⟨i, e, by omega⟩, rfl⟩⟩⟩⟩
theorem shv_tup {K : PySem.W.Frag} {H : Hp} {t : Addr} {xs : List V} (ht : H t = some (.tup xs)) (hl : xs.length ≤ 1000) (h2 : xs.length ≠ 2) : ShV K H (.ref t) false := .inr ⟨t, xs, rfl, ht, hl, .inl ⟨h2, rfl⟩⟩
theorem shv_no {K : PySem.W.Frag} {H : Hp} {v : V} {T : String} (h : TyX K H v (.type T)) (n : NTy T) : ShV K H v false := .inl ⟨rfl, T, h, n⟩
theorem elt_vi {H : Hp} {ws : List Nat} : ∀ x ∈ vi ws, EltV H x := fun x hx => by
  obtain ⟨y, _, rfl⟩ := List.mem_map.mp hx
  exact .inl (.inl ⟨_, rfl⟩)
section
variable {P_ : Program} {w : World} {K : PySem.W.Frag} {mg : Str → Option Value} {base : Heap}
def spNear (K : PySem.W.Frag) : Sp := fun vs H Q _ => ∃ (d c : Addr) (sh : V) (P : Nat) (ws : List Nat), vs = [.ref d, sh] ∧ Dl H d c ∧ Shg P ws ∧ ShG H sh P ws ∧ ∀ (v : V) (b : Bool) (H' : Hp), ShV K H' v b → Dl H' d c → Kp d c H H' → Q v H'
theorem sc52 : FnScope ["_law_deal", "_law_shelving_here", "_law_places", "_law_weights", "_law_form", "_law_at", "_law_wrong"] ["_law_deal", "_law_shelving_here"] (defScope (top 52)) := ⟨rfl, rfl, rfl, by decide +kernel, rfl, by decide +kernel, by decide +kernel⟩
set_option maxHeartbeats 4000000 in
theorem ok_near {f : Addr} {fd : FuncData} (B : Bl mg) (CA : Cal P_ w K mg base CX0 1 "_law_any" ["_law_deal", "_law_bound"] spAny) (CO : Cal P_ w K mg base CX0 2 "_law_of" ["_law_deal", "_law_some"] (spOf K)) (F : Fun K "_law_near" "_law_near" (top 52) f fd) : FnOk P_ w K mg base CX0 3 f fd ["_law_deal", "_law_shelving_here"] (spNear K) := by
  refine F.ok sc52 (fun vs H Q E h => ?_) (fun cdv A outer s H vs Q E hr h => ⟨_,
    (pss_cons (ps_asg (pv 1) (pg_tup rfl (pgs_cons (pg_name (i := 2) sc52.nd rfl (.inl rfl)) (pgs_cons (pg_name (i := 3) sc52.nd rfl (.inl rfl)) pgs_nil))))
    (pss_cons (ps_par (i := 4) (j := 5) rfl sc52.nd rfl rfl (by decide) rfl rfl (pa_cons (by exact (pe_cal (X := L2.Cx.nox _) CA hr (by decide) (pa_cons (pv 0) (pa_cons pe_int pa_nil)))) (pa_cons (by exact (pe_cal (X := L2.Cx.nox _) CA hr (by decide) (pa_cons (pv 0) (pa_cons (pe_callB call_len_seq (by rfl) B.len PySem.boot_len (pa_cons (pv 3) pa_nil)) pa_nil)))) pa_nil)) (by rfl))
    (pss_cons (ps_if (pt_cmpR op_eq (pv 4) pe_int (nomark _)) (pss_one (ps_ret (pe_lst (pa_cons (pv 2) (pa_cons (pv 3) pa_nil))))) pss_nil)
    (pss_cons (ps_if (pt_cmpR op_eq (pv 4) pe_int (nomark _)) (pss_one (ps_ret (pe_tup (pa_cons (pv 2) (pa_cons (pe_callTy call_list_of (by rfl) B.list (by decide +kernel) (pa_cons (pv 3) pa_nil)) pa_nil))))) pss_nil)
    (pss_cons (ps_if (pt_cmpR op_eq (pv 4) pe_int (nomark _)) (pss_one (ps_ret (pe_tup (pa_cons (pv 2) (pa_cons (pv 3) (pa_cons (pv 3) pa_nil)))))) pss_nil)
    (pss_cons (ps_if (pt_cmpR op_eq (pv 4) pe_int (nomark _)) (pss_one (ps_ret (pe_tup (pa_cons (by exact (pe_cal (X := L2.Cx.nox _) CO hr (by decide) (pa_cons (pv 0) (pa_cons (pe_lst (pa_cons pe_int (pa_cons (pe_un un_neg pe_int) (pa_cons pe_non (pa_cons pe_bl (pa_cons pe_str (pa_cons (pe_un un_neg (pv 2)) (pa_cons (pe_callB (cr_maxT rfl) (by rfl) B.max (by decide +kernel) (pa_cons (pv 3) pa_nil)) (pa_cons (pe_tup (pa_cons (pv 2) pa_nil)) pa_nil))))))))) pa_nil)))) (pa_cons (pv 3) pa_nil))))) pss_nil)
    (pss_cons (ps_if (pt_cmpR op_eq (pv 4) pe_int (nomark _)) (pss_one (ps_ret (pe_tup (pa_cons (pv 2) (pa_cons (by exact (pe_cal (X := L2.Cx.nox _) CO hr (by decide) (pa_cons (pv 0) (pa_cons (pe_lst (pa_cons (pe_tup pa_nil) (pa_cons (pe_lst pa_nil) (pa_cons pe_int (pa_cons pe_non (pa_cons pe_str (pa_cons (pe_tup (pa_cons (pv 3) pa_nil)) pa_nil))))))) pa_nil)))) pa_nil))))) pss_nil)
    (pss_cons (ps_if (pt_cmpR op_eq (pv 4) pe_int (nomark _)) (pss_one (ps_ret (by exact (pe_cal (X := L2.Cx.nox _) CO hr (by decide) (pa_cons (pv 0) (pa_cons (pe_lst (pa_cons pe_non (pa_cons pe_int (pa_cons pe_str (pa_cons (pe_tup pa_nil) (pa_cons (pe_tup (pa_cons (pv 2) pa_nil)) (pa_cons (pe_lst pa_nil) (pa_cons (pe_tup (pa_cons (pv 3) (pa_cons (pv 2) pa_nil))) (pa_cons (pe_disp (pps_cons pe_int (pv 2) (pps_cons pe_int (pv 3) pps_nil)) rfl rfl (by simp) (by decide)) pa_nil))))))))) pa_nil)))))) pss_nil)
    (pss_cons (ps_if (pt_cmpR op_eq (pv 4) pe_int (nomark _)) (pss_one (ps_ret (pe_tup (pa_cons (pe_op op_add (pe_op op_add (pv 2) pe_int) (by exact (pe_cal (X := L2.Cx.nox _) CA hr (by decide) (pa_cons (pv 0) (pa_cons pe_int pa_nil))))) (pa_cons (pv 3) pa_nil))))) pss_nil)
    (pss_cons (ps_set (i := 6) sc52.nd rfl (.inl rfl) (by exact (pe_cal (X := L2.Cx.nox _) CO hr (by decide) (pa_cons (pv 0) (pa_cons (pe_lst (pa_cons (pv 2) (pa_cons (pv 2) (pa_cons (pe_un un_neg pe_int) (pa_cons pe_non (pa_cons pe_bl (pa_cons pe_bl (pa_cons pe_str (pa_cons (pe_tup (pa_cons pe_int pa_nil)) (pa_cons (pe_op op_add (pv 2) pe_int) (pa_cons pe_int (pa_cons (pe_op op_sub (pv 2) pe_int) pa_nil)))))))))))) pa_nil)))))
    (pss_one (ps_ret (pe_tup (pa_cons (pv 2) (pa_cons (pe_op op_catP (pe_op op_catP (pe_slice sl_tupP (pv 3) po_none (po_some (pv 5))) (pe_tup (pa_cons (pv 6) pa_nil))) (pe_slice sl_tupP (pv 3) (po_some (pe_op op_add (pv 5) pe_int)) po_none)) pa_nil))))))))))))))), ?_⟩)
  · obtain ⟨d, c, sh, P, ws, rfl, _⟩ := h
    rfl
  obtain ⟨d, c, sh, P, ws, rfl, hD, hg, ⟨a, wt, rfl, ha, hw⟩, q⟩ := h
  refine ⟨_, rfl, a, _, rfl, SqT.of ha, rfl, _, _, rfl, _, _, rfl, rfl, ?_⟩
  dsimp only [gName, gNil]
  have lw : (vi ws).length = ws.length := List.length_map ..
  have wl : 1 * ws.length ≤ P * ws.length := Nat.mul_le_mul_right _ hg.p1
  have le := hg.le
  have w1 := hg.w1
  refine ⟨_, rfl, d, c, 12, rfl, hD, by decide, by decide, fun fm H1 f0 f1 D1 k1 => ⟨_, rfl, _, rfl, wt, _, rfl, .inr (SqT.of (hD.kT k1 hw)), d, c, _, rfl, D1, by rw [lw]; omega, by rw [lw]; omega, fun az H2 a0 a1 D2 k2 => ⟨_, _, rfl, ?_⟩⟩⟩
  obtain ⟨an, rfl⟩ := Int.eq_ofNat_of_zero_le a0
  rw [lw] at a1
  have k02 := k1.trans k2
  have hw2 := hD.kT k02 hw
  dsimp only
  clear k1 D1 k2 a0
  have wl2 : (vi ws).length ≤ 1000 := by omega
  have Wv : ∀ {H'}, Kp d c H H' → (∃ T, TyX K H' (.ref wt) (.type T) ∧ NTy T) ∨ ∃ (c2 : Addr) (xs : List V), (V.ref wt) = .ref c2 ∧ H' c2 = some (.tup xs) ∧ xs.length ≤ 1000 ∧ ∀ x ∈ xs, EltV H' x := fun k => .inr ⟨wt, _, rfl, hD.kT k hw, wl2, elt_vi⟩
  refine ⟨_, rfl, rfl, _, rfl, ?_⟩
  by_cases z0 : fm = 0
  · refine iteP (by simp [z0]) ?_
    refine ⟨_, rfl, _, rfl, (by show 2 ≤ sizeLine; decide), fun l hl => ?_⟩
    exact q _ false _ (shv_no (T := "list") (.base (.lst upd_same)) (by simp [NTy])) (D2.same (Same.new hl)) (k02.trans (Kp.of (Same.new hl)))
  refine iteN (by simp [z0]) ?_
  dsimp only [tNext]
  refine ⟨_, rfl, rfl, _, rfl, ?_⟩
  by_cases z1 : fm = 1
  · refine iteP (by simp [z1]) ?_
    refine ⟨_, rfl, _, rfl, wt, _, rfl, .inr (SqT.of hw2), fun l hl => ⟨(by show 2 ≤ sizeLine; decide), fun t ht => ?_⟩⟩
    have s3 := (Same.new (o := .lst (vi ws)) hl).trans (Same.new (o := .tup [V.int (P : Int), V.ref l]) ht)
    obtain ⟨b, hb⟩ := shv_pair (K := K) (H := upd (upd H2 l (.lst (vi ws))) t (.tup [V.int (P : Int), V.ref l])) upd_same (.int _) (.inl ⟨"list", .base (.lst (Same.new ht _ _ upd_same)), by simp [NTy]⟩)
    exact q _ b _ hb (D2.same s3) (k02.trans (Kp.of s3))
  refine iteN (by simp [z1]) ?_
  dsimp only [tNext]
  refine ⟨_, rfl, rfl, _, rfl, ?_⟩
  by_cases z2 : fm = 2
  · refine iteP (by simp [z2]) ?_
    refine ⟨_, rfl, _, rfl, _, rfl, (by show 3 ≤ sizeLine; decide), fun t ht => ?_⟩
    exact q _ false _ (shv_tup upd_same (by show 3 ≤ 1000; decide) (by show 3 ≠ 2; decide)) (D2.same (Same.new ht)) (k02.trans (Kp.of (Same.new ht)))
  refine iteN (by simp [z2]) ?_
  dsimp only [tNext]
  refine ⟨_, rfl, rfl, _, rfl, ?_⟩
  by_cases z3 : fm = 3
  · refine iteP (by simp [z3]) ?_
    refine ⟨_, rfl, _, rfl, _, rfl, _, rfl, _, rfl, wt, zi ws, rfl, SqT.of (by rw [← vi_zi]; exact hw2), by unfold zi; rw [List.length_map]; omega, fun m hm1 hm2 => ?_⟩
    refine ⟨_, rfl, (by show 1 ≤ sizeLine; decide), fun t1 ht1 => ⟨(by show 8 ≤ sizeLine; decide), fun l hl => ?_⟩⟩
    have s3 := (Same.new (o := .tup [V.int (P : Int)]) ht1).trans (Same.new (o := .lst [.int 0, .int (-1), .non, .bl true, .str ("3" : Str), .int (-(P : Int)), .int m, .ref t1]) hl)
    have nl := (D2.same (Same.new (o := .tup [V.int (P : Int)]) ht1)).ne hl
    have e1 : upd (upd H2 t1 (.tup [V.int (P : Int)])) l (.lst [.int 0, .int (-1), .non, .bl true, .str ("3" : Str), .int (-(P : Int)), .int m, .ref t1]) t1 = some (.tup [V.int (P : Int)]) := Same.new hl _ _ upd_same
    refine ⟨d, c, l, _, rfl, D2.same s3, nl.1, nl.2, SqL.of upd_same, by show 0 < 8; decide, by show 8 ≤ 1000; decide, fun j x H3 hx D3 k3 => ⟨_, rfl, (by show 2 ≤ sizeLine; decide), fun t2 ht2 => ?_⟩⟩
    have kk := (k02.trans (Kp.of s3)).trans k3
    have anyx : AnyV K H3 x := by
      have := List.mem_of_getElem? hx
      simp only [List.mem_cons, List.not_mem_nil, or_false] at this
      rcases this with rfl | rfl | rfl | rfl | rfl | rfl | rfl | rfl
      · exact .int _
      · exact .int _
      · exact .non
      · exact .bl _
      · exact .str _
      · exact .int _
      · exact .int _
      · exact .tup ((D2.same s3).kT k3 e1)
    have sN := Same.new (o := .tup [x, V.ref wt]) ht2
    obtain ⟨b, hb⟩ := shv_pair (K := K) (H := upd H3 t2 (.tup [x, V.ref wt])) upd_same (anyx.same sN) (Wv (kk.trans (Kp.of sN)))
    exact q _ b _ hb (D3.same sN) (kk.trans (Kp.of sN))
  refine iteN (by simp [z3]) ?_
  dsimp only [tNext]
  refine ⟨_, rfl, rfl, _, rfl, ?_⟩
  by_cases z4 : fm = 4
  · refine iteP (by simp [z4]) ?_
    refine ⟨_, rfl, _, rfl, (by show 0 ≤ sizeLine; decide), fun t1 ht1 => ⟨(by show 0 ≤ sizeLine; decide), fun l1 hl1 => ⟨_, rfl, (by show 1 ≤ sizeLine; decide), fun t3 ht3 => ⟨(by show 6 ≤ sizeLine; decide), fun l hl => ?_⟩⟩⟩⟩
    have sa := Same.new (o := .tup []) ht1
    have sb := sa.trans (Same.new (o := .lst []) hl1)
    have sc := sb.trans (Same.new (o := .tup [V.ref wt]) ht3)
    have n1 := (D2.same sa).ne hl1
    have nl := (D2.same sc).ne hl
    have e1 : upd (upd (upd H2 t1 (.tup [])) l1 (.lst [])) t3 (.tup [V.ref wt]) t1 = some (.tup []) := Same.new ht3 _ _ (Same.new hl1 _ _ upd_same)
    have e2 : upd (upd (upd H2 t1 (.tup [])) l1 (.lst [])) t3 (.tup [V.ref wt]) l1 = some (.lst []) := Same.new ht3 _ _ upd_same
    have e3 : upd (upd (upd H2 t1 (.tup [])) l1 (.lst [])) t3 (.tup [V.ref wt]) t3 = some (.tup [V.ref wt]) := upd_same
    generalize upd (upd (upd H2 t1 (.tup [])) l1 (.lst [])) t3 (.tup [V.ref wt]) = G at sc e1 e2 e3 hl
    have s3 := sc.trans (Same.new (o := .lst [.ref t1, .ref l1, .int 0, .non, .str ("0" : Str), .ref t3]) hl)
    have sl := Same.new (o := .lst [.ref t1, .ref l1, .int 0, .non, .str ("0" : Str), .ref t3]) hl
    refine ⟨d, c, l, _, rfl, D2.same s3, nl.1, nl.2, SqL.of upd_same, by show 0 < 6; decide, by show 6 ≤ 1000; decide, fun j x H3 hx D3 k3 => ⟨(by show 2 ≤ sizeLine; decide), fun t2 ht2 => ?_⟩⟩
    have kk := (k02.trans (Kp.of s3)).trans k3
    have kl := (Kp.of (d := d) (c := c) sl).trans k3
    have sN := Same.new (o := .tup [V.int (P : Int), x]) ht2
    have DG := D2.same sc
    have ux : (∃ T, TyX K (upd H3 t2 (.tup [V.int (P : Int), x])) x (.type T) ∧ NTy T) ∨ ∃ (c2 : Addr) (xs : List V), x = .ref c2 ∧ upd H3 t2 (.tup [V.int (P : Int), x]) c2 = some (.tup xs) ∧ xs.length ≤ 1000 ∧ ∀ y ∈ xs, EltV (upd H3 t2 (.tup [V.int (P : Int), x])) y := by
      have := List.mem_of_getElem? hx
      simp only [List.mem_cons, List.not_mem_nil, or_false] at this
      rcases this with rfl | rfl | rfl | rfl | rfl | rfl
      · exact .inr ⟨t1, [], rfl, sN _ _ (DG.kT kl e1), by decide, fun y hy => (by cases hy)⟩
      · exact .inl ⟨"list", .base (.lst (sN _ _ (kl _ _ n1.1 n1.2 e2))), by simp [NTy]⟩
      · exact .inl ⟨"int", .base (.int _), by simp [NTy]⟩
      · exact .inl ⟨"NoneType", .base .non, by simp [NTy]⟩
      · exact .inl ⟨"str", .base (.str _), by simp [NTy]⟩
      · refine .inr ⟨t3, [V.ref wt], rfl, sN _ _ (DG.kT kl e3), by show 1 ≤ 1000; decide, fun y hy => ?_⟩
        rw [List.mem_singleton.mp hy]
        exact .inl (.inr ⟨wt, zi ws, rfl, by rw [← vi_zi]; exact sN _ _ (hD.kT kk hw)⟩)
    obtain ⟨b, hb⟩ := shv_pair (K := K) (H := upd H3 t2 (.tup [V.int (P : Int), x])) upd_same (.int _) ux
    exact q _ b _ hb (D3.same sN) (kk.trans (Kp.of sN))
  refine iteN (by simp [z4]) ?_
  dsimp only [tNext]
  refine ⟨_, rfl, rfl, _, rfl, ?_⟩
  by_cases z5 : fm = 5
  · refine iteP (by simp [z5]) ?_
    refine ⟨_, rfl, (by show 0 ≤ sizeLine; decide), fun t1 ht1 => ⟨_, rfl, (by show 1 ≤ sizeLine; decide), fun t2 ht2 => ⟨(by show 0 ≤ sizeLine; decide), fun l1 hl1 => ⟨_, rfl, _, rfl, (by show 2 ≤ sizeLine; decide), fun t3 ht3 => fun p hp => ?_⟩⟩⟩⟩
    refine ⟨_, rfl, _, rfl, upd_same, [(Sum.inl 0, .int (P : Int)), (Sum.inl 1, .ref wt)], rfl, by show 2 ≤ 15; decide, (by show 8 ≤ sizeLine; decide), fun l hl => ?_⟩
    have sa := Same.new (o := .tup []) ht1
    have sb := sa.trans (Same.new (o := .tup [V.int (P : Int)]) ht2)
    have sc := sb.trans (Same.new (o := .lst []) hl1)
    have sd := sc.trans (Same.new (o := .tup [V.ref wt, V.int (P : Int)]) ht3)
    have n1 := (D2.same sb).ne hl1
    have np := (D2.same sd).ne hp
    have e1 : upd (upd (upd (upd H2 t1 (.tup [])) t2 (.tup [V.int (P : Int)])) l1 (.lst [])) t3 (.tup [V.ref wt, V.int (P : Int)]) t1 = some (.tup []) := Same.new ht3 _ _ (Same.new hl1 _ _ (Same.new ht2 _ _ upd_same))
    have e2 : upd (upd (upd (upd H2 t1 (.tup [])) t2 (.tup [V.int (P : Int)])) l1 (.lst [])) t3 (.tup [V.ref wt, V.int (P : Int)]) t2 = some (.tup [V.int (P : Int)]) := Same.new ht3 _ _ (Same.new hl1 _ _ upd_same)
    have e3 : upd (upd (upd (upd H2 t1 (.tup [])) t2 (.tup [V.int (P : Int)])) l1 (.lst [])) t3 (.tup [V.ref wt, V.int (P : Int)]) l1 = some (.lst []) := Same.new ht3 _ _ upd_same
    have e4 : upd (upd (upd (upd H2 t1 (.tup [])) t2 (.tup [V.int (P : Int)])) l1 (.lst [])) t3 (.tup [V.ref wt, V.int (P : Int)]) t3 = some (.tup [V.ref wt, V.int (P : Int)]) := upd_same
    generalize upd (upd (upd (upd H2 t1 (.tup [])) t2 (.tup [V.int (P : Int)])) l1 (.lst [])) t3 (.tup [V.ref wt, V.int (P : Int)]) = G at sd e1 e2 e3 e4 hp hl np ⊢
    have se : Same G (upd (upd G p (.dK [])) p (.dK (mergeK [] [(Sum.inl 0, .int (P : Int)), (Sum.inl 1, .ref wt)]))) := fun b o e => by
      have nb : b ≠ p := fun z => by rw [z, hp] at e; cases e
      rw [upd_ne nb, upd_ne nb]
      exact e
    have e5 : upd (upd G p (.dK [])) p (.dK (mergeK [] [(Sum.inl 0, .int (P : Int)), (Sum.inl 1, .ref wt)])) p = some (.dK (mergeK [] [(Sum.inl 0, .int (P : Int)), (Sum.inl 1, .ref wt)])) := upd_same
    generalize upd (upd G p (.dK [])) p (.dK (mergeK [] [(Sum.inl 0, .int (P : Int)), (Sum.inl 1, .ref wt)])) = G2 at se e5 hl ⊢
    have s2 := sd.trans se
    have nl := (D2.same s2).ne hl
    have sl := Same.new (o := .lst [.non, .int 4, .str ("ab" : Str), .ref t1, .ref t2, .ref l1, .ref t3, .ref p]) hl
    have s3 := s2.trans sl
    refine ⟨d, c, l, _, rfl, D2.same s3, nl.1, nl.2, SqL.of upd_same, by show 0 < 8; decide, by show 8 ≤ 1000; decide, fun j x H3 hx D3 k3 => ?_⟩
    have kk := (k02.trans (Kp.of s3)).trans k3
    have kl := (Kp.of (d := d) (c := c) (se.trans sl)).trans k3
    have kl2 := (Kp.of (d := d) (c := c) sl).trans k3
    have DG := D2.same sd
    have ex : ∃ b, ShV K H3 x b := by
      have := List.mem_of_getElem? hx
      simp only [List.mem_cons, List.not_mem_nil, or_false] at this
      rcases this with rfl | rfl | rfl | rfl | rfl | rfl | rfl | rfl
      · exact ⟨_, shv_no (T := "NoneType") (.base .non) (by simp [NTy])⟩
      · exact ⟨_, shv_no (T := "int") (.base (.int _)) (by simp [NTy])⟩
      · exact ⟨_, shv_no (T := "str") (.base (.str _)) (by simp [NTy])⟩
      · exact ⟨_, shv_tup (DG.kT kl e1) (by decide) (by decide)⟩
      · exact ⟨_, shv_tup (DG.kT kl e2) (by show 1 ≤ 1000; decide) (by show 1 ≠ 2; decide)⟩
      · exact ⟨_, shv_no (T := "list") (.base (.lst (kl _ _ n1.1 n1.2 e3))) (by simp [NTy])⟩
      · exact shv_pair (DG.kT kl e4) (.tup (hD.kT kk hw)) (.inl ⟨"int", .base (.int _), by simp [NTy]⟩)
      · exact ⟨_, shv_no (T := "dict") (.base (.dK (kl2 _ _ np.1 np.2 e5))) (by simp [NTy])⟩
    obtain ⟨b, hb⟩ := ex
    exact q _ b _ hb D3 kk
  refine iteN (by simp [z5]) ?_
  dsimp only [tNext]
  refine ⟨_, rfl, rfl, _, rfl, ?_⟩
  by_cases z6 : fm = 6
  · refine iteP (by simp [z6]) ?_
    refine ⟨_, rfl, _, _, rfl, rfl, _, rfl, d, c, 3, rfl, D2, by decide, by decide, fun y H3 y0 y1 D3 k3 => ⟨_, _, rfl, rfl, _, rfl, (by show 2 ≤ sizeLine; decide), fun t ht => ?_⟩⟩
    have kk := k02.trans k3
    have sN := Same.new (o := .tup [V.int ((P : Int) + 1 + y), V.ref wt]) ht
    obtain ⟨b, hb⟩ := shv_pair (K := K) (H := upd H3 t (.tup [V.int ((P : Int) + 1 + y), V.ref wt])) upd_same (.int _) (Wv (kk.trans (Kp.of sN)))
    exact q _ b _ hb (D3.same sN) (kk.trans (Kp.of sN))
  refine iteN (by simp [z6]) ?_
  dsimp only [tNext]
  refine ⟨_, rfl, _, rfl, _, rfl, _, rfl, (by show 1 ≤ sizeLine; decide), fun t1 ht1 => ⟨_, rfl, _, _, rfl, rfl, _, rfl, _, _, rfl, rfl, (by show 11 ≤ sizeLine; decide), fun l hl => ?_⟩⟩
  have s3 := (Same.new (o := .tup [V.int 0]) ht1).trans (Same.new (o := .lst [.int (P : Int), .int (P : Int), .int (-1), .non, .bl true, .bl false, .str ("0" : Str), .ref t1, .int ((P : Int) + 5), .int 0, .int ((P : Int) - 1)]) hl)
  have nl := (D2.same (Same.new (o := .tup [V.int 0]) ht1)).ne hl
  have e1 : upd (upd H2 t1 (.tup [V.int 0])) l (.lst [.int (P : Int), .int (P : Int), .int (-1), .non, .bl true, .bl false, .str ("0" : Str), .ref t1, .int ((P : Int) + 5), .int 0, .int ((P : Int) - 1)]) t1 = some (.tup [V.int 0]) := Same.new hl _ _ upd_same
  refine ⟨d, c, l, _, rfl, D2.same s3, nl.1, nl.2, SqL.of upd_same, by show 0 < 11; decide, by show 11 ≤ 1000; decide, fun j x H3 hx D3 k3 => ?_⟩
  have kk := (k02.trans (Kp.of s3)).trans k3
  have ex : EltV H3 x := by
    have := List.mem_of_getElem? hx
    simp only [List.mem_cons, List.not_mem_nil, or_false] at this
    rcases this with rfl | rfl | rfl | rfl | rfl | rfl | rfl | rfl | rfl | rfl | rfl
    · exact .inl (.inl ⟨_, rfl⟩)
    · exact .inl (.inl ⟨_, rfl⟩)
    · exact .inl (.inl ⟨_, rfl⟩)
    · exact .inr (.inl rfl)
    · exact .inr (.inr (.inl ⟨_, rfl⟩))
    · exact .inr (.inr (.inl ⟨_, rfl⟩))
    · exact .inr (.inr (.inr ⟨_, rfl, by decide +kernel⟩))
    · exact .inl (.inr ⟨t1, [0], rfl, (D2.same s3).kT k3 e1⟩)
    · exact .inl (.inl ⟨_, rfl⟩)
    · exact .inl (.inl ⟨_, rfl⟩)
    · exact .inl (.inl ⟨_, rfl⟩)
  have hw3 := hD.kT kk hw
  clear e1 hx s3 k3 k02 hw2 D2 hl ht1
  dsimp only [gName]
  refine ⟨_, rfl, _, rfl, _, rfl, (an : Int), rfl, wt, _, rfl, hw3, fun u1 G1 g1 hu1 => ⟨_, rfl, (by show 1 ≤ sizeLine; decide), fun u2 hu2 => ?_⟩⟩
  rw [cutV_to] at hu1
  have g2 := g1.trans (Same.new (o := .tup [x]) hu2)
  have lt1 : ((vi ws).take an).length ≤ 60 := by rw [List.length_take]; omega
  have lt2 : ((vi ws).drop (an + 1)).length ≤ 60 := by rw [List.length_drop]; omega
  refine ⟨u1, u2, _, _, rfl, rfl, Same.new hu2 _ _ hu1, upd_same, by show _ + 1 ≤ 1000; omega, fun u3 G3 g3 hu3 => ?_⟩
  have g4 := g2.trans g3
  refine ⟨_, rfl, _, rfl, _, _, rfl, rfl, _, rfl, wt, _, rfl, g4 _ _ hw3, fun u4 G5 g5 hu4 => ?_⟩
  have cD : cutV (vi ws) (some ((an : Int) + 1)) none = (vi ws).drop (an + 1) := by rw [show (an : Int) + 1 = ((an + 1 : Nat) : Int) from rfl, cutV_from]
  rw [cD] at hu4
  refine ⟨u3, u4, _, _, rfl, rfl, g5 _ _ hu3, hu4, by rw [List.length_append]; show _ + 1 + _ ≤ 1000; omega, fun u5 G6 g6 hu5 => ⟨(by show 2 ≤ sizeLine; decide), fun t ht => ?_⟩⟩
  have g7 := ((g4.trans g5).trans g6).trans (Same.new (o := .tup [V.int (P : Int), V.ref u5]) ht)
  obtain ⟨b, hb⟩ := shv_pair (K := K) (H := upd G6 t (.tup [V.int (P : Int), V.ref u5])) upd_same (.int _) (.inr ⟨u5, _, rfl, Same.new ht _ _ hu5, by rw [List.length_append, List.length_append]; show _ + 1 + _ ≤ 1000; omega, fun y hy => by
    rcases List.mem_append.mp hy with hy | hy
    · rcases List.mem_append.mp hy with hy | hy
      · exact elt_vi y (List.mem_of_mem_take hy)
      · rw [List.mem_singleton.mp hy]
        exact ex.same g7
    · exact elt_vi y (List.mem_of_mem_drop hy)⟩)
  exact q _ b _ hb (D3.same g7) (kk.trans (Kp.of g7))
end
end KV

/-! what is no shelving is refused -/
namespace KV
open PySem PySem.Spec PyProof.Rows L2 KC
section
variable {P : Program} {w : World} {K : PySem.W.Frag} {mg : Str → Option Value} {base : Heap} {C : Addr}
def spBad (K : PySem.W.Frag) (C : Addr) (k : Nat) : Sp := fun vs H Q E => ∃ (v : V) (r : List V), vs = v :: r ∧ r.length = k ∧ ShV K H v false ∧ BadN C 0 H E
theorem sc35 : FnScope ["shelving", "shelf", "jump", "count", "places", "weights"] ["shelving", "shelf", "jump", "count"] (defScope (top 35)) := ⟨rfl, rfl, rfl, by decide +kernel, rfl, by decide +kernel, by decide +kernel⟩
theorem ok_ws {f : Addr} {fd : FuncData} (CK : Cal P w K mg base (L2.CX P w) 4 "checked_shelving" ["value", "at"] (spCkS K C)) (F : Fun K "walk_sum" "walk_sum" (top 35) f fd) : FnOk P w K mg base (L2.CX P w) 5 f fd ["shelving", "shelf", "jump", "count"] (spBad K C 3) := by
  refine F.okX sc35 (fun vs H Q E h => ?_) (fun cdv A outer s H vs Q E hr h => ⟨_,
    (pss_cut (ps_asg (by exact (pe_calX CK hr (by decide) (takes_of rfl rfl rfl rfl) (fun _ _ _ _ z => z) (pa_cons (pv 0) (pa_cons pe_int pa_nil)))) (pg_tup rfl (pgs_cons (pg_name (i := 4) sc35.nd rfl (.inl rfl)) (pgs_cons (pg_name (i := 5) sc35.nd rfl (.inl rfl)) pgs_nil))))), ?_⟩)
  · obtain ⟨v, r, rfl, hl, _⟩ := h
    rw [List.length_cons, hl]
    rfl
  obtain ⟨v, r, rfl, hl, hv, bad⟩ := h
  match r, hl with
  | [_, _, _], _ => exact ⟨_, rfl, v, 0, false, rfl, hv, .inr ⟨rfl, bad⟩⟩
theorem sc37 : FnScope ["shelving", "count", "places", "weights", "jump", "sums", "shelf", "weight"] ["shelving", "count"] (defScope (top 37)) := ⟨rfl, rfl, rfl, by decide +kernel, rfl, by decide +kernel, by decide +kernel⟩
theorem ok_jf {f : Addr} {fd : FuncData} (CK : Cal P w K mg base (L2.CX P w) 4 "checked_shelving" ["value", "at"] (spCkS K C)) (F : Fun K "jump_fault" "jump_fault" (top 37) f fd) : FnOk P w K mg base (L2.CX P w) 5 f fd ["shelving", "count"] (spBad K C 1) := by
  refine F.okX sc37 (fun vs H Q E h => ?_) (fun cdv A outer s H vs Q E hr h => ⟨_,
    (pss_cut (ps_asg (by exact (pe_calX CK hr (by decide) (takes_of rfl rfl rfl rfl) (fun _ _ _ _ z => z) (pa_cons (pv 0) (pa_cons pe_int pa_nil)))) (pg_tup rfl (pgs_cons (pg_name (i := 2) sc37.nd rfl (.inl rfl)) (pgs_cons (pg_name (i := 3) sc37.nd rfl (.inl rfl)) pgs_nil))))), ?_⟩)
  · obtain ⟨v, r, rfl, hl, _⟩ := h
    rw [List.length_cons, hl]
    rfl
  obtain ⟨v, r, rfl, hl, hv, bad⟩ := h
  match r, hl with
  | [_], _ => exact ⟨_, rfl, v, 0, false, rfl, hv, .inr ⟨rfl, bad⟩⟩
theorem sc39 : FnScope ["shelving", "count", "value", "places", "weights", "shelf", "jump", "entry"] ["shelving", "count", "value"] (defScope (top 39)) := ⟨rfl, rfl, rfl, by decide +kernel, rfl, by decide +kernel, by decide +kernel⟩
theorem ok_ijf {f : Addr} {fd : FuncData} (CK : Cal P w K mg base (L2.CX P w) 4 "checked_shelving" ["value", "at"] (spCkS K C)) (F : Fun K "is_jump_fault" "is_jump_fault" (top 39) f fd) : FnOk P w K mg base (L2.CX P w) 5 f fd ["shelving", "count", "value"] (spBad K C 2) := by
  refine F.okX sc39 (fun vs H Q E h => ?_) (fun cdv A outer s H vs Q E hr h => ⟨_,
    (pss_cut (ps_asg (by exact (pe_calX CK hr (by decide) (takes_of rfl rfl rfl rfl) (fun _ _ _ _ z => z) (pa_cons (pv 0) (pa_cons pe_int pa_nil)))) (pg_tup rfl (pgs_cons (pg_name (i := 3) sc39.nd rfl (.inl rfl)) (pgs_cons (pg_name (i := 4) sc39.nd rfl (.inr rfl)) pgs_nil))))), ?_⟩)
  · obtain ⟨v, r, rfl, hl, _⟩ := h
    rw [List.length_cons, hl]
    rfl
  obtain ⟨v, r, rfl, hl, hv, bad⟩ := h
  match r, hl with
  | [_, _], _ => exact ⟨_, rfl, v, 0, false, rfl, hv, .inr ⟨rfl, bad⟩⟩
theorem sc41 : FnScope ["shelving"] ["shelving"] (defScope (top 41)) := ⟨rfl, rfl, rfl, by decide +kernel, rfl, by decide +kernel, by decide +kernel⟩
theorem ok_sm {f : Addr} {fd : FuncData} (CK : Cal P w K mg base (L2.CX P w) 4 "checked_shelving" ["value", "at"] (spCkS K C)) (F : Fun K "shelf_moduli" "shelf_moduli" (top 41) f fd) : FnOk P w K mg base (L2.CX P w) 5 f fd ["shelving"] (spBad K C 0) := by
  refine F.okX sc41 (fun vs H Q E h => ?_) (fun cdv A outer s H vs Q E hr h => ⟨_,
    (pss_cut (ps_expr (by exact (pe_calX CK hr (by decide) (takes_of rfl rfl rfl rfl) (fun _ _ _ _ z => z) (pa_cons (pv 0) (pa_cons pe_int pa_nil)))))), ?_⟩)
  · obtain ⟨v, r, rfl, hl, _⟩ := h
    rw [List.length_cons, hl]
    rfl
  obtain ⟨v, r, rfl, hl, hv, bad⟩ := h
  match r, hl with
  | [], _ => exact ⟨_, rfl, v, 0, false, rfl, hv, .inr ⟨rfl, bad⟩⟩
def spFold (K : PySem.W.Frag) (C : Addr) : Sp := fun vs H Q E => ∃ v u : V, vs = [v, u] ∧ ((ShV K H v false ∧ BadN C 0 H E) ∨ ∃ (P : Nat) (ws : List Nat), Shg P ws ∧ ShG H v P ws ∧ ShV K H u false ∧ BadN C 1 H E)
theorem sc44 : FnScope ["one", "other", "first", "weights", "second", "others", "places", "low", "high", "together", "shelf", "sides"] ["one", "other"] (defScope (top 44)) := ⟨rfl, rfl, rfl, by decide +kernel, rfl, by decide +kernel, by decide +kernel⟩
theorem ok_fold {f : Addr} {fd : FuncData} (CK : Cal P w K mg base (L2.CX P w) 4 "checked_shelving" ["value", "at"] (spCkS K C)) (F : Fun K "folded" "folded" (top 44) f fd) : FnOk P w K mg base (L2.CX P w) 5 f fd ["one", "other"] (spFold K C) := by
  refine F.okX sc44 (fun vs H Q E h => ?_) (fun cdv A outer s H vs Q E hr h => ⟨_,
    (pss_cons (ps_asg (by exact (pe_calX CK hr (by decide) (takes_of rfl rfl rfl rfl) (fun _ _ _ _ z => z) (pa_cons (pv 0) (pa_cons pe_int pa_nil)))) (pg_tup rfl (pgs_cons (pg_name (i := 2) sc44.nd rfl (.inl rfl)) (pgs_cons (pg_name (i := 3) sc44.nd rfl (.inl rfl)) pgs_nil)))) (pss_cut (ps_asg (by exact (pe_calX CK hr (by decide) (takes_of rfl rfl rfl rfl) (fun _ _ _ _ z => z) (pa_cons (pv 1) (pa_cons pe_int pa_nil)))) (pg_tup rfl (pgs_cons (pg_name (i := 4) sc44.nd rfl (.inl rfl)) (pgs_cons (pg_name (i := 5) sc44.nd rfl (.inl rfl)) pgs_nil)))))), ?_⟩)
  · obtain ⟨v, u, rfl, _⟩ := h
    rfl
  obtain ⟨v, u, rfl, h⟩ := h
  rcases h with ⟨hv, bad⟩ | ⟨P, ws, hg, hs, hu, bad⟩
  · exact ⟨_, rfl, v, 0, false, rfl, hv, .inr ⟨rfl, bad⟩⟩
  refine ⟨_, rfl, v, 0, true, rfl, hs.shv hg, .inl ⟨rfl, fun H1 s1 => ?_⟩⟩
  obtain ⟨a, c, rfl, ha, hc⟩ := hs.same s1
  refine ⟨a, _, rfl, SqT.of ha, rfl, _, _, rfl, _, _, rfl, rfl, ?_⟩
  exact ⟨_, rfl, u, 1, false, rfl, hu.same s1, .inr ⟨rfl, bad.same s1⟩⟩
end
end KV

/-! the law: led, asked -/
namespace KV
open PySem PySem.Spec PyProof.Rows L2 KC
/-- what isinstance asks of an error's class -/
structure ErrC (K : PySem.W.Frag) (D : Addr) : Prop where
  cl : (PySem.W.clsIn K D).isSome = true
  ga : PySem.W.findIn K (.ref D) "__getattribute__" = some (some (.builtin "BaseException.__getattribute__"))
  gg : PySem.W.findIn K (.ref D) "__getattr__" = some none
  sub : PySem.W.subIn K (.ref D) (.type "BaseException") = some true
  ha : PySem.W.findIn K (.ref D) "__class__" = some (some (.builtin "object.__class__"))
  hn : PySem.W.specialIn K (.builtin "object.__class__") "__get__" = some (some (.builtin "getset_descriptor.__get__"))
  ht : PySem.W.takesIn K (.builtin "object.__class__") = some true
  hm : PySem.W.mroIn K D (.type "object") = some true
/-- the error's own dict, if it has one, is known -/
def Dk (d : Option Addr) (H : Hp) : Prop := ∀ dd, d = some dd → ∃ fs, H dd = some (.xd fs)
theorem Dk.same {d : Option Addr} {H H' : Hp} (s : Same H H') (h : Dk d H) : Dk d H' := fun dd e => let ⟨fs, z⟩ := h dd e; ⟨fs, s _ _ z⟩
def rIsP (K : PySem.W.Frag) (a : Addr) (cls : Value) (d : Option Addr) : List V → Hp → VK → Prop := fun xs H Q => ∃ (D : Addr) (c : V) (cv : Value) (b : Bool), cls = .ref D ∧ ErrC K D ∧ xs = [.ref a, c] ∧ Dk d H ∧ (∀ u, RelV c u → u = cv) ∧ PySem.W.kitOne K (.ref D) cv = some b ∧ Q (.bl b) H
theorem call_isP {X : Cx} {a : Addr} {cls : Value} {d : Option Addr} {oe : Obj} (hp : (a, oe) ∈ X.pn) (hz : Zc cls d oe) (hf : ∃ vs, oe.data = .fields vs) : CallR X (.builtin "isinstance") (rIsP X.K a cls d) := by
  intro pins s σ H xs us Q I r h
  obtain ⟨D, c, cv, b, rfl, C, rfl, dk, hcv, e, q⟩ := h
  obtain ⟨u, w, rfl, r1, r2⟩ := vals2 r
  cases r1
  have ec := hcv _ r2
  subst ec
  obtain ⟨there, _⟩ := I.pin (a, oe) (List.mem_append_left _ hp)
  obtain ⟨vs, hv⟩ := hf
  have nc : PySem.W.notCls oe = true := by unfold PySem.W.notCls; rw [hv] <;> rfl
  have go : ∀ od : Option Obj, PySem.W.InstAt s.heap a oe D od → wpAny (model X.prog X.w) X.A (call (.builtin "isinstance") [.ref a, w]) (EP X pins σ Q) X.xe s := fun od J =>
    PySem.W.kia_one (PySem.W.kitx_exc (ox := oe) (od := od) C.cl C.ga C.gg C.sub C.ha C.hn C.ht C.hm) I.kIn J e (fun z => nomatch z) fun tk => ⟨.bl b, H, I.kept (t' := tk) fun _ _ z => z, rfl, q⟩
  cases hd : d with
  | none => exact go none ⟨there, hz.1, nc, by rw [hz.2, hd]; trivial⟩
  | some dd =>
    obtain ⟨fs, hx⟩ := dk dd hd
    obtain ⟨m, ns, _⟩ := I.hok dd _ hx
    obtain ⟨od, ho, _⟩ := lookIn_ns ns
    exact go (some od) ⟨there, hz.1, nc, by rw [hz.2, hd]; exact ho⟩

def led (P : Nat) (ws : List Nat) (row : List Nat) (qr : Nat × Nat) : Nat × Nat := row.foldl (stp P ws) qr
theorem led_ok {P : Nat} {ws : List Nat} (h : Shg P ws) : ∀ (row : List Nat) (qr : Nat × Nat), qr.1 < ws.length → qr.2 < P → (led P ws row qr).1 < ws.length ∧ (led P ws row qr).2 < P
  | [], _, h1, h2 => ⟨h1, h2⟩
  | k :: r, (q, r0), h1, h2 => by
    have := stp_ok h (k := k) h1 h2
    exact led_ok h r _ this.1 this.2
theorem led_snoc {P : Nat} {ws : List Nat} {row : List Nat} {k : Nat} {qr : Nat × Nat} : led P ws (row ++ [k]) qr = stp P ws (led P ws row qr) k := by
  unfold led
  rw [List.foldl_append]
  rfl
section
variable {P_ : Program} {w : World} {K : PySem.W.Frag} {mg : Str → Option Value} {base : Heap} {Cm C CR CB fT : Addr}
def spLed : Sp := fun vs H Q _ => ∃ (P s : Nat) (ws row : List Nat) (wt rl : Addr), vs = [.int (P : Int), .ref wt, .ref rl, .int (s : Int)] ∧ Shg P ws ∧ H wt = some (.tup (vi ws)) ∧ H rl = some (.lst (vi row)) ∧ s < P * ws.length ∧ Q (.int (((led P ws row (s / P, s % P)).1 * P + (led P ws row (s / P, s % P)).2 : Nat) : Int)) H
theorem sc54 : FnScope ["_law_places", "_law_weights", "_law_row", "_law_state", "_law_shelf", "_law_place", "_law_command"] ["_law_places", "_law_weights", "_law_row", "_law_state"] (defScope (top 54)) := ⟨rfl, rfl, rfl, by decide +kernel, rfl, by decide +kernel, by decide +kernel⟩
theorem ok_led {f : Addr} {fd : FuncData} (B : Bl mg) (F : Fun K "_law_led" "_law_led" (top 54) f fd) : FnOk P_ w K mg base CX0 1 f fd ["_law_places", "_law_weights", "_law_row", "_law_state"] spLed := by
  refine F.ok sc54 (fun vs H Q E h => ?_) (fun cdv A outer s H vs Q E hr h => ⟨_,
    (pss_cons (ps_par (i := 4) (j := 5) rfl sc54.nd rfl rfl (by decide) rfl rfl (pa_cons (pe_op op_fdivW (pv 3) (pv 0)) (pa_cons (pe_op op_mod (pe_callTy call_int1 (by rfl) B.int PyProof.Rows.boot_int (pa_cons (pv 3) pa_nil)) (pv 0)) pa_nil)) (by rfl))
    (pss_cons (ps_for PassesOwn.never rfl (pi_list (pv 2)) (pg_name (i := 6) sc54.nd rfl (.inl rfl)) (pss_one (ps_if (pt_cmpR op_eq (pv 6) pe_int (nomark _)) (pss_one (ps_set (i := 4) sc54.nd rfl (.inl rfl) (pe_op op_mod (pe_callTy call_int1 (by rfl) B.int PyProof.Rows.boot_int (pa_cons (pe_op op_add (pv 4) pe_int) pa_nil)) (pe_callB call_len_seq (by rfl) B.len PySem.boot_len (pa_cons (pv 1) pa_nil))))) (pss_one (ps_set (i := 5) sc54.nd rfl (.inl rfl) (pe_op op_mod (pe_callTy call_int1 (by rfl) B.int PyProof.Rows.boot_int (pa_cons (pe_op op_add (pv 5) (pe_ix ix_tup (pv 1) (pv 4) (fun _ _ => rfl))) pa_nil)) (pv 0)))))))
    (pss_one (ps_ret (pe_op op_add (pe_op op_mulW (pv 4) (pv 0)) (pv 5)))))), ?_⟩)
  · obtain ⟨P, s, ws, row, wt, rl, rfl, _⟩ := h
    rfl
  obtain ⟨P, s, ws, row, wt, rl, rfl, hg, hw, hl, hs, q⟩ := h
  have p1 := hg.p1
  have le := hg.le
  have P60 : P ≤ 60 := by
    have : P * 1 ≤ P * ws.length := Nat.mul_le_mul_left _ hg.w1
    omega
  have lw : (vi ws).length = ws.length := List.length_map ..
  refine ⟨_, rfl, _, rfl, _, _, rfl, rfl, ⟨by omega, ?_⟩, _, rfl, .inl ⟨_, rfl, _, rfl, _, _, rfl, rfl, ?_, ?_⟩⟩
  · have := Nat.log2_le_self P
    show P.log2 < 9000
    omega
  · show (0 : Int) < (P : Int)
    omega
  refine ⟨_, _, rfl, ?_⟩
  dsimp only
  have d0 := hg.dv hs
  have m0 := Nat.mod_lt s p1
  refine sq_cut (fun σ H' => (∃ v6 : Option V, σ = [some (.int (P : Int)), some (.ref wt), some (.ref rl), some (.int (s : Int)), some (.int ((led P ws row (s / P, s % P)).1 : Nat)), some (.int ((led P ws row (s / P, s % P)).2 : Nat)), v6]) ∧ H' = H) (fun Z hZ => ?_) ?_
  · refine ⟨_, rfl, rl, rfl, ⟨_, SqL.of hl⟩, for_list (xs := vi row) (fun j σ H' => (∃ v6 : Option V, σ = [some (.int (P : Int)), some (.ref wt), some (.ref rl), some (.int (s : Int)), some (.int ((led P ws (row.take j) (s / P, s % P)).1 : Nat)), some (.int ((led P ws (row.take j) (s / P, s % P)).2 : Nat)), v6]) ∧ H' = H) ⟨⟨none, rfl⟩, rfl⟩ (fun j σ H' _ z => by rw [z.2]; exact SqL.of hl) ?_ ?_⟩
    · rintro j y σ G hy ⟨⟨v6, rfl⟩, rfl⟩
      have hy' : (row[j]?).map (fun k : Nat => V.int (k : Int)) = some y := by rw [← List.getElem?_map]; exact hy
      obtain ⟨k, hk, rfl⟩ := Option.map_eq_some_iff.mp hy'
      have eT : led P ws (row.take (j + 1)) (s / P, s % P) = stp P ws (led P ws (row.take j) (s / P, s % P)) k := by
        rw [List.take_add_one, hk]
        exact led_snoc
      have hL := led_ok hg (row.take j) (s / P, s % P) d0 m0
      rw [eT]
      generalize led P ws (row.take j) (s / P, s % P) = qr at hL
      obtain ⟨q1, r1⟩ := qr
      dsimp only at hL
      dsimp only [gName]
      refine ⟨_, rfl, rfl, _, rfl, ?_⟩
      by_cases z : k = 0
      · refine iteP (by simp [z]) ?_
        refine ⟨_, rfl, _, _, rfl, rfl, .inl ⟨_, rfl, _, rfl, wt, _, rfl, .inr (SqT.of hw), _, _, rfl, rfl, ?_, ?_⟩⟩
        · show (0 : Int) < ((vi ws).length : Int)
          rw [lw]
          have := hg.w1
          omega
        rw [lw]
        refine ⟨⟨some (.int (k : Int)), ?_⟩, rfl⟩
        unfold stp
        rw [if_pos z]
        rfl
      · refine iteN (by simp; omega) ?_
        have gw : (vi ws)[q1]? = some (.int ((ws.getD q1 0 : Nat) : Int)) := by
          unfold vi
          rw [List.getElem?_map, List.getD_eq_getElem?_getD, List.getElem?_eq_getElem hL.1]
          rfl
        refine ⟨_, rfl, _, rfl, _, rfl, wt, _, _, _, rfl, rfl, SqT.of hw, atI_nat gw, _, _, rfl, rfl, .inl ⟨_, rfl, _, rfl, _, _, rfl, rfl, ?_, ?_⟩⟩
        · show (0 : Int) < (P : Int)
          omega
        refine ⟨⟨some (.int (k : Int)), ?_⟩, rfl⟩
        unfold stp
        rw [if_neg z]
        rfl
    · rintro σ G ⟨⟨v6, rfl⟩, rfl⟩
      refine hZ _ _ ⟨⟨v6, ?_⟩, rfl⟩
      rw [List.take_of_length_le (by unfold vi; rw [List.length_map]; exact Nat.le_refl _)]
  rintro σ G ⟨⟨v6, rfl⟩, rfl⟩
  have hL := led_ok hg row (s / P, s % P) d0 m0
  have w60 : ws.length ≤ 60 := by
    have : 1 * ws.length ≤ P * ws.length := Nat.mul_le_mul_right _ p1
    omega
  refine ⟨_, rfl, _, rfl, _, _, rfl, rfl, cmulN (by omega) (by omega), _, rfl, _, _, rfl, rfl, ?_⟩
  exact q
def spAsk (K : PySem.W.Frag) : Sp := fun vs H Q _ => ∃ (fm : Int) (sh v : V) (P : Nat) (ws : List Nat), vs = [.int fm, sh, v] ∧ 0 ≤ fm ∧ fm < 7 ∧ Shg P ws ∧ ShG H sh P ws ∧ ShV K H v false ∧ ∀ (p : Addr) (H' : Hp), Same H H' → H' p = some (.tup [.int (if fm = 6 then 1 else 0), .bl true, .bl false]) → Q (.ref p) H'
theorem sc53 : FnScope ["_law_form", "_law_shelving_here", "_law_value", "e"] ["_law_form", "_law_shelving_here", "_law_value"] (defScope (top 53)) := ⟨rfl, rfl, rfl, by decide +kernel, rfl, by decide +kernel, by decide +kernel⟩
set_option maxHeartbeats 4000000 in
theorem ok_ask {f : Addr} {fd : FuncData} (B : Bl mg) (T : PySem.LowX.LowTxt K mg "InvalidQuestion" "InvalidQuestion.__init__" C fT) (EC : ErrC K C) (gR : mg "Refused" = some (.ref CR)) (gB : mg "BatchError" = some (.ref CB)) (teB : PySem.W.exmOne K (.ref C) (.ref CB) = some true) (kQ : PySem.W.kitOne K (.ref C) (.ref C) = some true) (kR : PySem.W.kitOne K (.ref C) (.ref CR) = some false)
    (CSM : Cal P_ w K mg base (L2.CX P_ w) 6 "shelf_machine" ["shelving"] (spShM K Cm C)) (CWS : Cal P_ w K mg base (L2.CX P_ w) 5 "walk_sum" ["shelving", "shelf", "jump", "count"] (spBad K C 3)) (CJF : Cal P_ w K mg base (L2.CX P_ w) 5 "jump_fault" ["shelving", "count"] (spBad K C 1)) (CIJ : Cal P_ w K mg base (L2.CX P_ w) 5 "is_jump_fault" ["shelving", "count", "value"] (spBad K C 2))
    (CSMo : Cal P_ w K mg base (L2.CX P_ w) 5 "shelf_moduli" ["shelving"] (spBad K C 0)) (CFo : Cal P_ w K mg base (L2.CX P_ w) 5 "folded" ["one", "other"] (spFold K C)) (F : Fun K "_law_asked" "_law_asked" (top 53) f fd) : FnOk P_ w K mg base CX0 7 f fd ["_law_form", "_law_shelving_here", "_law_value"] (spAsk K) := by
  refine F.ok sc53 (fun vs H Q E h => ?_) (fun cdv A outer s H vs Q E hr h => ⟨_,
    (pss_cons (ps_try_as (i := 3) (Wout := fun _ _ _ _ => False) rfl rfl sc53.nd rfl rfl ⟨rfl, by decide, Or.inl gB⟩ L2.takes0 (fun W pn xe tk _ => (pss_one (ps_if (pt_cmpR op_eq (pv 0) pe_int (nomark _)) (pss_one (ps_expr (pe_calS CSM hr (by decide) (fun σ => passAt tk σ) (pa_cons (pv 2) pa_nil)))) (pss_one (ps_if (pt_cmpR op_eq (pv 0) pe_int (nomark _)) (pss_one (ps_expr (pe_calS CWS hr (by decide) (fun σ => passAt tk σ) (pa_cons (pv 2) (pa_cons pe_int (pa_cons pe_int (pa_cons pe_int pa_nil))))))) (pss_one (ps_if (pt_cmpR op_eq (pv 0) pe_int (nomark _)) (pss_one (ps_expr (pe_calS CJF hr (by decide) (fun σ => passAt tk σ) (pa_cons (pv 2) (pa_cons pe_int pa_nil))))) (pss_one (ps_if (pt_cmpR op_eq (pv 0) pe_int (nomark _)) (pss_one (ps_expr (pe_calS CIJ hr (by decide) (fun σ => passAt tk σ) (pa_cons (pv 2) (pa_cons pe_int (pa_cons pe_non pa_nil)))))) (pss_one (ps_if (pt_cmpR op_eq (pv 0) pe_int (nomark _)) (pss_one (ps_expr (pe_calS CSMo hr (by decide) (fun σ => passAt tk σ) (pa_cons (pv 2) pa_nil)))) (pss_one (ps_if (pt_cmpR op_eq (pv 0) pe_int (nomark _)) (pss_one (ps_expr (pe_calS CFo hr (by decide) (fun σ => passAt tk σ) (pa_cons (pv 2) (pa_cons (pe_tup (pa_cons pe_int (pa_cons (pe_tup pa_nil) pa_nil))) pa_nil))))) (pss_one (ps_expr (pe_calS CFo hr (by decide) (fun σ => passAt tk σ) (pa_cons (pv 1) (pa_cons (pv 2) pa_nil)))))))))))))))))) (fun a oe cls d pn hz hf => by exact (pss_one (ps_ret (pe_tup (pa_cons (pe_byLow T hz hf (pv 3)) (pa_cons (pe_callB (id := "isinstance") (r := rIsP K a cls d) (call_isP List.mem_cons_self hz hf) (by rfl) B.isi (by decide +kernel) (pa_cons (pv 3) (pa_cons (pe_glob (v := .ref C) (by rfl) T.gC rfl) pa_nil))) (pa_cons (pe_callB (id := "isinstance") (r := rIsP K a cls d) (call_isP List.mem_cons_self hz hf) (by rfl) B.isi (by decide +kernel) (pa_cons (pv 3) (pa_cons (pe_glob (v := .ref CR) (by rfl) gR rfl) pa_nil))) pa_nil))))))))
    (pss_one (ps_ret pe_non))), ?_⟩)
  · obtain ⟨fm, sh, v, P, ws, rfl, _⟩ := h
    rfl
  obtain ⟨fm, sh, v, P, ws, rfl, f0, f1, hg, hs, hv, q⟩ := h
  refine ⟨_, rfl, rfl, _, rfl, ?_⟩
  by_cases z0 : fm = 0
  · subst z0
    exact iteP rfl ⟨_, rfl, v, rfl, .inl ⟨hv, fun G d s2 hd => ⟨true, teB, fun _ a0 ha0 => by
      have dk : Dk (some d) (upd G d (.xd [(("at" : Str), .int 0)])) := fun dd e => by cases e; exact ⟨_, upd_same⟩
      exact ⟨_, rfl, rfl, rfl, d, _, rfl, upd_same, _, rfl, C, .ref C, .ref C, true, rfl, EC, rfl, dk, fun u r => r, kQ, _, rfl, C, .ref CR, .ref CR, false, rfl, EC, rfl, dk, fun u r => r, kR, (by show 3 ≤ sizeLine; decide), fun p hp => q p _ ((s2.trans (Same.new hd)).trans (Same.new hp)) (by rw [if_neg (by decide)]; exact upd_same)⟩, fun z => Bool.noConfusion z⟩⟩⟩
  refine iteN (by simp [z0]) ?_
  refine ⟨_, rfl, rfl, _, rfl, ?_⟩
  by_cases z1 : fm = 1
  · subst z1
    exact iteP rfl ⟨_, rfl, v, _, rfl, rfl, hv, fun G d s2 hd => ⟨true, teB, fun _ a0 ha0 => by
      have dk : Dk (some d) (upd G d (.xd [(("at" : Str), .int 0)])) := fun dd e => by cases e; exact ⟨_, upd_same⟩
      exact ⟨_, rfl, rfl, rfl, d, _, rfl, upd_same, _, rfl, C, .ref C, .ref C, true, rfl, EC, rfl, dk, fun u r => r, kQ, _, rfl, C, .ref CR, .ref CR, false, rfl, EC, rfl, dk, fun u r => r, kR, (by show 3 ≤ sizeLine; decide), fun p hp => q p _ ((s2.trans (Same.new hd)).trans (Same.new hp)) (by rw [if_neg (by decide)]; exact upd_same)⟩, fun z => Bool.noConfusion z⟩⟩
  refine iteN (by simp [z1]) ?_
  refine ⟨_, rfl, rfl, _, rfl, ?_⟩
  by_cases z2 : fm = 2
  · subst z2
    exact iteP rfl ⟨_, rfl, v, _, rfl, rfl, hv, fun G d s2 hd => ⟨true, teB, fun _ a0 ha0 => by
      have dk : Dk (some d) (upd G d (.xd [(("at" : Str), .int 0)])) := fun dd e => by cases e; exact ⟨_, upd_same⟩
      exact ⟨_, rfl, rfl, rfl, d, _, rfl, upd_same, _, rfl, C, .ref C, .ref C, true, rfl, EC, rfl, dk, fun u r => r, kQ, _, rfl, C, .ref CR, .ref CR, false, rfl, EC, rfl, dk, fun u r => r, kR, (by show 3 ≤ sizeLine; decide), fun p hp => q p _ ((s2.trans (Same.new hd)).trans (Same.new hp)) (by rw [if_neg (by decide)]; exact upd_same)⟩, fun z => Bool.noConfusion z⟩⟩
  refine iteN (by simp [z2]) ?_
  refine ⟨_, rfl, rfl, _, rfl, ?_⟩
  by_cases z3 : fm = 3
  · subst z3
    exact iteP rfl ⟨_, rfl, v, _, rfl, rfl, hv, fun G d s2 hd => ⟨true, teB, fun _ a0 ha0 => by
      have dk : Dk (some d) (upd G d (.xd [(("at" : Str), .int 0)])) := fun dd e => by cases e; exact ⟨_, upd_same⟩
      exact ⟨_, rfl, rfl, rfl, d, _, rfl, upd_same, _, rfl, C, .ref C, .ref C, true, rfl, EC, rfl, dk, fun u r => r, kQ, _, rfl, C, .ref CR, .ref CR, false, rfl, EC, rfl, dk, fun u r => r, kR, (by show 3 ≤ sizeLine; decide), fun p hp => q p _ ((s2.trans (Same.new hd)).trans (Same.new hp)) (by rw [if_neg (by decide)]; exact upd_same)⟩, fun z => Bool.noConfusion z⟩⟩
  refine iteN (by simp [z3]) ?_
  refine ⟨_, rfl, rfl, _, rfl, ?_⟩
  by_cases z4 : fm = 4
  · subst z4
    exact iteP rfl ⟨_, rfl, v, _, rfl, rfl, hv, fun G d s2 hd => ⟨true, teB, fun _ a0 ha0 => by
      have dk : Dk (some d) (upd G d (.xd [(("at" : Str), .int 0)])) := fun dd e => by cases e; exact ⟨_, upd_same⟩
      exact ⟨_, rfl, rfl, rfl, d, _, rfl, upd_same, _, rfl, C, .ref C, .ref C, true, rfl, EC, rfl, dk, fun u r => r, kQ, _, rfl, C, .ref CR, .ref CR, false, rfl, EC, rfl, dk, fun u r => r, kR, (by show 3 ≤ sizeLine; decide), fun p hp => q p _ ((s2.trans (Same.new hd)).trans (Same.new hp)) (by rw [if_neg (by decide)]; exact upd_same)⟩, fun z => Bool.noConfusion z⟩⟩
  refine iteN (by simp [z4]) ?_
  refine ⟨_, rfl, rfl, _, rfl, ?_⟩
  by_cases z5 : fm = 5
  · subst z5
    refine iteP rfl ⟨_, rfl, (by show 0 ≤ sizeLine; decide), fun t1 ht1 => ⟨(by show 2 ≤ sizeLine; decide), fun t2 ht2 => ?_⟩⟩
    have s9 := (Same.new (o := .tup []) ht1).trans (Same.new (o := .tup [.int 0, .ref t1]) ht2)
    refine ⟨v, _, rfl, .inl ⟨hv.same s9, fun G d s2 hd => ⟨true, teB, fun _ a0 ha0 => by
      have dk : Dk (some d) (upd G d (.xd [(("at" : Str), .int 0)])) := fun dd e => by cases e; exact ⟨_, upd_same⟩
      exact ⟨_, rfl, rfl, rfl, d, _, rfl, upd_same, _, rfl, C, .ref C, .ref C, true, rfl, EC, rfl, dk, fun u r => r, kQ, _, rfl, C, .ref CR, .ref CR, false, rfl, EC, rfl, dk, fun u r => r, kR, (by show 3 ≤ sizeLine; decide), fun p hp => q p _ (((s9.trans s2).trans (Same.new hd)).trans (Same.new hp)) (by rw [if_neg (by decide)]; exact upd_same)⟩, fun z => Bool.noConfusion z⟩⟩⟩
  refine iteN (by simp [z5]) ?_
  have z6 : fm = 6 := by omega
  subst z6
  exact ⟨_, rfl, _, rfl, sh, v, rfl, .inr ⟨P, ws, hg, hs, hv, fun G d s2 hd => ⟨true, teB, fun _ a0 ha0 => by
      have dk : Dk (some d) (upd G d (.xd [(("at" : Str), .int 1)])) := fun dd e => by cases e; exact ⟨_, upd_same⟩
      exact ⟨_, rfl, rfl, rfl, d, _, rfl, upd_same, _, rfl, C, .ref C, .ref C, true, rfl, EC, rfl, dk, fun u r => r, kQ, _, rfl, C, .ref CR, .ref CR, false, rfl, EC, rfl, dk, fun u r => r, kR, (by show 3 ≤ sizeLine; decide), fun p hp => q p _ ((s2.trans (Same.new hd)).trans (Same.new hp)) (by rw [if_pos rfl]; exact upd_same)⟩, fun z => Bool.noConfusion z⟩⟩⟩
end
end KV

/-! the law's walks -/
namespace KV
open PySem PySem.Spec PyProof.Rows L2 KC
def onZ (row : List Nat) : Nat := (row.filter (· = 0)).length
section
variable {P : Nat} {ws : List Nat}
theorem led_fst (h : Shg P ws) : ∀ (row : List Nat) (q r : Nat), q < ws.length → (led P ws row (q, r)).1 = (q + onZ row) % ws.length
  | [], q, r, hq => (Nat.mod_eq_of_lt hq).symm
  | k :: row, q, r, hq => by
    by_cases z : k = 0
    · have e : led P ws (k :: row) (q, r) = led P ws row ((q + 1) % ws.length, r) := by
        show led P ws row (stp P ws (q, r) k) = _
        unfold stp
        rw [if_pos z]
      have o : onZ (k :: row) = onZ row + 1 := by
        unfold onZ
        rw [List.filter_cons_of_pos (by simp [z])]
        rfl
      rw [e, led_fst h row _ r (Nat.mod_lt _ (by omega)), o, Nat.mod_add_mod]
      congr 1
      omega
    · have e : led P ws (k :: row) (q, r) = led P ws row (q, (r + ws.getD q 0) % P) := by
        show led P ws row (stp P ws (q, r) k) = _
        unfold stp
        rw [if_neg z]
      have o : onZ (k :: row) = onZ row := by
        unfold onZ
        rw [List.filter_cons_of_neg (by simp [z])]
      rw [e, led_fst h row q _ hq, o]
theorem led_snd (h : Shg P ws) : ∀ (row : List Nat) (q r0 r : Nat), (led P ws row (q, (r + r0) % P)).2 = (r + (led P ws row (q, r0)).2) % P
  | [], q, r0, r => rfl
  | k :: row, q, r0, r => by
    by_cases z : k = 0
    · have e : ∀ x, led P ws (k :: row) (q, x) = led P ws row ((q + 1) % ws.length, x) := fun x => by
        show led P ws row (stp P ws (q, x) k) = _
        unfold stp
        rw [if_pos z]
      rw [e, e]
      exact led_snd h row _ r0 r
    · have e : ∀ x, led P ws (k :: row) (q, x) = led P ws row (q, (x + ws.getD q 0) % P) := fun x => by
        show led P ws row (stp P ws (q, x) k) = _
        unfold stp
        rw [if_neg z]
      rw [e, e, Nat.mod_add_mod, Nat.add_assoc, ← Nat.add_mod_mod]
      exact led_snd h row q ((r0 + ws.getD q 0) % P) r
/-- where the row leads a state -/
def ledS (P : Nat) (ws row : List Nat) (s : Nat) : Nat := (led P ws row (s / P, s % P)).1 * P + (led P ws row (s / P, s % P)).2
theorem ledS_lt (h : Shg P ws) {row : List Nat} {s : Nat} (hs : s < P * ws.length) : ledS P ws row s < P * ws.length := by
  have := led_ok h row (s / P, s % P) (h.dv hs) (Nat.mod_lt s h.p1)
  exact qr_lt this.1 this.2
theorem ledS_one {k s : Nat} : ledS P ws [k] s = sF P ws k s := rfl
theorem ledS_here (h : Shg P ws) {row : List Nat} {s : Nat} (hs : s < P * ws.length) : ledS P ws row s = ((s / P + onZ row) % ws.length) * P + (s % P + (led P ws row (s / P, 0)).2) % P := by
  have e := led_snd h row (s / P) 0 (s % P)
  rw [Nat.add_zero, Nat.mod_mod] at e
  unfold ledS
  rw [led_fst h row _ _ (h.dv hs), e]
theorem ledS_snoc (h : Shg P ws) {row : List Nat} {k s : Nat} (hs : s < P * ws.length) : ledS P ws (row ++ [k]) s = sF P ws k (ledS P ws row s) := by
  have := led_ok h row (s / P, s % P) (h.dv hs) (Nat.mod_lt s h.p1)
  unfold ledS
  rw [led_snoc, sF_qr h this.2]
theorem ledS_nil {s : Nat} : ledS P ws [] s = s := by
  show s / P * P + s % P = s
  have := Nat.div_add_mod s P
  rw [Nat.mul_comm] at this
  omega
theorem ledS_cons (h : Shg P ws) {row : List Nat} {k s : Nat} (hs : s < P * ws.length) : ledS P ws (k :: row) s = ledS P ws row (sF P ws k s) := by
  have hst := stp_ok h (k := k) (h.dv hs) (Nat.mod_lt s h.p1)
  have e : ((sF P ws k s) / P, (sF P ws k s) % P) = stp P ws (s / P, s % P) k := by
    unfold sF
    rw [qr_div hst.2, qr_mod hst.2]
  unfold ledS
  rw [e]
  rfl
theorem ends_led (h : Shg P ws) : ∀ (row : List Nat) (s : Nat), s < P * ws.length → (∀ k ∈ row, k < 2) → ends (shC P ws) row s = ledS P ws row s
  | [], s, hs, _ => by
    show s = s / P * P + s % P
    have := Nat.div_add_mod s P
    rw [Nat.mul_comm] at this
    omega
  | k :: row, s, hs, hk => by
    have k2 := hk k (by simp)
    rw [ledS_cons h hs, ← ends_led h row _ (sF_lt h hs) fun j hj => hk j (List.mem_cons_of_mem _ hj)]
    have e : ((shC P ws).getD k []).getD s 0 = sF P ws k s := by
      match k, k2 with
      | 0, _ => exact tab_getD hs
      | 1, _ => exact tab_getD hs
    show ends (shC P ws) row (((shC P ws).getD k []).getD s 0) = _
    rw [e]
end
theorem ShB.tpR60 {rows : List (List Nat)} (h : ∀ ro ∈ rows, (∀ n ∈ ro, n ≤ 1000) ∧ ro.length ≤ 4) (hl : rows.length ≤ 60) : ShB (KV.tpR rows) 10 1000000 := (ShB.tup (e := 5) (c := 7700) fun t ht => by
  obtain ⟨ro, hro, rfl⟩ := List.mem_map.mp ht
  have := h ro hro
  exact (ShB.tup (e := 0) (c := 1921) fun u hu => by
    obtain ⟨n, hn, rfl⟩ := List.mem_map.mp hu
    exact ShB.nat (this.1 n hn)).mono (Nat.le_refl _) (by rw [List.length_map]; omega)).mono (Nat.le_refl _) (by rw [List.length_map]; omega)
theorem tyx_kp {K : PySem.W.Frag} {H H' : Hp} {d c : Addr} (D : Dl H d c) (D' : Dl H' d c) (k : Kp d c H H') {x : V} {t : Value} (h : TyX K H x t) : TyX K H' x t := by
  have nn : ∀ {b : Addr} {o : HO}, H b = some o → (∀ l, o ≠ .lst l) → H' b = some o := fun {b o} e no => by
    obtain ⟨_, cs2, b2, h1, h2, _⟩ := D
    exact k b o (fun z => by rw [z, h1] at e; exact no _ (Option.some.inj e).symm) (fun z => by rw [z, h2] at e; exact no _ (Option.some.inj e).symm) e
  have ll : ∀ {b : Addr} {xs : List V}, H b = some (.lst xs) → ∃ ys, H' b = some (.lst ys) := fun {b xs} e => by
    obtain ⟨_, cs2, b2, h1, h2, _⟩ := D'
    by_cases z1 : b = d
    · exact ⟨_, by rw [z1]; exact h1⟩
    by_cases z2 : b = c
    · exact ⟨_, by rw [z2]; exact h2⟩
    exact ⟨_, k b _ z1 z2 e⟩
  cases h with
  | base b =>
    refine .base ?_
    cases b with
    | non => exact .non
    | bl y => exact .bl y
    | int i => exact .int i
    | str y => exact .str y
    | flt y => exact .flt y
    | lst e => obtain ⟨ys, h⟩ := ll e; exact .lst h
    | frz e => exact .frz (nn e (fun _ => nofun))
    | tup e => exact .tup (nn e (fun _ => nofun))
    | dK e => exact .dK (nn e (fun _ => nofun))
    | dT e => exact .dT (nn e (fun _ => nofun))
    | ins e a b c d f => exact .ins (nn e (fun _ => nofun)) a b c d f
  | byt b => exact .byt b
  | set e => exact .set (nn e (fun _ => nofun))
  | kList e c => exact .kList e c
  | kTuple e c => exact .kTuple e c
  | kDict e c => exact .kDict e c
  | fTuple e => exact .fTuple (nn e (fun _ => nofun))
  | fDict e => exact .fDict (nn e (fun _ => nofun))
theorem AnyV.kp {K : PySem.W.Frag} {H H' : Hp} {d c : Addr} (D : Dl H d c) (D' : Dl H' d c) (k : Kp d c H H') {v : V} (h : AnyV K H v) : AnyV K H' v := by
  rcases h with h | ⟨h1, h2, T, h3, h4⟩
  · exact .inl h
  · exact .inr ⟨h1, h2, T, tyx_kp D D' k h3, h4⟩
theorem ShV.kp {K : PySem.W.Frag} {H H' : Hp} {d c : Addr} (D : Dl H d c) (D' : Dl H' d c) (k : Kp d c H H') {v : V} {b : Bool} (h : ShV K H v b) : ShV K H' v b := by
  rcases h with ⟨e, T, h1, h2⟩ | ⟨a, xs, e, h1, h2, h3⟩
  · exact .inl ⟨e, T, tyx_kp D D' k h1, h2⟩
  · refine .inr ⟨a, xs, e, D.kT k h1, h2, ?_⟩
    rcases h3 with h3 | ⟨p, u, e2, hp, h3⟩
    · exact .inl h3
    · refine .inr ⟨p, u, e2, hp.kp D D' k, ?_⟩
      rcases h3 with h3 | ⟨i, e3, i1, h3⟩
      · exact .inl h3
      · refine .inr ⟨i, e3, i1, ?_⟩
        rcases h3 with ⟨e4, T, h4, h5⟩ | ⟨c2, ws, e4, h4, h5, h6, h7⟩
        · exact .inl ⟨e4, T, tyx_kp D D' k h4, h5⟩
        · exact .inr ⟨c2, ws, e4, D.kT k h4, h5, fun x hx => (h6 x hx).imp (fun z => z.kp D k) id, h7⟩
theorem neI {i j : Int} (h : i = j) : (!decide (V.int i = V.int j)) = false := by subst h; simp
/-- what one is told of what is no shelving -/
theorem ne3 {K : PySem.W.Frag} {H : Hp} {a b : Addr} {i j : Int} {Q : VK} (hi : i = 0 ∨ i = 1) (h1 : H a = some (.tup [.int i, .bl true, .bl false])) (h2 : H b = some (.tup [.int j, .bl true, .bl false])) (e : i = j) (q : Q (.bl false) H) : rNeD K (.ref a) (.ref b) H Q := by
  subst e
  refine ⟨_, _, .tup (SqT.of h1) (.cons (.int _) (.cons (.bl _) (.cons (.bl _) .nil))), .tup (SqT.of h2) (.cons (.int _) (.cons (.bl _) (.cons (.bl _) .nil))), ?_, ?_, ?_⟩
  · rcases hi with rfl | rfl <;> decide +kernel
  · rcases hi with rfl | rfl <;> decide +kernel
  · have : PyData.eqv (.tuple [.int i, .bool true, .bool false]) (.tuple [.int i, .bool true, .bool false]) = true := by rcases hi with rfl | rfl <;> decide +kernel
    rw [this]
    exact q
end KV

/-! the law -/
namespace KV
open PySem PySem.Spec PyProof.Rows L2 KC
theorem passZ {X : Cx} (σ : L2.St) : PassesAt CX0 X σ E0 := fun _ _ _ _ _ _ h => h.elim
section
variable {P_ : Program} {w : World} {K : PySem.W.Frag} {mg : Str → Option Value} {base : Heap} {Cm C Cr fI fE : Addr} {fdE : FuncData}
def spLaw23 (K : PySem.W.Frag) : Sp := fun vs H Q _ => ∃ (a : Addr) (ns : List Int), vs = [.ref a] ∧ SqL K H a (ns.map V.int) ∧ ∀ H', Q (.bl true) H'
theorem sc55 : FnScope ["_law_script", "_law_deal", "_law_turn", "_law_places", "_law_weights", "_law_shelving_here", "_law_many", "_law_machine", "_law_due", "_law_state", "_law_row", "_law_on", "_law_shifts", "_law_led_here", "_law_shelf", "_law_command", "_law_to", "_law_again", "_law_value", "_law_right", "_law_form", "_law_k"] ["_law_script"] (defScope (top 55)) := ⟨rfl, rfl, rfl, by decide +kernel, rfl, by decide +kernel, by decide +kernel⟩
set_option maxHeartbeats 16000000 in
theorem ok_law {f : Addr} {fd : FuncData} (B : Bl mg) (M : MF K Cm fI fE) (gM : mg "Machine" = some (.ref Cm)) (O : OwnE P_ w K mg base 1 Cm fE fdE ["self", "other"] (spMEq K Cm))
    (CDr : Cal P_ w K mg base CX0 1 "_law_draw" ["_law_script", "_law_salt"] (spDraw K)) (CA : Cal P_ w K mg base CX0 1 "_law_any" ["_law_deal", "_law_bound"] spAny) (CLS : Cal P_ w K mg base CX0 2 "_law_shelving" ["_law_deal"] spLSh) (CSM : Cal P_ w K mg base (L2.CX P_ w) 6 "shelf_machine" ["shelving"] (spShM K Cm C)) (KSM : CalK P_ w K mg base (L2.CX P_ w) 6 "shelf_machine" ["shelving"] ["shelving"] false (spShM K Cm C))
    (CLe : Cal P_ w K mg base CX0 1 "_law_led" ["_law_places", "_law_weights", "_law_row", "_law_state"] spLed) (CCh : Cal P_ w K mg base (L2.CX P_ w) 4 "change_of" ["machine", "row"] (spCh2 K Cm Cr)) (CNe : Cal P_ w K mg base CX0 3 "_law_near" ["_law_deal", "_law_shelving_here"] (spNear K)) (CLI : Cal P_ w K mg base CX0 2 "_law_is_shelving" ["_law_value"] (spIsSh K))
    (CIS : Cal P_ w K mg base CX0 3 "is_shelving" ["value"] (spIsSh K)) (KIS : CalK P_ w K mg base CX0 3 "is_shelving" ["value"] ["value"] false (spIsSh K)) (CAs : Cal P_ w K mg base CX0 7 "_law_asked" ["_law_form", "_law_shelving_here", "_law_value"] (spAsk K)) (F : Fun K "law" "law" (top 55) f fd) : FnOkG P_ w K mg base 8 f fd ["_law_script"] (spLaw K) := by
  obtain ⟨oc, od, kV, doc, pm, an, cdv, ct, osl, rfl, lk, hcd⟩ := F.ex
  refine fn_ofG lk hcd sc55 (fun vs H Q E h => ?_) (fun A outer s H vs Q E hr gd h => ⟨_,
    (pss_cons (ps_set (i := 1) sc55.nd rfl (.inr rfl) (by exact (pe_cal CDr hr (by decide) (pa_cons (pv 0) (pa_cons pe_int pa_nil)))))
    (pss_cons (ps_for (passes_of rfl) rfl (pi_range1 (by rfl) B.range (pa_cons pe_int pa_nil)) (pg_name (i := 2) sc55.nd rfl (.inl rfl)) (pss_cons (ps_asg (by exact (pe_cal CLS hr (by decide) (pa_cons (pv 1) pa_nil))) (pg_tup rfl (pgs_cons (pg_name (i := 3) sc55.nd rfl (.inr rfl)) (pgs_cons (pg_name (i := 4) sc55.nd rfl (.inr rfl)) pgs_nil))))
    (pss_cons (ps_par (i := 5) (j := 6) rfl sc55.nd rfl rfl (by decide) rfl rfl (pa_cons (pe_tup (pa_cons (pv 3) (pa_cons (pv 4) pa_nil))) (pa_cons (pe_callB call_len_seq (by rfl) B.len PySem.boot_len (pa_cons (pv 4) pa_nil)) pa_nil)) (by rfl))
    (pss_cons (ps_set (i := 7) sc55.nd rfl (.inl rfl) (by exact (pe_calS CSM hr (by decide) (fun σ => passL σ) (pa_cons (pv 5) pa_nil))))
    (pss_cons (ps_if (PW.pt (pw_or (pt_not (pt_val (pe_callB call_isi (by rfl) B.isi (by decide +kernel) (pa_cons (pv 7) (pa_cons (pe_glob (v := .ref Cm) (by rfl) gM rfl) pa_nil))))) (pw_or1 (pt_cmpR op_ne (pe_callB (call_reprD gd hr.units) (by rfl) B.repr (by decide +kernel) (pa_cons (pe_tup (pa_cons (pe_fld (pv 7) (by rfl)) (pa_cons (pe_fld (pv 7) (by rfl)) pa_nil))) pa_nil)) (pe_callB (call_reprD gd hr.units) (by rfl) B.repr (by decide +kernel) (pa_cons (pe_tup (pa_cons pe_int (pa_cons (pe_op op_mulW (pv 3) (pv 6)) pa_nil))) pa_nil)) (nomark _))))) (pss_one (ps_ret pe_bl)) pss_nil)
    (pss_cons (ps_set (i := 8) sc55.nd rfl (.inl rfl) (pe_lst pa_nil))
    (pss_cons (ps_for (passes_of rfl) rfl (pi_range1 (by rfl) B.range (pa_cons (pe_op op_mulW (pv 3) (pv 6)) pa_nil)) (pg_name (i := 9) sc55.nd rfl (.inl rfl)) (pss_one (ps_expr (pe_bm PySem.F.plainAttrs_list PySem.F.slot_list_append PySem.F.type_list_append mt_append (pv 8) (pa_cons (pe_tup (pa_cons (by exact (pe_cal CLe hr (by decide) (pa_cons (pv 3) (pa_cons (pv 4) (pa_cons (pe_lst (pa_cons pe_int pa_nil)) (pa_cons (pv 9) pa_nil)))))) (pa_cons (by exact (pe_cal CLe hr (by decide) (pa_cons (pv 3) (pa_cons (pv 4) (pa_cons (pe_lst (pa_cons pe_int pa_nil)) (pa_cons (pv 9) pa_nil)))))) pa_nil))) pa_nil)))))
    (pss_cons (ps_if (PW.pt (pw_or (pt_cmpR op_ne (pe_callB (call_reprD gd hr.units) (by rfl) B.repr (by decide +kernel) (pa_cons (pe_fld (pv 7) (by rfl)) pa_nil)) (pe_callB (call_reprD gd hr.units) (by rfl) B.repr (by decide +kernel) (pa_cons (pe_callTy call_tuple_of (by rfl) B.tuple (by decide +kernel) (pa_cons (pv 8) pa_nil)) pa_nil)) (nomark _)) (pw_or1 (pt_cmpR op_notBl (pe_cmpR (op_eqO O (hr.mono (by decide))) (by exact (pe_calSK KSM hr (by decide) (fun σ => passL σ) (pk_cons (pv 5) pk_nil))) (pv 7) (nomark _)) pe_bl (nomark _))))) (pss_one (ps_ret pe_bl)) pss_nil)
    (pss_cons (ps_set (i := 10) sc55.nd rfl (.inr rfl) (pe_lc (own := [("_law_k", 21)]) (g := gName 21) (tt := tYes) rfl sc55.nd (pi_range1 (by rfl) B.range (pa_cons (by exact (pe_cal CA hr (by decide) (pa_cons (pv 1) (pa_cons pe_int pa_nil)))) pa_nil)) (blkOk_by (N := ["_law_script", "_law_deal", "_law_turn", "_law_places", "_law_weights", "_law_shelving_here", "_law_many", "_law_machine", "_law_due", "_law_state", "_law_row", "_law_on", "_law_shifts", "_law_led_here", "_law_shelf", "_law_command", "_law_to", "_law_again", "_law_value", "_law_right", "_law_form", "_law_k"]) (sc := defScope (top 55)) (by decide +kernel))
        (fun _ _ _ _ _ => (pg_name (i := 21) sc55.nd rfl (Or.inl rfl))) (fun _ _ _ _ _ => pts_nil) (fun _ _ _ _ _ => (pe_cal CA hr (by decide) (pa_cons (pv 1) (pa_cons pe_int pa_nil))))))
    (pss_cons (ps_par3 (i := 11) (j := 12) (l := 13) rfl sc55.nd rfl rfl rfl (by decide) (by decide) (by decide) rfl rfl rfl (pa_cons (pe_callB call_len_seq (by rfl) B.len PySem.boot_len (pa_cons (pe_lc (own := [("_law_command", 15)]) (g := gName 15) rfl sc55.nd (pi_list (pv 10)) (blkOk_by (N := ["_law_script", "_law_deal", "_law_turn", "_law_places", "_law_weights", "_law_shelving_here", "_law_many", "_law_machine", "_law_due", "_law_state", "_law_row", "_law_on", "_law_shifts", "_law_led_here", "_law_shelf", "_law_command", "_law_to", "_law_again", "_law_value", "_law_right", "_law_form", "_law_k"]) (sc := defScope (top 55)) (by decide +kernel))
        (fun _ _ _ _ _ => (pg_name (i := 15) sc55.nd rfl (Or.inl rfl))) (fun _ _ _ _ _ => (pts_one (pt_cmpR op_eq (pv 15) pe_int (nomark _)))) (fun _ _ _ _ _ => (pv 15))) pa_nil)) (pa_cons (pe_lst pa_nil) (pa_cons (pe_lst pa_nil) pa_nil))) (by rfl))
    (pss_cons (ps_for (passes_of rfl) rfl (pi_range1 (by rfl) B.range (pa_cons (pv 6) pa_nil)) (pg_name (i := 14) sc55.nd rfl (.inl rfl)) (pss_cons (ps_set (i := 9) sc55.nd rfl (.inl rfl) (pe_op op_mulW (pv 14) (pv 3)))
    (pss_cons (ps_for (passes_of rfl) rfl (pi_list (pv 10)) (pg_name (i := 15) sc55.nd rfl (.inl rfl)) (pss_one (ps_set (i := 9) sc55.nd rfl (.inl rfl) (pe_ix ix_tup (pe_ix ix_tup (pe_fld (pv 7) (by rfl)) (pv 9) (fun _ _ => rfl)) (pv 15) (fun _ _ => rfl)))))
    (pss_cons (ps_if (pt_cmpR op_ne (pe_op op_fdivW (pv 9) (pv 3)) (pe_op op_mod (pe_callTy call_int1 (by rfl) B.int PyProof.Rows.boot_int (pa_cons (pe_op op_add (pv 14) (pv 11)) pa_nil)) (pv 6)) (nomark _)) (pss_one (ps_ret pe_bl)) pss_nil)
    (pss_one (ps_expr (pe_bm PySem.F.plainAttrs_list PySem.F.slot_list_append PySem.F.type_list_append mt_append (pv 12) (pa_cons (pe_op op_mod (pe_callTy call_int1 (by rfl) B.int PyProof.Rows.boot_int (pa_cons (pv 9) pa_nil)) (pv 3)) pa_nil))))))))
    (pss_cons (ps_for (passes_of rfl) rfl (pi_range1 (by rfl) B.range (pa_cons (pe_op op_mulW (pv 3) (pv 6)) pa_nil)) (pg_name (i := 9) sc55.nd rfl (.inl rfl)) (pss_cons (ps_set (i := 16) sc55.nd rfl (.inl rfl) (pe_op op_mod (pe_callTy call_int1 (by rfl) B.int PyProof.Rows.boot_int (pa_cons (pe_op op_add (pe_op op_fdivW (pv 9) (pv 3)) (pv 11)) pa_nil)) (pv 6)))
    (pss_one (ps_expr (pe_bm PySem.F.plainAttrs_list PySem.F.slot_list_append PySem.F.type_list_append mt_append (pv 13) (pa_cons (pe_op op_add (pe_op op_mulW (pv 16) (pv 3)) (pe_op op_mod (pe_callTy call_int1 (by rfl) B.int PyProof.Rows.boot_int (pa_cons (pe_op op_sub (pe_op op_add (pv 9) (pe_ix ix_list (pv 12) (pe_op op_fdivW (pv 9) (pv 3)) (fun _ _ => rfl))) (pe_op op_mulW (pe_op op_fdivW (pv 9) (pv 3)) (pv 3))) pa_nil)) (pv 3))) pa_nil))))))
    (pss_cons (ps_if (pt_cmpR (op_neD hr.units) (pv 13) (pe_lc (own := [("_law_state", 9)]) (g := gName 9) (tt := tYes) rfl sc55.nd (pi_range1 (by rfl) B.range (pa_cons (pe_op op_mulW (pv 3) (pv 6)) pa_nil)) (blkOk_by (N := ["_law_script", "_law_deal", "_law_turn", "_law_places", "_law_weights", "_law_shelving_here", "_law_many", "_law_machine", "_law_due", "_law_state", "_law_row", "_law_on", "_law_shifts", "_law_led_here", "_law_shelf", "_law_command", "_law_to", "_law_again", "_law_value", "_law_right", "_law_form", "_law_k"]) (sc := defScope (top 55)) (by decide +kernel))
        (fun _ _ _ _ _ => (pg_name (i := 9) sc55.nd rfl (Or.inl rfl))) (fun _ _ _ _ _ => pts_nil) (fun _ _ _ _ _ => (pe_cal CLe hr (by decide) (pa_cons (pv 3) (pa_cons (pv 4) (pa_cons (pv 10) (pa_cons (pv 9) pa_nil))))))) (nomark _)) (pss_one (ps_ret pe_bl)) pss_nil)
    (pss_cons (ps_if (PW.pt (pw_and (pt_cmpR op_le (pe_op op_mulW (pv 3) (pv 6)) pe_int (nomark _)) (pw_and1 (pt_cmpR op_ne (pe_callB (call_reprD gd hr.units) (by rfl) B.repr (by decide +kernel) (pa_cons (by exact (pe_calS CCh hr (by decide) (fun σ => passL σ) (pa_cons (pv 7) (pa_cons (pv 10) pa_nil)))) pa_nil)) (pe_callB (call_reprD gd hr.units) (by rfl) B.repr (by decide +kernel) (pa_cons (pe_callTy call_tuple_of (by rfl) B.tuple (by decide +kernel) (pa_cons (pv 13) pa_nil)) pa_nil)) (nomark _))))) (pss_one (ps_ret pe_bl)) pss_nil)
    (pss_cons (ps_for (passes_of rfl) rfl (pi_range1 (by rfl) B.range (pa_cons pe_int pa_nil)) (pg_name (i := 17) sc55.nd rfl (.inl rfl)) (pss_cons (ps_set (i := 18) sc55.nd rfl (.inl rfl) (by exact (pe_cal CNe hr (by decide) (pa_cons (pv 1) (pa_cons (pv 5) pa_nil)))))
    (pss_cons (ps_set (i := 19) sc55.nd rfl (.inl rfl) (by exact (pe_cal CLI hr (by decide) (pa_cons (pv 18) pa_nil))))
    (pss_cons (ps_if (pt_cmpR op_ne (pe_callB (call_repr gd hr.units) (by rfl) B.repr (by decide +kernel) (pa_cons (by exact (pe_calSK KIS hr (by decide) (fun σ => passZ σ) (pk_cons (pv 18) pk_nil))) pa_nil)) (pe_callB (call_repr gd hr.units) (by rfl) B.repr (by decide +kernel) (pa_cons (pv 19) pa_nil)) (nomark _)) (pss_one (ps_ret pe_bl)) pss_nil)
    (pss_one (ps_if (pt_not (pt_val (pv 19))) (pss_cons (ps_set (i := 20) sc55.nd rfl (.inl rfl) (by exact (pe_cal CA hr (by decide) (pa_cons (pv 1) (pa_cons pe_int pa_nil)))))
    (pss_one (ps_if (pt_cmpR (op_neD hr.units) (by exact (pe_cal CAs hr (by decide) (pa_cons (pv 20) (pa_cons (pv 5) (pa_cons (pv 18) pa_nil))))) (pe_tup (pa_cons (pe_ifExp (pt_cmpR op_eq (pv 20) pe_int (nomark _)) pe_int pe_int) (pa_cons pe_bl (pa_cons pe_bl pa_nil)))) (nomark _)) (pss_one (ps_ret pe_bl)) pss_nil))) pss_nil))))))
    (pss_one (ps_if (pt_cmpR op_notBl (by exact (pe_cal CIS hr (by decide) (pa_cons (pv 5) pa_nil))) pe_bl (nomark _)) (pss_one (ps_ret pe_bl)) pss_nil)))))))))))))))))
    (pss_one (ps_ret pe_bl)))), ?_⟩)
  · obtain ⟨a, ns, rfl, _⟩ := h
    rfl
  obtain ⟨a0, ns0, rfl, hS, qL⟩ := h
  refine ⟨_, rfl, a0, ns0, 23, rfl, hS, by decide, by decide, fun H1 d c s1 hd hc D1 => ?_⟩
  dsimp only [gName]
  refine sq_cut (fun σ H' => ∃ v2 v3 v4 v5 v6 v7 v8 v9 v10 v11 v12 v13 v14 v15 v16 v17 v18 v19 v20 : Option V, σ = [some (.ref a0), some (.ref d), v2, v3, v4, v5, v6, v7, v8, v9, v10, v11, v12, v13, v14, v15, v16, v17, v18, v19, v20, none] ∧ Dl H' d c) (fun Z hZ => ?_) ?_
  · refine ⟨2, rfl, by decide, by decide, for_range (n := 2) (fun i σ H' => ∃ v2 v3 v4 v5 v6 v7 v8 v9 v10 v11 v12 v13 v14 v15 v16 v17 v18 v19 v20 : Option V, σ = [some (.ref a0), some (.ref d), v2, v3, v4, v5, v6, v7, v8, v9, v10, v11, v12, v13, v14, v15, v16, v17, v18, v19, v20, none] ∧ Dl H' d c) ⟨none, none, none, none, none, none, none, none, none, none, none, none, none, none, none, none, none, none, none, rfl, D1⟩ ?_ ?_⟩
    · rintro i σ G il ⟨v2, v3, v4, v5, v6, v7, v8, v9, v10, v11, v12, v13, v14, v15, v16, v17, v18, v19, v20, rfl, D2⟩
      dsimp only [gName]
      refine ⟨_, rfl, d, c, rfl, D2, fun v P ws H2 hg hs D3 k3 => ?_⟩
      obtain ⟨a, wt, rfl, ha, hw⟩ := hs
      refine ⟨a, _, rfl, SqT.of ha, rfl, _, _, rfl, _, _, rfl, rfl, ?_⟩
      dsimp only [gName, gNil]
      have lw : (vi ws).length = ws.length := List.length_map ..
      have P1 := hg.p1
      have W1 := hg.w1
      have le := hg.le
      have P60 : P ≤ 60 := by
        have : P * 1 ≤ P * ws.length := Nat.mul_le_mul_left _ W1
        omega
      have W60 : ws.length ≤ 60 := by
        have : 1 * ws.length ≤ P * ws.length := Nat.mul_le_mul_right _ P1
        omega
      have N1 : 0 < P * ws.length := Nat.mul_pos P1 W1
      refine ⟨_, rfl, _, rfl, (by show 2 ≤ sizeLine; decide), fun sh hsh => ⟨_, rfl, wt, _, rfl, .inr (SqT.of (Same.new hsh _ _ hw)), _, _, rfl, ?_⟩⟩
      rw [lw]
      have hA3 : upd H2 sh (.tup [.int (P : Int), .ref wt]) sh = some (.tup [.int (P : Int), .ref wt]) := upd_same
      have hB3 := Same.new (o := .tup [.int (P : Int), .ref wt]) hsh _ _ hw
      replace D3 := D3.same (Same.new (o := .tup [.int (P : Int), .ref wt]) hsh)
      generalize upd H2 sh (.tup [.int (P : Int), .ref wt]) = H3 at hA3 hB3 D3
      clear hsh ha hw k3 D2
      dsimp only
      refine ⟨_, rfl, .ref sh, rfl, .inr ⟨P, ws, hg, ⟨sh, wt, rfl, hA3, hB3⟩, fun x dx tt ts H4 s4 O4 => ?_⟩⟩
      replace hA3 := s4 _ _ hA3
      replace hB3 := s4 _ _ hB3
      replace D3 := D3.same s4
      dsimp only [gName]
      have lR : (rowsOf (P * ws.length) (shC P ws)).length = P * ws.length := rowsOf_len
      refine ⟨_, rfl, .ref x, .ref Cm, .ref Cm, .ref Cm, true, rfl, .own Cm, .base (.ins O4.1 M.cl M.ha M.hn M.htk M.hm), M.kM, true, rfl, iteF ?_⟩
      have sh2 : ShB (tpN [2, P * ws.length]) 5 2000000 := ShB.tpN (fun y hy => by
        simp only [List.mem_cons, List.not_mem_nil, or_false] at hy
        omega) (by show 2 ≤ 1000; decide)
      refine ⟨_, rfl, x, Cm, dx, _, _, rfl, O4.1, M.cl, M.na1, rfl, _, rfl, x, Cm, dx, _, _, rfl, O4.1, M.cl, M.na2, rfl, (by show 2 ≤ sizeLine; decide), fun p1 hp1 => ⟨p1, tpN [2, P * ws.length], 5, 2000000, rfl, dp_tpN (SqT.of (by rw [upd_same, lR]; rfl)), sh2, by decide, by decide, ?_⟩⟩
      have s5 := Same.new (o := .tup [.int 2, .int ((rowsOf (P * ws.length) (shC P ws)).length : Nat)]) hp1
      refine ⟨_, rfl, _, rfl, _, _, rfl, rfl, cmulN (by omega) (by omega), (by show 2 ≤ sizeLine; decide), fun p2 hp2 => ⟨p2, tpN [2, P * ws.length], 5, 2000000, rfl, dp_tpN (SqT.of (by rw [upd_same]; rfl)), sh2, by decide, by decide, rfl, false, congrArg V.bl (by simp), ?_⟩⟩
      refine iteN Bool.false_ne_true ?_
      have s6 := s5.trans (Same.new (o := .tup [.int 2, .int ((P : Int) * (ws.length : Int))]) hp2)
      generalize upd (upd H4 p1 (.tup [.int 2, .int ((rowsOf (P * ws.length) (shC P ws)).length : Nat)])) p2 (.tup [.int 2, .int ((P : Int) * (ws.length : Int))]) = H6 at s6
      have hA6 := s6 _ _ hA3
      have hB6 := s6 _ _ hB3
      have D6 := D3.same s6
      have O6 := O4.same s6
      clear s6 hp2 s5 hp1 hA3 hB3 D3 O4 sh2 s4
      dsimp only [tNext]
      refine ⟨(by show 0 ≤ sizeLine; decide), fun D hD => ?_⟩
      have A0 : Acc H6 D (row (shC P ws)) 0 (upd H6 D (.lst [])) := Acc.init hD
      generalize upd H6 D (.lst []) = H7 at A0
      dsimp only [gName]
      refine sq_cut (fun σ H' => ∃ v9 : Option V, σ = [some (.ref a0), some (.ref d), some (.int (0 + (i : Int))), some (.int (P : Int)), some (.ref wt), some (.ref sh), some (.int (ws.length : Int)), some (.ref x), some (.ref D), v9, v10, v11, v12, v13, v14, v15, v16, v17, v18, v19, v20, none] ∧ Acc H6 D (row (shC P ws)) (P * ws.length) H') (fun Z2 hZ2 => ?_) ?_
      · refine ⟨_, rfl, _, rfl, _, _, rfl, rfl, cmulN (by omega) (by omega), _, rfl, ?_, ?_, for_range (fun j σ H' => (∃ v9 : Option V, σ = [some (.ref a0), some (.ref d), some (.int (0 + (i : Int))), some (.int (P : Int)), some (.ref wt), some (.ref sh), some (.int (ws.length : Int)), some (.ref x), some (.ref D), v9, v10, v11, v12, v13, v14, v15, v16, v17, v18, v19, v20, none]) ∧ Acc H6 D (row (shC P ws)) j H') ⟨⟨_, rfl⟩, A0⟩ ?_ ?_⟩
        · have : ((P : Int) * (ws.length : Int)) = ((P * ws.length : Nat) : Int) := rfl
          omega
        · have : ((P : Int) * (ws.length : Int)) = ((P * ws.length : Nat) : Int) := rfl
          omega
        · rintro j σ G2 jl ⟨⟨v9, rfl⟩, A⟩
          have jN : j < P * ws.length := by
            have : ((P : Int) * (ws.length : Int)) = ((P * ws.length : Nat) : Int) := rfl
            omega
          obtain ⟨y1, ts1, y2, y3, y4⟩ := id A
          dsimp only [gName]
          rw [show (0 : Int) + (j : Int) = (j : Int) by omega]
          refine ⟨_, rfl, .inl ⟨rfl, _, SqL.of y3⟩, _, rfl, _, rfl, (by show 1 ≤ sizeLine; decide), fun l1 hl1 => ⟨_, rfl, P, j, ws, [0], wt, l1, rfl, hg, Same.new hl1 _ _ (y1 _ _ hB6), upd_same, jN, _, rfl, _, rfl, (by show 1 ≤ sizeLine; decide), fun l2 hl2 => ⟨_, rfl, P, j, ws, [1], wt, l2, rfl, hg, Same.new hl2 _ _ (Same.new hl1 _ _ (y1 _ _ hB6)), upd_same, jN, (by show 2 ≤ sizeLine; decide), fun t ht => ?_⟩⟩⟩
          have s7 := ((Same.new (o := .lst [.int 0]) hl1).trans (Same.new (o := .lst [.int 1]) hl2)).trans (Same.new (o := .tup (vi [sF P ws 0 j, sF P ws 1 j])) ht)
          have st := A.step hD s7 (by rw [upd_same, shC_row jN]) (by omega)
          obtain ⟨acc, b1, b2, b3⟩ := st
          exact ⟨D, acc, _, rfl, rfl, b1, b2, ⟨_, rfl⟩, b3⟩
        · rintro σ G2 ⟨⟨v9, rfl⟩, A⟩
          have e : ((P : Int) * (ws.length : Int) - 0).toNat = P * ws.length := by
            have : ((P : Int) * (ws.length : Int)) = ((P * ws.length : Nat) : Int) := rfl
            omega
          exact hZ2 _ _ ⟨v9, rfl, A⟩
      rintro σ H8 ⟨v9, rfl, A8⟩
      obtain ⟨y1, ts1, y2, y3, y4⟩ := A8
      have O8 := O6.same y1
      have hA8 := y1 _ _ hA6
      have hB8 := y1 _ _ hB6
      have D8 := D6.same y1
      clear O6 hA6 hB6 D6 A0
      have rokN := rowsOf_ok (shC_chg hg)
      rw [lR] at rokN
      have rok : ∀ ro ∈ rowsOf (P * ws.length) (shC P ws), (∀ y ∈ ro, y ≤ 1000) ∧ ro.length ≤ 4 := fun ro h => ⟨fun y hy => by have := (rokN ro h).2 y hy; omega, by rw [(rokN ro h).1]; show 2 ≤ 4; decide⟩
      have shR : ShB (KV.tpR (rowsOf (P * ws.length) (shC P ws))) 10 1000000 := ShB.tpR60 rok (by rw [lR]; exact le)
      refine ⟨_, rfl, x, Cm, dx, _, _, rfl, O8.1, M.cl, M.na3, rfl, tt, KV.tpR (rowsOf (P * ws.length) (shC P ws)), 10, 1000000, rfl, .tup (SqT.of O8.2.1) (dpA_rows ts _ O8.2.2.1 O8.2.2.2), shR, by decide, by decide, _, rfl, D, _, rfl, .inl ⟨SqL.of y3, fun p3 hp3 => ⟨p3, KV.tpR (rowsOf (P * ws.length) (shC P ws)), 10, 1000000, rfl, .tup (SqT.of upd_same) (dpA_rows ts1 _ (by rw [y2, lR]) fun s b e => ⟨_, rowsOf_at (by have := (List.getElem?_eq_some_iff.mp e).1; omega), Same.new hp3 _ _ (y4 s b e)⟩), shR, by decide, by decide, rfl, false, congrArg V.bl (by simp), ?_⟩⟩⟩
      refine iteN Bool.false_ne_true ?_
      have s9 := Same.new (o := .tup (ts1.map V.ref)) hp3
      generalize upd H8 p3 (.tup (ts1.map V.ref)) = H9 at s9
      refine ⟨_, rfl, .ref sh, rfl, .inr ⟨P, ws, hg, ⟨sh, wt, rfl, s9 _ _ hA8, s9 _ _ hB8⟩, fun x2 dx2 tt2 ts2 H10 s10 O10 => ?_⟩⟩
      have s89 := s9.trans s10
      have O10x := O8.same s89
      have hA10 := s89 _ _ hA8
      have hB10 := s89 _ _ hB8
      have D10 := D8.same s89
      clear s9 s10 s89 hp3 hA8 hB8 D8 O8 y3 y4 y2 y1
      refine ⟨_, rfl, ?_⟩
      refine own_mm M O10 O10x ?_
      refine ⟨_, _, rfl, rfl, false, congrArg V.bl (by simp), ?_⟩
      refine iteN Bool.false_ne_true ?_
      clear O10
      dsimp only [tNext]
      refine ⟨_, rfl, d, c, 26, rfl, D10, by decide, by decide, fun kz H11 kz0 kz1 D11 k11 => ?_⟩
      obtain ⟨kn, rfl⟩ := Int.eq_ofNat_of_zero_le kz0
      have hA11 := D10.kT k11 hA10
      have hB11 := D10.kT k11 hB10
      have O11 := O10x.kp D10 k11
      clear hA10 hB10 O10x k11 D10
      refine ⟨kn, rfl, by omega, by omega, fun Dr hDr => lc_range (n := kn) (fun j H' => AccD d c H11 Dr 2 j H') (AccD.init D11 hDr) ?_ ?_⟩
      · intro j H' jl z
        refine ⟨rfl, _, rfl, d, c, 2, rfl, z.1, by decide, by decide, fun r9 H12 r0 r1 D12 k12 => ?_⟩
        exact z.step D11 hDr D12 k12 r0 r1 (by omega)
      rintro H12 ⟨D12, k12, rw_, z2, z3, z4⟩
      have hA12 := D11.kT k12 hA11
      have hB12 := D11.kT k12 hB11
      have O12 := O11.kp D11 k12
      clear hA11 hB11 O11 k12 D11 hDr
      dsimp only [gName]
      refine ⟨_, rfl, Dr, rfl, ⟨_, SqL.of z4⟩, fun D2 hD2 => lc_list (xs := vi rw_) (fun j H' => Same H12 H' ∧ H' D2 = some (.lst (vi ((rw_.take j).filter (· = 0))))) ⟨Same.new hD2, upd_same⟩ (fun j H' _ z => SqL.of (z.1 _ _ z4)) ?_ ?_⟩
      · rintro j e H13 he ⟨y1, y2⟩
        have he' : (rw_[j]?).map (fun k : Nat => V.int (k : Int)) = some e := by rw [← List.getElem?_map]; exact he
        obtain ⟨k, hk, rfl⟩ := Option.map_eq_some_iff.mp he'
        have jl := (List.getElem?_eq_some_iff.mp hk).1
        refine ⟨rfl, _, rfl, rfl, _, rfl, ?_⟩
        by_cases zk : k = 0
        · refine iteP (by simp [zk]) ⟨_, rfl, _, y2, len_lt ?_, Same.upd y1 hD2, ?_⟩
          · unfold vi
            rw [List.length_map]
            have := List.length_filter_le (fun x : Nat => decide (x = 0)) (rw_.take j)
            rw [List.length_take] at this
            omega
          · rw [upd_same, List.take_add_one, hk, List.filter_append]
            unfold vi
            rw [List.map_append]
            simp [zk]
        · refine iteN (by simp; omega) ⟨y1, ?_⟩
          rw [y2, List.take_add_one, hk, List.filter_append]
          simp [zk]
      rintro H13 ⟨y1, y2⟩
      rw [show (vi rw_).length = rw_.length from List.length_map .., List.take_length] at y2
      refine ⟨D2, _, rfl, .inl (SqL.of y2), (by show 0 ≤ sizeLine; decide), fun l1 hl1 => ⟨(by show 0 ≤ sizeLine; decide), fun l2 hl2 => ⟨_, _, _, rfl, ?_⟩⟩⟩
      have eon : (vi (rw_.filter (· = 0))).length = onZ rw_ := by
        unfold vi onZ
        rw [List.length_map]
      rw [eon]
      dsimp only
      have s15 := (y1.trans (Same.new (o := .lst []) hl1)).trans (Same.new (o := .lst []) hl2)
      have hA15 := s15 _ _ hA12
      have hB15 := s15 _ _ hB12
      have O15 := O12.same s15
      have D15 := D12.same s15
      have hr15 := s15 _ _ z4
      have l115 : upd (upd H13 l1 (.lst [])) l2 (.lst []) l1 = some (.lst []) := Same.new hl2 _ _ upd_same
      have l215 : upd (upd H13 l1 (.lst [])) l2 (.lst []) l2 = some (.lst []) := upd_same
      have nl1 := (D12.same y1).ne hl1
      have nl2 := (D12.same (y1.trans (Same.new (o := .lst []) hl1))).ne hl2
      have nl12 : l1 ≠ l2 := fun z => by rw [← z, upd_same] at hl2; cases hl2
      have nr1 : Dr ≠ l1 := fun z => by rw [z] at z4; rw [y1 _ _ z4] at hl1; cases hl1
      have nr2 : Dr ≠ l2 := fun z => by rw [z] at z4; rw [Same.new hl1 _ _ (y1 _ _ z4)] at hl2; cases hl2
      generalize upd (upd H13 l1 (.lst [])) l2 (.lst []) = H15 at hA15 hB15 O15 D15 hr15 l115 l215 s15
      clear s15 hl1 hl2 y1 y2 hA12 hB12 O12 D12 z4 eon hD2
      have zlen : rw_.length ≤ 26 := by omega
      have stepAt : ∀ {H' : Hp} {s k : Nat}, MkO Cm x dx tt ts 2 (rowsOf (P * ws.length) (shC P ws)) H' → s < P * ws.length → ∃ b : Addr, (ts.map V.ref)[s]? = some (.ref b) ∧ H' b = some (.tup (vi [sF P ws 0 s, sF P ws 1 s])) := fun {H' s k} O' hs => by
        obtain ⟨b, hb⟩ : ∃ b, ts[s]? = some b := ⟨_, List.getElem?_eq_getElem (by rw [O'.2.2.1, lR]; exact hs)⟩
        obtain ⟨ro, hro, hbr⟩ := O'.2.2.2 s b hb
        rw [rowsOf_at hs] at hro
        have := Option.some.inj hro
        subst this
        rw [shC_row hs] at hbr
        exact ⟨b, by rw [List.getElem?_map, hb]; rfl, hbr⟩
      have keepO : ∀ {H' : Hp} {l : Addr} {zs : List V}, Kx l H15 H' → H15 l = some (.lst zs) → MkO Cm x dx tt ts 2 (rowsOf (P * ws.length) (shC P ws)) H' := fun k e => O15.keep fun b o h nl => k b o (fun z => by rw [z, e] at h; exact nl _ (Option.some.inj h).symm) h
      -- where each shelf is led
      refine sq_cut (fun σ H' => (∃ v9 v14 v15 : Option V, σ = [some (.ref a0), some (.ref d), some (.int (0 + (i : Int))), some (.int (P : Int)), some (.ref wt), some (.ref sh), some (.int (ws.length : Int)), some (.ref x), some (.ref D), v9, some (.ref Dr), some (.int ((onZ rw_ : Nat) : Int)), some (.ref l1), some (.ref l2), v14, v15, v16, v17, v18, v19, v20, none]) ∧ Kx l1 H15 H' ∧ H' l1 = some (.lst (vi ((List.range ws.length).map fun q => (led P ws rw_ (q, 0)).2)))) (fun Z2 hZ2 => ?_) ?_
      · refine ⟨_, rfl, (ws.length : Int), rfl, by omega, by omega, for_range (fun q σ H' => (∃ v9 v14 v15 : Option V, σ = [some (.ref a0), some (.ref d), some (.int (0 + (i : Int))), some (.int (P : Int)), some (.ref wt), some (.ref sh), some (.int (ws.length : Int)), some (.ref x), some (.ref D), v9, some (.ref Dr), some (.int ((onZ rw_ : Nat) : Int)), some (.ref l1), some (.ref l2), v14, v15, v16, v17, v18, v19, v20, none]) ∧ Kx l1 H15 H' ∧ H' l1 = some (.lst (vi ((List.range q).map fun q => (led P ws rw_ (q, 0)).2)))) ⟨⟨_, _, _, rfl⟩, fun b o _ e => e, l115⟩ ?_ ?_⟩
        · rintro q σ G2 qn ⟨⟨v9, v14, v15, rfl⟩, kx, e1⟩
          have qW : q < ws.length := by omega
          have OG := keepO kx l115
          have hrG := kx _ _ nr1 hr15
          dsimp only [gName]
          rw [show (0 : Int) + (q : Int) = (q : Int) by omega]
          refine ⟨_, rfl, _, rfl, _, _, rfl, rfl, cmulN (by omega) (by omega), ?_⟩
          dsimp only [gName]
          rw [show (q : Int) * (P : Int) = ((q * P : Nat) : Int) from rfl]
          have qP : q * P < P * ws.length := by have := qr_lt (P := P) (r := 0) qW (by omega); omega
          refine sq_cut (fun σ H' => (∃ v15 : Option V, σ = [some (.ref a0), some (.ref d), some (.int (0 + (i : Int))), some (.int (P : Int)), some (.ref wt), some (.ref sh), some (.int (ws.length : Int)), some (.ref x), some (.ref D), some (.int ((ledS P ws rw_ (q * P) : Nat) : Int)), some (.ref Dr), some (.int ((onZ rw_ : Nat) : Int)), some (.ref l1), some (.ref l2), some (.int (q : Int)), v15, v16, v17, v18, v19, v20, none]) ∧ H' = G2) (fun Z3 hZ3 => ?_) ?_
          · refine ⟨_, rfl, Dr, rfl, ⟨_, SqL.of hrG⟩, for_list (xs := vi rw_) (fun j σ H' => (∃ v15 : Option V, σ = [some (.ref a0), some (.ref d), some (.int (0 + (i : Int))), some (.int (P : Int)), some (.ref wt), some (.ref sh), some (.int (ws.length : Int)), some (.ref x), some (.ref D), some (.int ((ledS P ws (rw_.take j) (q * P) : Nat) : Int)), some (.ref Dr), some (.int ((onZ rw_ : Nat) : Int)), some (.ref l1), some (.ref l2), some (.int (q : Int)), v15, v16, v17, v18, v19, v20, none]) ∧ H' = G2) ⟨⟨v15, ?_⟩, rfl⟩ (fun j σ H' _ z => by rw [z.2]; exact SqL.of hrG) ?_ ?_⟩
            · rw [List.take_zero, ledS_nil]
              rfl
            · rintro j e σ G3 he ⟨⟨v15, rfl⟩, rfl⟩
              have he' : (rw_[j]?).map (fun k : Nat => V.int (k : Int)) = some e := by rw [← List.getElem?_map]; exact he
              obtain ⟨k, hk, rfl⟩ := Option.map_eq_some_iff.mp he'
              have k2 := z3 k (List.mem_of_getElem? hk)
              have sl := ledS_lt hg (row := rw_.take j) qP
              obtain ⟨b, hb1, hb2⟩ := stepAt (k := k) OG sl
              dsimp only [gName]
              refine ⟨_, rfl, x, Cm, dx, _, _, rfl, OG.1, M.cl, M.na3, rfl, _, rfl, tt, _, _, .ref b, rfl, rfl, SqT.of OG.2.1, atI_nat hb1, _, rfl, b, _, _, .int ((sF P ws k (ledS P ws (rw_.take j) (q * P)) : Nat) : Int), rfl, rfl, SqT.of hb2, atI_nat ?_, ?_⟩
              · match k, k2 with
                | 0, _ => rfl
                | 1, _ => rfl
              · refine ⟨⟨some (.int (k : Int)), ?_⟩, rfl⟩
                rw [List.take_add_one, hk, Option.toList_some, ledS_snoc hg qP]
                rfl
            · rintro σ G3 ⟨⟨v15, rfl⟩, rfl⟩
              rw [show (vi rw_).length = rw_.length from List.length_map .., List.take_length]
              exact hZ3 _ _ ⟨⟨v15, rfl⟩, rfl⟩
          rintro σ G3 ⟨⟨v15, rfl⟩, rfl⟩
          have hL := led_ok hg rw_ (q, 0) qW (by omega)
          have eS : ledS P ws rw_ (q * P) = (led P ws rw_ (q, 0)).1 * P + (led P ws rw_ (q, 0)).2 := by
            unfold ledS
            have a1 := qr_div (P := P) (q := q) (r := 0) (by omega)
            have a2 := qr_mod (P := P) (q := q) (r := 0) (by omega)
            rw [Nat.add_zero] at a1 a2
            rw [a1, a2]
          rw [eS]
          have cP : CDivW (((led P ws rw_ (q, 0)).1 * P + (led P ws rw_ (q, 0)).2 : Nat) : Int) (P : Int) := ⟨by omega, by
            have := Nat.log2_le_self P
            show P.log2 < 9000
            omega⟩
          refine ⟨_, rfl, _, rfl, _, _, rfl, rfl, cP, _, rfl, _, rfl, _, _, rfl, rfl, .inl ⟨_, rfl, _, rfl, _, _, rfl, rfl, ?_, rfl, false, congrArg V.bl (neI ?_), ?_⟩⟩
          · show (0 : Int) < (ws.length : Int)
            omega
          · show (((led P ws rw_ (q, 0)).1 * P + (led P ws rw_ (q, 0)).2 : Nat) : Int) / (P : Int) = ((q : Int) + ((onZ rw_ : Nat) : Int)) % (ws.length : Int)
            have a1 : (((led P ws rw_ (q, 0)).1 * P + (led P ws rw_ (q, 0)).2 : Nat) : Int) / (P : Int) = ((((led P ws rw_ (q, 0)).1 * P + (led P ws rw_ (q, 0)).2) / P : Nat) : Int) := rfl
            have a2 : ((q : Int) + ((onZ rw_ : Nat) : Int)) % (ws.length : Int) = (((q + onZ rw_) % ws.length : Nat) : Int) := rfl
            rw [a1, a2, qr_div hL.2, led_fst hg rw_ q 0 qW]
          refine iteN Bool.false_ne_true ?_
          dsimp only [tNext]
          refine ⟨_, rfl, .inl ⟨rfl, _, SqL.of e1⟩, _, rfl, .inl ⟨_, rfl, _, rfl, _, _, rfl, rfl, ?_, l1, _, _, rfl, rfl, e1, len_lt ?_, ⟨_, _, _, rfl⟩, fun b o nb e => ?_, ?_⟩⟩
          · show (0 : Int) < (P : Int)
            omega
          · unfold vi
            rw [List.length_map, List.length_map, List.length_range]
            omega
          · rw [upd_ne nb]
            exact kx b o nb e
          · rw [upd_same, List.range_succ, List.map_append]
            unfold vi
            rw [List.map_append]
            show some (HO.lst (_ ++ [V.int ((((led P ws rw_ (q, 0)).1 * P + (led P ws rw_ (q, 0)).2) % P : Nat) : Int)])) = _
            rw [qr_mod hL.2]
            rfl
        · rintro σ G2 ⟨⟨v9, v14, v15, rfl⟩, kx, e1⟩
          rw [Int.toNat_natCast] at e1
          exact hZ2 _ _ ⟨⟨v9, v14, v15, rfl⟩, kx, e1⟩
      rintro σ H16 ⟨⟨v9, v14, v15, rfl⟩, kx1, e16⟩
      have l216 := kx1 _ _ nl12.symm l215
      have hr16 := kx1 _ _ nr1 hr15
      have O16 := keepO kx1 l115
      have D16 : Dl H16 d c := by
        obtain ⟨dn, cs2, b2, g1, g2, g3⟩ := D15
        exact ⟨dn, cs2, b2, kx1 _ _ nl1.1.symm g1, kx1 _ _ nl1.2.symm g2, g3⟩
      have hA16 := kx1 _ _ (fun z => by rw [z, l115] at hA15; cases hA15) hA15
      have hB16 := kx1 _ _ (fun z => by rw [z, l115] at hB15; cases hB15) hB15
      -- where each state is led
      refine sq_cut (fun σ H' => (∃ v9 v16 : Option V, σ = [some (.ref a0), some (.ref d), some (.int (0 + (i : Int))), some (.int (P : Int)), some (.ref wt), some (.ref sh), some (.int (ws.length : Int)), some (.ref x), some (.ref D), v9, some (.ref Dr), some (.int ((onZ rw_ : Nat) : Int)), some (.ref l1), some (.ref l2), v14, v15, v16, v17, v18, v19, v20, none]) ∧ Kx l2 H16 H' ∧ H' l2 = some (.lst (vi ((List.range (P * ws.length)).map (ledS P ws rw_))))) (fun Z2 hZ2 => ?_) ?_
      · have eN : ((P : Int) * (ws.length : Int)) = ((P * ws.length : Nat) : Int) := rfl
        refine ⟨_, rfl, _, rfl, _, _, rfl, rfl, cmulN (by omega) (by omega), _, rfl, by omega, by omega, for_range (fun s σ H' => (∃ v9 v16 : Option V, σ = [some (.ref a0), some (.ref d), some (.int (0 + (i : Int))), some (.int (P : Int)), some (.ref wt), some (.ref sh), some (.int (ws.length : Int)), some (.ref x), some (.ref D), v9, some (.ref Dr), some (.int ((onZ rw_ : Nat) : Int)), some (.ref l1), some (.ref l2), v14, v15, v16, v17, v18, v19, v20, none]) ∧ Kx l2 H16 H' ∧ H' l2 = some (.lst (vi ((List.range s).map (ledS P ws rw_))))) ⟨⟨_, _, rfl⟩, fun b o _ e => e, l216⟩ ?_ ?_⟩
        · rintro s σ G2 sn ⟨⟨v9, v16, rfl⟩, kx, e2⟩
          have sN : s < P * ws.length := by omega
          have eG := kx _ _ nl12 e16
          have qW := hg.dv sN
          dsimp only [gName]
          rw [show (0 : Int) + (s : Int) = (s : Int) by omega]
          have cP : CDivW (s : Int) (P : Int) := ⟨by omega, by
            have := Nat.log2_le_self P
            show P.log2 < 9000
            omega⟩
          refine ⟨_, rfl, _, rfl, _, _, rfl, rfl, cP, _, rfl, _, _, rfl, rfl, .inl ⟨_, rfl, _, rfl, _, _, rfl, rfl, ?_, ?_⟩⟩
          · show (0 : Int) < (ws.length : Int)
            omega
          dsimp only [gName]
          have a2 : ((s : Int) / (P : Int) + ((onZ rw_ : Nat) : Int)) % (ws.length : Int) = (((s / P + onZ rw_) % ws.length : Nat) : Int) := rfl
          rw [a2]
          have gL : (vi ((List.range ws.length).map fun q => (led P ws rw_ (q, 0)).2))[s / P]? = some (.int (((led P ws rw_ (s / P, 0)).2 : Nat) : Int)) := by
            unfold vi
            rw [List.getElem?_map, List.getElem?_map, List.getElem?_range qW]
            rfl
          have mW := Nat.mod_lt (s / P + onZ rw_) (show 0 < ws.length by omega)
          refine ⟨_, rfl, .inl ⟨rfl, _, SqL.of e2⟩, _, rfl, _, rfl, _, _, rfl, rfl, cmulN (by omega) (by omega), _, rfl, _, rfl, _, rfl, _, rfl, _, _, rfl, rfl, cP, l1, _, _, _, rfl, rfl, SqL.of eG, atI_eq (show (s : Int) / (P : Int) = ((s / P : Nat) : Int) from rfl) gL, _, _, rfl, rfl, _, rfl, _, rfl, _, _, rfl, rfl, cP, _, rfl, _, _, rfl, rfl, (show CMulW ((s / P : Nat) : Int) (P : Int) from cmulN (by omega) (by omega)), _, _, rfl, rfl, .inl ⟨_, rfl, _, rfl, _, _, rfl, rfl, ?_, _, _, rfl, rfl, l2, _, _, rfl, rfl, e2, len_lt ?_, ⟨_, _, rfl⟩, fun b o nb e => ?_, ?_⟩⟩
          · show (0 : Int) < (P : Int)
            omega
          · unfold vi
            rw [List.length_map, List.length_map, List.length_range]
            omega
          · rw [upd_ne nb]
            exact kx b o nb e
          · rw [upd_same, List.range_succ, List.map_append]
            unfold vi
            rw [List.map_append]
            have ev : (((s / P + onZ rw_) % ws.length : Nat) : Int) * (P : Int) + ((s : Int) + (((led P ws rw_ (s / P, 0)).2 : Nat) : Int) - (s : Int) / (P : Int) * (P : Int)) % (P : Int) = ((ledS P ws rw_ s : Nat) : Int) := by
              rw [ledS_here hg sN]
              have e1 : (s : Int) + (((led P ws rw_ (s / P, 0)).2 : Nat) : Int) - (s : Int) / (P : Int) * (P : Int) = ((s % P + (led P ws rw_ (s / P, 0)).2 : Nat) : Int) := by
                have h1 := Nat.div_add_mod s P
                rw [Nat.mul_comm] at h1
                have h2 : (s : Int) / (P : Int) * (P : Int) = ((s / P * P : Nat) : Int) := rfl
                rw [h2]
                omega
              rw [e1]
              rfl
            show some (HO.lst (_ ++ [V.int ((((s / P + onZ rw_) % ws.length : Nat) : Int) * (P : Int) + ((s : Int) + (((led P ws rw_ (s / P, 0)).2 : Nat) : Int) - (s : Int) / (P : Int) * (P : Int)) % (P : Int))])) = _
            rw [ev]
            rfl
        · rintro σ G2 ⟨⟨v9, v16, rfl⟩, kx, e2⟩
          exact hZ2 _ _ ⟨⟨v9, v16, rfl⟩, kx, e2⟩
      rintro σ H17 ⟨⟨v9, v16, rfl⟩, kx2, e17⟩
      have hr17 := kx2 _ _ nr2 hr16
      have O17 : MkO Cm x dx tt ts 2 (rowsOf (P * ws.length) (shC P ws)) H17 := O16.keep fun b o h nl => kx2 b o (fun z => by rw [z, l216] at h; exact nl _ (Option.some.inj h).symm) h
      have D17 : Dl H17 d c := by
        obtain ⟨dn, cs2, b2, g1, g2, g3⟩ := D16
        exact ⟨dn, cs2, b2, kx2 _ _ nl2.1.symm g1, kx2 _ _ nl2.2.symm g2, g3⟩
      have hA17 := kx2 _ _ (fun z => by rw [z, l216] at hA16; cases hA16) hA16
      have hB17 := kx2 _ _ (fun z => by rw [z, l216] at hB16; cases hB16) hB16
      clear O16 D16 hA16 hB16 hr16 l216 kx2 kx1 e16 keepO stepAt O15 D15 hA15 hB15 hr15 l115 l215
      have eN : ((P : Int) * (ws.length : Int)) = ((P * ws.length : Nat) : Int) := rfl
      refine ⟨_, rfl, _, rfl, _, rfl, _, _, rfl, rfl, cmulN (by omega) (by omega), _, rfl, by omega, by omega, fun D4 hD4 => lc_range (fun j H' => Same H17 H' ∧ H' D4 = some (.lst (vi ((List.range j).map (ledS P ws rw_))))) ⟨Same.new hD4, upd_same⟩ ?_ ?_⟩
      · rintro j H18 jl ⟨y1, y2⟩
        have jN : j < P * ws.length := by omega
        rw [show (0 : Int) + (j : Int) = (j : Int) by omega]
        refine ⟨rfl, _, rfl, _, rfl, _, rfl, _, rfl, P, j, ws, rw_, wt, Dr, rfl, hg, y1 _ _ hB17, y1 _ _ hr17, jN, _, y2, len_lt ?_, Same.upd y1 hD4, ?_⟩
        · unfold vi
          rw [List.length_map, List.length_map, List.length_range]
          omega
        · rw [upd_same, List.range_succ, List.map_append]
          unfold vi
          rw [List.map_append]
          rfl
      rintro H18 ⟨y1, y2⟩
      have eT : ((P : Int) * (ws.length : Int)).toNat = P * ws.length := by rw [eN, Int.toNat_natCast]
      rw [eT] at y2
      have e18 := y1 _ _ e17
      refine neL (ns := zi ((List.range (P * ws.length)).map (ledS P ws rw_))) (ms := zi ((List.range (P * ws.length)).map (ledS P ws rw_))) (SqL.of (by rw [← vi_zi]; exact e18)) (SqL.of (by rw [← vi_zi]; exact y2)) ?_
      refine ⟨false, congrArg V.bl (by simp), ?_⟩
      refine iteN Bool.false_ne_true ?_
      have hr18 := y1 _ _ hr17
      have O18 := O17.same y1
      have D18 := D17.same y1
      have hA18 := y1 _ _ hA17
      have hB18 := y1 _ _ hB17
      clear y1 y2 hr17 O17 D17 hA17 hB17 e17 hD4
      dsimp only [tNext]
      have shL : ShB (tpN ((List.range (P * ws.length)).map (ledS P ws rw_))) 5 2000000 := ShB.tpN (fun y hy => by
        obtain ⟨s, hs, rfl⟩ := List.mem_map.mp hy
        have := ledS_lt hg (row := rw_) (List.mem_range.mp hs)
        omega) (by rw [List.length_map, List.length_range]; omega)
      refine sq_cut (fun σ H' => σ = [some (.ref a0), some (.ref d), some (.int (0 + (i : Int))), some (.int (P : Int)), some (.ref wt), some (.ref sh), some (.int (ws.length : Int)), some (.ref x), some (.ref D), v9, some (.ref Dr), some (.int ((onZ rw_ : Nat) : Int)), some (.ref l1), some (.ref l2), v14, v15, v16, v17, v18, v19, v20, none] ∧ Same H18 H') (fun Z2 hZ2 => ?_) ?_
      · refine ⟨_, rfl, _, rfl, _, _, rfl, rfl, cmulN (by omega) (by omega), _, _, rfl, rfl, _, rfl, ?_⟩
        by_cases z16 : P * ws.length ≤ 16
        · refine iteP (by simp; omega) ?_
          have M18 : Mc K Cm H18 x (P * ws.length) (shC P ws) := Mc.of M.cl M.na1 M.na2 M.na3 O18 (shC_chg hg)
          refine ⟨_, rfl, _, rfl, x, .ref Dr, P * ws.length, shC P ws, rfl, M18, .inl ⟨rw_, ⟨Dr, rfl, .inl hr18⟩, fun k hk => z3 k hk, z16, fun t8 H19 s19 h8 => ?_⟩⟩
          have eE : (List.range (P * ws.length)).map (ends (shC P ws) rw_) = (List.range (P * ws.length)).map (ledS P ws rw_) := List.map_congr_left fun s hs => ends_led hg rw_ s (List.mem_range.mp hs) z3
          rw [eE] at h8
          refine ⟨t8, tpN ((List.range (P * ws.length)).map (ledS P ws rw_)), 5, 2000000, rfl, dp_tpN (SqT.of h8), shL, by decide, by decide, _, rfl, l2, _, rfl, .inl ⟨SqL.of (s19 _ _ e18), fun p9 hp9 => ⟨p9, tpN ((List.range (P * ws.length)).map (ledS P ws rw_)), 5, 2000000, rfl, dp_tpN (SqT.of upd_same), shL, by decide, by decide, rfl, false, congrArg V.bl (by simp), ?_⟩⟩⟩
          exact iteN Bool.false_ne_true (hZ2 _ _ ⟨rfl, s19.trans (Same.new hp9)⟩)
        · exact iteN (by simp; omega) (hZ2 _ _ ⟨rfl, Same.refl _⟩)
      rintro σ H19 ⟨rfl, s19⟩
      have D19 := D18.same s19
      have hA19 := s19 _ _ hA18
      have hB19 := s19 _ _ hB18
      clear s19 D18 hA18 hB18 O18 hr18 e18 shL
      -- values near it
      refine sq_cut (fun σ H' => (∃ v17 v18 v19 v20 : Option V, σ = [some (.ref a0), some (.ref d), some (.int (0 + (i : Int))), some (.int (P : Int)), some (.ref wt), some (.ref sh), some (.int (ws.length : Int)), some (.ref x), some (.ref D), v9, some (.ref Dr), some (.int ((onZ rw_ : Nat) : Int)), some (.ref l1), some (.ref l2), v14, v15, v16, v17, v18, v19, v20, none]) ∧ Dl H' d c ∧ Kp d c H19 H') (fun Z2 hZ2 => ?_) ?_
      · refine ⟨4, rfl, by decide, by decide, for_range (n := 4) (fun j σ H' => (∃ v17 v18 v19 v20 : Option V, σ = [some (.ref a0), some (.ref d), some (.int (0 + (i : Int))), some (.int (P : Int)), some (.ref wt), some (.ref sh), some (.int (ws.length : Int)), some (.ref x), some (.ref D), v9, some (.ref Dr), some (.int ((onZ rw_ : Nat) : Int)), some (.ref l1), some (.ref l2), v14, v15, v16, v17, v18, v19, v20, none]) ∧ Dl H' d c ∧ Kp d c H19 H') ⟨⟨_, _, _, _, rfl⟩, D19, Kp.refl⟩ ?_ ?_⟩
        · rintro j σ H20 j4 ⟨⟨v17, v18, v19, v20, rfl⟩, D20, k20⟩
          have hA20 := D19.kT k20 hA19
          have hB20 := D19.kT k20 hB19
          dsimp only [gName]
          refine ⟨_, rfl, _, rfl, d, c, .ref sh, P, ws, rfl, D20, hg, ⟨sh, wt, rfl, hA20, hB20⟩, fun v b H21 hv D21 k21 => ?_⟩
          have hA21 := D20.kT k21 hA20
          have hB21 := D20.kT k21 hB20
          dsimp only [gName]
          refine ⟨_, rfl, v, b, rfl, hv, fun H22 s22 => ?_⟩
          dsimp only [gName]
          refine ⟨_, rfl, v, b, rfl, hv.same s22, fun H23 s23 => .inl ⟨b, rfl, _, rfl, .inl ⟨b, rfl, rfl, false, congrArg V.bl (by simp), ?_⟩⟩⟩
          refine iteN Bool.false_ne_true ?_
          have s13 := s22.trans s23
          have k23 := (k20.trans k21).trans (Kp.of s13)
          have D23 := D21.same s13
          dsimp only [tNext]
          refine ⟨_, rfl, b, rfl, ?_⟩
          cases b with
          | true => exact iteF ⟨⟨_, _, _, _, rfl⟩, D23, k23⟩
          | false =>
          refine iteT ?_
          refine ⟨_, rfl, d, c, 7, rfl, D23, by decide, by decide, fun fm H24 f0 f1 D24 k24 => ?_⟩
          have hA24 := D23.kT k24 (s13 _ _ hA21)
          have hB24 := D23.kT k24 (s13 _ _ hB21)
          have hv24 := (hv.same s13).kp D23 D24 k24
          dsimp only [gName]
          refine ⟨_, rfl, _, rfl, _, rfl, fm, .ref sh, v, P, ws, rfl, f0, f1, hg, ⟨sh, wt, rfl, hA24, hB24⟩, hv24, fun p H25 s25 hp => ?_⟩
          have kf := k23.trans (k24.trans (Kp.of s25))
          refine ⟨_, rfl, rfl, _, rfl, ?_⟩
          by_cases z6 : fm = 6
          · refine iteP (by simp [z6]) ⟨(by show 3 ≤ sizeLine; decide), fun t ht => ?_⟩
            rw [if_pos z6] at hp
            refine ne3 (.inr rfl) (Same.new ht _ _ hp) upd_same rfl ?_
            refine ⟨false, rfl, ?_⟩
            exact iteN Bool.false_ne_true ⟨⟨_, _, _, _, rfl⟩, D24.same (s25.trans (Same.new ht)), kf.trans (Kp.of (Same.new ht))⟩
          · refine iteN (by simp [z6]) ⟨(by show 3 ≤ sizeLine; decide), fun t ht => ?_⟩
            rw [if_neg z6] at hp
            refine ne3 (.inl rfl) (Same.new ht _ _ hp) upd_same rfl ?_
            refine ⟨false, rfl, ?_⟩
            exact iteN Bool.false_ne_true ⟨⟨_, _, _, _, rfl⟩, D24.same (s25.trans (Same.new ht)), kf.trans (Kp.of (Same.new ht))⟩
        · rintro σ H20 ⟨⟨v17, v18, v19, v20, rfl⟩, D20, k20⟩
          exact hZ2 _ _ ⟨⟨_, _, _, _, rfl⟩, D20, k20⟩
      rintro σ H20 ⟨⟨v17, v18, v19, v20, rfl⟩, D20, k20⟩
      have hA20 := D19.kT k20 hA19
      have hB20 := D19.kT k20 hB19
      refine ⟨_, rfl, .ref sh, true, rfl, ShG.shv ⟨sh, wt, rfl, hA20, hB20⟩ hg, fun H21 s21 => ⟨_, _, rfl, rfl, false, congrArg V.bl (by simp), ?_⟩⟩
      exact iteN Bool.false_ne_true ⟨_, _, _, _, _, _, _, _, _, _, _, _, _, _, _, _, _, _, _, rfl, D20.same s21⟩
    · rintro σ G ⟨v2, v3, v4, v5, v6, v7, v8, v9, v10, v11, v12, v13, v14, v15, v16, v17, v18, v19, v20, rfl, D2⟩
      exact hZ _ _ ⟨_, _, _, _, _, _, _, _, _, _, _, _, _, _, _, _, _, _, _, rfl, D2⟩
  rintro σ G ⟨v2, v3, v4, v5, v6, v7, v8, v9, v10, v11, v12, v13, v14, v15, v16, v17, v18, v19, v20, rfl, D2⟩
  exact qL G
end
end KV

/-! the end -/
namespace KV
open PySem PySem.Spec PyProof.Rows L2 He KC
section
variable {P : Program} {w : World} {K : PySem.W.Frag} {mg : Str → Option Value} {base : Heap} {Z : CXT} {k : Nat} {x : Str} {st : Stmt} {f : Addr} {fd : FuncData} {ps ks : List Str} {sp : Sp}
theorem mkCal (F : Fun K x x st f fd) (ok : FnOk P w K mg base Z k f fd ps sp) (g : mg x = some (.ref f))
    (h : ∀ (kV doc pm : Value) (an : Option Addr) (cdv ct : Value) (us : List Value), us.length = ps.length → bindArgs (PySem.W.fnOf x x (defArgs st) (defBody st) (defScope st) .none kV doc pm an cdv ct) ⟨us, []⟩ = pure (ps.zip us)) :
    Cal P w K mg base Z k x ps sp := ⟨_, _, ok, g, F.kp, F.binds h⟩
theorem mkCalK {b : Bool} (F : Fun K x x st f fd) (ok : FnOk P w K mg base Z k f fd ps sp) (g : mg x = some (.ref f))
    (h : ∀ (kV doc pm : Value) (an : Option Addr) (cdv ct : Value) (us : List Value), us.length = ps.length → bindArgs (PySem.W.fnOf x x (defArgs st) (defBody st) (defScope st) .none kV doc pm an cdv ct) ⟨[], ks.zip us⟩ = pure (ps.zip (rv b us))) :
    CalK P w K mg base Z k x ps ks b sp := ⟨_, _, ok, g, F.kp, KB.mk F h⟩
def litB (K : PySem.W.Frag) (x : Str) (n : Int) : Bool := match PySem.W.nsIn K mainGlobals x with
  | some (some (.int i _)) => decide (i = n)
  | _ => false
theorem litB_ok {K : PySem.W.Frag} {h : Heap} {mg : Str → Option Value} (X : K.In h) (G : h.Ns mainGlobals mg) {x : Str} {n : Int} (c : litB K x n = true) : ∃ u, mg x = some (.int n u) := by
  unfold litB at c
  split at c
  · rename_i i u e
    rw [← of_decide_eq_true c]
    exact ⟨u, PySem.W.mg_of X G e⟩
  · cases c
theorem saysMth {fa : List Fa} {fn : List FnD} {K : PySem.W.Frag} (c : SaysE fa fn K) (i : Nat) {cl m ql : Str} {st : Stmt} (h : fn[i]? = some ⟨(cl, some m), m, ql, defArgs st, defBody st, defScope st⟩ := by rfl) : ∃ fd, Fun K m ql st (ma K (ga K cl) m) fd := by
  obtain ⟨e, k⟩ := saysFn c i h
  obtain ⟨oc, od, osl, kV, doc, pm, an, cdv, ct, lk, hc⟩ := fn_ok e k
  exact ⟨_, fun_mk lk hc (keep_fn lk)⟩
end
def gN : List Str := (["is_integer", "is_below", "is_sequence", "is_tuple_of", "_is_entry", "first_losing", "checked_row", "is_shelving", "checked_shelving", "shelf_machine", "change_of_row", "change_of"] : List Str) ++ (["walk_sum", "jump_fault", "is_jump_fault", "shelf_moduli", "folded", "_law_draw", "_law_any", "_law_of", "_law_shelving", "_law_whole", "_law_is_shelving", "_law_near"] : List Str) ++ (["_law_asked", "_law_led", "law", "InvalidMachine", "InvalidRow", "InvalidQuestion", "Machine", "BatchError", "Refused"] : List Str)
def fN : List Str := ["isinstance", "int", "bool", "tuple", "list", "set", "len", "sorted", "range", "all", "abs", "repr", "zip", "enumerate", "min", "max"]
def fa23 : List Fa := gN.map Fa.glo ++ fN.map Fa.free
def dI0 : FnD := ⟨("InvalidMachine", some "__init__"), "__init__", "InvalidMachine.__init__", PySem.LowX.iA ⟨7, 17, 7, 21⟩ ⟨7, 23, 7, 25⟩, PySem.LowX.iB ⟨8, 8, 8, 12⟩ ⟨8, 8, 8, 15⟩ ⟨8, 18, 8, 20⟩ ⟨8, 8, 8, 20⟩, PySem.LowX.iS⟩
def dI1 : FnD := ⟨("InvalidRow", some "__init__"), "__init__", "InvalidRow.__init__", PySem.LowX.iA ⟨11, 17, 11, 21⟩ ⟨11, 23, 11, 25⟩, PySem.LowX.iB ⟨12, 8, 12, 12⟩ ⟨12, 8, 12, 15⟩ ⟨12, 18, 12, 20⟩ ⟨12, 8, 12, 20⟩, PySem.LowX.iS⟩
def dI2 : FnD := ⟨("InvalidQuestion", some "__init__"), "__init__", "InvalidQuestion.__init__", PySem.LowX.iA ⟨15, 17, 15, 21⟩ ⟨15, 23, 15, 25⟩, PySem.LowX.iB ⟨16, 8, 16, 12⟩ ⟨16, 8, 16, 15⟩ ⟨16, 18, 16, 20⟩ ⟨16, 8, 16, 20⟩, PySem.LowX.iS⟩
def dM0 : FnD := ⟨("Machine", some "__init__"), "__init__", "Machine.__init__", defArgs (mth 18 0), defBody (mth 18 0), defScope (mth 18 0)⟩
def dM1 : FnD := ⟨("Machine", some "__eq__"), "__eq__", "Machine.__eq__", defArgs (mth 18 1), defBody (mth 18 1), defScope (mth 18 1)⟩
def fn23 : List FnD := [dI0, dI1, dI2, dM0, dM1, dTop "is_integer" (top 8), dTop "is_below" (top 9), dTop "is_sequence" (top 10), dTop "is_tuple_of" (top 11), dTop "_is_entry" (top 19), dTop "first_losing" (top 20), dTop "checked_row" (top 21), dTop "is_shelving" (top 23), dTop "checked_shelving" (top 24), dTop "shelf_machine" (top 25), dTop "change_of_row" (top 27), dTop "change_of" (top 28), dTop "walk_sum" (top 35), dTop "jump_fault" (top 37), dTop "is_jump_fault" (top 39), dTop "shelf_moduli" (top 41), dTop "folded" (top 44), dTop "_law_draw" (top 46), dTop "_law_any" (top 47), dTop "_law_of" (top 48), dTop "_law_shelving" (top 49), dTop "_law_whole" (top 50), dTop "_law_is_shelving" (top 51), dTop "_law_near" (top 52), dTop "_law_asked" (top 53), dTop "_law_led" (top 54), dTop "law" (top 55)]
def ecB (K : PySem.W.Frag) (D : Addr) : Bool :=
  (PySem.W.clsIn K D).isSome && (eqO (PySem.W.findIn K (.ref D) "__getattribute__") (some (some (.builtin "BaseException.__getattribute__"))) && (eqO (PySem.W.findIn K (.ref D) "__getattr__") (some none) && (decide (PySem.W.subIn K (.ref D) (.type "BaseException") = some true) &&
  (eqO (PySem.W.findIn K (.ref D) "__class__") (some (some (.builtin "object.__class__"))) && (eqO (PySem.W.specialIn K (.builtin "object.__class__") "__get__") (some (some (.builtin "getset_descriptor.__get__"))) && (decide (PySem.W.takesIn K (.builtin "object.__class__") = some true) && decide (PySem.W.mroIn K D (.type "object") = some true)))))))
theorem ecB_ok {K : PySem.W.Frag} {D : Addr} (b : ecB K D = true) : ErrC K D := by
  obtain ⟨b1, b⟩ := ba b
  obtain ⟨b2, b⟩ := ba b
  obtain ⟨b3, b⟩ := ba b
  obtain ⟨b4, b⟩ := ba b
  obtain ⟨b5, b⟩ := ba b
  obtain ⟨b6, b⟩ := ba b
  obtain ⟨b7, b8⟩ := ba b
  exact ⟨b1, eqO_ok b2, eqO_ok b3, of_decide_eq_true b4, eqO_ok b5, eqO_ok b6, of_decide_eq_true b7, of_decide_eq_true b8⟩
def ex23 (K : PySem.W.Frag) : Bool := (lowB K "InvalidMachine" && (lowB K "InvalidRow" && (lowB K "InvalidQuestion" && (machB K "Machine" && (ecB K (ga K "InvalidQuestion") && (decide (PySem.W.exmOne K (.ref (ga K "InvalidQuestion")) (.ref (ga K "BatchError")) = some true) && (decide (PySem.W.kitOne K (.ref (ga K "InvalidQuestion")) (.ref (ga K "InvalidQuestion")) = some true) && decide (PySem.W.kitOne K (.ref (ga K "InvalidQuestion")) (.ref (ga K "Refused")) = some false))))))))
theorem factG {K : PySem.W.Frag} (c : SaysE fa23 fn23 K) {f : Fa} (hf : f ∈ fa23) : f.ok K = true := by
  have c1 := (ba (show ((fa23.all fun f => f.ok K) && fn23.all fun d => (Fa.code d.at_ d.qual).ok K) = true from congrArg (fun z : Al => z.1) c)).1
  exact List.all_eq_true.mp c1 f hf
theorem mem_g {x : Str} (h : x ∈ gN) : Fa.glo x ∈ fa23 := List.mem_append_left _ (List.mem_map_of_mem h)
theorem mem_f {x : Str} (h : x ∈ fN) : Fa.free x ∈ fa23 := List.mem_append_right _ (List.mem_map_of_mem h)
theorem end23 {P : Program} {w : World} {K : PySem.W.Frag} {h : Heap} {mg : Str → Option Value} {f : Addr} (X : K.In h) (G : h.Ns mainGlobals mg) (hfa : mg ("law" : Str) = some (.ref f)) (c : SaysE fa23 fn23 K) (b : ex23 K = true) :
    ∃ fd : FuncData, (∀ (s : Shared) (u : Value), BindsTo s fd ⟨[u], []⟩ [("_law_script", u)]) ∧ ∀ base : Heap, K.In base → base.Ns mainGlobals mg → FnOkG P w K mg base 8 f fd ["_law_script"] (spLaw K) := by
  obtain ⟨z0, b⟩ := ba b
  obtain ⟨z1, b⟩ := ba b
  obtain ⟨z2, b⟩ := ba b
  obtain ⟨z3, b⟩ := ba b
  obtain ⟨z4, b⟩ := ba b
  obtain ⟨z5, b⟩ := ba b
  obtain ⟨z6, b⟩ := ba b
  have z7 := b
  have g : ∀ x : Str, x ∈ gN → mg x = some (.ref (ga K x)) := fun x hx => glo_ok X G (factG c (mem_g hx))
  have fr : ∀ x : Str, x ∈ fN → mg x = none := fun x hx => free_ok X G (factG c (mem_f hx))
  have B : Bl mg := ⟨fr _ (by decide), fr _ (by decide), fr _ (by decide), fr _ (by decide), fr _ (by decide), fr _ (by decide), fr _ (by decide), fr _ (by decide), fr _ (by decide), fr _ (by decide), fr _ (by decide), fr _ (by decide), fr _ (by decide), fr _ (by decide), fr _ (by decide), fr _ (by decide)⟩
  have T : PySem.LowX.LowTxt K mg "InvalidMachine" "InvalidMachine.__init__" (ga K "InvalidMachine") (ma K (ga K "InvalidMachine") "__init__") := low_of X G (d := dI0) rfl (saysFn c 0 rfl).1 (saysFn c 0 rfl).2 (factG c (mem_g (by decide))) z0
  have T2 : PySem.LowX.LowTxt K mg "InvalidRow" "InvalidRow.__init__" (ga K "InvalidRow") (ma K (ga K "InvalidRow") "__init__") := low_of X G (d := dI1) rfl (saysFn c 1 rfl).1 (saysFn c 1 rfl).2 (factG c (mem_g (by decide))) z1
  have T3 : PySem.LowX.LowTxt K mg "InvalidQuestion" "InvalidQuestion.__init__" (ga K "InvalidQuestion") (ma K (ga K "InvalidQuestion") "__init__") := low_of X G (d := dI2) rfl (saysFn c 2 rfl).1 (saysFn c 2 rfl).2 (factG c (mem_g (by decide))) z2
  have M := machB_ok z3
  have gM : mg "Machine" = some (.ref (ga K "Machine")) := g _ (by decide)
  have EC := ecB_ok z4
  have teB := of_decide_eq_true z5
  have kQ := of_decide_eq_true z6
  have kR := of_decide_eq_true z7
  obtain ⟨fdM0, FM0⟩ := saysMth c 3 rfl
  obtain ⟨fdM1, FM1⟩ := saysMth c 4 rfl
  obtain ⟨fd8, F8⟩ := saysFun c 5 rfl
  obtain ⟨fd9, F9⟩ := saysFun c 6 rfl
  obtain ⟨fd10, F10⟩ := saysFun c 7 rfl
  obtain ⟨fd11, F11⟩ := saysFun c 8 rfl
  obtain ⟨fd19, F19⟩ := saysFun c 9 rfl
  obtain ⟨fd20, F20⟩ := saysFun c 10 rfl
  obtain ⟨fd21, F21⟩ := saysFun c 11 rfl
  obtain ⟨fd23, F23⟩ := saysFun c 12 rfl
  obtain ⟨fd24, F24⟩ := saysFun c 13 rfl
  obtain ⟨fd25, F25⟩ := saysFun c 14 rfl
  obtain ⟨fd27, F27⟩ := saysFun c 15 rfl
  obtain ⟨fd28, F28⟩ := saysFun c 16 rfl
  obtain ⟨fd35, F35⟩ := saysFun c 17 rfl
  obtain ⟨fd37, F37⟩ := saysFun c 18 rfl
  obtain ⟨fd39, F39⟩ := saysFun c 19 rfl
  obtain ⟨fd41, F41⟩ := saysFun c 20 rfl
  obtain ⟨fd44, F44⟩ := saysFun c 21 rfl
  obtain ⟨fd46, F46⟩ := saysFun c 22 rfl
  obtain ⟨fd47, F47⟩ := saysFun c 23 rfl
  obtain ⟨fd48, F48⟩ := saysFun c 24 rfl
  obtain ⟨fd49, F49⟩ := saysFun c 25 rfl
  obtain ⟨fd50, F50⟩ := saysFun c 26 rfl
  obtain ⟨fd51, F51⟩ := saysFun c 27 rfl
  obtain ⟨fd52, F52⟩ := saysFun c 28 rfl
  obtain ⟨fd53, F53⟩ := saysFun c 29 rfl
  obtain ⟨fd54, F54⟩ := saysFun c 30 rfl
  obtain ⟨fd55, F55⟩ := saysFun c 31 rfl
  have e := hfa.symm.trans (g "law" (by decide))
  cases e
  have bL : ∀ (s : Shared) (u : Value), BindsTo s fd55 ⟨[u], []⟩ [("_law_script", u)] := by
    obtain ⟨oc, od, kV, doc, pm, an, cdv, ct, osl, rfl, lk, hcd⟩ := F55.ex
    exact fun s u => .of_eq rfl
  refine ⟨fd55, bL, fun base _ _ => ?_⟩
  have o8 := ok_isI2 (P := P) (w := w) (mg := mg) (base := base) B F8
  have c8 := mkCal (P := P) (w := w) (base := base) F8 o8 (g _ (by decide)) fun _ _ _ _ _ _ us hl => match us, hl with | [_], _ => rfl
  have o9 := ok_bel2 (P := P) (w := w) (mg := mg) (base := base) c8 F9
  have c9 := mkCal (P := P) (w := w) (base := base) F9 o9 (g _ (by decide)) fun _ _ _ _ _ _ us hl => match us, hl with | [_, _], _ => rfl
  have o10 := ok_seq2 (P := P) (w := w) (mg := mg) (base := base) B F10
  have c10 := mkCal (P := P) (w := w) (base := base) F10 o10 (g _ (by decide)) fun _ _ _ _ _ _ us hl => match us, hl with | [_], _ => rfl
  have o11 := ok_to (P := P) (w := w) (mg := mg) (base := base) B F11
  have c11 := mkCal (P := P) (w := w) (base := base) F11 o11 (g _ (by decide)) fun _ _ _ _ _ _ us hl => match us, hl with | [_, _], _ => rfl
  have o19 := ok_ent2 (P := P) (w := w) (mg := mg) (base := base) B c10 c9 F19
  have c19 := mkCal (P := P) (w := w) (base := base) F19 o19 (g _ (by decide)) fun _ _ _ _ _ _ us hl => match us, hl with | [_, _, _], _ => rfl
  have o20 := ok_los2 (P := P) (w := w) (mg := mg) (base := base) B F20
  have c20 := mkCal (P := P) (w := w) (base := base) F20 o20 (g _ (by decide)) fun _ _ _ _ _ _ us hl => match us, hl with | [_, _], _ => rfl
  have oI := ok_init2 (P := P) (w := w) (mg := mg) (base := base) (Cm := ga K "Machine") B T c8 c10 c19 c20 FM0
  have bI : L2.Binds K fdM0 ["self", "commands", "steps"] [] := FM0.binds (fun _ _ _ _ _ _ us hl => match us, hl with | [_, _, _], _ => rfl)
  have O := ownE_of M (ok_meq (P := P) (w := w) (mg := mg) (base := base) B M gM FM1) (FM1.binds (fun _ _ _ _ _ _ us hl => match us, hl with | [_, _], _ => rfl))
  have o23 := ok_isSh (P := P) (w := w) (mg := mg) (base := base) B c11 c8 c9 F23
  have c23 := mkCal (P := P) (w := w) (base := base) F23 o23 (g _ (by decide)) fun _ _ _ _ _ _ us hl => match us, hl with | [_], _ => rfl
  have o24 := ok_ckS (P := P) (w := w) (mg := mg) (base := base) T3 c23 F24
  have c24 := mkCal (P := P) (w := w) (base := base) F24 o24 (g _ (by decide)) fun _ _ _ _ _ _ us hl => match us, hl with | [_, _], _ => rfl
  have o25 := ok_shM (P_ := P) (w := w) (mg := mg) (base := base) B M gM oI bI c24 F25
  have c25 := mkCal (P := P) (w := w) (base := base) F25 o25 (g _ (by decide)) fun _ _ _ _ _ _ us hl => match us, hl with | [_], _ => rfl
  have o21 := ok_ckR2 (P := P) (w := w) (mg := mg) (base := base) (Cm := ga K "Machine") B T2 c10 c9 F21
  have c21 := mkCal (P := P) (w := w) (base := base) F21 o21 (g _ (by decide)) fun _ _ _ _ _ _ us hl => match us, hl with | [_, _], _ => rfl
  have o27 := ok_chR (P := P) (w := w) (mg := mg) (base := base) (Cm := ga K "Machine") B F27
  have c27 := mkCal (P := P) (w := w) (base := base) F27 o27 (g _ (by decide)) fun _ _ _ _ _ _ us hl => match us, hl with | [_, _], _ => rfl
  have o28 := ok_ch2 (P := P) (w := w) (mg := mg) (base := base) c21 c27 F28
  have c28 := mkCal (P := P) (w := w) (base := base) F28 o28 (g _ (by decide)) fun _ _ _ _ _ _ us hl => match us, hl with | [_, _], _ => rfl
  have o35 := ok_ws (P := P) (w := w) (mg := mg) (base := base) c24 F35
  have c35 := mkCal (P := P) (w := w) (base := base) F35 o35 (g _ (by decide)) fun _ _ _ _ _ _ us hl => match us, hl with | [_, _, _, _], _ => rfl
  have o37 := ok_jf (P := P) (w := w) (mg := mg) (base := base) c24 F37
  have c37 := mkCal (P := P) (w := w) (base := base) F37 o37 (g _ (by decide)) fun _ _ _ _ _ _ us hl => match us, hl with | [_, _], _ => rfl
  have o39 := ok_ijf (P := P) (w := w) (mg := mg) (base := base) c24 F39
  have c39 := mkCal (P := P) (w := w) (base := base) F39 o39 (g _ (by decide)) fun _ _ _ _ _ _ us hl => match us, hl with | [_, _, _], _ => rfl
  have o41 := ok_sm (P := P) (w := w) (mg := mg) (base := base) c24 F41
  have c41 := mkCal (P := P) (w := w) (base := base) F41 o41 (g _ (by decide)) fun _ _ _ _ _ _ us hl => match us, hl with | [_], _ => rfl
  have o44 := ok_fold (P := P) (w := w) (mg := mg) (base := base) c24 F44
  have c44 := mkCal (P := P) (w := w) (base := base) F44 o44 (g _ (by decide)) fun _ _ _ _ _ _ us hl => match us, hl with | [_, _], _ => rfl
  have o46 := ok_draw (P := P) (w := w) (mg := mg) (base := base) B F46
  have c46 := mkCal (P := P) (w := w) (base := base) F46 o46 (g _ (by decide)) fun _ _ _ _ _ _ us hl => match us, hl with | [_, _], _ => rfl
  have o47 := ok_any (P := P) (w := w) (mg := mg) (base := base) B F47
  have c47 := mkCal (P := P) (w := w) (base := base) F47 o47 (g _ (by decide)) fun _ _ _ _ _ _ us hl => match us, hl with | [_, _], _ => rfl
  have o48 := ok_of (P := P) (w := w) (mg := mg) (base := base) B c47 F48
  have c48 := mkCal (P := P) (w := w) (base := base) F48 o48 (g _ (by decide)) fun _ _ _ _ _ _ us hl => match us, hl with | [_, _], _ => rfl
  have o49 := ok_lsh (P_ := P) (w := w) (mg := mg) (base := base) B c47 F49
  have c49 := mkCal (P := P) (w := w) (base := base) F49 o49 (g _ (by decide)) fun _ _ _ _ _ _ us hl => match us, hl with | [_], _ => rfl
  have o50 := ok_wh (P := P) (w := w) (mg := mg) (base := base) B F50
  have c50 := mkCal (P := P) (w := w) (base := base) F50 o50 (g _ (by decide)) fun _ _ _ _ _ _ us hl => match us, hl with | [_, _], _ => rfl
  have o51 := ok_lisSh (P := P) (w := w) (mg := mg) (base := base) B c50 F51
  have c51 := mkCal (P := P) (w := w) (base := base) F51 o51 (g _ (by decide)) fun _ _ _ _ _ _ us hl => match us, hl with | [_], _ => rfl
  have o52 := ok_near (P_ := P) (w := w) (mg := mg) (base := base) B c47 c48 F52
  have c52 := mkCal (P := P) (w := w) (base := base) F52 o52 (g _ (by decide)) fun _ _ _ _ _ _ us hl => match us, hl with | [_, _], _ => rfl
  have o54 := ok_led (P_ := P) (w := w) (mg := mg) (base := base) B F54
  have c54 := mkCal (P := P) (w := w) (base := base) F54 o54 (g _ (by decide)) fun _ _ _ _ _ _ us hl => match us, hl with | [_, _, _, _], _ => rfl
  have gR : mg "Refused" = some (.ref (ga K "Refused")) := g _ (by decide)
  have gB : mg "BatchError" = some (.ref (ga K "BatchError")) := g _ (by decide)
  have o53 := ok_ask (P_ := P) (w := w) (mg := mg) (base := base) B T3 EC gR gB teB kQ kR c25 c35 c37 c39 c41 c44 F53
  have c53 := mkCal (P := P) (w := w) (base := base) F53 o53 (g _ (by decide)) fun _ _ _ _ _ _ us hl => match us, hl with | [_, _, _], _ => rfl
  have k25 := mkCalK (ks := ["shelving"]) (b := false) F25 o25 (g _ (by decide)) (fun _ _ _ _ _ _ us hl => match us, hl with | [_], _ => rfl)
  have k23 := mkCalK (ks := ["value"]) (b := false) F23 o23 (g _ (by decide)) (fun _ _ _ _ _ _ us hl => match us, hl with | [_], _ => rfl)
  exact ok_law B M gM O c46 c47 c49 c25 k25 c54 c28 c52 c51 c23 k23 c53 F55
abbrev R23 : PySem.W.OpenRow := PySem.W.OpenLaw.row PySem.Challenge.rw_batchnumbers_k23_machines_of_shelves
abbrev hk23 : PySem.W.Hook := hookZ 5 fa23 fn23 ex23
def ob23 (s : PySem.W.SharedT) : Al × Bool := obsZ 5 fa23 fn23 ex23 (HandSHeadRun.getT s)
theorem ob23_eq (s : PySem.W.SharedT) : ob23 s = hk23.obs s.abs := obsZ_eq (HandSHeadRun.getT_eq s)
def loose23 : List Str := (["BatchError", "gcd", "lcm", "Refused", "product_of", "inverse", "number_leaving", "prime_powers", "least_divisor", "lot_with", "_chosen", "_good_masks"] : List Str) ++ (["_modulus_around", "_sum_from", "_sums_from_all", "_is_good", "_number_of", "InvalidMachine", "InvalidRow", "InvalidQuestion", "Machine", "is_integer", "is_below", "is_sequence"] : List Str) ++ (["is_tuple_of", "_is_entry", "first_losing", "checked_row", "is_shelving", "checked_shelving", "shelf_machine", "change_of_row", "change_of", "walk_sum", "jump_fault", "is_jump_fault"] : List Str) ++ (["shelf_moduli", "folded", "_law_draw", "_law_any", "_law_of", "_law_shelving", "_law_whole", "_law_is_shelving", "_law_near", "_law_asked", "_law_led"] : List Str)
theorem run23 (w : World) : HandSHeadRun.RunEqI R23 (PySem.W.view R23.prog [55]) hk23 ob23 6000 loose23 w := by
  unfold HandSHeadRun.RunEqI
  kernel_rfl
end KV
open PySem PySem.W PySem.Calls PyProof.Rows
set_option maxRecDepth 100000 in
set_option maxHeartbeats 8000000 in
theorem PySem.Challenge.cw_batchnumbers_k23_machines_of_shelves_holds : PySem.Challenge.rw_batchnumbers_k23_machines_of_shelves.Holds := by
  w_on; o_law
  refine HandSHeadRun.head_imp (r := OpenLaw.row PySem.Challenge.rw_batchnumbers_k23_machines_of_shelves) (q := view (OpenLaw.row PySem.Challenge.rw_batchnumbers_k23_machines_of_shelves).prog [55]) (H := KV.hk23) (ob := KV.ob23) (M := 6000) (loose := KV.loose23) (d := HandSHeadRun.topDef (OpenLaw.row PySem.Challenge.rw_batchnumbers_k23_machines_of_shelves).prog 55) (kwd := []) KV.ob23_eq
    KV.run23 (by kernel_rfl) (by kernel_rfl) (by kernel_rfl) (by rfl) (by first | assumption | decide +kernel) (by decide +kernel) ⟨rfl, rfl, rfl, rfl, rfl, by decide +kernel⟩ ?hw ?hc
  case hw => w_witness2
  case hc =>
    refine KV.walk_ofGE (l := PySem.Challenge.rw_batchnumbers_k23_machines_of_shelves) (n := 63) (k := 8) (x := "_law_script") rfl (by decide) (by kernel_rfl) ⟨rfl, by decide, by decide⟩ ?F
    intro w mg fa h Y G hmg0
    obtain ⟨K, KX, c, b⟩ := Y
    have hmg : mg ("law" : PySem.Str) = some (.ref fa) := by
      have e : (HandSHeadRun.topDef (OpenLaw.row PySem.Challenge.rw_batchnumbers_k23_machines_of_shelves).prog 55).name = ("law" : PySem.Str) := by kernel_rfl
      rw [← e]
      exact hmg0
    obtain ⟨fd, hb, hF⟩ := KV.end23 (P := (PySem.Challenge.rw_batchnumbers_k23_machines_of_shelves).prog) (w := w) KX G hmg c b
    exact ⟨K, fd, KV.spLaw K, KX, hb, fun H a ns _ hS => ⟨a, ns, rfl, hS, fun _ => rfl⟩, hF⟩
