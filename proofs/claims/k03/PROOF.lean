import PyProof.Rows.All
import Wide.All
import OpenK.AllK
import Wide.FinOn
import PyProof.EqAt
import PyProof.EqKinds
import PyProof.TupleCall
import PySem.Challenge.RW_batchnumbers_k03_powers_and_loops
import HandS.ForMost
import HandS.ForExc
import HandS.Wide
import HandS.WideMore
import HandS.WideBits
import HandS.Gcd
import HandS.IsInst
import HandS.SortInts
import HandS.Flow
import HandS.Style
import HandS.RaiseMore
import HandS.TupAny
import KE.GoesMore
import KE.KMathGC
import HandS.More
import HandS.Conv
import HandS.ExcOwn
import HandS.SetFor
import HandS.Zip
import HandS.TupMul
import HandS.Lambda
import HandS.HeadEnd
import HandS.HeadHook1
import HandS.HeadHook2
import HandS.Head0
import HandS.Head1
import HandS.Head2
import HandS.Head3
import HandS.HeadHook3
import HandS.HeadHook4
set_option Elab.async false
set_option linter.all false
set_option maxRecDepth 100000
set_option maxHeartbeats 4000000
/-! rules of our own over the hand layer -/
namespace KV
open PySem PySem.Spec PyProof.Rows L2
/-- a def of the module, by its name: it stands there and keeps a promise -/
def Cal (P : Program) (w : World) (K : PySem.W.Frag) (mg : Str → Option Value) (base : Heap) (Z : CXT) (k : Nat) (x : Str) (ps : List Str) (sp : Sp) : Prop :=
  ∃ (f : Addr) (fd : FuncData), FnOk P w K mg base Z k f fd ps sp ∧ mg x = some (.ref f) ∧ PySem.W.keepIn K (.ref f) = true ∧ Binds K fd ps []
section
variable {X : Cx} {k j : Nat} {x : Str} {ps : List Str} {sp : Sp} {p pos : Pos} {e : Expr} {es : List Expr} {t : TA}
theorem pe_cal (C : Cal X.prog X.w X.K X.mg X.base CX0 k x ps sp) (hr : Room j X.A) (hj : k ≤ j) (ha : PA X (e :: es) t)
    (hg : Gl X x := by rfl) (hdb : (x == ("__debug__" : Str)) = false := by decide)
    (he : starEach (e :: es) X.env = (false, eval e X.env) :: starEach es X.env := by rfl)
    (hpl : (backTo pos (starEach es X.env)).any (·.1) = false := by rfl) :
    PE X (.Call (.Name x p) (e :: es) [] pos) (tCall sp [] E0 t) := by
  obtain ⟨f, fd, F, h1, h2, h3⟩ := C
  exact pe_call F (hr.mono hj) hg h1 h2 h3 .nil pass0 ha hdb he hpl
end

/-- repr of a truth value, of an int, of a tuple of ints -/
def rRepr (K : PySem.W.Frag) : List V → Hp → VK → Prop := fun xs H Q =>
  (∃ b : Bool, xs = [.bl b] ∧ Q (.str (if b then "True" else "False")) H) ∨ (∃ i : Int, xs = [.int i] ∧ i.natAbs.log2 < 1920 ∧ Q (.str (toString i)) H) ∨
  ∃ (a : Addr) (ns : List Int), xs = [.ref a] ∧ SqT K H a (ns.map V.int) ∧ (∀ n ∈ ns, n.natAbs.log2 < 1920) ∧ (PyData.tuple (ns.map PyData.int)).shown.length ≤ sizeLine ∧ Q (.str (PyData.tuple (ns.map PyData.int)).shown) H
theorem dp_ints {K : PySem.W.Frag} {H : Hp} : ∀ ns : List Int, DpAll K H (ns.map V.int) (ns.map PyData.int)
  | [] => .nil
  | n :: r => .cons (.int n) (dp_ints r)
theorem showAll_ints : ∀ ns : List Int, (∀ n ∈ ns, n.natAbs.log2 < 1920) → PyData.showableAll (ns.map PyData.int) = true
  | [], _ => rfl
  | n :: r, h => by
    have h1 := h n (by simp)
    have h2 := showAll_ints r fun m hm => h m (by simp [hm])
    simp only [List.map_cons, PyData.showableAll, PyData.showable, h2, h1, decide_true, Bool.and_self]
theorem noDict_ints : ∀ ns : List Int, PyData.hasDictAll (ns.map PyData.int) = false
  | [] => rfl
  | n :: r => by simp only [List.map_cons, PyData.hasDictAll, PyData.hasDict, noDict_ints r, Bool.or_self]
theorem depth_ints : ∀ ns : List Int, PyData.depthAll (ns.map PyData.int) = 0
  | [] => rfl
  | n :: r => by simp only [List.map_cons, PyData.depthAll, PyData.depth, depth_ints r, Nat.max_self]
theorem call_repr {X : Cx} (hg : X.A.guards = some []) (hu : X.A.units + 64 < cLine) : CallR X (.builtin "repr") (rRepr X.K) := by
  intro pins s σ H xs us Q I r h
  rcases h with ⟨b, rfl, q⟩ | ⟨i, rfl, hz, q⟩ | ⟨a, ns, rfl, hs, hb, hz, q⟩
  · obtain ⟨u, rfl, r1⟩ := vals1 r
    cases r1
    exact PySem.P.repr_of_bool ⟨.str _, H, I.tok _, ⟨_, rfl⟩, q⟩
  · obtain ⟨u, rfl, t, rfl⟩ := vals1 r
    exact PySem.P.repr_of_int hz ⟨.str _, H, I.tok _, ⟨_, rfl⟩, q⟩
  · obtain ⟨u, rfl, r1⟩ := vals1 r
    have r2 : RelV (.ref a) u := r1
    obtain ⟨as, rd⟩ := Dp.reads I (.tuple (ns.map PyData.int)) (.ref a) u (.tup hs (dp_ints ns)) r2
    cases r1
    refine repr_of_reads' rd (by simp only [PyData.showable]; exact showAll_ints ns hb) (fun z => ?_) hg (by simp only [PyData.depth, depth_ints]; omega) (fun _ _ z => z) (fun h' u tk kk => ?_) hz
    · simp only [PyData.hasDict, noDict_ints] at z
      exact absurd z Bool.false_ne_true
    · exact ⟨.str _, H, I.kept kk, ⟨_, rfl⟩, q⟩
end KV

/-! a def that is called where no repr is under way (the law's own def): the rule for its body, and the end -/
namespace KV
open PySem PySem.Spec PyProof.Rows L2
structure FnOkG (P : Program) (w : World) (K : PySem.W.Frag) (mg : Str → Option Value) (base : Heap) (k : Nat) (f : Addr) (fd : FuncData) (ps : List Str) (sp : Sp) : Prop where
  size : ∀ xs G R Z, sp xs G R Z → xs.length = ps.length
  go : ∀ (B : Around) (out : List Env) (st : Shared) (G : Hp) (ar : Args) (ws : List Value) (xs : List V) (R : VK) (Z : XK), Room k B → B.guards = some [] → Env0 P w K mg base B out st G →
    BindsTo st fd ar (ps.zip ws) → Vals xs ws → sp xs G R Z → codeAny (model P w) B (.call (.ref f) ar) (CR CX0 out P w G st R Z) st
theorem fn_ofG {P : Program} {w : World} {K : PySem.W.Frag} {mg : Str → Option Value} {base : Heap} {k : Nat} {f : Addr} {nm ql : Str} {pa : Arguments} {bo : List Stmt} {sc : Scope} {dv kv dc pm cd ct oc : Value} {an od : Option Addr}
    {sl : Array (Option Value)} {N ps : List Str} {sp : Sp} (there : K.lookup f = some ⟨oc, od, .func (PySem.W.fnOf nm ql pa bo sc dv kv dc pm an cd ct), sl⟩) (code : PySem.W.codeIn K cd ql = true) (S : FnScope N ps sc)
    (size : ∀ xs G R Z, sp xs G R Z → xs.length = ps.length)
    (bodyOk : ∀ (B : Around) (out : List Env) (st : Shared) (G : Hp) (xs : List V) (R : VK) (Z : XK), Room k (B.deeper (envOfC ql sc st.heap.objs.size f cd)) → B.guards = some [] → sp xs G R Z →
      ∃ t, PSs (cxOf CX0 P w K mg base N ql sc f cd B out st G Z) bo t ∧ t { nx := fun _ G' => R .non G', rt := R } (start N xs) G) :
    FnOkG P w K mg base (k + 1) f (PySem.W.fnOf nm ql pa bo sc dv kv dc pm an cd ct) ps sp := by
  constructor
  · exact size
  intro B out st G ar ws xs R Z room gd e0 bnd rel want
  have len := size _ _ _ _ want
  have inK : K.In st.heap := e0.mod.kin.keeps fun b o q => (e0.bs b o q).1
  have noLim : st.heap.NoLimit := e0.mod.nolimit.keeps fun b o q => (e0.bs b o q).1
  have kinds : ∀ y ∈ ps.zip ws, sc.names.lookup y.1 = some .local ∨ (sc.names.lookup y.1 = some .cell ∧ ((cellsFrom (st.heap.objs.size + 1) sc.names []).lookup y.1).isSome = true) := by
    rintro ⟨n, v⟩ hy
    rcases S.par n (List.of_mem_zip hy).1 with q | q
    · exact .inl q
    · exact .inr ⟨q, PySem.W.cellsFrom_some _ _ _ (.inl q)⟩
  refine codeAny_call_function room.depth (inK _ _ there) rfl S.co S.gen rfl (PySem.W.codeRec_of inK code) (bnd _ _ _ _ ?_)
  refine wpAny_newFunctionEnv_cells S.kind kinds fun env henv s2 x => ?_
  subst henv
  refine ⟨noLim.keeps x.toInCall.keep, codeAny_func ?_⟩
  obtain ⟨t, ht, hq⟩ := bodyOk B out st G xs R Z (room.deeper _) gd want
  have J := inv_start (CX := CX0) (E := Z) S room.hd e0 len rel x
  refine wpAny_mono (ht.run [] s2 (start N xs) G _ J hq) (fun fl s3 hs => ?_) (fun _ _ z => z)
  cases fl with
  | brk => exact hs.elim fun _ ⟨_, _, z⟩ => z.elim
  | cont => exact hs.elim fun _ ⟨_, _, z⟩ => z.elim
  | ret u =>
    obtain ⟨v, σ3, G3, J3, rv, q⟩ := hs
    exact ⟨v, G3, J3.os, J3.bare, J3.base, J3.hok, rv, q⟩
  | next =>
    obtain ⟨σ3, G3, J3, q⟩ := hs
    exact ⟨V.non, G3, J3.os, J3.bare, J3.base, J3.hok, rfl, q⟩

/-- the law's call, behind the top -/
theorem law_callG {P : Program} {w : World} {K : PySem.W.Frag} {mg mb : Str → Option Value} {k : Nat} {fa a : Addr} {fd : FuncData} {x : Str} {sp : Sp} {st : Shared} {vs : List Value} {ns : List Int}
    (inK : K.In st.heap) (gl : st.heap.Ns mainGlobals mg) (bl : st.heap.Ns builtinsNs mb) (blb : ∀ y : Str, y ≠ "__name__" → mb y = bootBuiltins y) (noLim : st.heap.NoLimit) (gens : st.gens = #[])
    (scr : st.heap.get? a = some { cls := .type "list", data := .seq vs.toArray }) (isI : IntsAre vs ns) (few : ns.length ≤ sizeLine) (room : Room k callerA)
    (F : ∀ base : Heap, K.In base → base.Ns mainGlobals mg → FnOkG P w K mg base k fa fd [x] sp) (bnd : ∀ (s : Shared) (u : Value), BindsTo s fd ⟨[u], []⟩ [(x, u)])
    (want : ∀ G : Hp, SqL K G a (ns.map V.int) → sp [.ref a] G (fun v _ => v = .bl true) fun _ _ _ => False) :
    codeAny (model P w) callerA (.call (.ref fa) ⟨[.ref a], []⟩) (fun r s' => r = .ok (.ret (.bool true)) ∧ OldK st.heap s'.heap ∧ s'.os = st.os ∧ AllBare s'.gens) st := by
  have rel := vals_ints isI
  have lens := isI.length
  have core : ∀ G : Hp, Only G → SqL K G a (ns.map V.int) → HOk P w G st.heap → (∀ b, G b ≠ none → b = a) → (G a ≠ none → K.lookup a = none) →
      codeAny (model P w) callerA (.call (.ref fa) ⟨[.ref a], []⟩) (fun r s' => r = .ok (.ret (.bool true)) ∧ OldK st.heap s'.heap ∧ s'.os = st.os ∧ AllBare s'.gens) st := by
    intro G only sq ok one out
    have free : ∀ {b : Addr} {o : Obj} {es : Array DictEntry} {ep : Nat}, st.heap.get? b = some o → o.data = .dict es ep → G b = none := by
      intro b o es ep q d
      cases z : G b with
      | none => rfl
      | some u =>
        have : b = a := one b (by simp [z])
        subst this
        rw [scr] at q
        cases q
        cases (show Data.seq vs.toArray _ = Data.dict es ep from d)
    have ns2 : ∀ {b : Addr} {m : Str → Option Value}, st.heap.Ns b m → (hidT st.heap G).Ns b m := fun ⟨o, es, ep, q, d, r⟩ => ⟨o, es, ep, hidT_get q (free q d), d, r⟩
    have inB : K.In (hidT st.heap G) := by
      intro b o q
      refine hidT_get (inK b o q) ?_
      cases z : G b with
      | none => rfl
      | some u =>
        have : b = a := one b (by simp [z])
        subst this
        rw [out (by simp [z])] at q
        cases q
    have hm : Mod K mg (hidT st.heap G) := ⟨inB, ns2 gl, ⟨mb, ns2 bl, blb⟩, let ⟨mc, h1, h2⟩ := noLim; ⟨mc, ns2 h1, h2⟩⟩
    have e0 : Env0 P w K mg (hidT st.heap G) callerA [] st G :=
      ⟨rfl, hm, fun b o q => of_hidT q, Nat.le_of_eq (hidT_size _ _), trivial, fun b hb => absurd (show b ∈ ([] : List Addr) from hb) (by simp), ok, .of_eq gens⟩
    refine codeAny_mono ((F _ inB (ns2 gl)).go callerA [] st G ⟨[.ref a], []⟩ [.ref a] [.ref a] _ _ room rfl e0 (bnd st (.ref a)) (.cons rfl .nil) (want G sq)) fun r s' h => ?_
    cases r with
    | error e => exact False.elim h
    | ok fl =>
      cases fl with
      | next => exact False.elim h
      | brk => exact False.elim h
      | cont => exact False.elim h
      | ret u =>
        obtain ⟨v, G', os, bare, un, ok', r', q⟩ := h
        have q2 : v = .bl true := q
        subst q2
        have u2 : u = Value.bool true := r'
        subst u2
        refine ⟨rfl, OldK.of_keep fun b o e => ?_, os, bare⟩
        cases z : G b with
        | none => exact un.keep b o e z (by intro y; exact absurd (show b ∈ ([] : List Addr) from y) (by simp)) (by simp)
        | some u =>
          rcases only b with y | ⟨ob, xs, y⟩
          · rw [z] at y
            cases y
          · have y2 := un.frzs b ob _ y
            have f1 := (ok b _ y).1
            have f2 := (ok' b _ y2).1
            rw [e] at f1
            cases f1
            exact f2
  cases hk : K.lookup a with
  | none =>
    refine core (fun b => if b = a then some (.frz { cls := .type "list", data := .seq vs.toArray } (.lst (ns.map V.int))) else none) (fun b => ?_)
      (.inl (.inr ⟨{ cls := .type "list", data := .seq vs.toArray }, if_pos rfl⟩)) (fun b u z => ?_) (fun b z => ?_) (fun _ => hk)
    · by_cases hb : b = a
      · exact .inr ⟨_, _, if_pos hb⟩
      · exact .inl (if_neg hb)
    · by_cases hb : b = a
      · have z2 := (if_pos hb).symm.trans z
        cases z2
        subst hb
        exact ⟨scr, by rw [List.length_map]; exact few, vs, _, rel, scr⟩
      · have z2 := (if_neg hb).symm.trans z
        cases z2
    · by_cases hb : b = a
      · exact hb
      · exact absurd (if_neg hb) z
  | some o =>
    have e := inK a o hk
    rw [scr] at e
    cases e
    refine core (fun _ => none) (fun _ => .inl rfl) (.inr ⟨_, vs.toArray, _, hk, rfl, rfl, rfl, ?_, by simpa using rel⟩) (fun b u z => ?_) (fun b z => absurd rfl z) (fun z => absurd rfl z)
    · rw [List.size_toArray, lens]
      exact few
    · cases (show (none : Option HO) = some u from z)
/-- what k_head leaves, from the law's promise -/
theorem walk_ofG {l : PySem.W.OpenLaw} {n k : Nat} {q : Program} {loose : List Str} {XP : (Str → Option Value) → Heap → Prop} {YP : World → Heap → Prop} {d : DefRec} {K : Params → PySem.W.Frag} {sp : World → Sp} {x : Str}
    (most : l.most = some n) (fits : n ≤ sizeLine) (plain : d.params.defaults = []) (room : Room k callerA) (hY : ∀ (w : World) (h : Heap), YP w h → (K w.params).In h)
    (F : ∀ (w : World) (mg : Str → Option Value) (fa : Addr) (h : Heap), (K w.params).In h → h.Ns mainGlobals mg → mg d.name = some (.ref fa) →
      ∃ fd : FuncData, (∀ (s : Shared) (u : Value), BindsTo s fd ⟨[u], []⟩ [(x, u)]) ∧ ∀ base : Heap, (K w.params).In base → base.Ns mainGlobals mg → FnOkG l.prog w (K w.params) mg base k fa fd [x] (sp w))
    (want : ∀ (w : World) (G : Hp) (a : Addr) (ns : List Int), ns.length ≤ n → SqL (K w.params) G a (ns.map V.int) → sp w [.ref a] G (fun v _ => v = .bl true) fun _ _ _ => False) :
    PySem.W.WalkO q loose XP YP l.row.toRowW d [] (fun f vs => PySem.call f vs) := by
  refine Att.attach_call most plain fun w s0 s1 mg mb fa o pm cd doc a vs ns G Y ho hd hcd hmg hobj hints hlen hg => ?_
  obtain ⟨fd, hb, hF⟩ := F w mg fa _ (hY w _ Y) G.T.g hmg
  exact law_callG (hY w _ Y) G.T.g G.T.b G.T.builtins G.T.nolimit hg hobj hints (Nat.le_trans hlen fits) room hF hb fun H hS => want w H a ns hlen hS
end KV

namespace PySem
namespace LowX
open PySem.W PySem.Calls PyProof.Rows PySem.HandSPX
/-! ### the text of __init__ -/
def iA (p1 p2 : Pos) : Arguments := { posonlyargs := [], args := [{ arg := "self", annotation := none, pos := p1 }, { arg := "at", annotation := none, pos := p2 }], vararg := none, kwonlyargs := [], kw_defaults := [], kwarg := none, defaults := [] }
def iB (q1 q2 q3 q4 : Pos) : List Stmt := [.Assign [.Attribute (.Name "self" q1) "at" q2] (.Name "at" q3) q4]
def iS : Scope := { kind := .function, names := [(PySem.Str.ofString "self", .local), (PySem.Str.ofString "at", .local)], isGenerator := false, isCoroutine := false, more := [] }
/-- what the written part says of Low, at C, and of its __init__, at fI -/
structure LowTxt (K : Frag) (mg : Str → Option Value) (nm ql : Str) (C fI : Addr) : Prop where
  gC : mg nm = some (.ref C)
  nd : (nm == ("__debug__" : Str)) = false
  cls : ∃ nm q N bs bm sn sub ab col dd k0 k1 k2 k3 k5, K.lookup C = some (excClassObj nm q C N bs bm true sn sub ab col dd k0 k1 k2 k3 k5 "ValueError.__new__") ∧ refsVE bm = true
  sa : findIn K (.ref C) "__setattr__" = some (some (.builtin "object.__setattr__"))
  ga : findIn K (.ref C) "__getattribute__" = some (some (.builtin "BaseException.__getattribute__"))
  gg : findIn K (.ref C) "__getattr__" = some none
  noN : findIn K (.ref C) "at" = some none
  iC : findIn K (.ref C) "__init__" = some (some (.ref fI))
  tC : typeIn K (.ref fI) = some (.type "function")
  kC : keepIn K (.ref C) = true
  exC : subIn K (.ref C) (.type "BaseException") = some true
  tyC : typeIn K (.ref C) = some (.type "type")
  hdC : hasDictIn K C = true
  te : exmOne K (.ref C) (.ref C) = some true
  fn : ∃ (oc : Value) (od : Option Addr) (doc pm : Value) (an : Option Addr) (cdv ct : Value) (osl : Array (Option Value)) (p1 p2 q1 q2 q3 q4 : Pos),
    K.lookup fI = some ⟨oc, od, .func (fnOf "__init__" ql (iA p1 p2) (iB q1 q2 q3 q4) iS .none .none doc pm an cdv ct), osl⟩ ∧ codeIn K cdv ql = true
theorem one_size (v : Value) : [v].length ≤ sizeLine := by
  rw [sizeLine_eq]
  exact (by decide : 1 ≤ 16777216)
theorem kept_but {K : Frag} {h h' : Heap} {x : Addr} (X : K.In h) (hx : K.lookup x = none) (k : ∀ b o, b ≠ x → h.get? b = some o → h'.get? b = some o) : K.In h' := fun a o e =>
  k a o (fun z => by rw [z, hx] at e; cases e) (X a o e)
theorem ldC {M : Model} {s : Shared} {name : Str} {scope : Scope} {L a : Addr} {cd : Value} {m : Str → Option Value} {x : Str} {pos : Pos} {v : Value} {Q : Value → Shared → Prop} {A : Around} {E : Value → Shared → Prop} (hn : s.heap.Ns L m) (hv : m x = some v) (h : Q v s)
    (hk : scope.kind = .function := by rfl) (hl : (envOfC name scope L a cd).kindOf x = some .local := by rfl) (hd : (x == ("__debug__" : Str)) = false := by decide) :
    wpAny M A (eval (.Name x pos) (envOfC name scope L a cd)) Q E s := wpAny_Name (wpAny_loadName_local hk hl hn hv h) hd
/-- what __init__ leaves of a fresh exception at x -/
structure InitEnd (h h' : Heap) (x C dx t1 : Addr) (v : Value) : Prop where
  keep : ∀ b o, b ≠ x → h.get? b = some o → h'.get? b = some o
  obj : h'.get? x = some { cls := .ref C, dict := some dx, data := .fields #[.ref t1, .none, .none, .none, .bool false, .none] }
  dbig : h.objs.size ≤ dx
  dne : dx ≠ x
  ns : h'.Ns1 dx (fun y => if y = "at" then some v else none)
/-- a made Low -/
structure OwnMade (h h' : Heap) (e C d : Addr) (v : Value) : Prop where
  keep : ∀ b o, h.get? b = some o → h'.get? b = some o
  new : h.objs.size ≤ e
  obj : ∃ oe vs, h'.get? e = some oe ∧ oe.cls = .ref C ∧ oe.dict = some d ∧ oe.data = .fields vs ∧ vs[1]? = some .none
  dbig : h.objs.size ≤ d
  dne : d ≠ e
  ns : h'.Ns1 d (fun y => if y = "at" then some v else none)
section
variable {prog : Program} {w : World} {A : Around} {E : Value → Shared → Prop} {R : Result → Shared → Prop} {s : Shared} {K : Frag} {mg : Str → Option Value} {nm ql : Str} {C fI : Addr}
theorem low_init (T : LowTxt K mg nm ql C fI) {x t0 : Addr} {v : Value} (X : K.In s.heap) (hlim : s.heap.NoLimit) (hx : s.heap.get? x = some (excO C t0)) (hnx : K.lookup x = none) (hroom : A.depth < recursionLimit)
    (hq : ∀ h' tk dx, InitEnd s.heap h' x C dx t0 v → R (.ok (.ret .none)) { s with heap := h', toks := tk }) :
    codeAny (model prog w) A (.call (.ref fI) ⟨[.ref x, v], []⟩) R s := by
  obtain ⟨oc, od, doc, pm, an, cdv, ct, osl, p1, p2, q1, q2, q3, q4, ho, hcd⟩ := T.fn
  obtain ⟨nm, q, N, bs, bm, sn, sub, ab, col, dd, k0, k1, k2, k3, k5, hC, hbm⟩ := T.cls
  have hcl : clsIn K C = some { name := nm, bases := bs, mro := .ref C :: bm, ns := N, qualname := q, hasDict := true, slotNames := sn, subclasses := sub, abstract := ab, collection := col, hasDel := false } := by unfold clsIn; rw [hC] <;> rfl
  refine Att.call_fn (binds := [("self", .ref x), ("at", v)]) X hlim ho hcd hroom (BindsTo.of_eq (by first | rfl | with_unfolding_all rfl)) (by first | rfl | decide | with_unfolding_all rfl) (fun s₁ IC => ?_) rfl rfl rfl
  obtain ⟨h₁, tk₁, rfl⟩ := IC.toInCall.same
  have k : ∀ b o, s.heap.get? b = some o → h₁.get? b = some o := IC.toInCall.keep
  have hn := IC.toInCall.ns
  have hxL : s.heap.objs.size ≠ x := Nat.ne_of_gt (Heap.lt_size hx)
  have X₁ : K.In h₁ := X.keeps k
  have hx₁ := k _ _ hx
  -- self.by = by
  show wpAny _ _ (execs _ _) _ _ _
  refine wpAny_execs_cons (plainObj_wpAny_Assign_Attribute ?_)
  refine ldC (v := v) hn (by first | rfl | with_unfolding_all rfl | kernel_rfl) (ldC (v := .ref x) hn (by first | rfl | with_unfolding_all rfl | kernel_rfl) ?_)
  refine set_plain X₁ (ox := excO C t0) (od := none) ⟨hx₁, rfl, rfl, trivial⟩ T.sa ?_
  refine exc_osa X₁ hx₁ hcl (show refsVE (.ref C :: bm) = true from hbm) rfl T.noN (fun h₃ tk₃ dx k₃ dn dne hx₃ hn₃ => ?_)
  show wpAny _ _ (execs _ _) _ _ _
  have z : s.heap.objs.size < h₁.objs.size := hn.lt
  exact wpAny_execs_nil (hq h₃ tk₃ dx ⟨fun b o hb e => k₃ b o hb (k b o e), hx₃, Nat.le_of_lt (Nat.lt_of_lt_of_le z dn), dne, hn₃⟩)
theorem low_made (T : LowTxt K mg nm ql C fI) {v : Value} (X : K.In s.heap) (hlim : s.heap.NoLimit) (hroom : A.depth + 1 < recursionLimit)
    (hq : ∀ h' tk e d, OwnMade s.heap h' e C d v → R (.ok (.ret (.ref e))) { s with heap := h', toks := tk }) :
    codeAny (model prog w) A (.call (.ref C) ⟨[v], []⟩) R s := by
  obtain ⟨nm, q, N, bs, bm, sn, sub, ab, col, dd, k0, k1, k2, k3, k5, hC, hbm⟩ := T.cls
  obtain ⟨hp, g, dr, tk, os⟩ := s
  have k : ∀ b o, hp.get? b = some o → ((hp.push (kdv_tup [v])).push (excO C hp.objs.size)).get? b = some o := fun b o e => Heap.get?_push_of_some _ (Heap.get?_push_of_some _ e)
  have hget : ((hp.push (kdv_tup [v])).push (excO C hp.objs.size)).get? (hp.objs.size + 1) = some (excO C hp.objs.size) := by heap_get
  have hnx : K.lookup (hp.objs.size + 1) = none := by
    cases e : K.lookup (hp.objs.size + 1) with
    | none => rfl
    | some o =>
      have z : hp.get? (hp.objs.size + 1) = some o := X _ _ e
      exact absurd (Nat.lt_of_succ_lt (Heap.lt_size z)) (Nat.lt_irrefl _)
  refine call_own F.excBase_ValueError (fun X => refsVE_contains X bm hbm) (X _ _ hC) (looks_findIn X T.iC) (fun self => bind_fn X self T.tC) (one_size v) ?_
  refine low_init (s := ⟨(hp.push (kdv_tup [v])).push (excO C hp.objs.size), g, dr, tk, os⟩) T (X.keeps k) (hlim.keeps k) hget hnx ?_ fun h' tk' dx ⟨k', hx, dn, dne, hns⟩ => ?_
  · show A.depth + 1 < recursionLimit
    exact hroom
  · have old : ∀ b o, hp.get? b = some o → h'.get? b = some o := fun b o e => k' b o (Nat.ne_of_lt (Nat.lt_succ_of_lt (Heap.lt_size e))) (k b o e)
    have z : hp.objs.size + 1 + 1 ≤ dx := by
      first
        | (simpa only [Heap.size_push] using dn)
        | exact dn
        | (have q := dn; rw [Heap.size_push, Heap.size_push] at q; exact q)
    exact ⟨rfl, hq h' tk' (hp.objs.size + 1) dx ⟨old, Nat.le_succ _, ⟨_, _, hx, rfl, rfl, rfl, rfl⟩, Nat.le_trans (Nat.le_trans (Nat.le_succ _) (Nat.le_succ _)) z, dne, hns⟩⟩
end
end LowX
end PySem
namespace L2
open PySem PySem.Spec PyProof.Rows
theorem relO_low {v : V} {v' : Value} (r : RelV v v') (f : Str) : RelO (List.lookup f [(("at" : Str), v)]) (if f = "at" then some v' else none) := by
  by_cases hw : f = "at"
  · subst hw
    rw [if_pos rfl]
    have q : List.lookup ("at" : Str) [(("at" : Str), v)] = some v := by simp [List.lookup]
    rw [q]
    exact r
  · rw [if_neg hw]
    have qw : (f == ("at" : Str)) = false := by simpa using hw
    have q2 : List.lookup f [(("at" : Str), v)] = none := by simp [List.lookup, qw]
    rw [q2]
    trivial
section
variable {X : Cx} {nm ql : Str} {C fI : Addr}
/-- Low(e) -/
def tMkLow (C : Addr) (ta : TA) : St → Hp → XK → Prop := fun σ H Q => ta σ H fun vs H1 => ∃ v, vs = [v] ∧ ∀ d, H1 d = none → Q (.ref C) (some d) (upd H1 d (.xd [(("at" : Str), v)]))
theorem pmk_low {a : Expr} {ta : TA} {p pos : Pos} {k : Nat} (T : PySem.LowX.LowTxt X.K X.mg nm ql C fI) (hr : Room k X.A) (ha : PA X [a] ta) (hg : Gl X nm := by rfl)
    (he : starEach (a :: []) X.env = (false, eval a X.env) :: starEach [] X.env := by rfl) (hpl : (backTo pos (starEach [] X.env)).any (·.1) = false := by rfl) :
    PMk X (.Call (.Name nm p) [a] [] pos) (tMkLow C ta) := by
  intro pins s σ H Q I h
  refine wpAny_Call_Name_kw (ld_glob I hg T.gC ?_ T.nd)
  refine PySem.W.callWith_K (h₀ := X.base) I.ok.mod.kin T.kC (thn (ha.run pos pins s σ H _ I h) fun us s1 hh => ?_) he hpl
  obtain ⟨vs, H1, I1, r1, v, ev, q1⟩ := hh
  subst ev
  refine ⟨I1.kIn, ?_⟩
  cases r1 with
  | cons rv rn =>
    rename_i v' us'
    cases rn
    show wpAny _ _ (call (.ref C) [v']) _ _ _
    have hlim := I1.nolimit
    obtain ⟨hp, g, dr, tk, os⟩ := s1
    refine wpAny_call (PySem.LowX.low_made T I1.kIn hlim (by have := hr.dp; omega) fun h' tk' e d M => ?_)
    show MkP X pins σ Q (.ref e) ⟨h', g, dr, tk', os⟩
    obtain ⟨oe, fv, hoe, hc, hd, hdat, h1⟩ := M.obj
    have hns := M.ns
    obtain ⟨G', g1, g2⟩ := restrict h' fun b => decide (b ≠ e)
    have gk : ∀ b, b ≠ e → G'.get? b = h'.get? b := fun b hb => g1 b (decide_eq_true hb)
    have ge : G'.get? e = none := g2 e (by simp)
    have old : ∀ b o, hp.get? b = some o → G'.get? b = some o := fun b o q => (gk b (Nat.ne_of_lt (Nat.lt_of_lt_of_le (Heap.lt_size q) M.new))).trans (M.keep b o q)
    have ob : ObjOk X.prog X.w (upd H1 d (.xd [(("at" : Str), v)])) G' d (.xd [(("at" : Str), v)]) :=
      ⟨_, hns.at (fun o q => (gk d M.dne).trans q), fun f => relO_low rv f⟩
    have J : Inv X pins σ (upd H1 d (.xd [(("at" : Str), v)])) ⟨G', g, dr, tk', os⟩ := I1.laid (t' := tk') old M.dbig ob
    refine ⟨e, oe, fv, ⟨G', g, dr, tk', os⟩, _, .ref C, some d, rfl, J, fun b o q => ?_, ge, hoe, ⟨hc, hd⟩, hdat, h1, ?_, rfl, I1.bare, raises_own T.exC T.tyC, q1 d (I1.hok.fresh M.dbig)⟩
    · by_cases hb : b = e
      · have q' : G'.get? b = some o := q
        rw [hb, ge] at q'; cases q'
      · exact (gk b hb).symm.trans q
    · rw [upd_ne (Ne.symm M.dne)]
      exact I1.hok.fresh M.new
/-- raise Low(e) -/
def tRaiseLow (C : Addr) (W : WX) (ta : TA) : TS := fun _ σ H => tMkLow C ta σ H fun cls d H' => W cls d σ H'
theorem ps_raiseLow {a : Expr} {ta : TA} {W : WX} {p pos pos2 : Pos} {k : Nat} (hc : X.calm = true) (T : PySem.LowX.LowTxt X.K X.mg nm ql C fI) (hr : Room k X.A) (tk : Takes X W) (ha : PA X [a] ta) (hg : Gl X nm := by rfl)
    (he : starEach (a :: []) X.env = (false, eval a X.env) :: starEach [] X.env := by rfl) (hpl : (backTo pos (starEach [] X.env)).any (·.1) = false := by rfl) :
    PS X (.Raise (some (.Call (.Name nm p) [a] [] pos)) none pos2) (tRaiseLow C W ta) := ps_raise hc tk (pmk_low T hr ha hg he hpl)
/-- low.by, low the exception that the suite holds (at a; its class cls, its dict d) -/
def tByLow (C : Addr) (a : Addr) (cls : Value) (d : Option Addr) (te : TE) : TE := fun σ H Q => te σ H fun x H1 => x = .ref a ∧ cls = .ref C ∧ ∃ (dd : Addr) (v : V), d = some dd ∧ H1 dd = some (.xd [(("at" : Str), v)]) ∧ Q v H1
theorem pe_byLow {a : Addr} {oe : Obj} {cls : Value} {d : Option Addr} {pn : List (Addr × Obj)} {e : Expr} {te : TE} {pos : Pos} (T : PySem.LowX.LowTxt X.K X.mg nm ql C fI) (hz : Zc cls d oe) (hf : ∃ vs, oe.data = .fields vs) (he : PE (X.suite a ((a, oe) :: pn)) e te)
    (hb : attributeBase e "at" X.env (eval e X.env) = eval e X.env := by rfl) :
    PE (X.suite a ((a, oe) :: pn)) (.Attribute e "at" pos) (tByLow C a cls d te) := by
  refine ⟨fun pins s σ H Q I h => ?_⟩
  refine attr_of hb (thn (he.run pins s σ H _ I h) fun u s1 hh => ?_)
  obtain ⟨x, H1, I1, rx, ex, ec, dd, v, ed, ea, q⟩ := hh
  subst ex
  obtain rfl : u = Value.ref a := rx
  subst ec
  subst ed
  obtain ⟨ha, _⟩ := I1.pin (a, oe) (List.mem_append_left _ List.mem_cons_self)
  obtain ⟨vs, hd⟩ := hf
  have hx : ObjOk X.prog X.w H1 s1.heap dd (.xd [(("at" : Str), v)]) := I1.hok dd _ ea
  obtain ⟨mA, hns, hr⟩ := hx
  obtain ⟨od, ho, hl⟩ := lookIn_ns hns
  have l : List.lookup ("at" : Str) [(("at" : Str), v)] = some v := by simp [List.lookup]
  obtain ⟨u, hu, ru⟩ := RelO.some_of (v := v) (o := mA "at") (by rw [← l]; exact hr "at")
  have J : PySem.W.InstAt s1.heap a oe C (some od) := ⟨ha, hz.1, by unfold PySem.W.notCls; rw [hd] <;> rfl, by rw [hz.2]; exact ho⟩
  exact HandSPX.exc_get I1.kIn J T.ga T.gg T.exC (PySem.W.findObj_own T.hdC T.noN rfl (by rw [hl, hu])) (handed_of ru) ⟨v, H1, I1.tok _, ru, q⟩
end
end L2

/-! the head: what the top leaves, looked at once -/
namespace KV
open PySem PySem.Spec PyProof.Rows L2 He
/-- a global that is a built-in -/
def bltB (K : PySem.W.Frag) (x : Str) (id : String) : Bool := match PySem.W.nsIn K mainGlobals x with
  | some (some (.builtin i)) => decide (i = id)
  | _ => false
theorem bltB_ok {K : PySem.W.Frag} {h : Heap} {mg : Str → Option Value} (X : K.In h) (G : h.Ns mainGlobals mg) {x : Str} {id : String} (c : bltB K x id = true) : mg x = some (.builtin id) := by
  unfold bltB at c
  split at c
  · rename_i i e
    rw [← of_decide_eq_true c]
    exact PySem.W.mg_of X G e
  · cases c
/-- an error's class over ValueError -/
def errB (K : PySem.W.Frag) (C : Addr) : Bool := match K.lookup C with
  | some ⟨.type "type", _, .cls cd, sl⟩ => (match cd.mro, sl.toList with
    | .ref C' :: bm, [_, _, _, _, some (.builtin n), _] => C' == C && n == "ValueError.__new__" && !cd.hasDel && cd.hasDict && PySem.HandSPX.refsVE bm
    | _, _ => false)
  | _ => false
theorem errB_ok {K : PySem.W.Frag} {C : Addr} (c : errB K C = true) :
    ∃ nm q N bs bm sn sub ab col dd k0 k1 k2 k3 k5, K.lookup C = some (excClassObj nm q C N bs bm true sn sub ab col dd k0 k1 k2 k3 k5 "ValueError.__new__") ∧ PySem.HandSPX.refsVE bm = true := by
  unfold errB at c
  split at c
  · rename_i dd cd sl ho
    split at c
    · rename_i C' bm k0 k1 k2 k3 n k5 hm hs
      simp only [Bool.and_eq_true, beq_iff_eq, Bool.not_eq_true'] at c
      obtain ⟨⟨⟨⟨rfl, rfl⟩, hdel⟩, hdi⟩, hok⟩ := c
      obtain ⟨nm, bs, mro, ns, qn, hd, sn, sub, ab, col, del⟩ := cd
      dsimp only at hm hdel hdi
      subst hm hdel hdi
      have hsl : sl = #[k0, k1, k2, k3, some (.builtin "ValueError.__new__"), k5] := by
        obtain ⟨l⟩ := sl
        simp only at hs
        rw [hs]
      subst hsl
      exact ⟨nm, qn, ns, bs, bm, sn, sub, ab, col, dd, k0, k1, k2, k3, k5, ho, hok⟩
    · cases c
  · cases c
def kwNo (K : PySem.W.Frag) (f : Addr) : Bool := match K.lookup f with
  | some ⟨_, _, .func fd, _⟩ => (match fd.kwdefaults with
    | .none => true
    | _ => false)
  | _ => false
/-- all that is asked of an error's class x with the field at -/
def lowB (K : PySem.W.Frag) (x : Str) : Bool :=
  errB K (ga K x) && (eqO (PySem.W.findIn K (.ref (ga K x)) "__setattr__") (some (some (.builtin "object.__setattr__"))) && (eqO (PySem.W.findIn K (.ref (ga K x)) "__getattribute__") (some (some (.builtin "BaseException.__getattribute__"))) &&
  (eqO (PySem.W.findIn K (.ref (ga K x)) "__getattr__") (some none) && (eqO (PySem.W.findIn K (.ref (ga K x)) "at") (some none) && (eqO (PySem.W.findIn K (.ref (ga K x)) "__init__") (some (some (.ref (ma K (ga K x) "__init__")))) &&
  (decide (PySem.W.typeIn K (.ref (ma K (ga K x) "__init__")) = some (.type "function")) && (PySem.W.keepIn K (.ref (ga K x)) && (decide (PySem.W.subIn K (.ref (ga K x)) (.type "BaseException") = some true) && (decide (PySem.W.typeIn K (.ref (ga K x)) = some (.type "type")) &&
  (PySem.W.hasDictIn K (ga K x) && (decide (PySem.W.exmOne K (.ref (ga K x)) (.ref (ga K x)) = some true) && kwNo K (ma K (ga K x) "__init__"))))))))))))
theorem low_of {K : PySem.W.Frag} {h : Heap} {mg : Str → Option Value} (X : K.In h) (G : h.Ns mainGlobals mg) {x ql : Str} {p1 p2 q1 q2 q3 q4 : Pos} {d : FnD} (hd : d = ⟨(x, some "__init__"), "__init__", ql, PySem.LowX.iA p1 p2, PySem.LowX.iB q1 q2 q3 q4, PySem.LowX.iS⟩)
    (e : fnObs K d.at_ = d.val) (c : (Fa.code d.at_ d.qual).ok K = true) (g : (Fa.glo x).ok K = true) (b : lowB K x = true) (nd : (x == ("__debug__" : Str)) = false := by decide) : PySem.LowX.LowTxt K mg x ql (ga K x) (ma K (ga K x) "__init__") := by
  subst hd
  obtain ⟨b1, b⟩ := ba b
  obtain ⟨b2, b⟩ := ba b
  obtain ⟨b3, b⟩ := ba b
  obtain ⟨b4, b⟩ := ba b
  obtain ⟨b5, b⟩ := ba b
  obtain ⟨b6, b⟩ := ba b
  obtain ⟨b7, b⟩ := ba b
  obtain ⟨b8, b⟩ := ba b
  obtain ⟨b9, b⟩ := ba b
  obtain ⟨b10, b⟩ := ba b
  obtain ⟨b11, b⟩ := ba b
  obtain ⟨b12, b13⟩ := ba b
  obtain ⟨oc, od, osl, kV, doc, pm, an, cdv, ct, lk, hc⟩ := fn_ok e c
  have lk' : K.lookup (ma K (ga K x) "__init__") = some ⟨oc, od, .func (PySem.W.fnOf "__init__" ql (PySem.LowX.iA p1 p2) (PySem.LowX.iB q1 q2 q3 q4) PySem.LowX.iS .none kV doc pm an cdv ct), osl⟩ := lk
  have kn : kV = .none := by
    unfold kwNo at b13
    rw [lk'] at b13
    cases kV <;> first | rfl | exact Bool.noConfusion (show (false : Bool) = true from b13)
  subst kn
  exact { gC := glo_ok X G g, nd := nd, cls := errB_ok b1, sa := eqO_ok b2, ga := eqO_ok b3, gg := eqO_ok b4, noN := eqO_ok b5, iC := eqO_ok b6, tC := of_decide_eq_true b7, kC := b8, exC := of_decide_eq_true b9, tyC := of_decide_eq_true b10, hdC := b11, te := of_decide_eq_true b12,
          fn := ⟨_, _, _, _, _, _, _, _, _, _, _, _, _, _, lk', hc⟩ }
/-! the Hook: the facts fa, the defs fn, and one more look ex -/
def obsZ (n : Nat) (fa : List Fa) (fn : List FnD) (ex : PySem.W.Frag → Bool) (g : Addr → Option Obj) : Al × Bool := (obsE fa fn (frG g (asG g n)), ex (frG g (asG g n)))
def hookZ (n : Nat) (fa : List Fa) (fn : List FnD) (ex : PySem.W.Frag → Bool) : PySem.W.Hook where
  α := Al × Bool
  obs := fun s => obsZ n fa fn ex s.heap.get?
  val := fun _ => (valE fn, true)
  says := fun _ h => ∃ K : PySem.W.Frag, K.In h ∧ SaysE fa fn K ∧ ex K = true
  of := fun _ _ e => ⟨_, frG_in, congrArg (fun z : Al × Bool => z.1) e, congrArg (fun z : Al × Bool => z.2) e⟩
  keeps := fun _ _ _ ⟨K, hK, c, d⟩ k => ⟨K, PySem.W.Frag.In.keeps hK k, c, d⟩
theorem obsZ_eq {n : Nat} {fa : List Fa} {fn : List FnD} {ex : PySem.W.Frag → Bool} {g : Addr → Option Obj} {s : Shared} (h : ∀ a, g a = s.heap.get? a) : obsZ n fa fn ex g = (hookZ n fa fn ex).obs s := by
  have e : g = s.heap.get? := funext h
  rw [e] <;> rfl
/-- a def of the text, by a path -/
theorem saysFn {fa : List Fa} {fn : List FnD} {K : PySem.W.Frag} (c : SaysE fa fn K) (i : Nat) {d : FnD} (h : fn[i]? = some d := by rfl) : fnObs K d.at_ = d.val ∧ (Fa.code d.at_ d.qual).ok K = true := by
  have c2 := (ba (show ((fa.all fun f => f.ok K) && fn.all fun d => (Fa.code d.at_ d.qual).ok K) = true from congrArg (fun z : Al => z.1) c)).2
  have e : fn.map (fun d => fnObs K d.at_) = fn.map FnD.val := congrArg (fun z : Al => z.2) c
  have e2 : (fn.map fun d => fnObs K d.at_)[i]? = (fn.map FnD.val)[i]? := by rw [e]
  rw [List.getElem?_map, List.getElem?_map, h] at e2
  exact ⟨Option.some.inj e2, List.all_eq_true.mp c2 d (List.mem_of_getElem? h)⟩
/-- a def of the top: its name, its statement -/
def dTop (x : Str) (st : Stmt) : FnD := ⟨(x, none), x, x, defArgs st, defBody st, defScope st⟩
theorem keep_fn {K : PySem.W.Frag} {f : Addr} {oc : Value} {od : Option Addr} {fd : FuncData} {osl : Array (Option Value)} (h : K.lookup f = some ⟨oc, od, .func fd, osl⟩) : PySem.W.keepIn K (.ref f) = true := by
  simp only [PySem.W.keepIn, h]
theorem saysFun {fa : List Fa} {fn : List FnD} {K : PySem.W.Frag} (c : SaysE fa fn K) (i : Nat) {x : Str} {st : Stmt} (h : fn[i]? = some (dTop x st) := by rfl) : ∃ fd, Fun K x x st (ga K x) fd := by
  obtain ⟨e, k⟩ := saysFn c i h
  obtain ⟨oc, od, osl, kV, doc, pm, an, cdv, ct, lk, hc⟩ := fn_ok e k
  exact ⟨_, fun_mk lk hc (keep_fn lk)⟩
/-- a law's end, over a head by facts -/
theorem walk_ofGE {l : PySem.W.OpenLaw} {n k : Nat} {q : Program} {loose : List Str} {XP : (Str → Option Value) → Heap → Prop} {YP : World → Heap → Prop} {d : DefRec} {x : Str}
    (most : l.most = some n) (fits : n ≤ sizeLine) (plain : d.params.defaults = []) (room : Room k callerA)
    (F : ∀ (w : World) (mg : Str → Option Value) (fa : Addr) (h : Heap), YP w h → h.Ns mainGlobals mg → mg d.name = some (.ref fa) →
      ∃ (K : PySem.W.Frag) (fd : FuncData) (sp : Sp), K.In h ∧ (∀ (s : Shared) (u : Value), BindsTo s fd ⟨[u], []⟩ [(x, u)]) ∧
        (∀ (G : Hp) (a : Addr) (ns : List Int), ns.length ≤ n → SqL K G a (ns.map V.int) → sp [.ref a] G (fun v _ => v = .bl true) fun _ _ _ => False) ∧
        ∀ base : Heap, K.In base → base.Ns mainGlobals mg → FnOkG l.prog w K mg base k fa fd [x] sp) :
    PySem.W.WalkO q loose XP YP l.row.toRowW d [] (fun f vs => PySem.call f vs) := by
  refine Att.attach_call most plain fun w s0 s1 mg mb fa o pm cd doc a vs ns G Y ho hd hcd hmg hobj hints hlen hg => ?_
  obtain ⟨K, fd, sp, KX, hb, hsp, hF⟩ := F w mg fa _ Y G.T.g hmg
  exact law_callG KX G.T.g G.T.b G.T.builtins G.T.nolimit hg hobj hints (Nat.le_trans hlen fits) room hF hb fun H hS => hsp H a ns hlen hS
end KV

/-! the text -/
namespace KV
open PySem PySem.Spec PyProof.Rows L2
def top (i : Nat) : Stmt := PySem.Challenge.pw_batchnumbers_k03_powers_and_loops.main.body.getD i (.Pass ⟨0, 0, 0, 0⟩)
/-- the built-in names that no global hides -/
structure Bl (mg : Str → Option Value) : Prop where
  isi : mg "isinstance" = none
  int : mg "int" = none
  bool : mg "bool" = none
  tuple : mg "tuple" = none
  list : mg "list" = none
  set : mg "set" = none
  len : mg "len" = none
  range : mg "range" = none
  all : mg "all" = none
  abs : mg "abs" = none
  repr : mg "repr" = none
  zip : mg "zip" = none
  enumerate : mg "enumerate" = none
  lcm : mg "lcm" = some (.builtin "math.lcm")
end KV

/-! sizes, small words -/
namespace KV
open PySem PySem.Spec PyProof.Rows L2
abbrev sm (k : Nat) (n : Int) : Prop := n.natAbs < 2 ^ k
theorem sm_mono {j k : Nat} {n : Int} (h : sm j n) (hk : j ≤ k) : sm k n := Nat.lt_of_lt_of_le h (Nat.pow_le_pow_right (by decide) hk)
theorem sm_of {k : Nat} {n : Int} (h0 : 0 ≤ n) (h1 : n < 2 ^ k) : sm k n := by
  have e : ((2 ^ k : Nat) : Int) = (2 : Int) ^ k := by simp
  show n.natAbs < 2 ^ k
  omega
theorem sm_le {k : Nat} {n m : Int} (h0 : 0 ≤ n) (h1 : n ≤ m) (h : sm k m) : sm k n := Nat.lt_of_le_of_lt (by omega) h
theorem sm_abs {k : Nat} {n m : Int} (h1 : (n.natAbs : Int) ≤ m) (h : sm k m) : sm k n := Nat.lt_of_le_of_lt (by omega) h
theorem sm_add {k : Nat} {n m : Int} (h1 : sm k n) (h2 : sm k m) : sm (k + 1) (n + m) := by
  have a := Int.natAbs_add_le n m
  have e : 2 ^ (k + 1) = 2 ^ k * 2 := Nat.pow_succ ..
  have h1' : n.natAbs < 2 ^ k := h1
  have h2' : m.natAbs < 2 ^ k := h2
  show (n + m).natAbs < 2 ^ (k + 1)
  omega
theorem sm_neg {k : Nat} {n : Int} (h : sm k n) : sm k (-n) := by
  show (-n).natAbs < 2 ^ k
  rw [Int.natAbs_neg]
  exact h
theorem sm_sub {k : Nat} {n m : Int} (h1 : sm k n) (h2 : sm k m) : sm (k + 1) (n - m) := by
  rw [Int.sub_eq_add_neg]
  exact sm_add h1 (sm_neg h2)
theorem sm_mul {j k : Nat} {n m : Int} (h1 : sm j n) (h2 : sm k m) : sm (j + k) (n * m) := wide_lt h1 h2
theorem mulW {j k : Nat} {n m : Int} (h1 : sm j n) (h2 : sm k m) (hj : 0 < j) (hk : 0 < k) (h : j + k ≤ 1000000) : CMulW n m := wide_mul h1 h2 hj hk h
theorem divW {k : Nat} {n m : Int} (h0 : 0 < m) (h : sm k m) (hk : 0 < k) (h9 : k ≤ 9000) : CDivW n m := wide_div h0 h hk h9
theorem iop_mulW {X : Cx} : OpR X (inplaceOp .Mult) (rI CMulW fun i j => .int (i * j)) := opI fun _ _ _ _ _ _ _ hc q => imul_int q hc.ok
theorem map_at {f : Int → V} {ns : List Int} {i : Nat} {x : V} (h : (ns.map f)[i]? = some x) : ∃ n, ns[i]? = some n ∧ x = f n := by
  rw [List.getElem?_map] at h
  cases e : ns[i]? with
  | none => rw [e] at h; cases h
  | some n => rw [e] at h; exact ⟨n, rfl, (Option.some.inj h).symm⟩
theorem Same.seqT {K : PySem.W.Frag} {H H' : Hp} {a : Addr} {xs : List V} (e : Same H H') (h : SqT K H a xs) : SqT K H' a xs := by
  rcases h with (h | ⟨o, h⟩) | h
  · exact .inl (.inl (e _ _ h))
  · exact .inl (.inr ⟨o, e _ _ h⟩)
  · exact .inr h
theorem Same.upd {H H' : Hp} {a : Addr} {o : HO} (e : Same H H') (h : H a = none) : Same H (upd H' a o) := fun b u q => by
  rw [upd_ne (ne_of_none q h)]
  exact e b u q
theorem Same.new {H : Hp} {a : Addr} {o : HO} (h : H a = none) : Same H (L2.upd H a o) := Same.upd (Same.refl H) h
end KV

/-! the mathematics of changes -/
namespace KC
/-- where m rounds of the change lead -/
def it (c : List Nat) : Nat → Nat → Nat
  | 0, i => i
  | m + 1, i => c.getD (it c m i) 0
structure Chg (n : Nat) (c : List Nat) : Prop where
  len : c.length = n
  lt : ∀ x ∈ c, x < n
  nd : c.Nodup
def tab (n : Nat) (f : Nat → Nat) : List Nat := (List.range n).map f
def comp (c e : List Nat) : List Nat := c.map fun x => e.getD x 0
def fac : Nat → Nat
  | 0 => 1
  | n + 1 => (n + 1) * fac n
theorem fac_pos : ∀ n, 0 < fac n
  | 0 => by decide
  | n + 1 => Nat.mul_pos (Nat.succ_pos n) (fac_pos n)
theorem dvd_fac : ∀ {n L : Nat}, 0 < L → L ≤ n → L ∣ fac n
  | 0, L, h, g => by omega
  | n + 1, L, h, g => by
    rcases Nat.lt_or_ge L (n + 1) with k | k
    · exact Nat.dvd_trans (dvd_fac h (by omega)) (Nat.dvd_mul_left _ _)
    · have : L = n + 1 := by omega
      rw [this]
      exact Nat.dvd_mul_right _ _
theorem tab_len {n : Nat} {f : Nat → Nat} : (tab n f).length = n := by simp [tab]
theorem tab_get {n i : Nat} {f : Nat → Nat} (h : i < n) : (tab n f)[i]? = some (f i) := by
  unfold tab
  rw [List.getElem?_map, List.getElem?_range h]
  rfl
theorem tab_getD {n i : Nat} {f : Nat → Nat} (h : i < n) : (tab n f).getD i 0 = f i := by
  rw [List.getD_eq_getElem?_getD, tab_get h]
  rfl
theorem getD_at {c : List Nat} {i x : Nat} (h : c[i]? = some x) : c.getD i 0 = x := by
  rw [List.getD_eq_getElem?_getD, h]
  rfl
theorem at_getD {c : List Nat} {i : Nat} (h : i < c.length) : c[i]? = some (c.getD i 0) := by
  rw [List.getD_eq_getElem?_getD, List.getElem?_eq_getElem h]
  rfl
theorem eq_tab {n : Nat} {c : List Nat} (h : c.length = n) : c = tab n fun i => c.getD i 0 := by
  refine List.ext_getElem? fun i => ?_
  by_cases k : i < n
  · rw [tab_get k]
    exact at_getD (by omega)
  · rw [List.getElem?_eq_none (by omega), List.getElem?_eq_none (by rw [tab_len]; omega)]
theorem tab_congr {n : Nat} {f g : Nat → Nat} (h : ∀ i < n, f i = g i) : tab n f = tab n g := List.map_congr_left fun i hi => h i (List.mem_range.mp hi)
theorem tab_inj {n : Nat} {f g : Nat → Nat} (h : tab n f = tab n g) : ∀ i < n, f i = g i := fun i hi => by
  have e := tab_get (f := f) hi
  rw [h, tab_get hi] at e
  exact (Option.some.inj e).symm
theorem comp_tab {n : Nat} {f g : Nat → Nat} (h : ∀ i < n, f i < n) : comp (tab n f) (tab n g) = tab n fun i => g (f i) := by
  unfold comp
  show ((List.range n).map f).map _ = (List.range n).map _
  rw [List.map_map]
  exact List.map_congr_left fun i hi => tab_getD (h i (List.mem_range.mp hi))
section
variable {n : Nat} {c : List Nat}
theorem Chg.at_lt (h : Chg n c) {i : Nat} (hi : i < n) : c.getD i 0 < n := h.lt _ (List.mem_of_getElem? (at_getD (by rw [h.len]; exact hi)))
theorem Chg.at_inj (h : Chg n c) {i j : Nat} (hi : i < n) (hj : j < n) (e : c.getD i 0 = c.getD j 0) : i = j := by
  have hi' : i < c.length := by rw [h.len]; exact hi
  have hj' : j < c.length := by rw [h.len]; exact hj
  have a := at_getD hi'
  have b := at_getD hj'
  rw [List.getElem?_eq_getElem hi'] at a
  rw [List.getElem?_eq_getElem hj'] at b
  have e2 : c[i] = c[j] := by rw [Option.some.inj a, Option.some.inj b, e]
  exact (List.getElem_inj h.nd).mp e2
theorem it_lt (h : Chg n c) {i : Nat} (hi : i < n) : ∀ m, it c m i < n
  | 0 => hi
  | m + 1 => h.at_lt (it_lt h hi m)
theorem it_add (a b i : Nat) : it c (a + b) i = it c a (it c b i) := by
  induction a with
  | zero => rw [Nat.zero_add]; rfl
  | succ a ih =>
    rw [Nat.succ_add]
    show c.getD (it c (a + b) i) 0 = c.getD (it c a (it c b i)) 0
    rw [ih]
theorem it_inj (h : Chg n c) {i j : Nat} (hi : i < n) (hj : j < n) : ∀ m, it c m i = it c m j → i = j
  | 0, e => e
  | m + 1, e => it_inj h hi hj m (h.at_inj (it_lt h hi m) (it_lt h hj m) e)
theorem it_back (h : Chg n c) {i a b : Nat} (hi : i < n) (hab : a ≤ b) (e : it c a i = it c b i) : it c (b - a) i = i := by
  have e2 : it c b i = it c a (it c (b - a) i) := by rw [← it_add]; congr 1; omega
  rw [e2] at e
  exact (it_inj h hi (it_lt h hi _) a e).symm
/-- each state comes back -/
theorem per (h : Chg n c) {i : Nat} (hi : i < n) : ∃ L, 0 < L ∧ L ≤ n ∧ it c L i = i := by
  apply Classical.byContradiction
  intro no
  have nd : ((List.range (n + 1)).map fun m => it c m i).Nodup := by
    unfold List.Nodup
    rw [List.pairwise_map]
    refine List.Pairwise.imp_of_mem (fun {a b} ha hb hlt e => ?_) List.pairwise_lt_range
    have hb := List.mem_range.mp hb
    exact no ⟨b - a, by omega, by omega, it_back h hi (by omega) e⟩
  have z := List.Nodup.length_le_of_subset (l₂ := List.range n) nd fun x hx => by
    obtain ⟨m, _, rfl⟩ := List.mem_map.mp hx
    exact List.mem_range.mpr (it_lt h hi m)
  rw [List.length_map, List.length_range, List.length_range] at z
  omega
theorem it_mul {i L : Nat} (e : it c L i = i) : ∀ k, it c (L * k) i = i
  | 0 => rfl
  | k + 1 => by rw [Nat.mul_succ, it_add, e, it_mul e k]
theorem it_mod {i L : Nat} (e : it c L i = i) (m : Nat) : it c (m % L) i = it c m i := by
  have z : it c m i = it c (m % L + L * (m / L)) i := by rw [Nat.mod_add_div]
  rw [z, it_add, it_mul e]
theorem it_fac (h : Chg n c) {i : Nat} (hi : i < n) : it c (fac n) i = i := by
  obtain ⟨L, l0, l1, e⟩ := per h hi
  obtain ⟨k, ek⟩ := dvd_fac l0 l1
  rw [ek]
  exact it_mul e k
theorem chg_tab {f : Nat → Nat} (h : ∀ i < n, f i < n) (g : ∀ i < n, ∀ j < n, f i = f j → i = j) : Chg n (tab n f) := by
  refine ⟨tab_len, fun x hx => ?_, ?_⟩
  · obtain ⟨i, hi, rfl⟩ := List.mem_map.mp hx
    exact h i (List.mem_range.mp hi)
  · unfold List.Nodup tab
    rw [List.pairwise_map]
    refine List.Pairwise.imp_of_mem (fun {a b} ha hb hlt e => ?_) List.pairwise_lt_range
    have := g a (List.mem_range.mp ha) b (List.mem_range.mp hb) e
    omega
theorem chg_it (h : Chg n c) (m : Nat) : Chg n (tab n (it c m)) := chg_tab (fun i hi => it_lt h hi m) fun i hi j hj e => it_inj h hi hj m e
theorem chg_comp {e : List Nat} (h : Chg n c) (g : Chg n e) : Chg n (comp c e) := by
  rw [eq_tab h.len, eq_tab g.len, comp_tab (fun i hi => h.at_lt hi)]
  exact chg_tab (fun i hi => g.at_lt (h.at_lt hi)) fun i hi j hj e => h.at_inj hi hj (g.at_inj (h.at_lt hi) (h.at_lt hj) e)
/-- the power with a count -/
def pw (n : Nat) (c : List Nat) (k : Int) : List Nat := tab n (it c (k % (fac n : Int)).toNat)
theorem pw_chg (h : Chg n c) (k : Int) : Chg n (pw n c k) := chg_it h _
theorem pw_nat (h : Chg n c) (m : Nat) : pw n c (m : Int) = tab n (it c m) := by
  refine tab_congr fun i hi => ?_
  have e : (((m : Nat) : Int) % (fac n : Int)).toNat = m % fac n := by
    rw [← Int.natCast_emod]
    rfl
  rw [e, it_mod (it_fac h hi)]
theorem pw_add (h : Chg n c) (a b : Int) : comp (pw n c a) (pw n c b) = pw n c (a + b) := by
  unfold pw
  rw [comp_tab (fun i hi => it_lt h hi _)]
  refine tab_congr fun i hi => ?_
  have f0 : (0 : Int) < fac n := by exact_mod_cast fac_pos n
  rw [← it_add, ← it_mod (it_fac h hi) ((b % (fac n : Int)).toNat + (a % (fac n : Int)).toNat)]
  congr 1
  have a0 := Int.emod_nonneg a (by omega : (fac n : Int) ≠ 0)
  have b0 := Int.emod_nonneg b (by omega : (fac n : Int) ≠ 0)
  have e : ((((b % (fac n : Int)).toNat + (a % (fac n : Int)).toNat) % fac n : Nat) : Int) = (a + b) % (fac n : Int) := by
    rw [Int.natCast_emod, Int.natCast_add, Int.toNat_of_nonneg a0, Int.toNat_of_nonneg b0, ← Int.add_emod, Int.add_comm]
  rw [← e]
  rfl
/-- a cycle: it starts at st -/
structure Cyc (n : Nat) (c : List Nat) (cy : List Nat) : Prop where
  ex : ∃ st L, 0 < L ∧ st < n ∧ it c L st = st ∧ cy = tab L fun j => it c j st
  nd : cy.Nodup
theorem Cyc.pos {cy : List Nat} (h : Cyc n c cy) : 0 < cy.length := by
  obtain ⟨st, L, l0, _, _, rfl⟩ := h.ex
  rw [tab_len]
  exact l0
theorem Cyc.le (h : Chg n c) {cy : List Nat} (k : Cyc n c cy) : cy.length ≤ n := by
  obtain ⟨st, L, l0, hs, _, rfl⟩ := k.ex
  have z := List.Nodup.length_le_of_subset (l₂ := List.range n) k.nd fun x hx => by
    obtain ⟨m, _, rfl⟩ := List.mem_map.mp hx
    exact List.mem_range.mpr (it_lt h hs m)
  rw [List.length_range] at z
  exact z
theorem Cyc.dvd (h : Chg n c) {cy : List Nat} (k : Cyc n c cy) : cy.length ∣ fac n := dvd_fac k.pos (k.le h)
/-- the states of a cycle come back just by its length -/
theorem Cyc.back (h : Chg n c) {cy : List Nat} (k : Cyc n c cy) {x m : Nat} (hx : x ∈ cy) : it c m x = x ↔ cy.length ∣ m := by
  obtain ⟨st, L, l0, hs, e, rfl⟩ := k.ex
  have nd := k.nd
  obtain ⟨j, hj, rfl⟩ := List.mem_map.mp hx
  have hj := List.mem_range.mp hj
  rw [tab_len]
  have lb : it c L (it c j st) = it c j st := by rw [← it_add, Nat.add_comm, it_add, e]
  constructor
  · intro hm
    have z : it c (m % L) (it c j st) = it c j st := by rw [it_mod lb, hm]
    have z1 : it c (m % L) st = st := by
      rw [← it_add, Nat.add_comm, it_add] at z
      exact it_inj h (it_lt h hs _) hs j z
    by_cases z2 : m % L = 0
    · exact Nat.dvd_of_mod_eq_zero z2
    · have lt := Nat.mod_lt m l0
      have a := tab_get (f := fun j => it c j st) lt
      have b := tab_get (f := fun j => it c j st) l0
      have hl1 : m % L < (tab L fun j => it c j st).length := by rw [tab_len]; exact lt
      have hl2 : 0 < (tab L fun j => it c j st).length := by rw [tab_len]; exact l0
      rw [List.getElem?_eq_getElem hl1] at a
      rw [List.getElem?_eq_getElem hl2] at b
      have e2 : (tab L fun j => it c j st)[m % L] = (tab L fun j => it c j st)[0] := by
        rw [Option.some.inj a, Option.some.inj b]
        exact z1
      exact absurd ((List.getElem_inj nd).mp e2) z2
  · rintro ⟨q, rfl⟩
    exact it_mul lb q
theorem Cyc.lt (h : Chg n c) {cy : List Nat} (k : Cyc n c cy) {x : Nat} (hx : x ∈ cy) : x < n := by
  obtain ⟨st, L, l0, hs, e, rfl⟩ := k.ex
  obtain ⟨j, _, rfl⟩ := List.mem_map.mp hx
  exact it_lt h hs j
/-- the cycle turned by what the count leaves: each state's power -/
theorem Cyc.turn (h : Chg n c) {cy : List Nat} (k : Cyc n c cy) (cnt : Int) {j x : Nat} (hx : cy[j]? = some x) :
    (cy.drop (cnt % (cy.length : Int)).toNat ++ cy.take (cnt % (cy.length : Int)).toNat)[j]? = some (it c (cnt % (fac n : Int)).toNat x) := by
  have hdv := k.dvd h
  have hb := k.back h (x := x) (m := cy.length) (List.mem_of_getElem? hx)
  have hp := k.pos
  have hj := (List.getElem?_eq_some_iff.mp hx).1
  obtain ⟨st, L, l0, hs, e, rfl⟩ := k.ex
  rw [tab_len] at hb hp hj hdv ⊢
  have s0 := Int.emod_nonneg cnt (by omega : (L : Int) ≠ 0)
  have s1 := Int.emod_lt_of_pos cnt (by omega : (0 : Int) < (L : Int))
  have es : ((cnt % (fac n : Int)).toNat) % L = (cnt % (L : Int)).toNat := by
    have f0 : (0 : Int) < fac n := by exact_mod_cast fac_pos n
    have a0 := Int.emod_nonneg cnt (by omega : (fac n : Int) ≠ 0)
    have z : ((((cnt % (fac n : Int)).toNat) % L : Nat) : Int) = cnt % (L : Int) := by
      rw [Int.natCast_emod, Int.toNat_of_nonneg a0]
      exact Int.emod_emod_of_dvd _ (by exact_mod_cast hdv)
    rw [← z]
    rfl
  rw [← it_mod (hb.mpr (Nat.dvd_refl _)), es]
  rw [tab_get hj] at hx
  have hx := Option.some.inj hx
  generalize (cnt % (L : Int)).toNat = s at es s0 s1
  have sL : s < L ∨ L ≤ s := Nat.lt_or_ge s L
  have sl : s < L := by
    rw [← es]
    exact Nat.mod_lt _ l0
  have key : ∀ m, it c m x = it c (j + m) st := fun m => by rw [← hx, ← it_add, Nat.add_comm]
  rw [key]
  by_cases w : j < L - s
  · rw [List.getElem?_append_left (by rw [List.length_drop, tab_len]; exact w), List.getElem?_drop, tab_get (by omega), Nat.add_comm]
  · have e1 : j - (L - s) < L := by omega
    rw [List.getElem?_append_right (by rw [List.length_drop, tab_len]; omega), List.length_drop, tab_len, List.getElem?_take_of_lt (by omega), tab_get e1]
    have e2 : j + s = (j - (L - s)) + L := by omega
    rw [e2, it_add, e]
end
end KC

/-! more of changes: every state is reached, cycles closed backwards, a walk to its end -/
namespace KC
section
variable {n : Nat} {c : List Nat}
theorem Chg.mem (h : Chg n c) {x : Nat} (hx : x < n) : ∃ i, i < n ∧ c.getD i 0 = x := by
  apply Classical.byContradiction
  intro no
  have nm : x ∉ c := fun hm => by
    obtain ⟨i, hi⟩ := List.mem_iff_getElem?.mp hm
    have lt := (List.getElem?_eq_some_iff.mp hi).1
    exact no ⟨i, by rw [← h.len]; exact lt, getD_at hi⟩
  have z := List.Nodup.length_le_of_subset (l₁ := x :: c) (l₂ := List.range n) (List.nodup_cons.mpr ⟨nm, h.nd⟩) fun y hy => by
    rcases List.mem_cons.mp hy with rfl | hy
    · exact List.mem_range.mpr hx
    · exact List.mem_range.mpr (h.lt y hy)
  rw [List.length_cons, h.len, List.length_range] at z
  omega
theorem tab_succ {L : Nat} {f : Nat → Nat} : tab (L + 1) f = tab L f ++ [f L] := by
  unfold tab
  rw [List.range_succ, List.map_append]
  rfl
theorem mem_tab {L x : Nat} {f : Nat → Nat} : x ∈ tab L f ↔ ∃ j, j < L ∧ f j = x := by
  unfold tab
  rw [List.mem_map]
  exact ⟨fun ⟨j, h, e⟩ => ⟨j, List.mem_range.mp h, e⟩, fun ⟨j, h, e⟩ => ⟨j, List.mem_range.mpr h, e⟩⟩
theorem Cyc.pred (h : Chg n c) {cy : List Nat} (k : Cyc n c cy) {x : Nat} (hx : x < n) (hm : c.getD x 0 ∈ cy) : x ∈ cy := by
  obtain ⟨st, L, l0, hs, e, rfl⟩ := k.ex
  obtain ⟨j, hj, ej⟩ := mem_tab.mp hm
  have go : ∀ i, c.getD (it c i st) 0 = c.getD x 0 → i < L → x ∈ tab L fun j => it c j st := fun i ei hi => mem_tab.mpr ⟨i, hi, h.at_inj (it_lt h hs i) hx ei⟩
  cases j with
  | succ i => exact go i ej (by omega)
  | zero =>
    have e2 : c.getD (it c (L - 1) st) 0 = it c (L - 1 + 1) st := rfl
    rw [show L - 1 + 1 = L by omega, e] at e2
    exact go (L - 1) (by rw [e2]; exact ej) (by omega)
/-- a walk from st, none of it in the cycles before, that meets what was met: nothing new, or a whole cycle -/
theorem walk_end (h : Chg n c) {st L : Nat} {U : Nat → Prop} (hs : st < n) (up : ∀ x < n, U (c.getD x 0) → U x) (nd : (tab L fun j => it c j st).Nodup) (nu : ∀ x ∈ tab L (fun j => it c j st), ¬ U x)
    (met : U (it c L st) ∨ it c L st ∈ tab L fun j => it c j st) : (L = 0 ∧ U st) ∨ (0 < L ∧ Cyc n c (tab L fun j => it c j st)) := by
  cases L with
  | zero =>
    rcases met with u | m
    · exact .inl ⟨rfl, u⟩
    · obtain ⟨j, hj, _⟩ := mem_tab.mp m
      omega
  | succ l =>
    refine .inr ⟨by omega, ⟨st, l + 1, by omega, hs, ?_, rfl⟩, nd⟩
    rcases met with u | m
    · exact absurd (up _ (it_lt h hs l) u) (nu _ (mem_tab.mpr ⟨l, by omega, rfl⟩))
    · obtain ⟨j, hj, ej⟩ := mem_tab.mp m
      have bk := it_back h hs (show j ≤ l + 1 by omega) ej
      cases j with
      | zero => simpa using bk
      | succ i =>
        exfalso
        have l1 : l + 1 - (i + 1) < (tab (l + 1) fun j => it c j st).length := by rw [tab_len]; omega
        have l0 : 0 < (tab (l + 1) fun j => it c j st).length := by rw [tab_len]; omega
        have a := tab_get (f := fun j => it c j st) (show l + 1 - (i + 1) < l + 1 by omega)
        have b := tab_get (f := fun j => it c j st) (show 0 < l + 1 by omega)
        rw [List.getElem?_eq_getElem l1] at a
        rw [List.getElem?_eq_getElem l0] at b
        have e2 : (tab (l + 1) fun j => it c j st)[l + 1 - (i + 1)] = (tab (l + 1) fun j => it c j st)[0] := by
          rw [Option.some.inj a, Option.some.inj b]
          exact bk
        have := (List.getElem_inj nd).mp e2
        omega
theorem walk_le (h : Chg n c) {st L : Nat} (hs : st < n) (nd : (tab L fun j => it c j st).Nodup) : L ≤ n := by
  have z := List.Nodup.length_le_of_subset (l₂ := List.range n) nd fun x hx => by
    obtain ⟨m, _, rfl⟩ := mem_tab.mp hx
    exact List.mem_range.mpr (it_lt h hs m)
  rw [tab_len, List.length_range] at z
  exact z
/-- what undoes the change -/
def Und (n : Nat) (c e : List Nat) : Prop := e.length = n ∧ ∀ i, i < n → e[c.getD i 0]? = some i
theorem Und.uniq (h : Chg n c) {e e' : List Nat} (a : Und n c e) (b : Und n c e') : e = e' := by
  refine List.ext_getElem? fun x => ?_
  by_cases hx : x < n
  · obtain ⟨i, hi, rfl⟩ := h.mem hx
    rw [a.2 i hi, b.2 i hi]
  · rw [List.getElem?_eq_none (by have := a.1; omega), List.getElem?_eq_none (by have := b.1; omega)]
theorem Und.at (h : Chg n c) {e : List Nat} (a : Und n c e) {i : Nat} (hi : i < n) : e.getD (c.getD i 0) 0 = i := getD_at (a.2 i hi)
theorem Und.chg (h : Chg n c) {e : List Nat} (a : Und n c e) : Chg n e := by
  have lt : ∀ x, x < n → e.getD x 0 < n := fun x hx => by
    obtain ⟨i, hi, rfl⟩ := h.mem hx
    rw [a.at h hi]
    exact hi
  rw [eq_tab a.1]
  refine chg_tab lt fun x hx y hy exy => ?_
  obtain ⟨i, hi, rfl⟩ := h.mem hx
  obtain ⟨j, hj, rfl⟩ := h.mem hy
  rw [a.at h hi, a.at h hj] at exy
  rw [exy]
theorem set_walk {i n : Nat} {c es : List Nat} (h : Chg n c) (hi : i < n) (l : es.length = n) (w : ∀ j, j < i → es[c.getD j 0]? = some j) : ∀ j, j < i + 1 → (es.set (c.getD i 0) i)[c.getD j 0]? = some j := by
  intro j hj
  by_cases e : j = i
  · subst e
    rw [List.getElem?_set_self (by rw [l]; exact h.at_lt hi)]
  · rw [List.getElem?_set_ne (fun z => e (h.at_inj hi (by omega) z).symm)]
    exact w j (by omega)
end
end KC

/-! whether a value is a change -/
namespace KV
open PySem PySem.Spec PyProof.Rows L2 KC
theorem iteP {c : Prop} [Decidable c] {A B : Prop} (h : c) (x : A) : if c then A else B := by rw [if_pos h]; exact x
theorem iteN {c : Prop} [Decidable c] {A B : Prop} (h : ¬ c) (x : B) : if c then A else B := by rw [if_neg h]; exact x
theorem sq_cut {a b : TS} {D : Ends} {σ : L2.St} {H : Hp} (N : L2.St → Hp → Prop) (hs : ∀ Z : L2.St → Hp → Prop, (∀ σ' H', N σ' H' → Z σ' H') → a { nx := Z, rt := D.rt, bk := D.bk, ct := D.ct } σ H) (ht : ∀ σ' H', N σ' H' → b D σ' H') : tSeq a b D σ H := hs _ ht
theorem len_lt {n : Nat} (h : n ≤ 1000) : n < sizeLine := small1000 h
/-- a list of numbers as values -/
abbrev vi (c : List Nat) : List V := c.map fun (n : Nat) => V.int (n : Int)
theorem vi_at {c : List Nat} {i : Nat} {x : V} (h : (vi c)[i]? = some x) : ∃ n, c[i]? = some n ∧ x = .int (n : Int) := by
  rw [List.getElem?_map] at h
  cases e : c[i]? with
  | none => rw [e] at h; cases h
  | some n => rw [e] at h; exact ⟨n, rfl, (Option.some.inj h).symm⟩
theorem vi_get {c : List Nat} {i n : Nat} (h : c[i]? = some n) : (vi c)[i]? = some (V.int (n : Int)) := by
  rw [List.getElem?_map, h]
  rfl
/-! the number of different ints in a tuple -/
def tLenSetT (K : PySem.W.Frag) (ta : TE) : TE := fun σ H Q => ta σ H fun x H1 => ∃ (l : Addr) (ns : List Int), x = .ref l ∧ SqT K H1 l (ns.map V.int) ∧ ns.length ≤ 1000 ∧ ∀ L : List Int, L.Nodup → (∀ k, k ∈ L ↔ k ∈ ns) → Q (.int (L.length : Nat)) H1
theorem pe_lenSetT {X : Cx} {a : Expr} {ta : TE} {p p2 q pos : Pos} (gl : Gl X "len") (ml : X.mg "len" = none) (gs : Gl X "set") (ms : X.mg "set" = none) (ha : PE X a ta) (hc : X.calm = true := by rfl)
    (na : starEach [a] X.env = (false, eval a X.env) :: starEach [] X.env := by rfl) : PE X (.Call (.Name "len" p) [.Call (.Name "set" p2) [a] [] q] [] pos) (tLenSetT X.K ta) := by
  constructor
  intro pins s σ H Q I h
  refine Call_ (ld_blt I gl ml boot_len ?_)
  refine PyProof.Rows.callWith_builtin1 (PyProof.Rows.args_cons ?_ rfl) rfl rfl
  refine Call_ (ld_blt I gs ms PyProof.Rows.boot_set ?_)
  refine PyProof.Rows.callWith_type1 (PyProof.Rows.args_cons (thn (ha.run pins s σ H _ I h) fun v s1 ⟨x, H1, I1, r1, q1⟩ => PyProof.Rows.args_nil ?_) na) na rfl
  obtain ⟨l, ns, ex, hq, small, q1⟩ := q1
  subst ex
  cases r1
  obtain ⟨its, r, pt, _⟩ := I1.tuple hq
  have ia : IntsAre its.toArray.toList ns := ints_of_vals r
  refine call_set_tupI ns (I1.ok.hd hc) (show s1.heap.IsTuple l its.toArray from pt) ia (by unfold scanBound; omega) fun h' tk c R1 hcn k => ?_
  refine PyProof.Rows.args_nil ?_
  obtain ⟨o, es, ep, t, ho, hex, hdt, _, nd, mem, _, hf, hn, _, _⟩ := R1
  have I2 : Inv X pins σ H1 { s1 with heap := h', toks := tk } := I1.kept k
  have le : (es.toList.map keyOf).length = es.size := by rw [List.length_map, Array.length_toList]
  refine call_len_set ho hex hdt hf (by rw [hn] <;> omega) ⟨.int _, H1, I2.tok _, ⟨_, rfl⟩, ?_⟩
  have z := q1 (es.toList.map keyOf) nd fun j => by rw [← mem j, decide_eq_true_eq]
  rw [le] at z
  exact z
/-! values -/
theorem tyx_same {K : PySem.W.Frag} {H H' : Hp} (s : Same H H') {x : V} {t : Value} (h : TyX K H x t) : TyX K H' x t := by
  cases h with
  | base b =>
    refine .base ?_
    cases b with
    | non => exact .non
    | bl y => exact .bl y
    | int i => exact .int i
    | str y => exact .str y
    | flt y => exact .flt y
    | lst e => exact .lst (s _ _ e)
    | frz e => exact .frz (s _ _ e)
    | tup e => exact .tup (s _ _ e)
    | dK e => exact .dK (s _ _ e)
    | dT e => exact .dT (s _ _ e)
    | ins e a b c d f => exact .ins (s _ _ e) a b c d f
  | byt b => exact .byt b
  | set e => exact .set (s _ _ e)
  | kList e c => exact .kList e c
  | kTuple e c => exact .kTuple e c
  | kDict e c => exact .kDict e c
  | fTuple e => exact .fTuple (s _ _ e)
  | fDict e => exact .fDict (s _ _ e)
def isI : V → Bool
  | .int _ => true
  | _ => false
/-- an item: an int, a bool, None -/
def Itm (x : V) : Prop := (∃ i : Int, x = .int i) ∨ (∃ b : Bool, x = .bl b) ∨ x = .non
theorem itm_kit {K : PySem.W.Frag} {H : Hp} {x : V} (h : Itm x) : ∃ (t : Value) (b c : Bool), TyX K H x t ∧ PySem.W.kitOne K t (.type "int") = some b ∧ PySem.W.kitOne K t (.type "bool") = some c ∧ (b && !c) = isI x := by
  rcases h with ⟨i, rfl⟩ | ⟨b, rfl⟩ | rfl
  · exact ⟨.type "int", true, false, .base (.int i), kit_ty (by decide +kernel), kit_ty (by decide +kernel), rfl⟩
  · exact ⟨.type "bool", true, true, .base (.bl b), kit_ty (by decide +kernel), kit_ty (by decide +kernel), rfl⟩
  · exact ⟨.type "NoneType", false, false, .base .non, kit_ty (by decide +kernel), kit_ty (by decide +kernel), rfl⟩
/-- a value: a tuple of items (some), or of another kind (none) -/
def ValT (K : PySem.W.Frag) (H : Hp) (v : V) : Option (List V) → Prop
  | some xs => ∃ a : Addr, v = .ref a ∧ H a = some (.tup xs) ∧ (∀ x ∈ xs, Itm x) ∧ xs.length ≤ 16
  | none => ∃ T : String, TyX K H v (.type T) ∧ (T = "list" ∨ T = "NoneType" ∨ T = "int" ∨ T = "str")
theorem ValT.same {K : PySem.W.Frag} {H H' : Hp} (s : Same H H') {v : V} {ms : Option (List V)} (h : ValT K H v ms) : ValT K H' v ms := by
  cases ms with
  | none =>
    obtain ⟨T, h1, h2⟩ := h
    exact ⟨T, tyx_same s h1, h2⟩
  | some xs =>
    obtain ⟨a, h1, h2, h3, h4⟩ := h
    exact ⟨a, h1, s _ _ h2, h3, h4⟩
theorem val_kit {K : PySem.W.Frag} {H : Hp} {v : V} {ms : Option (List V)} (h : ValT K H v ms) : ∃ t : Value, TyX K H v t ∧ PySem.W.kitOne K t (.type "tuple") = some ms.isSome := by
  cases ms with
  | some xs =>
    obtain ⟨a, rfl, ht, _⟩ := h
    exact ⟨_, .base (.tup ht), (kit_ty (by decide +kernel) : PySem.W.kitOne K (.type "tuple") (.type "tuple") = some true)⟩
  | none =>
    obtain ⟨T, ty, hT⟩ := h
    rcases hT with rfl | rfl | rfl | rfl
    · exact ⟨_, ty, (kit_ty (by decide +kernel) : PySem.W.kitOne K (.type "list") (.type "tuple") = some false)⟩
    · exact ⟨_, ty, (kit_ty (by decide +kernel) : PySem.W.kitOne K (.type "NoneType") (.type "tuple") = some false)⟩
    · exact ⟨_, ty, (kit_ty (by decide +kernel) : PySem.W.kitOne K (.type "int") (.type "tuple") = some false)⟩
    · exact ⟨_, ty, (kit_ty (by decide +kernel) : PySem.W.kitOne K (.type "str") (.type "tuple") = some false)⟩
def belB (b : Int) : V → Bool
  | .int i => decide (0 ≤ i) && decide (i < b)
  | _ => false
def chB (xs : List V) : Bool := decide (1 ≤ xs.length) && (xs.all (belB (xs.length : Int)) && decide xs.Nodup)
def isCh (s : Int) : Option (List V) → Bool
  | none => false
  | some xs => decide ((xs.length : Int) = s) && chB xs
theorem ints_bel {b : Int} : ∀ {xs : List V}, xs.all (belB b) = true → ∃ ns : List Int, xs = ns.map V.int
  | [], _ => ⟨[], rfl⟩
  | x :: r, h => by
    simp only [List.all_cons, Bool.and_eq_true] at h
    obtain ⟨ns, rfl⟩ := ints_bel h.2
    cases x with
    | int i => exact ⟨i :: ns, rfl⟩
    | _ => exact absurd h.1 (by simp [belB])
theorem nodup_ints {ns : List Int} : (ns.map V.int).Nodup ↔ ns.Nodup := by
  unfold List.Nodup
  rw [List.pairwise_map]
  constructor
  · exact fun h => h.imp fun z e => z (by rw [e])
  · exact fun h => h.imp fun z e => z (V.int.inj e)
theorem len_nodup {L ns : List Int} (h : L.Nodup) (m : ∀ k, k ∈ L ↔ k ∈ ns) : L.length = ns.length ↔ ns.Nodup := by
  constructor
  · intro e
    apply Classical.byContradiction
    intro no
    have key : ∀ ns : List Int, ¬ ns.Nodup → ∃ ms : List Int, ms.length < ns.length ∧ ∀ k ∈ ns, k ∈ ms := by
      intro ns
      induction ns with
      | nil => exact fun z => absurd List.nodup_nil z
      | cons a r ih =>
        intro z
        by_cases ha : a ∈ r
        · exact ⟨r, by simp, fun k hk => by rcases List.mem_cons.mp hk with rfl | hk <;> assumption⟩
        · have : ¬ r.Nodup := fun y => z (List.nodup_cons.mpr ⟨ha, y⟩)
          obtain ⟨ms, l, hm⟩ := ih this
          exact ⟨a :: ms, by simp only [List.length_cons]; omega, fun k hk => by
            rcases List.mem_cons.mp hk with rfl | hk
            · simp
            · exact List.mem_cons_of_mem _ (hm k hk)⟩
    obtain ⟨ms, l, hm⟩ := key ns no
    have := h.length_le_of_subset (l₂ := ms) fun k hk => hm k ((m k).mp hk)
    omega
  · intro nd
    exact ((List.perm_ext_iff_of_nodup h nd).mpr m).length_eq
section
variable {P : Program} {w : World} {K : PySem.W.Frag} {mg : Str → Option Value} {base : Heap}
def spIsInt : Sp := fun vs H Q _ => ∃ v : V, vs = [v] ∧ Itm v ∧ Q (.bl (isI v)) H
theorem sc2 : FnScope ["value"] ["value"] (defScope (top 5)) := ⟨rfl, rfl, rfl, by decide +kernel, rfl, by decide +kernel, by decide +kernel⟩
theorem ok_isInt {f : Addr} {fd : FuncData} (B : Bl mg) (F : Fun K "is_integer" "is_integer" (top 5) f fd) : FnOk P w K mg base CX0 1 f fd ["value"] spIsInt := by
  refine F.ok sc2 (fun vs H Q E h => ?_) (fun cdv A outer s H vs Q E hr h => ⟨_,
    pss_one (ps_ret (pe_and (pe_callB call_isi (by rfl) B.isi (by decide +kernel) (pa_cons (pv 0) (pa_cons (pe_bltn (v := .ty "int") (by rfl) B.int PyProof.Rows.boot_int rfl) pa_nil)))
      (pe_one (pe_not (pe_callB call_isi (by rfl) B.isi (by decide +kernel) (pa_cons (pv 0) (pa_cons (pe_bltn (v := .ty "bool") (by rfl) B.bool (by decide +kernel) rfl) pa_nil))))))), ?_⟩)
  · obtain ⟨v, rfl, _⟩ := h
    rfl
  obtain ⟨v, rfl, hv, q⟩ := h
  obtain ⟨t, b, c, ty, h1, h2, e⟩ := itm_kit (K := K) (H := H) hv
  rw [← e] at q
  refine ⟨_, rfl, v, _, t, _, b, rfl, .ty _, ty, h1, b, rfl, ?_⟩
  cases b with
  | false => exact q
  | true => exact ⟨_, rfl, v, _, t, _, c, rfl, .ty _, ty, h2, c, rfl, q⟩
def spBelow : Sp := fun vs H Q _ => ∃ (v : V) (b : Int), vs = [v, .int b] ∧ Itm v ∧ Q (.bl (belB b v)) H
theorem sc3 : FnScope ["value", "bound"] ["value", "bound"] (defScope (top 6)) := ⟨rfl, rfl, rfl, by decide +kernel, rfl, by decide +kernel, by decide +kernel⟩
theorem ok_below {f : Addr} {fd : FuncData} (C : Cal P w K mg base CX0 1 "is_integer" ["value"] spIsInt) (F : Fun K "is_below" "is_below" (top 6) f fd) : FnOk P w K mg base CX0 2 f fd ["value", "bound"] spBelow := by
  refine F.ok sc3 (fun vs H Q E h => ?_) (fun cdv A outer s H vs Q E hr h => ⟨_,
    pss_one (ps_ret (pe_and (pe_cal (X := L2.Cx.nox _) C hr (by decide) (pa_cons (pv 0) pa_nil)) (pe_one (pe_chain op_le op_lt pe_int (pv 0) (pv 1))))), ?_⟩)
  · obtain ⟨v, b, rfl, _⟩ := h
    rfl
  obtain ⟨v, b, rfl, hv, q⟩ := h
  refine ⟨_, rfl, v, rfl, hv, _, rfl, ?_⟩
  rcases hv with ⟨i, rfl⟩ | ⟨x, rfl⟩ | rfl
  · refine iteT ⟨_, rfl, _, _, rfl, rfl, _, rfl, ?_⟩
    have e : belB b (.int i) = (decide (0 ≤ i) && decide (i < b)) := rfl
    rw [e] at q
    cases z : decide (0 ≤ i) with
    | true =>
      rw [z] at q
      exact iteT ⟨_, rfl, _, _, rfl, rfl, q⟩
    | false =>
      rw [z] at q
      exact iteF q
  · exact iteF q
  · exact iteF q
end
end KV

/-! is_change and what refuses by it -/
namespace KV
open PySem PySem.Spec PyProof.Rows L2 KC
section
variable {X : Cx} {k j : Nat} {x : Str} {ps : List Str} {sp : Sp} {p pos : Pos} {e : Expr} {es : List Expr} {t : TA}
/-- a call of a def that may raise, from one that may -/
theorem pe_calX {W : WX} {E : XK} (C : Cal X.prog X.w X.K X.mg X.base (L2.CX X.prog X.w) k x ps sp) (hr : Room j X.A) (hj : k ≤ j) (tk : Takes X W) (hW : ∀ cls d σ H, E cls d H → W cls d σ H) (ha : PA X (e :: es) t)
    (hg : Gl X x := by rfl) (hdb : (x == ("__debug__" : Str)) = false := by decide)
    (he : starEach (e :: es) X.env = (false, eval e X.env) :: starEach es X.env := by rfl)
    (hpl : (backTo pos (starEach es X.env)).any (·.1) = false := by rfl) :
    PE X (.Call (.Name x p) (e :: es) [] pos) (tCall sp [] E t) := by
  obtain ⟨f, fd, F, h1, h2, h3⟩ := C
  exact pe_call F (hr.mono hj) hg h1 h2 h3 .nil (passes_call tk hW) ha hdb he hpl
end
theorem Same.mk1 {H : Hp} {a : Addr} {o : HO} (h : H a = none) : Same H (L2.upd H a o) := Same.new h
/-- the error InvalidChange(0) -/
def Bad (C : Addr) (H : Hp) (E : XK) : Prop := ∀ (H' : Hp) (d : Addr), Same H H' → H' d = none → E (.ref C) (some d) (L2.upd H' d (.xd [(("at" : Str), .int 0)]))
theorem Bad.same {C : Addr} {H H' : Hp} {E : XK} (s : Same H H') (b : Bad C H E) : Bad C H' E := fun H2 d t => b H2 d (s.trans t)
section
variable {P : Program} {w : World} {K : PySem.W.Frag} {mg : Str → Option Value} {base : Heap} {C fI : Addr}
def spIsCh (K : PySem.W.Frag) : Sp := fun vs H Q _ => ∃ (s : Int) (v : V) (ms : Option (List V)), vs = [.int s, v] ∧ ValT K H v ms ∧ ∀ H', Same H H' → Q (.bl (isCh s ms)) H'
theorem sc8 : FnScope ["states", "value", "state"] ["states", "value"] (defScope (top 8)) := ⟨rfl, rfl, rfl, by decide +kernel, rfl, by decide +kernel, by decide +kernel⟩
theorem ok_isCh {f : Addr} {fd : FuncData} (B : Bl mg) (CB : Cal P w K mg base CX0 2 "is_below" ["value", "bound"] spBelow) (F : Fun K "is_change" "is_change" (top 8) f fd) : FnOk P w K mg base CX0 3 f fd ["states", "value"] (spIsCh K) := by
  refine F.ok sc8 (fun vs H Q E h => ?_) (fun cdv A outer s H vs Q E hr h => ⟨_,
    pss_cons (ps_if (PW.pt (pw_or (pt_not (pt_val (pe_callB call_isi (by rfl) B.isi (by decide +kernel) (pa_cons (pv 1) (pa_cons (pe_bltn (v := .ty "tuple") (by rfl) B.tuple (by decide +kernel) rfl) pa_nil)))))
      (pw_or (pt_cmpR op_ne (pe_callB call_len_seq (by rfl) B.len PySem.boot_len (pa_cons (pv 1) pa_nil)) (pv 0) (nomark _)) (pw_or1 (pt_cmpR op_lt (pv 0) pe_int (nomark _)))))) (pss_one (ps_ret pe_bl)) pss_nil)
    (pss_cons (ps_if (pt_not (pt_val (pe_callB (cr_all rfl) (by rfl) B.all (by decide +kernel) (pa_cons
      (pe_lc (own := [("state", 2)]) (g := gName 2) (tt := tYes) rfl sc8.nd (pi_tup (pv 1)) (blkOk_by (N := ["states", "value", "state"]) (sc := defScope (top 8)) (by decide +kernel)) (fun _ _ _ _ _ => pg_name (i := 2) sc8.nd rfl (Or.inl rfl)) (fun _ _ _ _ _ => pts_nil)
        (fun _ _ _ _ _ => pe_cal CB hr (by decide) (pa_cons (pv 2) (pa_cons (pv 0) pa_nil)))) pa_nil)))) (pss_one (ps_ret pe_bl)) pss_nil)
    (pss_one (ps_ret (pe_cmpR op_eq (pe_lenSetT (by rfl) B.len (by rfl) B.set (pv 1)) (pv 0) (nomark _))))), ?_⟩)
  · obtain ⟨s, v, ms, rfl, _⟩ := h
    rfl
  obtain ⟨s0, v, ms, rfl, hv, q⟩ := h
  obtain ⟨t, ty, hk⟩ := val_kit hv
  refine ⟨_, rfl, _, _, t, _, _, rfl, .ty _, ty, hk, _, rfl, ?_⟩
  cases ms with
  | none => exact iteT (iteT (q _ (Same.refl H)))
  | some xs =>
    obtain ⟨a, rfl, hS, hI, hl⟩ := hv
    refine iteF ⟨_, rfl, a, xs, rfl, .inr (SqT.of hS), _, rfl, rfl, _, rfl, ?_⟩
    by_cases e1 : ¬ (xs.length : Int) = s0
    · have e : isCh s0 (some xs) = false := by
        show (decide ((xs.length : Int) = s0) && chB xs) = false
        rw [decide_eq_false e1, Bool.false_and]
      rw [e] at q
      exact iteP (by simp [e1]) (iteT (q _ (Same.refl H)))
    have e1 := Decidable.not_not.mp e1
    subst e1
    have e : isCh (xs.length : Int) (some xs) = chB xs := by
      show (decide ((xs.length : Int) = (xs.length : Int)) && chB xs) = chB xs
      rw [decide_eq_true rfl, Bool.true_and]
    rw [e] at q
    refine iteN (by simp) ⟨_, rfl, _, _, rfl, rfl, _, rfl, ?_⟩
    by_cases e2 : ¬ 1 ≤ xs.length
    · have e3 : chB xs = false := by
        unfold chB
        rw [decide_eq_false e2, Bool.false_and]
      rw [e3] at q
      exact iteP (by simp only [decide_eq_true_eq]; omega) (q _ (Same.refl H))
    have e2 := Decidable.not_not.mp e2
    refine iteN (by simp only [decide_eq_true_eq]; omega) ?_
    refine ⟨_, rfl, a, rfl, ⟨_, SqT.of hS⟩, fun D hD => lc_tup (xs := xs) (fun i H' => Same H H' ∧ H' D = some (.lst ((xs.take i).map fun x => V.bl (belB (xs.length : Int) x)))) ⟨Same.mk1 hD, upd_same⟩ (fun i H' _ p => SqT.of (p.1 _ _ hS)) ?_ ?_⟩
    · rintro i x H' hx ⟨p1, p2⟩
      refine ⟨rfl, _, rfl, _, rfl, x, _, rfl, hI x (List.mem_of_getElem? hx), _, p2, len_lt (by rw [List.length_map, List.length_take]; omega), Same.upd p1 hD, ?_⟩
      rw [upd_same, List.take_succ, hx, List.map_append]
      rfl
    · rintro H' ⟨p1, p2⟩
      rw [List.take_length] at p2
      refine ⟨D, xs.map (belB (xs.length : Int)), rfl, SqL.of (by rw [p2, List.map_map]; rfl), _, rfl, ?_⟩
      have ea : (xs.map (belB (xs.length : Int))).all id = xs.all (belB (xs.length : Int)) := by
        rw [List.all_map]
        rfl
      rw [ea]
      cases e4 : xs.all (belB (xs.length : Int)) with
      | false =>
        have e3 : chB xs = false := by
          unfold chB
          rw [e4, Bool.false_and, Bool.and_false]
        rw [e3] at q
        exact iteT (q _ p1)
      | true =>
        obtain ⟨ns, rfl⟩ := ints_bel e4
        have e3 : chB (ns.map V.int) = decide ns.Nodup := by
          unfold chB
          rw [e4, Bool.true_and, decide_eq_true e2, Bool.true_and, decide_eq_decide]
          exact nodup_ints
        rw [e3] at q
        refine iteF ⟨_, rfl, a, ns, rfl, SqT.of (p1 _ _ hS), by rw [List.length_map] at hl; omega, fun L nd mem => ⟨_, rfl, rfl, ?_⟩⟩
        have e5 : decide (V.int ((L.length : Nat) : Int) = V.int (((ns.map V.int).length : Nat) : Int)) = decide ns.Nodup := by
          rw [decide_eq_decide, V.int.injEq, List.length_map, ← len_nodup nd mem]
          omega
        rw [e5]
        exact q _ p1
/-- checked_change(states, value) -/
def spChk (K : PySem.W.Frag) (C : Addr) : Sp := fun vs H Q E => ∃ (s : Int) (v : V) (ms : Option (List V)), vs = [.int s, v] ∧ ValT K H v ms ∧ (isCh s ms = true → ∀ H', Same H H' → Q v H') ∧ (isCh s ms = false → Bad C H E)
theorem sc9 : FnScope ["states", "value"] ["states", "value"] (defScope (top 9)) := ⟨rfl, rfl, rfl, by decide +kernel, rfl, by decide +kernel, by decide +kernel⟩
theorem ok_chk {f : Addr} {fd : FuncData} (T : PySem.LowX.LowTxt K mg "InvalidChange" "InvalidChange.__init__" C fI) (CI : Cal P w K mg base CX0 3 "is_change" ["states", "value"] (spIsCh K)) (F : Fun K "checked_change" "checked_change" (top 9) f fd) :
    FnOk P w K mg base (L2.CX P w) 4 f fd ["states", "value"] (spChk K C) := by
  refine F.okX sc9 (fun vs H Q E h => ?_) (fun cdv A outer s H vs Q E hr h => ⟨_, pss_cons (ps_if (pt_not (pt_val (by exact (pe_cal CI hr (by decide) (pa_cons (pv 0) (pa_cons (pv 1) pa_nil))))))
    (pss_one (ps_raiseLow rfl T hr (takes_of rfl rfl rfl rfl) (by exact (pa_cons pe_int pa_nil)))) pss_nil) (pss_one (ps_ret (pv 1))), ?_⟩)
  · obtain ⟨s, v, ms, rfl, _⟩ := h
    rfl
  obtain ⟨s0, v, ms, rfl, hv, h1, h2⟩ := h
  refine ⟨_, rfl, _, rfl, s0, v, ms, rfl, hv, fun H' s1 => ⟨_, rfl, ?_⟩⟩
  cases e : isCh s0 ms with
  | true => exact iteF ⟨_, rfl, h1 e _ s1⟩
  | false => exact iteT ⟨_, rfl, fun d hd => h2 e _ d s1 hd⟩
/-- whether it is a change of its own number of states -/
def isC : Option (List V) → Bool
  | none => false
  | some xs => chB xs
/-- _check_alone(value) -/
def spAlone (K : PySem.W.Frag) (C : Addr) : Sp := fun vs H Q E => ∃ (v : V) (ms : Option (List V)), vs = [v] ∧ ValT K H v ms ∧ (isC ms = true → ∀ H', Same H H' → Q .non H') ∧ (isC ms = false → Bad C H E)
theorem sc10 : FnScope ["value"] ["value"] (defScope (top 10)) := ⟨rfl, rfl, rfl, by decide +kernel, rfl, by decide +kernel, by decide +kernel⟩
theorem ok_alone {f : Addr} {fd : FuncData} (B : Bl mg) (T : PySem.LowX.LowTxt K mg "InvalidChange" "InvalidChange.__init__" C fI) (CK : Cal P w K mg base (L2.CX P w) 4 "checked_change" ["states", "value"] (spChk K C)) (F : Fun K "_check_alone" "_check_alone" (top 10) f fd) :
    FnOk P w K mg base (L2.CX P w) 5 f fd ["value"] (spAlone K C) := by
  refine F.okX sc10 (fun vs H Q E h => ?_) (fun cdv A outer s H vs Q E hr h => ⟨_,
    pss_cons (ps_if (pt_not (pt_val (pe_callB call_isi (by rfl) B.isi (by decide +kernel) (pa_cons (pv 0) (pa_cons (pe_bltn (v := .ty "tuple") (by rfl) B.tuple (by decide +kernel) rfl) pa_nil)))))
      (pss_one (ps_raiseLow rfl T hr (takes_of rfl rfl rfl rfl) (by exact (pa_cons pe_int pa_nil)))) pss_nil)
    (pss_one (ps_expr (by exact (pe_calX CK hr (by decide) (takes_of rfl rfl rfl rfl) (fun _ _ _ _ z => z) (pa_cons (pe_callB call_len_seq (by rfl) B.len PySem.boot_len (pa_cons (pv 0) pa_nil)) (pa_cons (pv 0) pa_nil)))))), ?_⟩)
  · obtain ⟨v, ms, rfl, _⟩ := h
    rfl
  obtain ⟨v, ms, rfl, hv, h1, h2⟩ := h
  obtain ⟨t, ty, hk⟩ := val_kit hv
  refine ⟨_, rfl, _, _, t, _, _, rfl, .ty _, ty, hk, _, rfl, ?_⟩
  cases ms with
  | none => exact iteT ⟨_, rfl, fun d hd => h2 rfl _ d (Same.refl H) hd⟩
  | some xs =>
    have hv2 := hv
    obtain ⟨a, rfl, hS, hI, hl⟩ := hv
    have e : isCh ((xs.length : Nat) : Int) (some xs) = isC (some xs) := by
      show (decide ((xs.length : Int) = (xs.length : Int)) && chB xs) = chB xs
      rw [decide_eq_true rfl, Bool.true_and]
    refine iteF ⟨_, rfl, a, xs, rfl, .inr (SqT.of hS), _, rfl, _, _, some xs, rfl, hv2, ?_, ?_⟩
    · rw [e]
      exact fun z H' s1 => h1 z H' s1
    · rw [e]
      exact h2
/-- _check_two(one, other) -/
def spTwo (K : PySem.W.Frag) (C : Addr) : Sp := fun vs H Q E => ∃ (v u : V) (ms us : Option (List V)), vs = [v, u] ∧ ValT K H v ms ∧ ValT K H u us ∧
  ((isC ms = false ∧ Bad C H E) ∨ ∃ xs, ms = some xs ∧ isC ms = true ∧ (isCh ((xs.length : Nat) : Int) us = true → ∀ H', Same H H' → Q .non H') ∧ (isCh ((xs.length : Nat) : Int) us = false → Bad C H E))
theorem sc11 : FnScope ["one", "other"] ["one", "other"] (defScope (top 11)) := ⟨rfl, rfl, rfl, by decide +kernel, rfl, by decide +kernel, by decide +kernel⟩
theorem ok_two {f : Addr} {fd : FuncData} (B : Bl mg) (CA : Cal P w K mg base (L2.CX P w) 5 "_check_alone" ["value"] (spAlone K C)) (CK : Cal P w K mg base (L2.CX P w) 4 "checked_change" ["states", "value"] (spChk K C)) (F : Fun K "_check_two" "_check_two" (top 11) f fd) :
    FnOk P w K mg base (L2.CX P w) 6 f fd ["one", "other"] (spTwo K C) := by
  refine F.okX sc11 (fun vs H Q E h => ?_) (fun cdv A outer s H vs Q E hr h => ⟨_,
    pss_cons (ps_expr (by exact (pe_calX CA hr (by decide) (takes_of rfl rfl rfl rfl) (fun _ _ _ _ z => z) (pa_cons (pv 0) pa_nil))))
    (pss_one (ps_expr (by exact (pe_calX CK hr (by decide) (takes_of rfl rfl rfl rfl) (fun _ _ _ _ z => z) (pa_cons (pe_callB call_len_seq (by rfl) B.len PySem.boot_len (pa_cons (pv 0) pa_nil)) (pa_cons (pv 1) pa_nil)))))), ?_⟩)
  · obtain ⟨v, u, ms, us, rfl, _⟩ := h
    rfl
  obtain ⟨v, u, ms, us, rfl, hv, hu, h⟩ := h
  rcases h with ⟨e, b⟩ | ⟨xs, rfl, e, q1, q2⟩
  · exact ⟨_, rfl, v, ms, rfl, hv, fun z => absurd (e.symm.trans z) (by decide), fun _ => b⟩
  · refine ⟨_, rfl, v, some xs, rfl, hv, fun _ H' s1 => ?_, fun z => absurd (e.symm.trans z) (by decide)⟩
    obtain ⟨a, rfl, hS, hI, hl⟩ := hv
    exact ⟨_, rfl, a, xs, rfl, .inr (SqT.of (s1 _ _ hS)), _, rfl, _, _, us, rfl, hu.same s1, fun z H2 s2 => q1 z H2 (s1.trans s2), fun z => (q2 z).same s1⟩
end
end KV

/-! enumerate(tuple) in a for -/
namespace KV
open PySem PySem.Spec PyProof.Rows L2
open AutoSeq1 (wpAny_loadPart')
/-- what stands behind enumerate(t) -/
def enumHeap (hp : Heap) (a : Addr) : Heap :=
  (hp.push { cls := .type "tuple_iterator", data := .fields #[.ref a, .int 0 0] }).push { cls := .type "enumerate", data := .fields #[.none, .bool false, .ref hp.objs.size, rawInt 0, .none, .none] }
theorem enum_newT (a : Addr) (xs : Array Value) (k : Nat) (dd : Option Addr) (sl : Array (Option Value)) :
    Meets (Builtin.«enumerate.__new__» ⟨[.type "enumerate", .ref a], []⟩) (fun _ R st => st.heap.get? a = some { cls := .type "tuple", dict := dd, data := .seq xs k, slots := sl } ∧
      R (.ok (.ret (.ref (st.heap.push { cls := .type "tuple_iterator", data := .fields #[.ref a, .int 0 0] }).objs.size))) { st with heap := enumHeap st.heap a }) :=
  .of_wp fun P w B R st z => by
    obtain ⟨hp, gn, dr, tk, os⟩ := st; obtain ⟨ho, z⟩ := z
    have hsub := sub_enumerate
    have hT : Heap.IsTuple (Shared.heap ⟨hp, gn, dr, tk, os⟩) a xs := ⟨_, ho, rfl, k, rfl⟩
    wp_walk using wpAny_loadPart' ho
    refine wpAny_stack_any fun stk => wpAny_pure ?_
    split
    · rename_i c _ _ _ _ _
      cases (c == Value.type "enumerate")
      · wp_walk using wpAny_loadPart' ho, wpAny_pyIter_tuple hT
        exact ⟨_, rfl, z⟩
      · wp_walk using wpAny_loadPart' ho, wpAny_pyIter_tuple hT
        exact ⟨_, rfl, z⟩
    · wp_walk using wpAny_loadPart' ho, wpAny_pyIter_tuple hT
      exact ⟨_, rfl, z⟩
theorem call_enumT {P : Program} {w : World} {B : Around} {E : Value → Shared → Prop} {st : Shared} {a : Addr} {xs : Array Value} {Q : Value → Shared → Prop} (hT : IsTup st.heap a xs)
    (z : IsEnum (enumHeap st.heap a) (st.heap.objs.size + 1) st.heap.objs.size 0 .none → (enumHeap st.heap a).IsTupleIter st.heap.objs.size a 0 →
      (∀ b o, st.heap.get? b = some o → (enumHeap st.heap a).get? b = some o) → Q (.ref (st.heap.objs.size + 1)) { st with heap := enumHeap st.heap a }) :
    wpAny (model P w) B (call (.type "enumerate") [.ref a]) Q E st := by
  obtain ⟨⟨c, dd, dt, sl⟩, ho, hc, k, hd⟩ := hT
  have hc2 : c = .type "tuple" := hc
  have hd2 : dt = .seq xs k := hd
  subst hc2 hd2
  refine callType_new F.called_enumerate (by decide) (F.typeCall_enumerate_1 _) (F.newCall_enumerate_1 _) (fun obj => F.args_object_init_2 obj _) F.entry_enumerate_new (enum_newT a xs k dd sl) ⟨ho, ?_⟩
  have one : (st.heap.push { cls := .type "tuple_iterator", data := .fields #[.ref a, .int 0 0] }).objs.size = st.heap.objs.size + 1 := Heap.size_push ..
  show _ ∧ _
  rw [one]
  have en : IsEnum (enumHeap st.heap a) (st.heap.objs.size + 1) st.heap.objs.size 0 .none := by
    have q := Heap.get?_push_size (st.heap.push { cls := .type "tuple_iterator", data := .fields #[.ref a, .int 0 0] })
      (o := { cls := .type "enumerate", data := .fields #[.none, .bool false, .ref st.heap.objs.size, rawInt 0, .none, .none] }) rfl
    rw [one] at q
    exact q
  exact ⟨⟨_, en, rfl⟩, z en ⟨_, Heap.get?_push_of_some _ (Heap.get?_push_size _ rfl), rfl, rfl⟩ fun b o x => Heap.get?_push_of_some _ (Heap.get?_push_of_some _ x)⟩
/-- each item of the tuple at a, in a new pair -/
def Iet (K : PySem.W.Frag) (a : Addr) : It :=
  ⟨fun i H => ∃ (xs : List V) (x : V), SqT K H a xs ∧ xs[i]? = some x,
   fun i H v H' => ∃ T x, v = .ref T ∧ H T = none ∧ H' = upd H T (.tup [.int (i : Nat), x]) ∧ ∀ xs, SqT K H a xs → xs[i]? = some x,
   fun i H => ∃ xs : List V, SqT K H a xs ∧ xs.length ≤ i⟩
theorem turn_enumT {P : Program} {w : World} {K : PySem.W.Frag} {elts : List Expr} {kk : Nat} {tpos : Pos} (a e it : Addr) (hai : a ≠ it) (hea : e ≠ a) :
    Turn P w K (.Tuple elts kk tpos) (Iet K a) [e, it] e (fun i h => (∃ old, IsEnum h e it ((i : Nat) : Int) old) ∧ h.IsTupleIter it a i ∧ e ≠ it) where
  mem := by simp
  self := fun B i st Q E q z => let ⟨⟨_, he⟩, _⟩ := q; wpAny_pyIter_enum he z
  obj := fun i h q b hb => by
    obtain ⟨⟨old, he⟩, ⟨o, ho, hc, hd⟩, _⟩ := q
    rcases (show b = e ∨ b = it by simpa using hb) with z | z
    · rw [z]
      exact ⟨_, he, fun v y => nomatch y⟩
    · rw [z]
      exact ⟨o, ho, fun v y => by rw [hd] at y; cases y⟩
  keep := fun i h h' q k => let ⟨⟨old, he⟩, hi, hne⟩ := q; ⟨⟨old, k e (by simp) _ he⟩, hi.at fun o y => k it (by simp) o y, hne⟩
  item := by
    intro X hP hw hK hc i pins st σ H E I hf q hg
    subst hP hw hK
    obtain ⟨⟨old, he⟩, hit, hne⟩ := q
    obtain ⟨xs, x, hq, hx⟩ := hg
    obtain ⟨its, rv, p, hz⟩ := I.tuple hq
    obtain ⟨u, hu, ru⟩ := rv.get hx
    have el : e < st.heap.objs.size := Heap.lt_size he
    have il : it < st.heap.objs.size := by obtain ⟨_, y, _⟩ := hit; exact Heap.lt_size y
    have D := Draws.tuple (prog := X.prog) (w := X.w) (A := X.A.in1) (by exact I.ok.hd hc) it a hai its.toArray
    have hlt : i < its.toArray.size := by
      obtain ⟨y, _⟩ := List.getElem?_eq_some_iff.mp hu
      simpa using y
    refine wpAny_pyNext_enum_itemD D he ⟨hit, p⟩ hlt hne (by simp; exact ⟨hne, hea⟩) fun v h' tk hv ho hst hT hsz hk => ?_
    have huv : v = u := by
      have y : its.toArray[i]? = some v := hv
      have y2 : its.toArray[i]? = some u := by simpa using hu
      rw [y2] at y
      exact (Option.some.inj y).symm
    subst huv
    refine ⟨_, rfl, wpAny_letOwnedTupleGo_enum (s := { st with heap := h', toks := tk + 1 }) ho fun h2 he2 sb => ?_⟩
    have hT2 : h2.get? st.heap.objs.size = some { cls := .type "tuple", data := .seq #[.int i tk, v] } := (sb.2 _ (Nat.ne_of_gt el)).trans hT
    have new : ObjOk X.prog X.w (upd H st.heap.objs.size (.tup [.int (i : Nat), x])) h2 st.heap.objs.size (.tup [.int (i : Nat), x]) :=
      ⟨by show 2 ≤ sizeLine; decide, [.int i tk, v], .cons ⟨_, rfl⟩ (.cons ru .nil), ⟨_, hT2, rfl, _, rfl⟩⟩
    have I2 : Inv X pins σ (upd H st.heap.objs.size (.tup [.int (i : Nat), x])) { st with heap := h2, toks := tk + 1 } :=
      I.turnedNew (ch := [e, it]) (fun b ob hb y => (sb.2 b (fun z => hb (by simp [z]))).trans (hk b ob (fun z => hb (by simp [z])) (fun z => hb (by simp [z])) y)) hf (Nat.le_refl _) new
    refine ⟨.ref st.heap.objs.size, _, I2, rfl, ⟨_, x, rfl, I.hok.fresh (Nat.le_refl _), rfl, fun ys hy => by rw [I.tuple_inj hy hq]; exact hx⟩, ⟨⟨v, ?_⟩, hst.1.at fun o y => (sb.2 it (Ne.symm hne)).trans y, hne⟩, fun b hb => ?_⟩
    · have e1 : ((i + 1 : Nat) : Int) = (i : Int) + 1 := by omega
      rw [e1]
      exact he2
    · have lt : b < st.heap.objs.size := by
        rcases (show b = e ∨ b = it by simpa using hb) with z | z
        · rw [z]
          exact el
        · rw [z]
          exact il
      rw [upd_ne (Nat.ne_of_lt lt)]
      exact (hf b hb).1
  done := by
    intro X hP hw hK hc i pins st σ H E I hf q hg
    subst hP hw hK
    obtain ⟨⟨old, he⟩, hit, hne⟩ := q
    obtain ⟨xs, hq, hx⟩ := hg
    obtain ⟨its, rv, p, hz⟩ := I.tuple hq
    obtain ⟨f0, f1, f2, f3, f4, f5⟩ := hf it (by simp)
    have hl := rv.length
    unfold pyNext
    have hT : st.TypeIs (.ref e) "enumerate" := ⟨_, he, rfl⟩
    refine wpAny_bind (wpAny_attempt (wpAny_callSpecial?_slot (name := Str.ofString "__next__") hT F.slot_enumerate_next
      (wpAny_call_entry F.slot_enumerate_next hT F.entry_enumerate_next ?_ (F.args_enumerate_next_1 _))))
    show wpAny _ _ (field (.ref e) 2 >>= _) _ _ _
    refine wpAny_bind (wpAny_field he rfl (x := .ref it) rfl ?_)
    refine wpAny_bind (wpAny_nextOf_tuple_end (I.ok.hd hc) hit (show st.heap.IsTuple a its.toArray from p) (by simp; omega) fun h' x he' hx' => ?_)
    obtain ⟨o, ho, hc'⟩ := hx'
    refine wpAny_bind (wpAny_isInstance (T := "StopIteration") (b := true) ⟨o, ho, hc'⟩ isSubtype_stop ?_)
    exact wpAny_pure ⟨rfl, I.turned (t' := st.toks) (fun b o hb y => he' b o hb y) f0 f1 f3 f4 f5⟩
def iEnumT (K : PySem.W.Frag) (ta : TA) : TI := fun σ H R => ta σ H fun vs H1 => ∃ a xs, vs = [.ref a] ∧ SqT K H1 a xs ∧ R (Iet K a) H1
theorem pi_enumT {X : Cx} {e : Expr} {ta : TA} {p pos tpos : Pos} {elts : List Expr} {kk : Nat} (hg : Gl X "enumerate") (hm : X.mg "enumerate" = none) (ha : PA X [e] ta) (hs : starEach [e] X.env = [(false, eval e X.env)] := by rfl) :
    PI X (.Tuple elts kk tpos) (.Call (.Name "enumerate" p) [e] [] pos) (iEnumT X.K ta) := by
  constructor
  intro pins st σ H R I h
  refine Call_ (ld_blt I hg hm boot_enumerate (PyProof.Rows.callWith_type1 (thn (ha.run pos pins st σ H _ I h) fun us s1 ⟨vs, H1, I1, r1, q1⟩ => ?_) hs rfl))
  obtain ⟨a, xs, ex, hq, q⟩ := q1
  subst ex
  cases r1 with
  | cons r rr =>
    cases rr
    cases r
    obtain ⟨its, rv, p', hz⟩ := I1.tuple hq
    refine call_enumT p' fun en hit hk => wpAny_pyIter_enum en ?_
    have al : a < s1.heap.objs.size := p'.lt
    refine ⟨s1.heap.objs.size + 1, [s1.heap.objs.size + 1, s1.heap.objs.size], _, _, H1, rfl, I1.kept (t' := s1.toks) hk, turn_enumT a (s1.heap.objs.size + 1) s1.heap.objs.size (Nat.ne_of_lt al) (Nat.ne_of_gt (Nat.lt_succ_of_lt al)), ⟨⟨.none, en⟩, hit, Nat.succ_ne_self _⟩, fun b hb => ?_, q⟩
    have le : s1.heap.objs.size ≤ b := by
      rcases (show b = s1.heap.objs.size + 1 ∨ b = s1.heap.objs.size by simpa using hb) with z | z
      · rw [z]
        exact Nat.le_succ _
      · rw [z]
        exact Nat.le_refl _
    exact I1.fpOk le (I1.hok.fresh le)
/-- the loop -/
theorem for_enumT {K : PySem.W.Frag} {a : Addr} {xs : List V} {g : TG} {tb : TS} {D : Ends} {σ : L2.St} {H : Hp} (Pv : Nat → L2.St → Hp → Prop) (h0 : Pv 0 σ H) (hl : ∀ i σ H, i ≤ xs.length → Pv i σ H → SqT K H a xs)
    (hs : ∀ i x σ H T, xs[i]? = some x → Pv i σ H → H T = none → g (.ref T) σ (upd H T (.tup [.int (i : Nat), x])) fun σ2 H2 => tb { D with nx := Pv (i + 1), ct := Pv (i + 1), bk := D.nx } σ2 H2) (hd : ∀ σ H, Pv xs.length σ H → D.nx σ H) :
    ∃ W : Nat → Nat → L2.St → Hp → Prop, (∃ m, W 0 m σ H) ∧ ∀ i m σ H, W i m σ H → ((Iet K a).stop i H ∧ D.nx σ H) ∨ ((Iet K a).go i H ∧ ∃ N : L2.St → Hp → Prop, (∀ σ' H', N σ' H' → ∃ m', m' < m ∧ W (i + 1) m' σ' H') ∧
      ∀ x H', (Iet K a).yld i H x H' → g x σ H' fun σ2 H2 => tb { D with nx := N, ct := N, bk := D.nx } σ2 H2) := by
  refine ⟨fun i m σ H => m = xs.length - i ∧ i ≤ xs.length ∧ Pv i σ H, ⟨xs.length, by simp, Nat.zero_le _, h0⟩, ?_⟩
  intro i m σ H w
  obtain ⟨em, hi, p⟩ := w
  subst em
  have q := hl i σ H hi p
  by_cases lt : i < xs.length
  · refine .inr ⟨⟨xs, xs[i], q, by simp [lt]⟩, Pv (i + 1), fun σ' H' p' => ⟨xs.length - (i + 1), by omega, rfl, lt, p'⟩, fun x H' y => ?_⟩
    obtain ⟨T, y1, rfl, hT, rfl, y2⟩ := y
    exact hs i y1 σ H T (y2 xs q) p hT
  · have e : i = xs.length := by omega
    subst e
    exact .inl ⟨⟨xs, q, Nat.le_refl _⟩, hd σ H p⟩
end KV

/-! changes made -/
namespace KV
open PySem PySem.Spec PyProof.Rows L2 KC
section
variable {P : Program} {w : World} {K : PySem.W.Frag} {mg : Str → Option Value} {base : Heap} {C fI : Addr}
/-- composed(one, other) -/
def spComp : Sp := fun vs H Q _ => ∃ (a b : Addr) (c e : List Nat), vs = [.ref a, .ref b] ∧ H a = some (.tup (vi c)) ∧ H b = some (.tup (vi e)) ∧ (∀ x ∈ c, x < e.length) ∧ c.length ≤ 16 ∧
  ∀ t H', Same H H' → H t = none → H' t = some (.tup (vi (comp c e))) → Q (.ref t) H'
theorem sc12 : FnScope ["one", "other", "state"] ["one", "other"] (defScope (top 12)) := ⟨rfl, rfl, rfl, by decide +kernel, rfl, by decide +kernel, by decide +kernel⟩
theorem ok_comp {f : Addr} {fd : FuncData} (B : Bl mg) (F : Fun K "composed" "composed" (top 12) f fd) : FnOk P w K mg base CX0 1 f fd ["one", "other"] spComp := by
  refine F.ok sc12 (fun vs H Q E h => ?_) (fun cdv A outer s H vs Q E hr h => ⟨_,
    pss_one (ps_ret (pe_callTy call_tuple_of (by rfl) B.tuple (by decide +kernel) (pa_cons
      (pe_lc (own := [("state", 2)]) (g := gName 2) (tt := tYes) rfl sc12.nd (pi_tup (pv 0)) (blkOk_by (N := ["one", "other", "state"]) (sc := defScope (top 12)) (by decide +kernel)) (fun _ _ _ _ _ => pg_name (i := 2) sc12.nd rfl (Or.inl rfl)) (fun _ _ _ _ _ => pts_nil)
        (fun _ _ _ _ _ => pe_ix (r := rIxT K) ix_tup (pv 1) (pv 2) (fun _ _ => rfl))) pa_nil))), ?_⟩)
  · obtain ⟨a, b, c, e, rfl, _⟩ := h
    rfl
  obtain ⟨a, b, c, e, rfl, ha, hb, hlt, hl, q⟩ := h
  refine ⟨_, rfl, a, rfl, ⟨_, SqT.of ha⟩, fun D hD => lc_tup (xs := vi c) (fun i H' => Same H H' ∧ H' D = some (.lst (vi (comp (c.take i) e)))) ⟨Same.mk1 hD, upd_same⟩ (fun i H' _ p => SqT.of (p.1 _ _ ha)) ?_ ?_⟩
  · rintro i x H' hx ⟨p1, p2⟩
    obtain ⟨m, hm, rfl⟩ := vi_at hx
    have lt := hlt m (List.mem_of_getElem? hm)
    refine ⟨rfl, _, rfl, _, rfl, b, _, _, _, rfl, rfl, SqT.of (p1 _ _ hb), atI_nat (vi_get (at_getD lt)), _, p2, len_lt (by simp only [vi, comp, List.length_map, List.length_take]; omega), Same.upd p1 hD, ?_⟩
    rw [upd_same, List.take_succ, hm]
    show some (HO.lst (vi (comp (c.take i) e) ++ [V.int ((e.getD m 0 : Nat) : Int)])) = some (HO.lst (vi (comp (c.take i ++ [m]) e)))
    simp only [vi, comp, List.map_append, List.map_cons, List.map_nil]
  · rintro H' ⟨p1, p2⟩
    have p2 : H' D = some (.lst (vi (comp c e))) := by
      have z := p2
      rw [show (vi c).length = c.length from List.length_map .., List.take_length] at z
      exact z
    exact ⟨D, _, rfl, .inl ⟨SqL.of p2, fun t ht => q t _ (p1.trans (Same.mk1 ht)) (p1.free ht) upd_same⟩⟩
/-- undone(change) -/
def spUnd : Sp := fun vs H Q _ => ∃ (a : Addr) (n : Nat) (c : List Nat), vs = [.ref a] ∧ H a = some (.tup (vi c)) ∧ Chg n c ∧ n ≤ 16 ∧ ∀ t H' e, Same H H' → H t = none → H' t = some (.tup (vi e)) → Und n c e → Q (.ref t) H'
theorem sc13 : FnScope ["change", "out", "state", "to"] ["change"] (defScope (top 13)) := ⟨rfl, rfl, rfl, by decide +kernel, rfl, by decide +kernel, by decide +kernel⟩
theorem rep_int (n : Nat) (i : Int) : (List.replicate n [V.int i]).flatten = List.replicate n (V.int i) := by
  induction n with
  | zero => rfl
  | succ n ih => rw [List.replicate_succ, List.flatten_cons, ih, List.replicate_succ]; rfl
theorem rep_v (n : Nat) (v : V) : (List.replicate n [v]).flatten = List.replicate n v := by
  induction n with
  | zero => rfl
  | succ n ih => rw [List.replicate_succ, List.flatten_cons, ih, List.replicate_succ]; rfl
theorem vi_rep (n : Nat) : vi (List.replicate n 0) = List.replicate n (V.int 0) := by
  unfold vi
  rw [List.map_replicate]
  rfl
theorem ix_ok {α : Type} {xs : List α} {i : Nat} (h : i < xs.length) : ixN xs.length ((i : Nat) : Int) = some i := by
  unfold L2.ixN
  rw [if_pos (by omega), if_pos (by omega)]
  simp
theorem ok_und {f : Addr} {fd : FuncData} (B : Bl mg) (F : Fun K "undone" "undone" (top 13) f fd) : FnOk P w K mg base CX0 1 f fd ["change"] spUnd := by
  refine F.ok sc13 (fun vs H Q E h => ?_) (fun cdv A outer s H vs Q E hr h => ⟨_,
    pss_cons (ps_set (i := 1) sc13.nd rfl (.inl rfl) (pe_op op_rep (pe_lst (pa_cons pe_int pa_nil)) (pe_callB call_len_seq (by rfl) B.len PySem.boot_len (pa_cons (pv 0) pa_nil))))
    (pss_cons (ps_for PassesOwn.never rfl (pi_enumT (by rfl) B.enumerate (pa_cons (pv 0) pa_nil)) (pg_tup rfl (pgs_cons (pg_name (i := 2) sc13.nd rfl (.inl rfl)) (pgs_cons (pg_name (i := 3) sc13.nd rfl (.inl rfl)) pgs_nil)))
      (pss_one (ps_asg (pv 2) (pg_sub (pv 1) (pv 3) set_list))))
    (pss_one (ps_ret (pe_callTy call_tuple_of (by rfl) B.tuple (by decide +kernel) (pa_cons (pv 1) pa_nil))))), ?_⟩)
  · obtain ⟨a, n, c, rfl, _⟩ := h
    rfl
  obtain ⟨a, n, c, rfl, ha, hc, hn, q⟩ := h
  have lc : (vi c).length = n := by rw [List.length_map]; exact hc.len
  refine ⟨(by show 1 ≤ sizeLine; decide), fun l hl => ⟨_, rfl, a, _, rfl, .inr (SqT.of (Same.mk1 hl _ _ ha)), l, _, _, rfl, rfl, upd_same, ?_, ?_, ?_, fun o ho => ?_⟩⟩
  · rw [lc]; omega
  · rw [lc]; omega
  · rw [lc]
    show 1 * ((n : Int)).toNat ≤ sizeLine
    exact Nat.le_of_lt (len_lt (by omega))
  have e0 : (List.replicate (((vi c).length : Nat) : Int).toNat [V.int 0]).flatten = vi (List.replicate n 0) := by
    rw [lc, vi_rep, rep_v]
    rfl
  rw [e0]
  have s1 : Same H (upd (upd H l (.lst [V.int 0])) o (.lst (vi (List.replicate n 0)))) := (Same.mk1 hl).trans (Same.mk1 ho)
  have o1 : upd (upd H l (.lst [V.int 0])) o (.lst (vi (List.replicate n 0))) o = some (.lst (vi (List.replicate n 0))) := upd_same
  have on : H o = none := (Same.mk1 hl).free ho
  generalize upd (upd H l (.lst [V.int 0])) o (.lst (vi (List.replicate n 0))) = H1 at s1 o1 ⊢
  refine ⟨_, rfl, a, _, rfl, SqT.of (s1 _ _ ha), for_enumT (xs := vi c) (fun i σ H' => (∃ u v : Option V, σ = [some (.ref a), some (.ref o), u, v]) ∧ Same H H' ∧ ∃ es : List Nat, H' o = some (.lst (vi es)) ∧ es.length = n ∧ ∀ j, j < i → es[c.getD j 0]? = some j)
    ⟨⟨none, none, rfl⟩, s1, List.replicate n 0, o1, List.length_replicate, fun j hj => absurd hj (Nat.not_lt_zero j)⟩ (fun i σ H' _ p => SqT.of (p.2.1 _ _ ha)) ?_ ?_⟩
  · rintro i x σ H' T hx ⟨⟨u, v, rfl⟩, p1, es, p2, p3, p4⟩ hT
    obtain ⟨m, hm, rfl⟩ := vi_at hx
    have hi : i < n := by rw [← hc.len]; exact (List.getElem?_eq_some_iff.mp hm).1
    have em : c.getD i 0 = m := getD_at hm
    have lt : m < es.length := by rw [p3, ← em]; exact hc.at_lt hi
    have oT : o ≠ T := ne_of_none p2 hT
    refine ⟨T, _, rfl, SqT.of upd_same, rfl, _, _, rfl, _, _, rfl, rfl, ?_⟩
    refine ⟨_, rfl, _, rfl, _, rfl, o, _, _, m, rfl, rfl, Same.mk1 hT _ _ p2, by rw [show (vi es).length = es.length from List.length_map ..]; exact ix_ok lt, ⟨_, _, rfl⟩, ?_, es.set m i, ?_, by rw [List.length_set]; exact p3, ?_⟩
    · intro b z hb
      rw [upd_ne (ne_of_none hb on)]
      exact (p1.trans (Same.mk1 hT)) b z hb
    · rw [upd_same]
      show some (HO.lst ((es.map fun (n : Nat) => V.int (n : Int)).set m (V.int (i : Int)))) = some (HO.lst ((es.set m i).map fun (n : Nat) => V.int (n : Int)))
      rw [List.map_set]
    · rw [← em]
      exact set_walk hc hi p3 p4
  · rintro σ H' ⟨⟨u, v, rfl⟩, p1, es, p2, p3, p4⟩
    rw [lc] at p4
    exact ⟨_, rfl, o, _, rfl, .inl ⟨SqL.of p2, fun t ht => q t _ es (p1.trans (Same.mk1 ht)) (p1.free ht) upd_same ⟨p3, p4⟩⟩⟩
end
end KV

/-! cycles -/
namespace KV
open PySem PySem.Spec PyProof.Rows L2 KC
/-- the truth values of a list at the places below n tell U -/
def Tells (n : Nat) (mt : List Bool) (U : Nat → Prop) : Prop := mt.length = n ∧ ∀ x, x < n → ∃ b, mt[x]? = some b ∧ (b = true ↔ U x)
theorem Tells.set {n : Nat} {mt : List Bool} {U U' : Nat → Prop} {s : Nat} (h : Tells n mt U) (hs : s < n) (e : ∀ x, x < n → (U' x ↔ U x ∨ x = s)) : Tells n (mt.set s true) U' := by
  refine ⟨by rw [List.length_set]; exact h.1, fun x hx => ?_⟩
  by_cases z : x = s
  · subst z
    exact ⟨true, List.getElem?_set_self (by rw [h.1]; exact hx), by simp [e x hx]⟩
  · obtain ⟨b, hb, hu⟩ := h.2 x hx
    refine ⟨b, by rw [List.getElem?_set_ne (Ne.symm z)]; exact hb, ?_⟩
    rw [e x hx, hu]
    simp [z]
/-- a list of bools as values -/
abbrev vb (bs : List Bool) : List V := bs.map V.bl
theorem vb_rep (n : Nat) : vb (List.replicate n false) = List.replicate n (V.bl false) := List.map_replicate ..
/-- all but the object at m stands -/
def KpM (m : Addr) (H H' : Hp) : Prop := ∀ b o, b ≠ m → H b = some o → H' b = some o
theorem KpM.refl {m : Addr} {H : Hp} : KpM m H H := fun _ _ _ h => h
theorem KpM.upd_m {m : Addr} {H H' : Hp} {o : HO} (k : KpM m H H') : KpM m H (upd H' m o) := fun b u hb h => by
  rw [upd_ne hb]
  exact k b u hb h
theorem KpM.upd_n {m q : Addr} {H H' : Hp} {o : HO} (k : KpM m H H') (hq : H q = none) : KpM m H (upd H' q o) := fun b u hb h => by
  rw [upd_ne (ne_of_none h hq)]
  exact k b u hb h
theorem KpM.new {m q : Addr} {H H' : Hp} {o : HO} (k : KpM m H H') (hq : H' q = none) (hm : q ≠ m) : KpM m H (upd H' q o) := fun b u hb h => by
  rw [upd_ne (ne_of_none (k b u hb h) hq)]
  exact k b u hb h
def Un (as : List (Addr × List Nat)) (x : Nat) : Prop := ∃ q ∈ as, x ∈ q.2
/-- what the cycles so far are -/
structure Cys (n : Nat) (c : List Nat) (H0 H : Hp) (m p : Addr) (as : List (Addr × List Nat)) : Prop where
  at_ : H p = some (.lst (as.map fun q => V.ref q.1))
  each : ∀ q ∈ as, H q.1 = some (.lst (vi q.2)) ∧ Cyc n c q.2 ∧ q.1 ≠ m ∧ q.1 ≠ p ∧ H0 q.1 = none
section
variable {P : Program} {w : World} {K : PySem.W.Frag} {mg : Str → Option Value} {base : Heap} {C fI : Addr}
/-- round_from(change, start) -/
def spRF : Sp := fun vs H Q _ => ∃ (a : Addr) (n : Nat) (c : List Nat) (st : Nat), vs = [.ref a, .int (st : Int)] ∧ H a = some (.tup (vi c)) ∧ Chg n c ∧ n ≤ 16 ∧ st < n ∧
  ∀ k H' (L : Nat), Same H H' → H k = none → H' k = some (.lst (vi (tab L fun j => it c j st))) → 0 < L → L ≤ n → Cyc n c (tab L fun j => it c j st) → Q (.ref k) H'
theorem it_mem {n : Nat} {c : List Nat} (hc : Chg n c) {st L : Nat} (hs : st < n) (nd : (tab L fun j => it c j st).Nodup) (L0 : 0 < L) (hm : it c L st ∈ tab L fun j => it c j st) : Cyc n c (tab L fun j => it c j st) ∧ it c L st = st := by
  rcases walk_end (U := fun _ => False) hc hs (fun _ _ z => z) nd (fun _ _ z => z) (.inr hm) with ⟨_, z⟩ | ⟨_, z⟩
  · exact z.elim
  · exact ⟨z, (z.back hc (mem_tab.mpr ⟨0, L0, rfl⟩)).mpr (by rw [tab_len]; exact Nat.dvd_refl _)⟩
theorem take_at3 {α : Type} {l : List α} {i : Nat} {x : α} (h : l[i]? = some x) : l.take (i + 1) = l.take i ++ [x] := by
  rw [List.take_add_one, h]
  rfl
theorem sc14r : FnScope ["change", "start", "cycle", "state"] ["change", "start"] (defScope (top 14)) := ⟨rfl, rfl, rfl, by decide +kernel, rfl, by decide +kernel, by decide +kernel⟩
theorem ok_rf {f : Addr} {fd : FuncData} (F : Fun K "round_from" "round_from" (top 14) f fd) : FnOk P w K mg base CX0 1 f fd ["change", "start"] spRF := by
  refine F.ok sc14r (fun vs H Q E h => ?_) (fun cdv A outer s H vs Q E hr h => ⟨_,
    pss_cons (ps_set (i := 2) sc14r.nd rfl (.inl rfl) (pe_lst (pa_cons (pv 1) pa_nil)))
    (pss_cons (ps_set (i := 3) sc14r.nd rfl (.inl rfl) (pe_ix ix_tup (pv 0) (pv 1) (fun _ _ => rfl)))
    (pss_cons (ps_while PassesOwn.never (pt_cmpR op_ne (pv 3) (pv 1) (nomark _))
      (pss_cons (ps_expr (pe_bm PySem.F.plainAttrs_list PySem.F.slot_list_append PySem.F.type_list_append mt_append (pv 2) (pa_cons (pv 3) pa_nil)))
      (pss_one (ps_set (i := 3) sc14r.nd rfl (.inl rfl) (pe_ix ix_tup (pv 0) (pv 3) (fun _ _ => rfl))))))
    (pss_one (ps_ret (pv 2))))), ?_⟩)
  · obtain ⟨a, n, c, st, rfl, _⟩ := h
    rfl
  obtain ⟨a, n, c, st, rfl, ha, hc, hn, stn, q⟩ := h
  refine ⟨_, rfl, (by show 1 ≤ sizeLine; decide), fun k hk => ?_⟩
  have ak : a ≠ k := fun z => by rw [z, hk] at ha; cases ha
  refine ⟨_, rfl, _, rfl, a, _, _, _, rfl, rfl, SqT.of (Same.mk1 hk _ _ ha), atI_nat (vi_get (at_getD (by rw [hc.len]; exact stn))), ?_⟩
  refine ⟨fun μ σ H3 => ∃ L : Nat, 0 < L ∧ μ = n - L ∧ σ = [some (.ref a), some (.int (st : Int)), some (.ref k), some (.int ((it c L st : Nat) : Int))] ∧ Same H H3 ∧ H3 k = some (.lst (vi (tab L fun j => it c j st))) ∧ (tab L fun j => it c j st).Nodup,
    ⟨_, 1, by decide, rfl, rfl, Same.mk1 hk, upd_same, by simp [tab]⟩, ?_⟩
  rintro μ σ H3 ⟨L, L0, rfl, rfl, s3, h2, nd⟩
  have ltn := it_lt hc stn L
  have Ln := walk_le hc stn nd
  refine ⟨_, rfl, _, rfl, rfl, _, rfl, ?_⟩
  by_cases e : it c L st = st
  · have hm : it c L st ∈ tab L fun j => it c j st := by
      rw [e]
      exact mem_tab.mpr ⟨0, L0, rfl⟩
    refine iteN (by simp [e]) ⟨_, rfl, q k H3 L s3 hk h2 L0 Ln (it_mem hc stn nd L0 hm).1⟩
  · have nm : it c L st ∉ tab L fun j => it c j st := fun z => e (it_mem hc stn nd L0 z).2
    have nd2 : (tab (L + 1) fun j => it c j st).Nodup := by
      rw [tab_succ]
      refine List.nodup_append.mpr ⟨nd, List.nodup_cons.mpr ⟨List.not_mem_nil, List.nodup_nil⟩, fun x hx y hy e => ?_⟩
      have ey : y = it c L st := List.mem_singleton.mp hy
      rw [e, ey] at hx
      exact nm hx
    have Ln2 := walk_le hc stn nd2
    refine iteP (by simp; omega) ⟨fun σ' H4 => ∃ μ', μ' < n - L ∧ ∃ L : Nat, 0 < L ∧ μ' = n - L ∧ σ' = [some (.ref a), some (.int (st : Int)), some (.ref k), some (.int ((it c L st : Nat) : Int))] ∧ Same H H4 ∧ H4 k = some (.lst (vi (tab L fun j => it c j st))) ∧ (tab L fun j => it c j st).Nodup, fun _ _ z => z, ?_⟩
    refine ⟨_, rfl, .inl ⟨rfl, _, SqL.of h2⟩, _, rfl, k, _, _, rfl, rfl, h2, len_lt (by simp only [vi, List.length_map, tab_len]; omega), ?_⟩
    refine ⟨_, rfl, _, rfl, a, _, _, _, rfl, rfl, SqT.of (by rw [upd_ne ak]; exact s3 _ _ ha), atI_nat (vi_get (at_getD (by rw [hc.len]; exact ltn))), n - (L + 1), by omega, L + 1, by omega, rfl, rfl, fun b o z => by rw [upd_ne (fun y => by rw [y, hk] at z; cases z)]; exact s3 b o z, ?_, nd2⟩
    rw [upd_same, tab_succ]
    simp only [vi, List.map_append, List.map_cons, List.map_nil]
/-- _cycles(change) -/
def spCyc : Sp := fun vs H Q _ => ∃ (a : Addr) (n : Nat) (c : List Nat), vs = [.ref a] ∧ H a = some (.tup (vi c)) ∧ Chg n c ∧ n ≤ 16 ∧
  ∀ p H' (as : List (Addr × List Nat)), Same H H' → H p = none → H' p = some (.lst (as.map fun q => V.ref q.1)) → (∀ q ∈ as, H' q.1 = some (.lst (vi q.2)) ∧ Cyc n c q.2 ∧ H q.1 = none) → (∀ x, x < n → Un as x) → as.length ≤ 16 → Q (.ref p) H'
theorem sc14 : FnScope ["change", "met", "cycles", "start", "cycle", "state"] ["change"] (defScope (top 15)) := ⟨rfl, rfl, rfl, by decide +kernel, rfl, by decide +kernel, by decide +kernel⟩
theorem ok_cyc {f : Addr} {fd : FuncData} (B : Bl mg) (CR : Cal P w K mg base CX0 1 "round_from" ["change", "start"] spRF) (F : Fun K "_cycles" "_cycles" (top 15) f fd) : FnOk P w K mg base CX0 2 f fd ["change"] spCyc := by
  refine F.ok sc14 (fun vs H Q E h => ?_) (fun cdv A outer s H vs Q E hr h => ⟨_,
    pss_cons (ps_set (i := 1) sc14.nd rfl (.inl rfl) (pe_op op_rep (pe_lst (pa_cons pe_bl pa_nil)) (pe_callB call_len_seq (by rfl) B.len PySem.boot_len (pa_cons (pv 0) pa_nil))))
    (pss_cons (ps_set (i := 2) sc14.nd rfl (.inl rfl) (pe_lst pa_nil))
    (pss_cons (ps_for PassesOwn.never rfl (pi_tup (pv 0)) (pg_name (i := 3) sc14.nd rfl (.inl rfl))
      (pss_one (ps_if (pt_not (pt_val (pe_ix ix_list (pv 1) (pv 3) (fun _ _ => rfl))))
        (pss_cons (ps_set (i := 4) sc14.nd rfl (.inl rfl) (by exact (pe_cal (X := L2.Cx.nox _) CR hr (by decide) (pa_cons (pv 0) (pa_cons (pv 3) pa_nil)))))
        (pss_cons (ps_for PassesOwn.never rfl (pi_list (pv 4)) (pg_name (i := 5) sc14.nd rfl (.inl rfl)) (pss_one (ps_asg pe_bl (pg_sub (pv 1) (pv 5) set_list))))
        (pss_one (ps_expr (pe_bm PySem.F.plainAttrs_list PySem.F.slot_list_append PySem.F.type_list_append mt_append (pv 2) (pa_cons (pv 4) pa_nil)))))) pss_nil)))
    (pss_one (ps_ret (pv 2))))), ?_⟩)
  · obtain ⟨a, n, c, rfl, _⟩ := h
    rfl
  obtain ⟨a, n, c, rfl, ha, hc, hn, q⟩ := h
  have lc : (vi c).length = n := by rw [List.length_map]; exact hc.len
  refine ⟨(by show 1 ≤ sizeLine; decide), fun l hl => ⟨_, rfl, a, _, rfl, .inr (SqT.of (Same.mk1 hl _ _ ha)), l, _, _, rfl, rfl, upd_same, ?_, ?_, ?_, fun m hm => ?_⟩⟩
  · rw [lc]; omega
  · rw [lc]; omega
  · rw [lc]
    show 1 * ((n : Int)).toNat ≤ sizeLine
    exact Nat.le_of_lt (len_lt (by omega))
  have e0 : (List.replicate (((vi c).length : Nat) : Int).toNat [V.bl false]).flatten = vb (List.replicate n false) := by
    rw [lc, vb_rep, rep_v]
    rfl
  rw [e0]
  have s1 : Same H (upd (upd H l (.lst [V.bl false])) m (.lst (vb (List.replicate n false)))) := (Same.mk1 hl).trans (Same.mk1 hm)
  have m1 : upd (upd H l (.lst [V.bl false])) m (.lst (vb (List.replicate n false))) m = some (.lst (vb (List.replicate n false))) := upd_same
  have mn : H m = none := (Same.mk1 hl).free hm
  generalize upd (upd H l (.lst [V.bl false])) m (.lst (vb (List.replicate n false))) = H1 at s1 m1 ⊢
  refine ⟨(by show 0 ≤ sizeLine; exact Nat.zero_le _), fun p hp => ?_⟩
  have pn : H p = none := s1.free hp
  have mp : m ≠ p := ne_of_none m1 hp
  refine ⟨_, rfl, a, rfl, ⟨_, SqT.of (Same.mk1 hp _ _ (s1 _ _ ha))⟩, for_tup (xs := vi c) (fun i σ H' => (∃ u3 u4 u5 : Option V, σ = [some (.ref a), some (.ref m), some (.ref p), u3, u4, u5]) ∧ Same H H' ∧ ∃ (as : List (Addr × List Nat)) (mt : List Bool),
      H' m = some (.lst (vb mt)) ∧ Cys n c H H' m p as ∧ as.length ≤ i ∧ Tells n mt (Un as) ∧ ∀ j, j < i → Un as (c.getD j 0))
    ⟨⟨none, none, none, rfl⟩, s1.trans (Same.mk1 hp), [], List.replicate n false, Same.mk1 hp _ _ m1, ⟨upd_same, fun _ z => by simp at z⟩, Nat.le_refl _, ⟨List.length_replicate, fun x hx => ⟨false, by rw [List.getElem?_replicate, if_pos hx], by simp [Un]⟩⟩, fun j hj => absurd hj (Nat.not_lt_zero j)⟩ (fun i σ H' _ z => SqT.of (z.2.1 _ _ ha)) ?_ ?_⟩
  · rintro i x σ H2 hx ⟨⟨u3, u4, u5, rfl⟩, sH, as, mt, hm2, hcy, hlen, htell, hcov⟩
    obtain ⟨st, hst, rfl⟩ := vi_at hx
    have hi : i < n := by rw [← hc.len]; exact (List.getElem?_eq_some_iff.mp hst).1
    have est : c.getD i 0 = st := getD_at hst
    have stn : st < n := by rw [← est]; exact hc.at_lt hi
    obtain ⟨b, hb, hbu⟩ := htell.2 st stn
    refine ⟨_, rfl, _, rfl, m, _, _, _, rfl, rfl, SqL.of hm2, atI_nat (by rw [List.getElem?_map, hb]; rfl), b, rfl, ?_⟩
    cases b with
    | true =>
      refine iteF ⟨⟨_, _, _, rfl⟩, sH, as, mt, hm2, hcy, by omega, htell, fun j hj => ?_⟩
      by_cases e : j = i
      · rw [e, est]
        exact hbu.mp rfl
      · exact hcov j (by omega)
    | false =>
    have nu : ¬ Un as st := fun z => by have := hbu.mpr z; cases this
    refine iteT ⟨_, rfl, _, rfl, a, n, c, st, rfl, sH _ _ ha, hc, hn, stn, fun k H3 L s3 kn2 h2 L0 Ln hC => ?_⟩
    have kn : H k = none := sH.free kn2
    have km : k ≠ m := (ne_of_none hm2 kn2).symm
    have kp : k ≠ p := (ne_of_none hcy.at_ kn2).symm
    dsimp only [gName]
    refine sq_cut (fun σ H4 => ∃ (mt' : List Bool) (u5 : Option V), σ = [some (.ref a), some (.ref m), some (.ref p), some (.int (st : Int)), some (.ref k), u5] ∧ KpM m H3 H4 ∧ H4 m = some (.lst (vb mt')) ∧ H4 k = some (.lst (vi (tab L fun j => it c j st))) ∧
        Tells n mt' (fun x => Un as x ∨ x ∈ tab L fun j => it c j st)) (fun Z hZ => ?_) ?_
    · refine ⟨_, rfl, k, rfl, ⟨_, SqL.of h2⟩, for_list (xs := vi (tab L fun j => it c j st)) (fun i2 σ H4 => ∃ (mt' : List Bool) (u5 : Option V), σ = [some (.ref a), some (.ref m), some (.ref p), some (.int (st : Int)), some (.ref k), u5] ∧ KpM m H3 H4 ∧ H4 m = some (.lst (vb mt')) ∧ H4 k = some (.lst (vi (tab L fun j => it c j st))) ∧
          Tells n mt' (fun x => Un as x ∨ x ∈ (tab L fun j => it c j st).take i2))
        ⟨mt, u5, rfl, KpM.refl, s3 _ _ hm2, h2, ⟨htell.1, fun x hx => by
          obtain ⟨b, h1, h2⟩ := htell.2 x hx
          exact ⟨b, h1, by rw [h2]; simp⟩⟩⟩ (fun i2 σ H4 _ z => by
            obtain ⟨_, _, _, _, _, z5, _⟩ := z
            exact SqL.of z5) ?_ ?_⟩
      · rintro i2 x σ H4 hx ⟨mt', u5', rfl, hK, h1, h2', hT⟩
        obtain ⟨y, hy, rfl⟩ := vi_at hx
        have ym : y ∈ tab L fun j => it c j st := List.mem_of_getElem? hy
        have ltn := hC.lt hc ym
        have lk : (vb mt').length = n := by rw [List.length_map]; exact hT.1
        refine ⟨_, rfl, _, rfl, m, _, _, y, rfl, rfl, h1, ix_ok (by rw [lk]; exact ltn), mt'.set y true, _, rfl, hK.upd_m, ?_, ?_, ?_⟩
        · rw [upd_same]
          show some (HO.lst ((mt'.map V.bl).set y (V.bl true))) = some (HO.lst ((mt'.set y true).map V.bl))
          rw [List.map_set]
        · rw [upd_ne km]
          exact h2'
        · refine hT.set ltn fun x hx => ?_
          rw [take_at3 hy, List.mem_append, List.mem_singleton, or_assoc]
      · rintro σ H4 ⟨mt', u5', rfl, hK, h1, h2', hT⟩
        rw [List.length_map, List.take_length] at hT
        exact hZ _ _ ⟨mt', u5', rfl, hK, h1, h2', hT⟩
    · rintro σ H4 ⟨mt', u5', rfl, hK, h1, h2', hT⟩
      have mnn : ∀ b o, H b = some o → b ≠ m := fun b o z y => by rw [y, mn] at z; cases z
      have sH3 : Same H H4 := fun b o z => hK b o (mnn b o z) (s3 _ _ (sH b o z))
      have cy3 : Cys n c H H4 m p as := ⟨hK _ _ mp.symm (s3 _ _ hcy.at_), fun q hq => let ⟨z1, z2, z3, z4, z5⟩ := hcy.each q hq; ⟨hK _ _ z3 (s3 _ _ z1), z2, z3, z4, z5⟩⟩
      refine ⟨_, rfl, .inl ⟨rfl, _, SqL.of cy3.at_⟩, _, rfl, p, _, _, rfl, rfl, cy3.at_, len_lt (by rw [List.length_map]; omega), ⟨_, _, _, rfl⟩, ?_, as ++ [(k, tab L fun j => it c j st)], mt', ?_, ⟨?_, fun q hq => ?_⟩, by rw [List.length_append]; simp; omega, ⟨hT.1, fun x hx => ?_⟩, fun j hj => ?_⟩
      · exact fun b o z => by rw [upd_ne (fun y => by rw [y, pn] at z; cases z)]; exact sH3 b o z
      · rw [upd_ne mp]
        exact h1
      · rw [upd_same, List.map_append]
        rfl
      · rcases List.mem_append.mp hq with hq | hq
        · obtain ⟨z1, z2, z3, z4, z5⟩ := cy3.each q hq
          exact ⟨by rw [upd_ne z4]; exact z1, z2, z3, z4, z5⟩
        · have : q = (k, tab L fun j => it c j st) := by simpa using hq
          subst this
          exact ⟨by rw [upd_ne kp]; exact h2', hC, km, kp, kn⟩
      · obtain ⟨b, z1, z2⟩ := hT.2 x hx
        refine ⟨b, z1, ?_⟩
        rw [z2]
        constructor
        · rintro (⟨q, hq, hm⟩ | hm)
          · exact ⟨q, List.mem_append_left _ hq, hm⟩
          · exact ⟨(k, tab L fun j => it c j st), by simp, hm⟩
        · rintro ⟨q, hq, hm⟩
          rcases List.mem_append.mp hq with hq | hq
          · exact .inl ⟨q, hq, hm⟩
          · have : q = (k, tab L fun j => it c j st) := by simpa using hq
            subst this
            exact .inr hm
      · by_cases e : j = i
        · rw [e, est]
          exact ⟨(k, tab L fun j => it c j st), by simp, mem_tab.mpr ⟨0, L0, rfl⟩⟩
        · obtain ⟨q, hq, hm⟩ := hcov j (by omega)
          exact ⟨q, List.mem_append_left _ hq, hm⟩
  · rintro σ H2 ⟨⟨u3, u4, u5, rfl⟩, sH, as, mt, hm2, hcy, hlen, htell, hcov⟩
    rw [lc] at hlen hcov
    exact ⟨_, rfl, q p H2 as sH pn hcy.at_ (fun q hq => let ⟨z1, z2, _, _, z5⟩ := hcy.each q hq; ⟨z1, z2, z5⟩) (fun x hx => by
      obtain ⟨j, hj, rfl⟩ := hc.mem hx
      exact hcov j hj) (by omega)⟩
end
end KV

/-! powers, orders -/
namespace KV
open PySem PySem.Spec PyProof.Rows L2 KC
theorem cut_from {xs : List V} {s : Nat} (h : s ≤ xs.length) : cutV xs (some (s : Int)) none = xs.drop s := by
  unfold cutV
  rw [HT.sIx_nat, show HT.sIx xs.length xs.length none = xs.length from rfl, Nat.min_eq_left h]
  exact List.take_of_length_le (by rw [List.length_drop]; exact Nat.le_refl _)
theorem cut_to {xs : List V} {s : Nat} (h : s ≤ xs.length) : cutV xs none (some (s : Int)) = xs.take s := by
  unfold cutV
  rw [HT.sIx_nat, show HT.sIx xs.length 0 none = 0 from rfl, Nat.min_eq_left h, List.drop_zero, Nat.sub_zero]
theorem un_take {as : List (Addr × List Nat)} {i : Nat} {q : Addr × List Nat} (h : as[i]? = some q) {x : Nat} : Un (as.take (i + 1)) x ↔ Un (as.take i) x ∨ x ∈ q.2 := by
  unfold Un
  rw [List.take_succ, h]
  constructor
  · rintro ⟨r, hr, hx⟩
    rcases List.mem_append.mp hr with hr | hr
    · exact .inl ⟨r, hr, hx⟩
    · have : r = q := by simpa using hr
      rw [this] at hx
      exact .inr hx
  · rintro (⟨r, hr, hx⟩ | hx)
    · exact ⟨r, List.mem_append_left _ hr, hx⟩
    · exact ⟨q, by simp, hx⟩
theorem refs_at {as : List (Addr × List Nat)} {i : Nat} {x : V} (h : (as.map fun q => V.ref q.1)[i]? = some x) : ∃ q, as[i]? = some q ∧ x = .ref q.1 := by
  rw [List.getElem?_map] at h
  cases e : as[i]? with
  | none => rw [e] at h; cases h
  | some q => rw [e] at h; exact ⟨q, rfl, (Option.some.inj h).symm⟩
section
variable {P : Program} {w : World} {K : PySem.W.Frag} {mg : Str → Option Value} {base : Heap} {C fI : Addr}
/-- raised(change, count) -/
def spRai : Sp := fun vs H Q _ => ∃ (a : Addr) (n : Nat) (c : List Nat) (k : Int), vs = [.ref a, .int k] ∧ H a = some (.tup (vi c)) ∧ Chg n c ∧ n ≤ 16 ∧ ∀ t H', Same H H' → H t = none → H' t = some (.tup (vi (pw n c k))) → Q (.ref t) H'
theorem sc15 : FnScope ["change", "count", "out", "cycle", "shift", "state", "to"] ["change", "count"] (defScope (top 16)) := ⟨rfl, rfl, rfl, by decide +kernel, rfl, by decide +kernel, by decide +kernel⟩
theorem ok_rai {f : Addr} {fd : FuncData} (B : Bl mg) (CC : Cal P w K mg base CX0 2 "_cycles" ["change"] spCyc) (F : Fun K "raised" "raised" (top 16) f fd) : FnOk P w K mg base CX0 3 f fd ["change", "count"] spRai := by
  refine F.ok sc15 (fun vs H Q E h => ?_) (fun cdv A outer s H vs Q E hr h => ⟨_,
    pss_cons (ps_set (i := 2) sc15.nd rfl (.inl rfl) (pe_op op_rep (pe_lst (pa_cons pe_int pa_nil)) (pe_callB call_len_seq (by rfl) B.len PySem.boot_len (pa_cons (pv 0) pa_nil))))
    (pss_cons (ps_for PassesOwn.never rfl (pi_list (pe_cal (X := L2.Cx.nox _) CC hr (by decide) (pa_cons (pv 0) pa_nil))) (pg_name (i := 3) sc15.nd rfl (.inl rfl))
      (pss_cons (ps_set (i := 4) sc15.nd rfl (.inl rfl) (pe_op op_mod (pv 1) (pe_callB call_len_seq (by rfl) B.len PySem.boot_len (pa_cons (pv 3) pa_nil))))
      (pss_one (ps_for PassesOwn.never rfl (pi_zip (by rfl) B.zip (pa_cons (pv 3) (pa_cons (pe_op op_cat (pe_slice sl_list (pv 3) (po_some (pv 4)) po_none) (pe_slice sl_list (pv 3) po_none (po_some (pv 4)))) pa_nil)))
        (pg_tup rfl (pgs_cons (pg_name (i := 5) sc15.nd rfl (.inl rfl)) (pgs_cons (pg_name (i := 6) sc15.nd rfl (.inl rfl)) pgs_nil)))
        (pss_one (ps_asg (pv 6) (pg_sub (pv 2) (pv 5) set_list)))))))
    (pss_one (ps_ret (pe_callTy call_tuple_of (by rfl) B.tuple (by decide +kernel) (pa_cons (pv 2) pa_nil))))), ?_⟩)
  · obtain ⟨a, n, c, k, rfl, _⟩ := h
    rfl
  obtain ⟨a, n, c, cnt, rfl, ha, hc, hn, q⟩ := h
  have lc : (vi c).length = n := by rw [List.length_map]; exact hc.len
  refine ⟨(by show 1 ≤ sizeLine; decide), fun l hl => ⟨_, rfl, a, _, rfl, .inr (SqT.of (Same.mk1 hl _ _ ha)), l, _, _, rfl, rfl, upd_same, ?_, ?_, ?_, fun o ho => ?_⟩⟩
  · rw [lc]; omega
  · rw [lc]; omega
  · rw [lc]
    show 1 * ((n : Int)).toNat ≤ sizeLine
    exact Nat.le_of_lt (len_lt (by omega))
  have e0 : (List.replicate (((vi c).length : Nat) : Int).toNat [V.int 0]).flatten = vi (List.replicate n 0) := by
    rw [lc, vi_rep, rep_v]
    rfl
  rw [e0]
  have s1 : Same H (upd (upd H l (.lst [V.int 0])) o (.lst (vi (List.replicate n 0)))) := (Same.mk1 hl).trans (Same.mk1 ho)
  have o1 : upd (upd H l (.lst [V.int 0])) o (.lst (vi (List.replicate n 0))) o = some (.lst (vi (List.replicate n 0))) := upd_same
  have on : H o = none := (Same.mk1 hl).free ho
  generalize upd (upd H l (.lst [V.int 0])) o (.lst (vi (List.replicate n 0))) = H1 at s1 o1 ⊢
  refine ⟨_, rfl, a, n, c, rfl, s1 _ _ ha, hc, hn, fun p Hc as sc pn hp hea hcov hlen => ⟨p, rfl, ⟨_, SqL.of hp⟩, ?_⟩⟩
  have po : p ≠ o := fun z => by rw [z, o1] at pn; cases pn
  have sH : Same H Hc := s1.trans sc
  refine for_list (K := K) (a := p) (xs := as.map fun q => V.ref q.1) (fun i σ H' => (∃ u3 u4 u5 u6 : Option V, σ = [some (.ref a), some (.int cnt), some (.ref o), u3, u4, u5, u6]) ∧ KpM o Hc H' ∧ ∃ es : List Nat, H' o = some (.lst (vi es)) ∧ es.length = n ∧ ∀ x, Un (as.take i) x → es[x]? = some (it c (cnt % (fac n : Int)).toNat x))
    ⟨⟨none, none, none, none, rfl⟩, KpM.refl, List.replicate n 0, sc _ _ o1, List.length_replicate, fun x ⟨q, hq, _⟩ => by simp at hq⟩ (fun i σ H' _ z => SqL.of (z.2.1 _ _ po hp)) ?_ ?_
  · rintro i x σ H2 hx ⟨⟨u3, u4, u5, u6, rfl⟩, hK, es, p2, p3, p4⟩
    obtain ⟨q, hq, rfl⟩ := refs_at hx
    obtain ⟨hq1, hq2, hq3⟩ := hea q (List.mem_of_getElem? hq)
    have qo : q.1 ≠ o := fun z => by rw [z, o1] at hq3; cases hq3
    have hy := hK _ _ qo hq1
    have pos := hq2.pos
    have lv : (vi q.2).length = q.2.length := List.length_map ..
    have ld := hq2.le hc
    refine ⟨_, rfl, _, rfl, q.1, _, rfl, .inl (SqL.of hy), _, _, rfl, rfl, (by rw [lv]; show (0 : Int) < _; omega), ?_⟩
    dsimp only [gName]
    rw [lv]
    have t0 := Int.emod_nonneg cnt (show (q.2.length : Int) ≠ 0 by omega)
    have t1 := Int.emod_lt_of_pos cnt (show (0 : Int) < (q.2.length : Int) by omega)
    obtain ⟨sh, esh⟩ := Int.eq_ofNat_of_zero_le t0
    have turn := fun (j x : Nat) (h : q.2[j]? = some x) => hq2.turn hc cnt h
    rw [esh] at turn t1 ⊢
    have shl : sh ≤ q.2.length := by omega
    refine ⟨_, rfl, _, rfl, _, rfl, _, rfl, q.1, _, rfl, SqL.of hy, fun d1 hd1 => ⟨_, rfl, _, rfl, _, rfl, q.1, _, rfl, SqL.of (Same.mk1 hd1 _ _ hy), fun d2 hd2 => ?_⟩⟩
    rw [cut_from (by rw [lv]; exact shl), cut_to (by rw [lv]; exact shl)]
    have e1 : (vi q.2).drop sh = vi (q.2.drop sh) := List.map_drop.symm
    have e2 : (vi q.2).take sh = vi (q.2.take sh) := List.map_take.symm
    have hd2 : upd H2 d1 (.lst (vi (q.2.drop sh))) d2 = none := by
      rw [← e1, ← cut_from (by rw [lv]; exact shl)]
      exact hd2
    rw [e1, e2]
    refine ⟨d1, d2, _, _, rfl, rfl, Same.mk1 hd2 _ _ upd_same, upd_same, ?_, fun d3 hd3 => ?_⟩
    · simp only [vi, List.length_map, List.length_drop, List.length_take]
      exact Nat.le_of_lt (len_lt (by omega))
    have sd := ((Same.mk1 (o := .lst (vi (q.2.drop sh))) hd1).trans (Same.mk1 (o := .lst (vi (q.2.take sh))) hd2)).trans (Same.mk1 (o := .lst (vi (q.2.drop sh) ++ vi (q.2.take sh))) hd3)
    have d3v : upd (upd (upd H2 d1 (.lst (vi (q.2.drop sh)))) d2 (.lst (vi (q.2.take sh)))) d3 (.lst (vi (q.2.drop sh) ++ vi (q.2.take sh))) d3 = some (.lst (vi (q.2.drop sh ++ q.2.take sh))) := by rw [upd_same]; simp only [vi, List.map_append]
    have d3n : H2 d3 = none := ((Same.mk1 (o := .lst (vi (q.2.drop sh))) hd1).trans (Same.mk1 (o := .lst (vi (q.2.take sh))) hd2)).free hd3
    generalize upd (upd (upd H2 d1 (.lst (vi (q.2.drop sh)))) d2 (.lst (vi (q.2.take sh)))) d3 (.lst (vi (q.2.drop sh) ++ vi (q.2.take sh))) = H3 at sd d3v ⊢
    have d3o : d3 ≠ o := (ne_of_none p2 d3n).symm
    have k3 : KpM o Hc H3 := fun b u hb z => sd _ _ (hK b u hb z)
    refine ⟨q.1, d3, vi q.2, vi (q.2.drop sh ++ q.2.take sh), rfl, SqL.of (sd _ _ hy), SqL.of d3v, RZ.for_zipL (xs := vi q.2) (ys := vi (q.2.drop sh ++ q.2.take sh)) ?_
      (fun j σ H' => (∃ u5 u6 : Option V, σ = [some (.ref a), some (.int cnt), some (.ref o), some (.ref q.1), some (.int (sh : Int)), u5, u6]) ∧ KpM o H3 H' ∧ ∃ es : List Nat, H' o = some (.lst (vi es)) ∧ es.length = n ∧ ∀ x, (Un (as.take i) x ∨ x ∈ q.2.take j) → es[x]? = some (it c (cnt % (fac n : Int)).toNat x))
      ⟨⟨u5, u6, rfl⟩, KpM.refl, es, sd _ _ p2, p3, fun x hx => p4 x (hx.elim id fun z => by simp at z)⟩ (fun j σ H' z => ⟨SqL.of (z.2.1 _ _ qo (sd _ _ hy)), SqL.of (z.2.1 _ _ d3o d3v)⟩) ?_ ?_⟩
    · simp only [vi, List.length_map, List.length_append, List.length_drop, List.length_take]
      omega
    · rintro j x y T σ H4 hx hy' ⟨⟨u5, u6, rfl⟩, k4, es, r2, r3, r4⟩ hT
      obtain ⟨xm, hxm, rfl⟩ := vi_at hx
      obtain ⟨ym, hym, rfl⟩ := vi_at hy'
      have ey : ym = it c (cnt % (fac n : Int)).toNat xm := by
        have z := turn j xm hxm
        rw [show ((sh : Nat) : Int).toNat = sh from rfl, hym] at z
        exact Option.some.inj z
      have xn : xm < n := hq2.lt hc (List.mem_of_getElem? hxm)
      have le : (vi es).length = n := by rw [List.length_map]; exact r3
      have oT : o ≠ T := ne_of_none r2 hT
      refine ⟨T, _, rfl, SqT.of upd_same, rfl, _, _, rfl, _, _, rfl, rfl, ?_⟩
      refine ⟨_, rfl, _, rfl, _, rfl, o, _, _, xm, rfl, rfl, Same.mk1 hT _ _ r2, ix_ok (by rw [le]; exact xn), ⟨_, _, rfl⟩, ?_, es.set xm ym, ?_, by rw [List.length_set]; exact r3, ?_⟩
      · exact (k4.new hT oT.symm).upd_m
      · rw [upd_same]
        show some (HO.lst ((es.map fun (n : Nat) => V.int (n : Int)).set xm (V.int (ym : Int)))) = some (HO.lst ((es.set xm ym).map fun (n : Nat) => V.int (n : Int)))
        rw [List.map_set]
      · intro x hx
        by_cases e : x = xm
        · subst e
          rw [List.getElem?_set_self (by rw [r3]; exact xn), ey]
        · rw [List.getElem?_set_ne (Ne.symm e)]
          refine r4 x (hx.imp id fun z => ?_)
          rw [List.take_succ, hxm] at z
          rcases List.mem_append.mp z with z | z
          · exact z
          · exact absurd (by simpa using z) e
    · rintro σ H4 ⟨⟨u5, u6, rfl⟩, k4, es, r2, r3, r4⟩
      refine ⟨⟨_, _, _, _, rfl⟩, fun b u hb z => k4 b u hb (k3 b u hb z), es, r2, r3, fun x hx => r4 x ?_⟩
      rw [lv, List.take_length]
      exact (un_take hq).mp hx
  · rintro σ H2 ⟨⟨u3, u4, u5, u6, rfl⟩, hK, es, p2, p3, p4⟩
    have s2 : Same H H2 := fun b u z => hK b u (fun y => by rw [y, on] at z; cases z) (sH b u z)
    have ees : es = pw n c cnt := by
      unfold pw
      refine List.ext_getElem? fun x => ?_
      by_cases hx : x < n
      · rw [tab_get hx]
        refine p4 x ?_
        rw [show (as.map fun q => V.ref q.1).length = as.length from List.length_map .., List.take_length]
        exact hcov x hx
      · rw [List.getElem?_eq_none (by omega), List.getElem?_eq_none (by rw [tab_len]; omega)]
    subst ees
    exact ⟨_, rfl, o, _, rfl, .inl ⟨SqL.of p2, fun t ht => q t _ (s2.trans (Same.mk1 ht)) (s2.free ht) upd_same⟩⟩
end
end KV

/-! orders, loops, and the defs that check first -/
namespace KV
open PySem PySem.Spec PyProof.Rows L2 KC
theorem canLay_ints : ∀ ns : List Int, PyData.canLayAll0 (ns.map PyData.int) = true
  | [] => rfl
  | n :: r => by simp only [List.map_cons, PyData.canLayAll0, PyData.canLay0, canLay_ints r, Bool.and_self]
theorem shaped_intsT (ns : List Int) : SeqAt.shaped (.tuple (ns.map PyData.int)) = true := by
  unfold SeqAt.shaped
  simp only [PyData.canLay0, canLay_ints, PyData.depth, depth_ints]
  decide
theorem eqv_ints : ∀ ns ms : List Int, PyData.eqvAll (ns.map PyData.int) (ms.map PyData.int) = decide (ns = ms)
  | [], [] => rfl
  | [], _ :: _ => rfl
  | _ :: _, [] => rfl
  | n :: r, m :: s => by
    show (PyData.eqv (.int n) (.int m) && PyData.eqvAll (r.map PyData.int) (s.map PyData.int)) = _
    rw [eqv_ints r s]
    have e : PyData.eqv (.int n) (.int m) = decide (n = m) := by
      show (n == m) = _
      by_cases z : n = m <;> simp [z]
    rw [e]
    by_cases z : n = m <;> by_cases y : r = s <;> simp [z, y]
def zi (c : List Nat) : List Int := c.map fun (n : Nat) => (n : Int)
theorem vi_zi (c : List Nat) : vi c = (zi c).map V.int := by
  unfold zi
  rw [List.map_map]
  rfl
theorem zi_inj : ∀ {c e : List Nat}, zi c = zi e ↔ c = e
  | [], [] => by simp [zi]
  | [], _ :: _ => by simp [zi]
  | _ :: _, [] => by simp [zi]
  | a :: c, b :: e => by
    have ih := zi_inj (c := c) (e := e)
    unfold zi at ih ⊢
    simp only [List.map_cons, List.cons.injEq, Int.natCast_inj, ih]
theorem dpT {K : PySem.W.Frag} {H : Hp} {a : Addr} {c : List Nat} (h : H a = some (.tup (vi c))) : Dp K H (.ref a) (.tuple ((zi c).map PyData.int)) := .tup (SqT.of h) (by rw [vi_zi]; exact dp_ints (zi c))
theorem eqT {K : PySem.W.Frag} {H : Hp} {a b : Addr} {c e : List Nat} {Q : VK} (h1 : H a = some (.tup (vi c))) (h2 : H b = some (.tup (vi e))) (q : Q (.bl (decide (c = e))) H) : rEqD K (.ref a) (.ref b) H Q :=
  ⟨_, _, dpT h1, dpT h2, shaped_intsT _, shaped_intsT _, by
    have z : PyData.eqv (.tuple ((zi c).map PyData.int)) (.tuple ((zi e).map PyData.int)) = decide (c = e) := by
      show PyData.eqvAll _ _ = _
      rw [eqv_ints, decide_eq_decide]
      exact zi_inj
    rw [z]
    exact q⟩
theorem neT {K : PySem.W.Frag} {H : Hp} {a b : Addr} {c e : List Nat} {Q : VK} (h1 : H a = some (.tup (vi c))) (h2 : H b = some (.tup (vi e))) (q : Q (.bl (!decide (c = e))) H) : rNeD K (.ref a) (.ref b) H Q :=
  ⟨_, _, dpT h1, dpT h2, shaped_intsT _, shaped_intsT _, by
    have z : PyData.eqv (.tuple ((zi c).map PyData.int)) (.tuple ((zi e).map PyData.int)) = decide (c = e) := by
      show PyData.eqvAll _ _ = _
      rw [eqv_ints, decide_eq_decide]
      exact zi_inj
    rw [z]
    exact q⟩
def rLcm : List V → Hp → VK → Prop := fun vs H Q => ∃ a b : Int, vs = [.int a, .int b] ∧ a.natAbs < 2 ^ 64 ∧ b.natAbs < 2 ^ 64 ∧ Q (.int ((Nat.lcm a.natAbs b.natAbs : Nat) : Int)) H
theorem cr_lcm {X : Cx} : CallR X (.builtin "math.lcm") rLcm := by
  intro pins s σ H vs us Q I r h
  obtain ⟨a, b, rfl, ha, hb, q⟩ := h
  obtain ⟨t, u, rfl⟩ := Vals.int2 r
  exact PySem.W.mc_lcm ha hb fun _ => ⟨.int _, H, I.tok _, ⟨_, rfl⟩, q⟩
theorem fac_small : ∀ {n : Nat}, n ≤ 16 → fac n < 2 ^ 60 := by
  have : ∀ n, n < 17 → fac n < 2 ^ 60 := by decide
  exact fun {n} h => this n (by omega)
/-- L tells which counts leave all as it was -/
def OrdOf (n : Nat) (c : List Nat) (L : Nat) : Prop := 0 < L ∧ ∀ m, (∀ x, x < n → it c m x = x) ↔ L ∣ m
section
variable {P : Program} {w : World} {K : PySem.W.Frag} {mg : Str → Option Value} {base : Heap} {C fI : Addr}
/-- order_of(change) -/
def spOrd : Sp := fun vs H Q _ => ∃ (a : Addr) (n : Nat) (c : List Nat), vs = [.ref a] ∧ H a = some (.tup (vi c)) ∧ Chg n c ∧ n ≤ 16 ∧ ∀ H' L, Same H H' → OrdOf n c L → Q (.int (L : Nat)) H'
theorem sc16 : FnScope ["change", "least", "cycle"] ["change"] (defScope (top 17)) := ⟨rfl, rfl, rfl, by decide +kernel, rfl, by decide +kernel, by decide +kernel⟩
theorem ok_ord {f : Addr} {fd : FuncData} (B : Bl mg) (CC : Cal P w K mg base CX0 2 "_cycles" ["change"] spCyc) (F : Fun K "order_of" "order_of" (top 17) f fd) : FnOk P w K mg base CX0 3 f fd ["change"] spOrd := by
  refine F.ok sc16 (fun vs H Q E h => ?_) (fun cdv A outer s H vs Q E hr h => ⟨_,
    pss_cons (ps_set (i := 1) sc16.nd rfl (.inl rfl) pe_int)
    (pss_cons (ps_for PassesOwn.never rfl (pi_list (pe_cal (X := L2.Cx.nox _) CC hr (by decide) (pa_cons (pv 0) pa_nil))) (pg_name (i := 2) sc16.nd rfl (.inl rfl))
      (pss_one (ps_set (i := 1) sc16.nd rfl (.inl rfl) (pe_callBfun cr_lcm (by rfl) B.lcm (pa_cons (pv 1) (pa_cons (pe_callB call_len_seq (by rfl) B.len PySem.boot_len (pa_cons (pv 2) pa_nil)) pa_nil))))))
    (pss_one (ps_ret (pv 1)))), ?_⟩)
  · obtain ⟨a, n, c, rfl, _⟩ := h
    rfl
  obtain ⟨a, n, c, rfl, ha, hc, hn, q⟩ := h
  refine ⟨_, rfl, a, n, c, rfl, ha, hc, hn, fun p Hc as sc pn hp hea hcov hlen => ⟨p, rfl, ⟨_, SqL.of hp⟩, for_list (K := K) (a := p) (xs := as.map fun q => V.ref q.1)
    (fun i σ H' => H' = Hc ∧ ∃ (l : Nat) (u : Option V), σ = [some (.ref a), some (.int (l : Int)), u] ∧ 0 < l ∧ l ∣ fac n ∧ ∀ m, l ∣ m ↔ ∀ q ∈ as.take i, q.2.length ∣ m) ⟨rfl, 1, none, rfl, by decide, Nat.one_dvd _, fun m => by simp⟩ (fun i σ H' _ z => by rw [z.1]; exact SqL.of hp) ?_ ?_⟩⟩
  · rintro i x σ H2 hx ⟨rfl, l, u, rfl, l0, l1, l2⟩
    obtain ⟨q, hq, rfl⟩ := refs_at hx
    obtain ⟨hq1, hq2, hq3⟩ := hea q (List.mem_of_getElem? hq)
    have lv : (vi q.2).length = q.2.length := List.length_map ..
    have qn := hq2.le hc
    have f60 := fac_small hn
    have lf := Nat.le_of_dvd (fac_pos n) l1
    refine ⟨_, rfl, _, rfl, q.1, _, rfl, .inl (SqL.of hq1), _, _, rfl, ?_, ?_, rfl, Nat.lcm l q.2.length, some (.ref q.1), ?_, Nat.lcm_pos l0 hq2.pos, Nat.lcm_dvd l1 (hq2.dvd hc), fun m => ?_⟩
    · show ((l : Nat) : Int).natAbs < 2 ^ 64
      rw [Int.natAbs_natCast]
      omega
    · rw [lv, Int.natAbs_natCast]
      omega
    · rw [lv, Int.natAbs_natCast, Int.natAbs_natCast]
      rfl
    · rw [Nat.lcm_dvd_iff, l2, List.take_succ, hq]
      constructor
      · rintro ⟨z1, z2⟩ r hr
        rcases List.mem_append.mp hr with hr | hr
        · exact z1 r hr
        · have : r = q := by simpa using hr
          rw [this]
          exact z2
      · exact fun z => ⟨fun r hr => z r (List.mem_append_left _ hr), z q (by simp)⟩
  · rintro σ H2 ⟨rfl, l, u, rfl, l0, l1, l2⟩
    rw [show (as.map fun q => V.ref q.1).length = as.length from List.length_map .., List.take_length] at l2
    refine ⟨_, rfl, q _ l sc ⟨l0, fun m => ?_⟩⟩
    rw [l2]
    constructor
    · intro z r hr
      obtain ⟨_, hC, _⟩ := hea r hr
      obtain ⟨x, hx⟩ := List.exists_mem_of_ne_nil r.2 (fun e => by have := hC.pos; rw [e] at this; exact absurd this (by decide))
      exact (hC.back hc hx).mp (z x (hC.lt hc hx))
    · intro z x hx
      obtain ⟨r, hr, hm⟩ := hcov x hx
      exact ((hea r hr).2.1.back hc hm).mpr (z r hr)
/-- commute(one, other) -/
def spCom : Sp := fun vs H Q _ => ∃ (a b : Addr) (n : Nat) (c e : List Nat), vs = [.ref a, .ref b] ∧ H a = some (.tup (vi c)) ∧ H b = some (.tup (vi e)) ∧ Chg n c ∧ Chg n e ∧ n ≤ 16 ∧ ∀ H', Same H H' → Q (.bl (decide (comp c e = comp e c))) H'
theorem sc17 : FnScope ["one", "other"] ["one", "other"] (defScope (top 18)) := ⟨rfl, rfl, rfl, by decide +kernel, rfl, by decide +kernel, by decide +kernel⟩
theorem ok_com {f : Addr} {fd : FuncData} (CC : Cal P w K mg base CX0 1 "composed" ["one", "other"] spComp) (F : Fun K "commute" "commute" (top 18) f fd) : FnOk P w K mg base CX0 2 f fd ["one", "other"] spCom := by
  refine F.ok sc17 (fun vs H Q E h => ?_) (fun cdv A outer s H vs Q E hr h => ⟨_,
    pss_one (ps_ret (pe_cmpR (op_eqD hr.units) (pe_cal (X := L2.Cx.nox _) CC hr (by decide) (pa_cons (pv 0) (pa_cons (pv 1) pa_nil))) (pe_cal (X := L2.Cx.nox _) CC hr (by decide) (pa_cons (pv 1) (pa_cons (pv 0) pa_nil))) (nomark _))), ?_⟩)
  · obtain ⟨a, b, n, c, e, rfl, _⟩ := h
    rfl
  obtain ⟨a, b, n, c, e, rfl, ha, hb, hc, he, hn, q⟩ := h
  refine ⟨_, rfl, _, rfl, a, b, c, e, rfl, ha, hb, fun x hx => by rw [he.len]; exact hc.lt x hx, by rw [hc.len]; exact hn, fun t H1 s1 tn ht => ⟨_, rfl, _, rfl, b, a, e, c, rfl, s1 _ _ hb, s1 _ _ ha, fun x hx => by rw [hc.len]; exact he.lt x hx, by rw [he.len]; exact hn, fun u H2 s2 un hu => eqT (s2 _ _ ht) hu (q _ (s1.trans s2))⟩⟩
/-- looped, split_looped -/
def spLoo : Sp := fun vs H Q _ => ∃ (a b : Addr) (n : Nat) (c e : List Nat) (k : Int), vs = [.ref a, .ref b, .int k] ∧ H a = some (.tup (vi c)) ∧ H b = some (.tup (vi e)) ∧ Chg n c ∧ Chg n e ∧ n ≤ 16 ∧ ∀ t H', Same H H' → H t = none → H' t = some (.tup (vi (pw n (comp c e) k))) → Q (.ref t) H'
theorem sc18 : FnScope ["one", "other", "count"] ["one", "other", "count"] (defScope (top 19)) := ⟨rfl, rfl, rfl, by decide +kernel, rfl, by decide +kernel, by decide +kernel⟩
theorem ok_loo {f : Addr} {fd : FuncData} (CC : Cal P w K mg base CX0 1 "composed" ["one", "other"] spComp) (CR : Cal P w K mg base CX0 3 "raised" ["change", "count"] spRai) (F : Fun K "looped" "looped" (top 19) f fd) : FnOk P w K mg base CX0 4 f fd ["one", "other", "count"] spLoo := by
  refine F.ok sc18 (fun vs H Q E h => ?_) (fun cdv A outer s H vs Q E hr h => ⟨_,
    pss_one (ps_ret (pe_cal (X := L2.Cx.nox _) CR hr (by decide) (pa_cons (pe_cal (X := L2.Cx.nox _) CC hr (by decide) (pa_cons (pv 0) (pa_cons (pv 1) pa_nil))) (pa_cons (pv 2) pa_nil)))), ?_⟩)
  · obtain ⟨a, b, n, c, e, k, rfl, _⟩ := h
    rfl
  obtain ⟨a, b, n, c, e, k, rfl, ha, hb, hc, he, hn, q⟩ := h
  exact ⟨_, rfl, _, rfl, a, b, c, e, rfl, ha, hb, fun x hx => by rw [he.len]; exact hc.lt x hx, by rw [hc.len]; exact hn, fun t H1 s1 tn ht => ⟨_, rfl, t, n, comp c e, k, rfl, ht, chg_comp hc he, hn, fun u H2 s2 un hu => q u H2 (s1.trans s2) (s1.free un) hu⟩⟩
def spSpl : Sp := fun vs H Q _ => ∃ (a b : Addr) (n : Nat) (c e : List Nat) (k : Int), vs = [.ref a, .ref b, .int k] ∧ H a = some (.tup (vi c)) ∧ H b = some (.tup (vi e)) ∧ Chg n c ∧ Chg n e ∧ n ≤ 16 ∧ ∀ t H', Same H H' → H t = none → H' t = some (.tup (vi (comp (pw n c k) (pw n e k)))) → Q (.ref t) H'
theorem sc19 : FnScope ["one", "other", "count"] ["one", "other", "count"] (defScope (top 20)) := ⟨rfl, rfl, rfl, by decide +kernel, rfl, by decide +kernel, by decide +kernel⟩
theorem ok_spl {f : Addr} {fd : FuncData} (CC : Cal P w K mg base CX0 1 "composed" ["one", "other"] spComp) (CR : Cal P w K mg base CX0 3 "raised" ["change", "count"] spRai) (F : Fun K "split_looped" "split_looped" (top 20) f fd) : FnOk P w K mg base CX0 4 f fd ["one", "other", "count"] spSpl := by
  refine F.ok sc19 (fun vs H Q E h => ?_) (fun cdv A outer s H vs Q E hr h => ⟨_,
    pss_one (ps_ret (pe_cal (X := L2.Cx.nox _) CC hr (by decide) (pa_cons (pe_cal (X := L2.Cx.nox _) CR hr (by decide) (pa_cons (pv 0) (pa_cons (pv 2) pa_nil))) (pa_cons (pe_cal (X := L2.Cx.nox _) CR hr (by decide) (pa_cons (pv 1) (pa_cons (pv 2) pa_nil))) pa_nil)))), ?_⟩)
  · obtain ⟨a, b, n, c, e, k, rfl, _⟩ := h
    rfl
  obtain ⟨a, b, n, c, e, k, rfl, ha, hb, hc, he, hn, q⟩ := h
  exact ⟨_, rfl, _, rfl, a, n, c, k, rfl, ha, hc, hn, fun t H1 s1 tn ht => ⟨_, rfl, _, rfl, b, n, e, k, rfl, s1 _ _ hb, he, hn, fun u H2 s2 un hu => ⟨t, u, _, _, rfl, s2 _ _ ht, hu, fun x hx => by rw [(pw_chg he k).len]; exact (pw_chg hc k).lt x hx, by rw [(pw_chg hc k).len]; exact hn,
    fun v H3 s3 vn hv => q v H3 ((s1.trans s2).trans s3) ((s1.trans s2).free vn) hv⟩⟩⟩
end
end KV

/-! the defs that check what they are passed -/
namespace KV
open PySem PySem.Spec PyProof.Rows L2 KC
/-- a change of n states, as a value -/
def Good (n : Nat) (H : Hp) (v : V) (c : List Nat) : Prop := ∃ a : Addr, v = .ref a ∧ H a = some (.tup (vi c)) ∧ Chg n c ∧ 1 ≤ n ∧ n ≤ 16
theorem Good.same {n : Nat} {H H' : Hp} {v : V} {c : List Nat} (s : Same H H') (g : Good n H v c) : Good n H' v c := let ⟨a, e, h, r⟩ := g; ⟨a, e, s _ _ h, r⟩
theorem Good.val {K : PySem.W.Frag} {n : Nat} {H : Hp} {v : V} {c : List Nat} (g : Good n H v c) : ValT K H v (some (vi c)) := by
  obtain ⟨a, rfl, h, hc, _, hn⟩ := g
  exact ⟨a, rfl, h, fun x hx => by
    obtain ⟨m, _, rfl⟩ := List.mem_map.mp hx
    exact .inl ⟨_, rfl⟩, by rw [List.length_map, hc.len]; exact hn⟩
theorem chB_chg {n : Nat} {c : List Nat} (h : Chg n c) (h1 : 1 ≤ n) : chB (vi c) = true := by
  have l : (vi c).length = n := by rw [List.length_map]; exact h.len
  unfold chB
  rw [l, decide_eq_true h1, Bool.true_and, Bool.and_eq_true]
  constructor
  · rw [List.all_eq_true]
    intro x hx
    obtain ⟨m, hm, rfl⟩ := List.mem_map.mp hx
    have := h.lt m hm
    show (decide (0 ≤ ((m : Nat) : Int)) && decide (((m : Nat) : Int) < (n : Int))) = true
    rw [decide_eq_true (by omega), decide_eq_true (by omega)]
    rfl
  · rw [vi_zi, decide_eq_true_eq, nodup_ints]
    unfold zi List.Nodup
    rw [List.pairwise_map]
    exact h.nd.imp fun z e => z (by omega)
theorem Good.isC {n : Nat} {H : Hp} {v : V} {c : List Nat} (g : Good n H v c) : KV.isC (some (vi c)) = true := by
  obtain ⟨a, rfl, h, hc, h1, hn⟩ := g
  exact chB_chg hc h1
theorem Good.isCh {n : Nat} {H : Hp} {v : V} {c : List Nat} (g : Good n H v c) : KV.isCh (n : Int) (some (vi c)) = true := by
  obtain ⟨a, rfl, h, hc, h1, hn⟩ := g
  show (decide ((((vi c).length : Nat) : Int) = (n : Int)) && chB (vi c)) = true
  rw [chB_chg hc h1, decide_eq_true (by rw [List.length_map, hc.len]), Bool.true_and]
/-- two values are refused -/
def Ref2 (ms us : Option (List V)) : Prop := isC ms = false ∨ ∃ xs, ms = some xs ∧ isC ms = true ∧ isCh ((xs.length : Nat) : Int) us = false
section
variable {P : Program} {w : World} {K : PySem.W.Frag} {mg : Str → Option Value} {base : Heap} {C fI : Addr}
def spFol (K : PySem.W.Frag) (C : Addr) : Sp := fun vs H Q E => (∃ (v u : V) (n : Nat) (c e : List Nat), vs = [v, u] ∧ Good n H v c ∧ Good n H u e ∧ ∀ t H', Same H H' → H t = none → H' t = some (.tup (vi (comp c e))) → Q (.ref t) H') ∨
  ∃ (v u : V) (ms us : Option (List V)), vs = [v, u] ∧ ValT K H v ms ∧ ValT K H u us ∧ Ref2 ms us ∧ Bad C H E
theorem sc20 : FnScope ["one", "other"] ["one", "other"] (defScope (top 21)) := ⟨rfl, rfl, rfl, by decide +kernel, rfl, by decide +kernel, by decide +kernel⟩
theorem ok_Fol {f : Addr} {fd : FuncData} (C2 : Cal P w K mg base (L2.CX P w) 6 "_check_two" ["one", "other"] (spTwo K C)) (CC : Cal P w K mg base CX0 1 "composed" ["one", "other"] spComp) (F : Fun K "followed" "followed" (top 21) f fd) :
    FnOk P w K mg base (L2.CX P w) 7 f fd ["one", "other"] (spFol K C) := by
  refine F.okX sc20 (fun vs H Q E h => ?_) (fun cdv A outer s H vs Q E hr h => ⟨_, pss_cons (ps_expr (by exact (pe_calX C2 hr (by decide) (takes_of rfl rfl rfl rfl) (fun _ _ _ _ z => z) (pa_cons (pv 0) (pa_cons (pv 1) pa_nil)))))
    (pss_one (ps_ret (by exact (pe_cal CC hr (by decide) (pa_cons (pv 0) (pa_cons (pv 1) pa_nil)))))), ?_⟩)
  · rcases h with ⟨v, u, n, c, e, rfl, _⟩ | ⟨v, u, ms, us, rfl, _⟩ <;> rfl
  rcases h with ⟨v, u, n, c, e, rfl, g1, g2, q⟩ | ⟨v, u, ms, us, rfl, h1, h2, bad, b⟩
  · refine ⟨_, rfl, _, rfl, v, u, some (vi c), some (vi e), rfl, g1.val, g2.val, .inr ⟨vi c, rfl, g1.isC, fun _ H1 s1 => ?_, fun z => ?_⟩⟩
    · obtain ⟨a, rfl, ha, hc, h1, hn⟩ := g1
      obtain ⟨b, rfl, hb, he, _, _⟩ := g2
      exact ⟨_, rfl, _, rfl, a, b, c, e, rfl, s1 _ _ ha, s1 _ _ hb, fun x hx => by rw [he.len]; exact hc.lt x hx, by rw [hc.len]; exact hn, fun t H2 s2 tn ht => q t H2 (s1.trans s2) (s1.free tn) ht⟩
    · have l : (vi c).length = n := by
        obtain ⟨a, rfl, ha, hc, h1, hn⟩ := g1
        rw [List.length_map]
        exact hc.len
      rw [l, g2.isCh] at z
      cases z
  · refine ⟨_, rfl, _, rfl, v, u, ms, us, rfl, h1, h2, ?_⟩
    rcases bad with z | ⟨xs, z1, z2, z3⟩
    · exact .inl ⟨z, b⟩
    · exact .inr ⟨xs, z1, z2, fun z => absurd (z3.symm.trans z) (by decide), fun _ => b⟩
def spCp (K : PySem.W.Frag) (C : Addr) : Sp := fun vs H Q E => (∃ (v u : V) (n : Nat) (c e : List Nat), vs = [v, u] ∧ Good n H v c ∧ Good n H u e ∧ ∀ H', Same H H' → Q (.bl (decide (comp c e = comp e c))) H') ∨
  ∃ (v u : V) (ms us : Option (List V)), vs = [v, u] ∧ ValT K H v ms ∧ ValT K H u us ∧ Ref2 ms us ∧ Bad C H E
theorem sc24 : FnScope ["one", "other"] ["one", "other"] (defScope (top 25)) := ⟨rfl, rfl, rfl, by decide +kernel, rfl, by decide +kernel, by decide +kernel⟩
theorem ok_Cp {f : Addr} {fd : FuncData} (C2 : Cal P w K mg base (L2.CX P w) 6 "_check_two" ["one", "other"] (spTwo K C)) (CC : Cal P w K mg base CX0 2 "commute" ["one", "other"] spCom) (F : Fun K "change_places" "change_places" (top 25) f fd) :
    FnOk P w K mg base (L2.CX P w) 7 f fd ["one", "other"] (spCp K C) := by
  refine F.okX sc24 (fun vs H Q E h => ?_) (fun cdv A outer s H vs Q E hr h => ⟨_, pss_cons (ps_expr (by exact (pe_calX C2 hr (by decide) (takes_of rfl rfl rfl rfl) (fun _ _ _ _ z => z) (pa_cons (pv 0) (pa_cons (pv 1) pa_nil)))))
    (pss_one (ps_ret (by exact (pe_cal CC hr (by decide) (pa_cons (pv 0) (pa_cons (pv 1) pa_nil)))))), ?_⟩)
  · rcases h with ⟨v, u, n, c, e, rfl, _⟩ | ⟨v, u, ms, us, rfl, _⟩ <;> rfl
  rcases h with ⟨v, u, n, c, e, rfl, g1, g2, q⟩ | ⟨v, u, ms, us, rfl, h1, h2, bad, b⟩
  · refine ⟨_, rfl, _, rfl, v, u, some (vi c), some (vi e), rfl, g1.val, g2.val, .inr ⟨vi c, rfl, g1.isC, fun _ H1 s1 => ?_, fun z => ?_⟩⟩
    · obtain ⟨a, rfl, ha, hc, h1, hn⟩ := g1
      obtain ⟨b, rfl, hb, he, _, _⟩ := g2
      exact ⟨_, rfl, _, rfl, a, b, n, c, e, rfl, s1 _ _ ha, s1 _ _ hb, hc, he, hn, fun H2 s2 => q H2 (s1.trans s2)⟩
    · have l : (vi c).length = n := by
        obtain ⟨a, rfl, ha, hc, h1, hn⟩ := g1
        rw [List.length_map]
        exact hc.len
      rw [l, g2.isCh] at z
      cases z
  · refine ⟨_, rfl, _, rfl, v, u, ms, us, rfl, h1, h2, ?_⟩
    rcases bad with z | ⟨xs, z1, z2, z3⟩
    · exact .inl ⟨z, b⟩
    · exact .inr ⟨xs, z1, z2, fun z => absurd (z3.symm.trans z) (by decide), fun _ => b⟩
def spLp (K : PySem.W.Frag) (C : Addr) : Sp := fun vs H Q E => (∃ (v u : V) (n : Nat) (c e : List Nat) (k : Int), vs = [v, u, .int k] ∧ Good n H v c ∧ Good n H u e ∧ ∀ t H', Same H H' → H t = none → H' t = some (.tup (vi (pw n (comp c e) k))) → Q (.ref t) H') ∨
  ∃ (v u : V) (ms us : Option (List V)) (k : Int), vs = [v, u, .int k] ∧ ValT K H v ms ∧ ValT K H u us ∧ Ref2 ms us ∧ Bad C H E
theorem sc25 : FnScope ["one", "other", "count"] ["one", "other", "count"] (defScope (top 26)) := ⟨rfl, rfl, rfl, by decide +kernel, rfl, by decide +kernel, by decide +kernel⟩
theorem ok_Lp {f : Addr} {fd : FuncData} (C2 : Cal P w K mg base (L2.CX P w) 6 "_check_two" ["one", "other"] (spTwo K C)) (CC : Cal P w K mg base CX0 4 "looped" ["one", "other", "count"] spLoo) (F : Fun K "loop" "loop" (top 26) f fd) :
    FnOk P w K mg base (L2.CX P w) 7 f fd ["one", "other", "count"] (spLp K C) := by
  refine F.okX sc25 (fun vs H Q E h => ?_) (fun cdv A outer s H vs Q E hr h => ⟨_, pss_cons (ps_expr (by exact (pe_calX C2 hr (by decide) (takes_of rfl rfl rfl rfl) (fun _ _ _ _ z => z) (pa_cons (pv 0) (pa_cons (pv 1) pa_nil)))))
    (pss_one (ps_ret (by exact (pe_cal CC hr (by decide) (pa_cons (pv 0) (pa_cons (pv 1) (pa_cons (pv 2) pa_nil))))))), ?_⟩)
  · rcases h with ⟨v, u, n, c, e, k, rfl, _⟩ | ⟨v, u, ms, us, k, rfl, _⟩ <;> rfl
  rcases h with ⟨v, u, n, c, e, k, rfl, g1, g2, q⟩ | ⟨v, u, ms, us, k, rfl, h1, h2, bad, b⟩
  · refine ⟨_, rfl, _, rfl, v, u, some (vi c), some (vi e), rfl, g1.val, g2.val, .inr ⟨vi c, rfl, g1.isC, fun _ H1 s1 => ?_, fun z => ?_⟩⟩
    · obtain ⟨a, rfl, ha, hc, h1, hn⟩ := g1
      obtain ⟨b, rfl, hb, he, _, _⟩ := g2
      exact ⟨_, rfl, _, rfl, _, rfl, a, b, n, c, e, k, rfl, s1 _ _ ha, s1 _ _ hb, hc, he, hn, fun t H2 s2 tn ht => q t H2 (s1.trans s2) (s1.free tn) ht⟩
    · have l : (vi c).length = n := by
        obtain ⟨a, rfl, ha, hc, h1, hn⟩ := g1
        rw [List.length_map]
        exact hc.len
      rw [l, g2.isCh] at z
      cases z
  · refine ⟨_, rfl, _, rfl, v, u, ms, us, rfl, h1, h2, ?_⟩
    rcases bad with z | ⟨xs, z1, z2, z3⟩
    · exact .inl ⟨z, b⟩
    · exact .inr ⟨xs, z1, z2, fun z => absurd (z3.symm.trans z) (by decide), fun _ => b⟩
def spSp (K : PySem.W.Frag) (C : Addr) : Sp := fun vs H Q E => (∃ (v u : V) (n : Nat) (c e : List Nat) (k : Int), vs = [v, u, .int k] ∧ Good n H v c ∧ Good n H u e ∧ ∀ t H', Same H H' → H t = none → H' t = some (.tup (vi (comp (pw n c k) (pw n e k)))) → Q (.ref t) H') ∨
  ∃ (v u : V) (ms us : Option (List V)) (k : Int), vs = [v, u, .int k] ∧ ValT K H v ms ∧ ValT K H u us ∧ Ref2 ms us ∧ Bad C H E
theorem sc26 : FnScope ["one", "other", "count"] ["one", "other", "count"] (defScope (top 27)) := ⟨rfl, rfl, rfl, by decide +kernel, rfl, by decide +kernel, by decide +kernel⟩
theorem ok_Sp {f : Addr} {fd : FuncData} (C2 : Cal P w K mg base (L2.CX P w) 6 "_check_two" ["one", "other"] (spTwo K C)) (CC : Cal P w K mg base CX0 4 "split_looped" ["one", "other", "count"] spSpl) (F : Fun K "split_loop" "split_loop" (top 27) f fd) :
    FnOk P w K mg base (L2.CX P w) 7 f fd ["one", "other", "count"] (spSp K C) := by
  refine F.okX sc26 (fun vs H Q E h => ?_) (fun cdv A outer s H vs Q E hr h => ⟨_, pss_cons (ps_expr (by exact (pe_calX C2 hr (by decide) (takes_of rfl rfl rfl rfl) (fun _ _ _ _ z => z) (pa_cons (pv 0) (pa_cons (pv 1) pa_nil)))))
    (pss_one (ps_ret (by exact (pe_cal CC hr (by decide) (pa_cons (pv 0) (pa_cons (pv 1) (pa_cons (pv 2) pa_nil))))))), ?_⟩)
  · rcases h with ⟨v, u, n, c, e, k, rfl, _⟩ | ⟨v, u, ms, us, k, rfl, _⟩ <;> rfl
  rcases h with ⟨v, u, n, c, e, k, rfl, g1, g2, q⟩ | ⟨v, u, ms, us, k, rfl, h1, h2, bad, b⟩
  · refine ⟨_, rfl, _, rfl, v, u, some (vi c), some (vi e), rfl, g1.val, g2.val, .inr ⟨vi c, rfl, g1.isC, fun _ H1 s1 => ?_, fun z => ?_⟩⟩
    · obtain ⟨a, rfl, ha, hc, h1, hn⟩ := g1
      obtain ⟨b, rfl, hb, he, _, _⟩ := g2
      exact ⟨_, rfl, _, rfl, _, rfl, a, b, n, c, e, k, rfl, s1 _ _ ha, s1 _ _ hb, hc, he, hn, fun t H2 s2 tn ht => q t H2 (s1.trans s2) (s1.free tn) ht⟩
    · have l : (vi c).length = n := by
        obtain ⟨a, rfl, ha, hc, h1, hn⟩ := g1
        rw [List.length_map]
        exact hc.len
      rw [l, g2.isCh] at z
      cases z
  · refine ⟨_, rfl, _, rfl, v, u, ms, us, rfl, h1, h2, ?_⟩
    rcases bad with z | ⟨xs, z1, z2, z3⟩
    · exact .inl ⟨z, b⟩
    · exact .inr ⟨xs, z1, z2, fun z => absurd (z3.symm.trans z) (by decide), fun _ => b⟩
def spBk (K : PySem.W.Frag) (C : Addr) : Sp := fun vs H Q E => (∃ (v : V) (n : Nat) (c : List Nat), vs = [v] ∧ Good n H v c ∧ ∀ t H' e, Same H H' → H t = none → H' t = some (.tup (vi e)) → Und n c e → Q (.ref t) H') ∨
  ∃ (v : V) (ms : Option (List V)), vs = [v] ∧ ValT K H v ms ∧ isC ms = false ∧ Bad C H E
theorem sc21 : FnScope ["change"] ["change"] (defScope (top 22)) := ⟨rfl, rfl, rfl, by decide +kernel, rfl, by decide +kernel, by decide +kernel⟩
theorem ok_Bk {f : Addr} {fd : FuncData} (C2 : Cal P w K mg base (L2.CX P w) 5 "_check_alone" ["value"] (spAlone K C)) (CC : Cal P w K mg base CX0 1 "undone" ["change"] spUnd) (F : Fun K "back" "back" (top 22) f fd) :
    FnOk P w K mg base (L2.CX P w) 6 f fd ["change"] (spBk K C) := by
  refine F.okX sc21 (fun vs H Q E h => ?_) (fun cdv A outer s H vs Q E hr h => ⟨_, pss_cons (ps_expr (by exact (pe_calX C2 hr (by decide) (takes_of rfl rfl rfl rfl) (fun _ _ _ _ z => z) (pa_cons (pv 0) pa_nil))))
    (pss_one (ps_ret (by exact (pe_cal CC hr (by decide) (pa_cons (pv 0) pa_nil))))), ?_⟩)
  · rcases h with ⟨v, n, c, rfl, _⟩ | ⟨v, ms, rfl, _⟩ <;> rfl
  rcases h with ⟨v, n, c, rfl, g1, q⟩ | ⟨v, ms, rfl, h1, bad, b⟩
  · refine ⟨_, rfl, v, some (vi c), rfl, g1.val, fun _ H1 s1 => ?_, fun z => absurd (g1.isC.symm.trans z) (by decide)⟩
    obtain ⟨a, rfl, ha, hc, h1, hn⟩ := g1
    exact ⟨_, rfl, a, n, c, rfl, s1 _ _ ha, hc, hn, fun t H2 e s2 tn ht hu => q t H2 e (s1.trans s2) (s1.free tn) ht hu⟩
  · exact ⟨_, rfl, v, ms, rfl, h1, fun z => absurd (bad.symm.trans z) (by decide), fun _ => b⟩
def spPw (K : PySem.W.Frag) (C : Addr) : Sp := fun vs H Q E => (∃ (v : V) (n : Nat) (c : List Nat) (k : Int), vs = [v, .int k] ∧ Good n H v c ∧ ∀ t H', Same H H' → H t = none → H' t = some (.tup (vi (pw n c k))) → Q (.ref t) H') ∨
  ∃ (v : V) (ms : Option (List V)) (k : Int), vs = [v, .int k] ∧ ValT K H v ms ∧ isC ms = false ∧ Bad C H E
theorem sc22 : FnScope ["change", "count"] ["change", "count"] (defScope (top 23)) := ⟨rfl, rfl, rfl, by decide +kernel, rfl, by decide +kernel, by decide +kernel⟩
theorem ok_Pw {f : Addr} {fd : FuncData} (C2 : Cal P w K mg base (L2.CX P w) 5 "_check_alone" ["value"] (spAlone K C)) (CC : Cal P w K mg base CX0 3 "raised" ["change", "count"] spRai) (F : Fun K "power" "power" (top 23) f fd) :
    FnOk P w K mg base (L2.CX P w) 6 f fd ["change", "count"] (spPw K C) := by
  refine F.okX sc22 (fun vs H Q E h => ?_) (fun cdv A outer s H vs Q E hr h => ⟨_, pss_cons (ps_expr (by exact (pe_calX C2 hr (by decide) (takes_of rfl rfl rfl rfl) (fun _ _ _ _ z => z) (pa_cons (pv 0) pa_nil))))
    (pss_one (ps_ret (by exact (pe_cal CC hr (by decide) (pa_cons (pv 0) (pa_cons (pv 1) pa_nil)))))), ?_⟩)
  · rcases h with ⟨v, n, c, k, rfl, _⟩ | ⟨v, ms, k, rfl, _⟩ <;> rfl
  rcases h with ⟨v, n, c, k, rfl, g1, q⟩ | ⟨v, ms, k, rfl, h1, bad, b⟩
  · refine ⟨_, rfl, v, some (vi c), rfl, g1.val, fun _ H1 s1 => ?_, fun z => absurd (g1.isC.symm.trans z) (by decide)⟩
    obtain ⟨a, rfl, ha, hc, h1, hn⟩ := g1
    exact ⟨_, rfl, _, rfl, a, n, c, k, rfl, s1 _ _ ha, hc, hn, fun t H2 s2 tn ht => q t H2 (s1.trans s2) (s1.free tn) ht⟩
  · exact ⟨_, rfl, v, ms, rfl, h1, fun z => absurd (bad.symm.trans z) (by decide), fun _ => b⟩
def spOr (K : PySem.W.Frag) (C : Addr) : Sp := fun vs H Q E => (∃ (v : V) (n : Nat) (c : List Nat), vs = [v] ∧ Good n H v c ∧ ∀ H' L, Same H H' → OrdOf n c L → Q (.int (L : Nat)) H') ∨
  ∃ (v : V) (ms : Option (List V)), vs = [v] ∧ ValT K H v ms ∧ isC ms = false ∧ Bad C H E
theorem sc23 : FnScope ["change"] ["change"] (defScope (top 24)) := ⟨rfl, rfl, rfl, by decide +kernel, rfl, by decide +kernel, by decide +kernel⟩
theorem ok_Or {f : Addr} {fd : FuncData} (C2 : Cal P w K mg base (L2.CX P w) 5 "_check_alone" ["value"] (spAlone K C)) (CC : Cal P w K mg base CX0 3 "order_of" ["change"] spOrd) (F : Fun K "order" "order" (top 24) f fd) :
    FnOk P w K mg base (L2.CX P w) 6 f fd ["change"] (spOr K C) := by
  refine F.okX sc23 (fun vs H Q E h => ?_) (fun cdv A outer s H vs Q E hr h => ⟨_, pss_cons (ps_expr (by exact (pe_calX C2 hr (by decide) (takes_of rfl rfl rfl rfl) (fun _ _ _ _ z => z) (pa_cons (pv 0) pa_nil))))
    (pss_one (ps_ret (by exact (pe_cal CC hr (by decide) (pa_cons (pv 0) pa_nil))))), ?_⟩)
  · rcases h with ⟨v, n, c, rfl, _⟩ | ⟨v, ms, rfl, _⟩ <;> rfl
  rcases h with ⟨v, n, c, rfl, g1, q⟩ | ⟨v, ms, rfl, h1, bad, b⟩
  · refine ⟨_, rfl, v, some (vi c), rfl, g1.val, fun _ H1 s1 => ?_, fun z => absurd (g1.isC.symm.trans z) (by decide)⟩
    obtain ⟨a, rfl, ha, hc, h1, hn⟩ := g1
    exact ⟨_, rfl, a, n, c, rfl, s1 _ _ ha, hc, hn, fun H2 L s2 ho => q H2 L (s1.trans s2) ho⟩
  · exact ⟨_, rfl, v, ms, rfl, h1, fun z => absurd (bad.symm.trans z) (by decide), fun _ => b⟩
end
end KV

/-! powers: of counts below 0, of powers; periods -/
namespace KC
section
variable {n : Nat} {c : List Nat}
theorem Und.to (h : Chg n c) {e : List Nat} (a : Und n c e) {y : Nat} (hy : y < n) : c.getD (e.getD y 0) 0 = y := by
  obtain ⟨i, hi, rfl⟩ := h.mem hy
  rw [a.at h hi]
theorem it_one (i : Nat) : it c 1 i = c.getD i 0 := rfl
theorem Und.it (h : Chg n c) {e : List Nat} (a : Und n c e) {i : Nat} (hi : i < n) : ∀ K, KC.it c K (KC.it e K i) = i
  | 0 => rfl
  | K + 1 => by
    rw [it_add, it_one]
    show KC.it c K (c.getD (e.getD (KC.it e K i) 0) 0) = i
    rw [a.to h (it_lt (a.chg h) hi K), a.it h hi K]
theorem it_zero (i : Nat) : it c 0 i = i := rfl
theorem pw_zero (h : Chg n c) : pw n c 0 = tab n id := by
  have z := pw_nat h 0
  rw [show ((0 : Nat) : Int) = 0 from rfl] at z
  rw [z]
  exact tab_congr fun i _ => rfl
theorem pw_get {k : Int} {i : Nat} (hi : i < n) : (pw n c k).getD i 0 = it c (k % (fac n : Int)).toNat i := tab_getD hi
theorem pw_neg (h : Chg n c) {e : List Nat} (a : Und n c e) (K : Nat) : pw n c (-(K : Int)) = tab n (it e K) := by
  have z := pw_add h (-(K : Int)) (K : Int)
  rw [show -(K : Int) + K = 0 by omega, pw_zero h, pw_nat h] at z
  unfold pw at z ⊢
  rw [comp_tab (fun i hi => it_lt h hi _)] at z
  have z2 := tab_inj z
  refine tab_congr fun i hi => ?_
  have l1 : it c K (it c ((-(K : Int)) % (fac n : Int)).toNat i) = i := z2 i hi
  exact it_inj h (it_lt h hi _) (it_lt (a.chg h) hi _) K (l1.trans (a.it h hi K).symm)
theorem und_pw (h : Chg n c) {e : List Nat} (a : Und n c e) : pw n c (-1) = e := by
  have z := pw_neg h a 1
  rw [show -((1 : Nat) : Int) = -1 from rfl] at z
  rw [z, eq_tab a.1]
  exact tab_congr fun i hi => by rw [it_one, ← eq_tab a.1]
theorem it_pw (h : Chg n c) (a : Nat) {i : Nat} (hi : i < n) : ∀ m, it (tab n (it c a)) m i = it c (a * m) i
  | 0 => by rw [Nat.mul_zero]; rfl
  | m + 1 => by
    have ih := it_pw h a hi m
    show (tab n (it c a)).getD (it (tab n (it c a)) m i) 0 = _
    rw [ih, tab_getD (it_lt h hi _), Nat.mul_succ, Nat.add_comm, it_add]
theorem pw_pw (h : Chg n c) (a b : Nat) : pw n (pw n c a) b = pw n c ((a * b : Nat) : Int) := by
  rw [pw_nat (pw_chg h _), pw_nat h, pw_nat h]
  exact tab_congr fun i hi => it_pw h a hi b
theorem comp_len {e : List Nat} : (comp c e).length = c.length := List.length_map ..
theorem comp_pw_comm (h : Chg n c) (a b : Int) : comp (pw n c a) (pw n c b) = comp (pw n c b) (pw n c a) := by
  rw [pw_add h, pw_add h, Int.add_comm]
theorem pw_one (h : Chg n c) : pw n c 1 = c := by
  have z := pw_nat h 1
  rw [show ((1 : Nat) : Int) = 1 from rfl] at z
  rw [z]
  have e : c = tab n fun i => c.getD i 0 := eq_tab h.len
  exact (tab_congr fun i _ => rfl).trans e.symm
theorem pw_period (h : Chg n c) {L : Nat} (e : pw n c L = tab n id) (k : Int) : pw n c (k + L) = pw n c k := by
  rw [← pw_add h, e]
  unfold pw
  rw [comp_tab (fun i hi => it_lt h hi _)]
  exact tab_congr fun i _ => rfl
theorem pw_periods (h : Chg n c) {L : Nat} (e : pw n c L = tab n id) (k : Int) (m : Nat) : pw n c (k + L * m) = pw n c k := by
  induction m with
  | zero => simp
  | succ m ih =>
    have : k + (L : Int) * ((m + 1 : Nat) : Int) = (k + L * m) + L := by
      rw [Int.natCast_add, Int.mul_add]
      simp only [Int.natCast_one, Int.mul_one]
      omega
    rw [this, pw_period h e, ih]
theorem pw_mod (h : Chg n c) {L : Nat} (l0 : 0 < L) (e : pw n c L = tab n id) (k : Int) : pw n c (k % L) = pw n c k := by
  have L0 : (0 : Int) < L := by omega
  rcases Int.le_total 0 (k / L) with z | z
  · have := pw_periods h e (k % L) (k / L).toNat
    rw [Int.toNat_of_nonneg z, Int.emod_add_mul_ediv] at this
    exact this.symm
  · have := pw_periods h e k (-(k / L)).toNat
    rw [Int.toNat_of_nonneg (by omega)] at this
    rw [← this]
    congr 1
    have z2 := Int.emod_add_mul_ediv k L
    have z3 : (L : Int) * -(k / L) = -(L * (k / L)) := Int.mul_neg ..
    rw [z3]
    omega
end
end KC

/-! calls by keywords alone; asked -/
namespace KV
open PySem PySem.Spec PyProof.Rows L2 KC
def rv {α : Type} (b : Bool) (l : List α) : List α := if b = true then l.reverse else l
theorem vals_app : ∀ {vs zs : List V} {us ws : List Value}, Vals vs us → Vals zs ws → Vals (vs ++ zs) (us ++ ws)
  | [], _, _, _, .nil, k => k
  | _ :: _, _, _, _, .cons r h, k => .cons r (vals_app h k)
theorem vals_rev : ∀ {vs : List V} {us : List Value}, Vals vs us → Vals vs.reverse us.reverse
  | [], _, .nil => .nil
  | _ :: _, _, .cons r h => by
    rw [List.reverse_cons, List.reverse_cons]
    exact vals_app (vals_rev h) (.cons r .nil)
theorem vals_rv {b : Bool} {vs : List V} {us : List Value} (h : Vals vs us) : Vals (rv b vs) (rv b us) := by
  cases b with
  | false => exact h
  | true => exact vals_rev h
/-- how a call with keywords alone binds: the names ks stand in the parameters' order, or the other way round (b) -/
def KB (K : PySem.W.Frag) (fd : FuncData) (ps ks : List Str) (b : Bool) : Prop := ∀ (s : Shared) (ws : List Value), K.In s.heap → (rv b ws).length = ps.length → BindsTo s fd ⟨[], ks.zip ws⟩ (ps.zip (rv b ws))
theorem KB.mk {K : PySem.W.Frag} {x qual : Str} {st : Stmt} {f : Addr} {fd : FuncData} {ps ks : List Str} {b : Bool} (F : Fun K x qual st f fd)
    (h : ∀ (kV doc pm : Value) (an : Option Addr) (cdv ct : Value) (us : List Value), us.length = ps.length → bindArgs (PySem.W.fnOf x qual (defArgs st) (defBody st) (defScope st) .none kV doc pm an cdv ct) ⟨[], ks.zip us⟩ = pure (ps.zip (rv b us))) : KB K fd ps ks b := by
  obtain ⟨oc, od, kV, doc, pm, an, cdv, ct, osl, rfl, lk, hcd⟩ := F.ex
  intro s ws _ hl
  refine .of_eq (h kV doc pm an cdv ct ws ?_)
  cases b with
  | false => exact hl
  | true => exact (List.length_reverse (as := ws)).symm.trans hl
/-- a def of the module that may be called with keywords alone -/
def CalK (P : Program) (w : World) (K : PySem.W.Frag) (mg : Str → Option Value) (base : Heap) (Z : CXT) (k : Nat) (x : Str) (ps ks : List Str) (b : Bool) (sp : Sp) : Prop :=
  ∃ (f : Addr) (fd : FuncData), FnOk P w K mg base Z k f fd ps sp ∧ mg x = some (.ref f) ∧ PySem.W.keepIn K (.ref f) = true ∧ KB K fd ps ks b
section
variable {X : Cx} {Z : CXT} {k j : Nat} {f : Addr} {fd : FuncData} {x : Str} {ps ks : List Str} {b : Bool} {sp : Sp} {p pos : Pos} {kws : List Keyword} {tk : TA} {E : L2.St → XK}
theorem run_fnSK {pins : List (Addr × Obj)} {σ : L2.St} {H : Hp} {s : Shared} {Q : VK} {ws : List Value} {zs : List V} (F : FnOk X.prog X.w X.K X.mg X.base Z k f fd ps sp) (hr : Room k X.A) (hb : KB X.K fd ps ks b) (hx : PassesAt Z X σ (E σ))
    (I : L2.Inv X pins σ H s) (rz : Vals zs ws) (h : sp (rv b zs) H Q (E σ)) : wpAny (model X.prog X.w) X.A (call (.ref f) [] (ks.zip ws)) (EP X pins σ Q) X.xe s := by
  have r2 := vals_rv (b := b) rz
  have hl : (rv b ws).length = ps.length := by rw [← r2.length]; exact F.len _ _ _ _ h
  refine wpAny_call (codeAny_mono (F.run X.A X.stack s H ⟨[], ks.zip ws⟩ (rv b ws) (rv b zs) Q (E σ) hr I.env0 (hb s ws I.kIn hl) r2 h) fun r s' hq => ?_)
  cases r with
  | error e => exact hx pins H s e s' I hq
  | ok fl =>
    cases fl with
    | ret u => exact I.after hq
    | next => exact False.elim hq
    | brk => exact False.elim hq
    | cont => exact False.elim hq
def tCallSK (sp : Sp) (b : Bool) (E : L2.St → XK) (tk : TA) : TE := fun σ H Q => tk σ H fun zs H1 => sp (rv b zs) H1 Q (E σ)
theorem pe_calSK (C : CalK X.prog X.w X.K X.mg X.base Z k x ps ks b sp) (hr : Room j X.A) (hj : k ≤ j) (hx : ∀ σ, PassesAt Z X σ (E σ)) (hkw : PK X kws tk) (hg : Gl X x := by rfl)
    (hall : (backToKw pos (keywordEach kws X.env)).all (·.1.isSome) = true := by rfl) (hks : (backToKw pos (keywordEach kws X.env)).filterMap (·.1) = ks := by rfl)
    (hdb : (x == ("__debug__" : Str)) = false := by decide)
    (hpl : ((backTo pos (starEach [] X.env)).any (·.1) || (backToKw pos (keywordEach kws X.env)).any (·.1.isNone)) = false := by rfl) :
    PE X (.Call (.Name x p) [] kws pos) (tCallSK sp b E tk) := by
  obtain ⟨f, fd, F, hm, hk, hb⟩ := C
  refine ⟨fun pins s σ H Q I h => ?_⟩
  refine wpAny_Call_Name_kw (ld_glob I hg hm ?_ hdb)
  refine PySem.W.callWith_KW0 (first := []) (h₀ := X.base) I.ok.mod.kin hk hall (thn (hkw.run pos pins s σ H _ I h) fun ws s2 ⟨zs, H2, I2, rz, q2⟩ => ⟨I2.kIn, ?_⟩) hpl
  rw [hks]
  exact run_fnSK F (hr.mono hj) hb (hx σ) I2 rz q2
theorem pe_calS {e : Expr} {es : List Expr} {t : TA} (C : Cal X.prog X.w X.K X.mg X.base Z k x ps sp) (hr : Room j X.A) (hj : k ≤ j) (hx : ∀ σ, PassesAt Z X σ (E σ)) (ha : PA X (e :: es) t)
    (hg : Gl X x := by rfl) (hdb : (x == ("__debug__" : Str)) = false := by decide)
    (he : starEach (e :: es) X.env = (false, eval e X.env) :: starEach es X.env := by rfl)
    (hpl : (backTo pos (starEach es X.env)).any (·.1) = false := by rfl) :
    PE X (.Call (.Name x p) (e :: es) [] pos) (tCallS sp E t) := by
  obtain ⟨f, fd, F, h1, h2, h3⟩ := C
  exact pe_callS F (hr.mono hj) hg h1 h2 h3 hx ha hdb he hpl
end
theorem passL {X : Cx} (σ : L2.St) : PassesAt (L2.CX X.prog X.w) X σ E0 := fun _ _ _ _ _ _ ⟨_, _, _, _, _, _, _, _, _, _, _, _, h⟩ => h.elim
end KV
/-! the law's arithmetic -/
namespace KV
open PySem PySem.Spec PyProof.Rows L2 KC
theorem shownAll_ints : ∀ ns : List Int, PyData.shownAll (ns.map PyData.int) = ns.map fun n => Str.ofString (toString n)
  | [] => rfl
  | n :: r => by
    show (PyData.int n).shown :: PyData.shownAll (r.map PyData.int) = _
    rw [shownAll_ints r]
    rfl
theorem piled_le : ∀ ts : List Str, (∀ t ∈ ts, t.length ≤ 1921) → piled ts ≤ 1923 * ts.length
  | [], _ => Nat.le_refl _
  | t :: r, h => by
    have h1 := h t (by simp)
    have h2 := piled_le r fun x hx => h x (by simp [hx])
    rw [piled_cons, List.length_cons]
    omega
theorem shown_len {ns : List Int} (hb : ∀ n ∈ ns, n.natAbs.log2 < 1920) (hl : ns.length ≤ 1000) : (PyData.tuple (ns.map PyData.int)).shown.length ≤ sizeLine := by
  show (tupleText (PyData.shownAll (ns.map PyData.int))).length ≤ sizeLine
  rw [shownAll_ints]
  have hp := piled_le (ns.map fun n => Str.ofString (toString n)) fun t ht => by
    obtain ⟨n, hn, rfl⟩ := List.mem_map.mp ht
    exact int_text_len_1921 (hb n hn)
  rw [List.length_map] at hp
  have hj : (Str.join ", " (ns.map fun n => Str.ofString (toString n))).length ≤ 1923 * 1000 := by
    cases e : ns with
    | nil => show 0 ≤ _; omega
    | cons n r =>
      have := join_length_add (ns.map fun n => Str.ofString (toString n)) (by rw [e]; simp)
      rw [e] at this hp hl
      omega
  unfold tupleText
  rw [strLen_append, strLen_append]
  have e1 : (("(" : String) : Str).length = 1 := rfl
  have e2 : (((if ((ns.map fun n => Str.ofString (toString n)).length == 1) = true then ",)" else ")" : String)) : Str).length ≤ 2 := by
    split <;> decide
  have e3 : 1923 * 1000 + 3 ≤ sizeLine := by decide
  omega
theorem log_sm {k : Nat} {n : Int} (h : sm k n) (hk : k ≤ 1920) (h0 : 0 < k) : n.natAbs.log2 < 1920 := by
  by_cases z : n.natAbs = 0
  · rw [z]
    show Nat.log2 0 < 1920
    decide
  · exact Nat.lt_of_lt_of_le ((Nat.log2_lt z).mpr h) hk
end KV
/-! mathematics for the law -/
namespace KC
section
variable {n : Nat} {c : List Nat}
theorem und_of_comp {e : List Nat} (h : Chg n c) (le : e.length = n) (z : comp c e = tab n id) : Und n c e := by
  refine ⟨le, fun i hi => ?_⟩
  have l1 : c.getD i 0 < e.length := by rw [le]; exact h.at_lt hi
  rw [at_getD l1]
  have hi' : i < c.length := by rw [h.len]; exact hi
  have g := tab_get (n := n) (f := id) hi
  rw [← z] at g
  unfold comp at g
  rw [List.getElem?_map, at_getD hi'] at g
  exact g
theorem und_pws (h : Chg n c) (s : Nat) : Und n (pw n c s) (pw n c (-(s : Int))) := by
  refine und_of_comp (pw_chg h _) (pw_chg h _).len ?_
  rw [pw_add h, show (s : Int) + -(s : Int) = 0 by omega, pw_zero h]
theorem chg_perm {ms : List Nat} (h : ms.Perm (tab n id)) : Chg n ms := by
  have z : tab n id = List.range n := by unfold tab; simp
  rw [z] at h
  refine ⟨by rw [h.length_eq, List.length_range], fun x hx => List.mem_range.mp (h.mem_iff.mp hx), (h.nodup_iff).mpr List.nodup_range⟩
theorem tab_id_iff {m : Nat} : tab n (it c m) = tab n id ↔ ∀ i, i < n → it c m i = i :=
  ⟨fun e i hi => tab_inj e i hi, fun e => tab_congr fun i hi => e i hi⟩
theorem comp_step (h : Chg n c) (m : Nat) : comp (tab n (it c m)) c = tab n (it c (m + 1)) := by
  have e : c = tab n (it c 1) := by
    rw [← pw_nat h]
    exact (pw_one h).symm
  have z : comp (tab n (it c m)) c = comp (tab n (it c m)) (tab n (it c 1)) := by rw [← e]
  rw [z, comp_tab (fun i hi => it_lt h hi m)]
  refine tab_congr fun i hi => ?_
  rw [← it_add, Nat.add_comm]
theorem comp_self (h : Chg n c) (k : Int) : comp c (pw n c k) = comp (pw n c k) c := by
  have z := comp_pw_comm h 1 k
  rw [pw_one h] at z
  exact z
end
end KC

/-! the number with which something is refused -/
namespace KV
open PySem PySem.Spec PyProof.Rows L2 KC LamX
/-- what refused makes of the work: the error's number, or None -/
def TRef (K : PySem.W.Frag) (C : Addr) : (XK → Hp → VK → Prop) → Hp → VK → Prop := fun tl H Q =>
  tl (fun cls d H' => ∃ b, PySem.W.exmOne K cls (.ref C) = some b ∧ (b = true → cls = .ref C ∧ ∃ (dd : Addr) (v : V), d = some dd ∧ H' dd = some (.xd [(("at" : Str), v)]) ∧ Q v H') ∧ (b = false → False)) H fun _ H' => Q .non H'
theorem sc35 : FnScope ["_law_work", "wrong"] ["_law_work"] (defScope (top 36)) := ⟨rfl, rfl, rfl, by decide +kernel, rfl, by decide +kernel, by decide +kernel⟩
theorem takes_len {X : Cx} {W : WX} (tk : Takes X W) : Takes X (fun cls d σ H => σ.length = X.N.length → W cls d σ H) := fun u s' x => by
  obtain ⟨a, B, sI, pins', σ', H', cls, d, e, J, nb, up, sky, na, os, ag, h⟩ := x
  exact tk u s' ⟨a, B, sI, pins', σ', H', cls, d, e, J, nb, up, sky, na, os, ag, h J.len⟩
section
variable {X : Cx} {C fI : Addr}
theorem ref_gives {g : Addr} {cdg : Value} {q : Str} (T : PySem.LowX.LowTxt X.K X.mg "InvalidChange" "InvalidChange.__init__" C fI) : GivesTo X ["_law_work", "wrong"] "_law_refused" (defScope (top 36)) g cdg (defBody (top 36)) "_law_work" q (TRef X.K C) := by
  intro f c' s H Q tl act hc h
  refine ⟨_, pss_cons (ps_try_as (X := (cxOf C8.CX0 X.prog X.w X.K X.mg X.base ["_law_work", "wrong"] "_law_refused" (defScope (top 36)) g cdg X.A X.stack s H C8.E0).nox) (i := 1) (c := .ref C) (Wout := fun _ _ _ _ => False)
      (tb := fun W D σ H => ∃ Ech : XK, (∀ cls d σ' H', σ'.length = 2 → Ech cls d H' → W cls d σ' H') ∧ σ[0]? = some (some (.ref f)) ∧ H c' = some (CodeO c' q) ∧ tl Ech H fun _ H' => D.nx σ H')
      rfl rfl sc35.nd rfl rfl ⟨rfl, by decide, Or.inl T.gC⟩ L2.takes0 (fun W pn xe tk _ => ?_) (fun a oe cls d pn hz hf => pss_one (ps_ret (pe_byLow T hz hf (pv 1))))) (pss_one (ps_ret pe_non)), ?_⟩
  · refine ⟨fun pins s' σ H' D I h' => ?_⟩
    obtain ⟨Ech, hW, h1, h2, h3⟩ := h'
    exact (pss_one (ps_expr (act (fun cls d σ H => σ.length = 2 → W cls d σ H) pn xe Ech _ _ (takes_len tk) (fun cls d σ' H' h z => hW cls d σ' H' z h)))).run pins s' σ H' D I ⟨h1, h2, h3⟩
  · exact ⟨fun cls d H' => ∃ b, PySem.W.exmOne X.K cls (.ref C) = some b ∧ (b = true → cls = .ref C ∧ ∃ (dd : Addr) (v : V), d = some dd ∧ H' dd = some (.xd [(("at" : Str), v)]) ∧ Q v H') ∧ (b = false → False),
      fun cls d σ' H' hl ⟨b, e1, e2, e3⟩ => ⟨b, e1, fun hb a _ => by
        obtain ⟨ec, dd, v, ed, hd, q'⟩ := e2 hb
        exact ⟨_, by rw [List.getElem?_set_self (by omega)], rfl, ec, dd, v, ed, hd, q'⟩, fun hb => e3 hb⟩, rfl, hc, h⟩
end
end KV

/-! the law's draws -/
namespace KV
open PySem PySem.Spec PyProof.Rows L2 KC
theorem shaped_ints (ns : List Int) : SeqAt.shaped (.list (ns.map PyData.int)) = true := by
  unfold SeqAt.shaped
  simp only [PyData.canLay0, canLay_ints, PyData.depth, depth_ints]
  decide
theorem dpL {K : PySem.W.Frag} {H : Hp} {a : Addr} {ns : List Int} (h : SqL K H a (ns.map V.int)) : Dp K H (.ref a) (.list (ns.map PyData.int)) := .lst h (dp_ints ns)
/-- xs != ys, xs == ys of lists of ints: the answer -/
theorem neL {K : PySem.W.Frag} {H : Hp} {a b : Addr} {ns ms : List Int} {Q : VK} (h1 : SqL K H a (ns.map V.int)) (h2 : SqL K H b (ms.map V.int)) (q : Q (.bl (!decide (ns = ms))) H) : rNeD K (.ref a) (.ref b) H Q :=
  ⟨_, _, dpL h1, dpL h2, shaped_ints ns, shaped_ints ms, by
    have e : PyData.eqv (.list (ns.map PyData.int)) (.list (ms.map PyData.int)) = decide (ns = ms) := eqv_ints ns ms
    rw [e]
    exact q⟩
theorem eqL {K : PySem.W.Frag} {H : Hp} {a b : Addr} {ns ms : List Int} {Q : VK} (h1 : SqL K H a (ns.map V.int)) (h2 : SqL K H b (ms.map V.int)) (q : Q (.bl (decide (ns = ms))) H) : rEqD K (.ref a) (.ref b) H Q :=
  ⟨_, _, dpL h1, dpL h2, shaped_ints ns, shaped_ints ms, by
    have e : PyData.eqv (.list (ns.map PyData.int)) (.list (ms.map PyData.int)) = decide (ns = ms) := eqv_ints ns ms
    rw [e]
    exact q⟩
/-- the source of draws at d, its cells at c -/
def Dl (H : Hp) (d c : Addr) : Prop := d ≠ c ∧ ∃ (cs : List Int) (b : Int), H d = some (.lst [.ref c, .int b]) ∧ H c = some (.lst (cs.map V.int)) ∧ (∀ x ∈ cs, 0 ≤ x) ∧ cs.length ≤ 64 ∧ 0 ≤ b ∧ b < 2147483648
/-- all else stands -/
def Kp (d c : Addr) (H H' : Hp) : Prop := ∀ b o, b ≠ d → b ≠ c → H b = some o → H' b = some o
theorem Kp.refl {d c : Addr} {H : Hp} : Kp d c H H := fun _ _ _ _ h => h
theorem Kp.trans {d c : Addr} {H H1 H2 : Hp} (a : Kp d c H H1) (b : Kp d c H1 H2) : Kp d c H H2 := fun x o h1 h2 h => b x o h1 h2 (a x o h1 h2 h)
theorem Kp.of {d c : Addr} {H H' : Hp} (s : Same H H') : Kp d c H H' := fun b o _ _ h => s b o h
theorem Kp.upd_d {d c : Addr} {H H' : Hp} {o : HO} (k : Kp d c H H') : Kp d c H (upd H' d o) := fun b u h1 h2 h => by
  rw [upd_ne h1]
  exact k b u h1 h2 h
theorem Kp.upd_c {d c : Addr} {H H' : Hp} {o : HO} (k : Kp d c H H') : Kp d c H (upd H' c o) := fun b u h1 h2 h => by
  rw [upd_ne h2]
  exact k b u h1 h2 h
theorem Kp.new {d c p : Addr} {H H' : Hp} {o : HO} (k : Kp d c H H') (hp : H' p = none) : Kp d c H (upd H' p o) := k.trans (Kp.of (Same.new hp))
theorem Kp.free {d c p : Addr} {H H' : Hp} (k : Kp d c H H') (hd : p ≠ d) (hc : p ≠ c) (hp : H' p = none) : H p = none := by
  cases e : H p with
  | none => rfl
  | some o =>
    rw [k p o hd hc e] at hp
    cases hp
theorem Dl.same {H H' : Hp} {d c : Addr} (h : Dl H d c) (s : Same H H') : Dl H' d c := by
  obtain ⟨n, cs, b, h1, h2, r⟩ := h
  exact ⟨n, cs, b, s _ _ h1, s _ _ h2, r⟩
theorem Dl.ne {H : Hp} {d c p : Addr} (h : Dl H d c) (hp : H p = none) : p ≠ d ∧ p ≠ c := by
  obtain ⟨_, cs, b, h1, h2, _⟩ := h
  exact ⟨fun e => (by rw [e, h1] at hp; cases hp), fun e => (by rw [e, h2] at hp; cases hp)⟩
theorem Dl.neT {H : Hp} {d c p : Addr} {xs : List V} (h : Dl H d c) (hp : H p = some (.tup xs)) : p ≠ d ∧ p ≠ c := by
  obtain ⟨_, cs, b, h1, h2, _⟩ := h
  exact ⟨fun e => (by rw [e, h1] at hp; cases hp), fun e => (by rw [e, h2] at hp; cases hp)⟩
section
variable {P : Program} {w : World} {K : PySem.W.Frag} {mg : Str → Option Value} {base : Heap}
def spDraw (K : PySem.W.Frag) : Sp := fun vs H Q _ => ∃ (a : Addr) (ns : List Int) (sa : Int), vs = [.ref a, .int sa] ∧ SqL K H a (ns.map V.int) ∧ 0 ≤ sa ∧ sa < 1000 ∧ ∀ H' d c, Same H H' → H d = none → H c = none → Dl H' d c → Q (.ref d) H'
theorem sc28 : FnScope ["_law_script", "_law_salt", "_law_cell", "_law_cells", "_law_blend"] ["_law_script", "_law_salt"] (defScope (top 29)) := ⟨rfl, rfl, rfl, by decide +kernel, rfl, by decide +kernel, by decide +kernel⟩
theorem ok_draw {f : Addr} {fd : FuncData} (B : Bl mg) (F : Fun K "_law_draw" "_law_draw" (top 29) f fd) : FnOk P w K mg base CX0 1 f fd ["_law_script", "_law_salt"] (spDraw K) := by
  refine F.ok sc28 (fun vs H Q E h => ?_) (fun cdv A outer s H vs Q E hr h => ⟨_,
    pss_cons (ps_setLc (i := 3) (own := [("_law_cell", 2)]) (g := gName 2) (tt := tYes) rfl sc28.nd rfl rfl (sw_true rfl rfl rfl (by decide +kernel)) (pi_list (pe_slice sl_list (pv 0) po_none (po_some pe_int)))
      (blkOk_by (N := ["_law_script", "_law_salt", "_law_cell", "_law_cells", "_law_blend"]) (sc := defScope (top 29)) (by decide +kernel)) (fun _ _ _ _ _ => pg_name (i := 2) sc28.nd rfl (Or.inl rfl)) (fun _ _ _ _ _ => pts_nil)
      (fun _ _ _ _ _ => pe_callB call_abs (by rfl) B.abs (by decide +kernel) (pa_cons (pe_callTy call_int1 (by rfl) B.int PyProof.Rows.boot_int (pa_cons (pv 2) pa_nil)) pa_nil)))
    (pss_cons (ps_set (i := 4) sc28.nd rfl (.inl rfl) (pe_op op_add pe_int (pe_op op_mul pe_int (pv 1))))
    (pss_cons (ps_for PassesOwn.never rfl (pi_list (pv 3)) (pg_name (i := 2) sc28.nd rfl (.inl rfl))
      (pss_one (ps_set (i := 4) sc28.nd rfl (.inl rfl) (pe_op op_mod (pe_callTy call_int1 (by rfl) B.int PyProof.Rows.boot_int (pa_cons (pe_op op_add (pe_op op_add (pe_op op_mul (pv 4) pe_int) (pe_op op_mod (pv 2) pe_int)) pe_int) pa_nil)) pe_int))))
    (pss_one (ps_ret (pe_lst (pa_cons (pe_revL
      (pe_lc (own := [("_law_cell", 2)]) (g := gName 2) rfl sc28.nd (pi_list (pv 3)) (blkOk_by (N := ["_law_script", "_law_salt", "_law_cell", "_law_cells", "_law_blend"]) (sc := defScope (top 29)) (by decide +kernel))
        (fun _ _ _ _ _ => pg_name (i := 2) sc28.nd rfl (Or.inl rfl)) (fun _ _ _ _ _ => pts_one (pt_cmpR op_ge (pv 2) (pe_op op_pow pe_int pe_int) (nomark _))) (fun _ _ _ _ _ => pv 2))) (pa_cons (pv 4) pa_nil))))))), ?_⟩)
  · obtain ⟨a, ns, sa, rfl, _⟩ := h
    rfl
  obtain ⟨a, ns, sa, rfl, hS, s0, s1, q⟩ := h
  refine ⟨_, rfl, _, rfl, a, _, rfl, hS, fun p hp => ?_⟩
  have ecut : cutV (ns.map V.int) none (some 48) = (ns.take 48).map V.int := by
    unfold cutV
    have e1 : HT.sIx (ns.map V.int).length 0 none = 0 := rfl
    have e2 : HT.sIx (ns.map V.int).length (ns.map V.int).length (some 48) = min 48 (ns.map V.int).length := HT.sIx_nat _ _ 48
    rw [e1, e2, List.drop_zero, Nat.sub_zero, List.length_map, List.map_take]
    rw [← List.length_map (f := V.int) (as := ns)]
    exact List.take_eq_take_min.symm
  have sp : Same H (upd H p (.lst (cutV (ns.map V.int) none (some 48)))) := Same.new hp
  have hpS : SqL K (upd H p (.lst (cutV (ns.map V.int) none (some 48)))) p ((ns.take 48).map V.int) := SqL.of (by rw [upd_same, ecut])
  generalize upd H p (.lst (cutV (ns.map V.int) none (some 48))) = H1 at sp hpS
  have l48 : (ns.take 48).length ≤ 48 := by rw [List.length_take]; omega
  generalize ns.take 48 = ms at hpS l48
  refine ⟨p, rfl, ⟨_, hpS⟩, fun D hD => lc_list (xs := ms.map V.int) (fun i H' => Same H1 H' ∧ ∃ cs : List Int, cs.length = i ∧ (∀ x ∈ cs, 0 ≤ x) ∧ H' D = some (.lst (cs.map V.int))) ⟨Same.new hD, [], rfl, fun _ z => by simp at z, upd_same⟩
    (fun i H' _ z => z.1.seq hpS) ?_ ?_⟩
  · rintro i x H' hx ⟨p1, cs, cl, c0, p2⟩
    obtain ⟨m, hm, rfl⟩ := map_at hx
    have hi := (List.getElem?_eq_some_iff.mp hm).1
    refine ⟨rfl, _, rfl, .inl ⟨m, rfl, m, rfl, cs.map V.int, p2, len_lt (by rw [List.length_map]; omega), Same.upd p1 hD, cs ++ [if m < 0 then -m else m], by simp [cl], fun y hy => ?_, ?_⟩⟩
    · rcases List.mem_append.mp hy with hy | hy
      · exact c0 y hy
      · have : y = if m < 0 then -m else m := by simpa using hy
        rw [this]
        split <;> omega
    · rw [upd_same, List.map_append]
      rfl
  · rintro H' ⟨p1, cs, cl, c0, p2⟩
    rw [List.length_map] at cl
    refine ⟨_, rfl, _, _, rfl, rfl, .inl ⟨by decide, by omega⟩, _, _, rfl, rfl, ?_⟩
    refine ⟨_, rfl, D, rfl, ⟨_, SqL.of p2⟩, for_list (xs := cs.map V.int) (fun i σ H2 => (∃ (u : Option V) (b : Int), 0 ≤ b ∧ b < 2147483648 ∧ σ = [some (.ref a), some (.int sa), u, some (.ref D), some (.int b)]) ∧ H2 = H')
      ⟨⟨none, _, ?_, ?_, rfl⟩, rfl⟩ ?_ ?_ ?_⟩
    · show 0 ≤ 7919 + 104729 * sa
      omega
    · show 7919 + 104729 * sa < 2147483648
      omega
    · rintro i σ H2 _ ⟨_, rfl⟩
      exact SqL.of p2
    · rintro i x σ H2 hx ⟨⟨u, b, b0, b1, rfl⟩, rfl⟩
      obtain ⟨m, hm, rfl⟩ := map_at hx
      refine ⟨_, rfl, _, _, rfl, rfl, .inl ⟨by omega, by omega⟩, _, rfl, _, _, rfl, rfl, (by show (0 : Int) < 2147483549; decide), _, _, rfl, rfl, _, _, rfl, rfl, .inl ⟨_, rfl, _, _, rfl, rfl, (by show (0 : Int) < 2147483647; decide), ⟨some (.int m), _, ?_, ?_, rfl⟩, rfl⟩⟩
      · exact Int.emod_nonneg _ (by decide)
      · have := Int.emod_lt_of_pos (b * 48271 + m % 2147483549 + 11) (show (0 : Int) < 2147483647 by decide)
        omega
    · rintro σ H2 ⟨⟨u, b, b0, b1, rfl⟩, rfl⟩
      refine ⟨_, rfl, D, rfl, ⟨_, SqL.of p2⟩, fun D2 hD2 => lc_list (xs := cs.map V.int) (fun i H3 => Same H2 H3 ∧ ∃ es : List Int, es.length ≤ i ∧ (∀ x ∈ es, 0 ≤ x) ∧ H3 D2 = some (.lst (es.map V.int))) ⟨Same.new hD2, [], Nat.le_refl _, fun _ z => by simp at z, upd_same⟩
        (fun i H3 _ z => z.1.seq (SqL.of p2)) ?_ ?_⟩
      · rintro i x H3 hx ⟨q1, es, el, e0, q2⟩
        obtain ⟨m, hm, rfl⟩ := map_at hx
        have hi := (List.getElem?_eq_some_iff.mp hm).1
        refine ⟨rfl, _, rfl, _, _, rfl, rfl, ⟨by decide, by decide, by decide⟩, _, _, rfl, rfl, _, rfl, ?_⟩
        cases decide ((10 : Int) ^ (18 : Int).toNat ≤ m) with
        | true =>
          refine iteT ⟨_, rfl, es.map V.int, q2, len_lt (by rw [List.length_map]; omega), Same.upd q1 hD2, es ++ [m], by simp; omega, fun y hy => ?_, ?_⟩
          · rcases List.mem_append.mp hy with hy | hy
            · exact e0 y hy
            · have : y = m := by simpa using hy
              rw [this]
              exact c0 m (List.mem_of_getElem? hm)
          · rw [upd_same, List.map_append]
            rfl
        | false => exact iteF ⟨q1, es, by omega, e0, q2⟩
      · rintro H3 ⟨q1, es, el, e0, q2⟩
        rw [List.length_map] at el
        refine ⟨D2, _, rfl, SqL.of q2, fun c hc => ⟨_, rfl, (by show 2 ≤ sizeLine; decide), fun d hd => ?_⟩⟩
        have t1 : Same H H3 := (sp.trans p1).trans q1
        have t2 : Same H (upd H3 c (.lst (es.map V.int).reverse)) := Same.upd t1 (t1.free hc)
        have dc : d ≠ c := fun e => by
          rw [e, upd_same] at hd
          cases hd
        refine q _ d c (Same.upd t2 (t2.free hd)) (t2.free hd) (t1.free hc) ⟨dc, es.reverse, b, upd_same, ?_, fun x hx => e0 x (by simpa using hx), by rw [List.length_reverse]; omega, b0, b1⟩
        rw [upd_ne (Ne.symm dc), upd_same, List.map_reverse]
end
end KV

/-! any, of, divisor -/
namespace KV
open PySem PySem.Spec PyProof.Rows L2 KC
section
variable {P : Program} {w : World} {K : PySem.W.Frag} {mg : Str → Option Value} {base : Heap}
def spAny : Sp := fun vs H Q _ => ∃ (d c : Addr) (m : Int), vs = [.ref d, .int m] ∧ Dl H d c ∧ 0 < m ∧ sm 200 m ∧ ∀ r H', 0 ≤ r → r < m → Dl H' d c → Kp d c H H' → Q (.int r) H'
theorem sc29 : FnScope ["_law_deal", "_law_bound", "_law_rest"] ["_law_deal", "_law_bound"] (defScope (top 30)) := ⟨rfl, rfl, rfl, by decide +kernel, rfl, by decide +kernel, by decide +kernel⟩
theorem at0 {x y : V} : atI [x, y] 0 = some x := rfl
theorem at1 {x y : V} : atI [x, y] 1 = some y := rfl
theorem at_last {es : List Int} {e : Int} : atI ((es ++ [e]).map V.int) (-1) = some (.int e) := by
  have hl : ((es ++ [e]).map V.int).length = es.length + 1 := by simp
  unfold atI L2.ixN
  rw [hl, if_neg (by decide), if_pos (by omega)]
  have e1 : (-1 + ((es.length + 1 : Nat) : Int)).toNat = es.length := by omega
  show ((es ++ [e]).map V.int)[(-1 + ((es.length + 1 : Nat) : Int)).toNat]? = _
  rw [e1, List.map_append, List.getElem?_append_right (by simp)]
  simp
theorem last_at {es : List Int} {e : Int} : ((es ++ [e]).map V.int)[((es ++ [e]).map V.int).length - 1]? = some (V.int e) := by
  rw [List.map_append, List.getElem?_append_right (by simp)]
  simp
theorem last_drop {es : List Int} {e : Int} : ((es ++ [e]).map V.int).dropLast = es.map V.int := by
  rw [List.map_append]
  exact List.dropLast_concat
def AnyW (d c : Addr) (m b : Int) (H : Hp) (k : Nat) (σ : L2.St) (H' : Hp) : Prop := σ = [some (.ref d), some (.int m), none] ∧ Kp d c H H' ∧ ∃ es : List Int, k = es.length ∧ (∀ x ∈ es, 0 ≤ x) ∧ es.length ≤ 64 ∧ H' d = some (.lst [.ref c, .int b]) ∧ H' c = some (.lst (es.map V.int))
theorem ok_any {f : Addr} {fd : FuncData} (B : Bl mg) (F : Fun K "_law_any" "_law_any" (top 30) f fd) : FnOk P w K mg base CX0 1 f fd ["_law_deal", "_law_bound"] spAny := by
  refine F.ok sc29 (fun vs H Q E h => ?_) (fun cdv A outer s H vs Q E hr h => ⟨_,
    pss_cons (ps_while PassesOwn.never (PW.pt (pw_and (pt_cmpR (op_neD hr.units) (pe_ix ix_list (pv 0) pe_int (fun _ _ => rfl)) (pe_lst pa_nil) (nomark _))
        (pw_and1 (pt_cmpR op_eq (pe_ix ix_list (pe_ix ix_list (pv 0) pe_int (fun _ _ => rfl)) (pe_un un_neg pe_int) (fun _ _ => rfl)) pe_int (nomark _)))))
      (pss_one (ps_expr (pe_bm0 PySem.F.plainAttrs_list PySem.F.slot_list_pop PySem.F.type_list_pop mt_pop (pe_ix ix_list (pv 0) pe_int (fun _ _ => rfl))))))
    (pss_cons (ps_if (pt_cmpR (op_neD hr.units) (pe_ix ix_list (pv 0) pe_int (fun _ _ => rfl)) (pe_lst pa_nil) (nomark _))
      (pss_cons (ps_set (i := 2) sc29.nd rfl (.inl rfl) (pe_callTy call_int1 (by rfl) B.int PyProof.Rows.boot_int (pa_cons (pe_bm0 PySem.F.plainAttrs_list PySem.F.slot_list_pop PySem.F.type_list_pop mt_pop (pe_ix ix_list (pv 0) pe_int (fun _ _ => rfl))) pa_nil)))
      (pss_cons (ps_expr (pe_bm PySem.F.plainAttrs_list PySem.F.slot_list_append PySem.F.type_list_append mt_append (pe_ix ix_list (pv 0) pe_int (fun _ _ => rfl)) (pa_cons (pe_op op_fdivW (pv 2) (pv 1)) pa_nil)))
      (pss_one (ps_ret (pe_op op_mod (pv 2) (pv 1)))))) pss_nil)
    (pss_cons (ps_asg (pe_op op_mod (pe_callTy call_int1 (by rfl) B.int PyProof.Rows.boot_int (pa_cons (pe_op op_add (pe_op op_mul (pe_ix ix_list (pv 0) pe_int (fun _ _ => rfl)) pe_int) pe_int) pa_nil)) pe_int) (pg_sub (pv 0) pe_int set_list))
    (pss_one (ps_ret (pe_op op_mod (pe_callTy call_int1 (by rfl) B.int PyProof.Rows.boot_int (pa_cons (pe_op op_fdiv (pe_ix ix_list (pv 0) pe_int (fun _ _ => rfl)) pe_int) pa_nil)) (pv 1)))))), ?_⟩)
  · obtain ⟨d, c, m, rfl, _⟩ := h
    rfl
  obtain ⟨d, c, m, rfl, hD, m0, ms, q⟩ := h
  obtain ⟨dc, cs, b, h1, h2, c0, cl, b0, b1⟩ := hD
  refine sq_cut (fun σ H' => σ = [some (.ref d), some (.int m), none] ∧ Kp d c H H' ∧ ∃ es : List Int, (∀ x ∈ es, 0 ≤ x) ∧ es.length ≤ 64 ∧ H' d = some (.lst [.ref c, .int b]) ∧ H' c = some (.lst (es.map V.int))) (fun Z hZ => ?_) ?_
  · refine ⟨AnyW d c m b H,
      ⟨_, rfl, Kp.refl, cs, rfl, c0, cl, h1, h2⟩, ?_⟩
    rintro k σ H' ⟨rfl, hk, es, rfl, e0, el, g1, g2⟩
    refine ⟨_, rfl, d, _, _, _, rfl, rfl, SqL.of g1, at0, (by show 0 ≤ sizeLine; decide), fun p hp => ?_⟩
    have hpc : p ≠ c := fun e => by rw [e, g2] at hp; cases hp
    have hpd : p ≠ d := fun e => by rw [e, g1] at hp; cases hp
    have u1 : upd H' p (.lst []) d = some (.lst [.ref c, .int b]) := by rw [upd_ne (Ne.symm hpd)]; exact g1
    have u2 : upd H' p (.lst []) c = some (.lst (es.map V.int)) := by rw [upd_ne (Ne.symm hpc)]; exact g2
    have uk : Kp d c H (upd H' p (.lst [])) := hk.new hp
    have u3 : upd H' p (.lst []) p = some (.lst []) := upd_same
    generalize upd H' p (.lst []) = H1 at u1 u2 u3 uk
    refine neL (ns := es) (ms := []) (SqL.of u2) (SqL.of u3) ⟨_, rfl, ?_⟩
    rcases List.eq_nil_or_concat es with rfl | ⟨es', e, ee⟩
    · exact iteN (by simp) (iteF (hZ _ _ ⟨rfl, uk, [], fun _ z => by simp at z, by simp, u1, u2⟩))
    · rw [List.concat_eq_append] at ee
      subst ee
      refine iteP (by simp) ⟨_, rfl, d, _, _, _, rfl, rfl, SqL.of u1, at0, ?_⟩
      refine ⟨_, rfl, c, _, _, _, rfl, rfl, SqL.of u2, at_last, rfl, _, rfl, ?_⟩
      by_cases e1 : e = 0
      · refine iteP (by simp [e1]) ⟨fun σ H' => ∃ m', m' < (es' ++ [e]).length ∧ AnyW d c m b H m' σ H', fun _ _ z => z, _, rfl, d, _, _, _, rfl, rfl, SqL.of u1, at0, .inl ⟨rfl, _, SqL.of u2⟩, c, _, _, rfl, rfl, u2, last_at, ?_⟩
        rw [last_drop]
        refine ⟨es'.length, by simp, rfl, uk.upd_c, es', rfl, fun x hx => e0 x (by simp [hx]), by simp at el; omega, ?_, upd_same⟩
        rw [upd_ne dc]
        exact u1
      · exact iteN (by simp [e1]) (hZ _ _ ⟨rfl, uk, _, e0, el, u1, u2⟩)
  · rintro σ H' ⟨rfl, hk, es, e0, el, g1, g2⟩
    refine ⟨_, rfl, d, _, _, _, rfl, rfl, SqL.of g1, at0, (by show 0 ≤ sizeLine; decide), fun p hp => ?_⟩
    have hpc : p ≠ c := fun e => by rw [e, g2] at hp; cases hp
    have hpd : p ≠ d := fun e => by rw [e, g1] at hp; cases hp
    have u1 : upd H' p (.lst []) d = some (.lst [.ref c, .int b]) := by rw [upd_ne (Ne.symm hpd)]; exact g1
    have u2 : upd H' p (.lst []) c = some (.lst (es.map V.int)) := by rw [upd_ne (Ne.symm hpc)]; exact g2
    have uk : Kp d c H (upd H' p (.lst [])) := hk.new hp
    have u3 : upd H' p (.lst []) p = some (.lst []) := upd_same
    generalize upd H' p (.lst []) = H1 at u1 u2 u3 uk
    refine neL (ns := es) (ms := []) (SqL.of u2) (SqL.of u3) ⟨_, rfl, ?_⟩
    rcases List.eq_nil_or_concat es with rfl | ⟨es', e, ee⟩
    · refine iteN (by simp) ⟨_, rfl, d, _, _, _, rfl, rfl, SqL.of u1, at1, _, _, rfl, rfl, .inl ⟨by omega, by omega⟩, _, _, rfl, rfl, .inl ⟨_, rfl, _, _, rfl, rfl, (by show (0 : Int) < 2147483647; decide), _, rfl, d, _, _, _, rfl, rfl, u1, rfl, ?_⟩⟩
      have f0 := Int.emod_nonneg (b * 40693 + 71) (show (2147483647 : Int) ≠ 0 by decide)
      have f1 := Int.emod_lt_of_pos (b * 40693 + 71) (show (0 : Int) < 2147483647 by decide)
      obtain ⟨b', eb⟩ : ∃ b', b' = (b * 40693 + 71) % 2147483647 := ⟨_, rfl⟩
      rw [← eb] at f0 f1
      have e8 : [V.ref c, V.int b].set (Int.toNat 1) ((fun i j : Int => V.int (i % j)) (b * 40693 + 71) 2147483647) = [V.ref c, V.int b'] := by
        show [V.ref c, V.int ((b * 40693 + 71) % 2147483647)] = _
        rw [← eb]
      rw [e8]
      have w1 : upd H1 d (.lst [.ref c, .int b']) d = some (.lst [.ref c, .int b']) := upd_same
      have w2 : upd H1 d (.lst [.ref c, .int b']) c = some (.lst (([] : List Int).map V.int)) := by
        rw [upd_ne (Ne.symm dc)]
        exact u2
      have wk : Kp d c H (upd H1 d (.lst [.ref c, .int b'])) := uk.upd_d
      refine ⟨_, rfl, d, _, _, _, rfl, rfl, SqL.of w1, at1, _, _, rfl, rfl, ⟨by decide, by decide⟩, .inl ⟨_, rfl, _, rfl, _, _, rfl, rfl, m0, ?_⟩⟩
      exact q _ _ (Int.emod_nonneg _ (by omega)) (Int.emod_lt_of_pos _ m0) ⟨dc, [], b', w1, w2, fun _ z => by simp at z, by simp, f0, by omega⟩ wk
    · rw [List.concat_eq_append] at ee
      subst ee
      refine iteP (by simp) ⟨_, rfl, d, _, _, _, rfl, rfl, SqL.of u1, at0, .inl ⟨rfl, _, SqL.of u2⟩, c, _, _, rfl, rfl, u2, last_at, ?_⟩
      rw [last_drop]
      have w2 : upd H1 c (.lst (es'.map V.int)) c = some (.lst (es'.map V.int)) := upd_same
      have w1 : upd H1 c (.lst (es'.map V.int)) d = some (.lst [.ref c, .int b]) := by
        rw [upd_ne dc]
        exact u1
      have wk : Kp d c H (upd H1 c (.lst (es'.map V.int))) := uk.upd_c
      generalize upd H1 c (.lst (es'.map V.int)) = H3 at w1 w2 wk
      have el' : es'.length + 1 ≤ 64 := by simpa using el
      refine .inl ⟨e, rfl, _, rfl, d, _, _, _, rfl, rfl, SqL.of w1, at0, .inl ⟨rfl, _, SqL.of w2⟩, _, rfl, _, rfl, _, _, rfl, rfl, divW m0 ms (by decide) (by decide), c, _, _, rfl, rfl, w2, len_lt (by simp; omega), ?_⟩
      have x2 : upd H3 c (.lst (es'.map V.int ++ [V.int (e / m)])) c = some (.lst ((es' ++ [e / m]).map V.int)) := by rw [upd_same, List.map_append]; rfl
      have x1 : upd H3 c (.lst (es'.map V.int ++ [V.int (e / m)])) d = some (.lst [.ref c, .int b]) := by
        rw [upd_ne dc]
        exact w1
      have xk : Kp d c H (upd H3 c (.lst (es'.map V.int ++ [V.int (e / m)]))) := wk.upd_c
      generalize upd H3 c (.lst (es'.map V.int ++ [V.int (e / m)])) = H4 at x1 x2 xk
      refine ⟨_, rfl, _, rfl, _, _, rfl, rfl, m0, ?_⟩
      have e1 := e0 e (by simp)
      exact q _ _ (Int.emod_nonneg _ (by omega)) (Int.emod_lt_of_pos _ m0) ⟨dc, es' ++ [e / m], b, x1, x2, fun x hx => by
        rcases List.mem_append.mp hx with hx | hx
        · exact e0 x (by simp [hx])
        · have : x = e / m := by simpa using hx
          rw [this]
          exact Int.ediv_nonneg e1 (by omega), by simp; omega, b0, b1⟩ xk
end
end KV

/-! of, divisor -/
namespace KV
open PySem PySem.Spec PyProof.Rows L2 KC
theorem Kp.seqL {K : PySem.W.Frag} {d c : Addr} {H H' : Hp} {a : Addr} {xs : List V} (k : Kp d c H H') (hd : a ≠ d) (hc : a ≠ c) (h : SqL K H a xs) : SqL K H' a xs := by
  rcases h with (h | ⟨o, h⟩) | h
  · exact .inl (.inl (k _ _ hd hc h))
  · exact .inl (.inr ⟨o, k _ _ hd hc h⟩)
  · exact .inr h
theorem Kp.seqT {K : PySem.W.Frag} {d c : Addr} {H H' : Hp} {a : Addr} {xs : List V} (k : Kp d c H H') (hd : a ≠ d) (hc : a ≠ c) (h : SqT K H a xs) : SqT K H' a xs := by
  rcases h with (h | ⟨o, h⟩) | h
  · exact .inl (.inl (k _ _ hd hc h))
  · exact .inl (.inr ⟨o, k _ _ hd hc h⟩)
  · exact .inr h
section
variable {P : Program} {w : World} {K : PySem.W.Frag} {mg : Str → Option Value} {base : Heap}
def spOf (K : PySem.W.Frag) : Sp := fun vs H Q _ => ∃ (d c a : Addr) (xs : List V), vs = [.ref d, .ref a] ∧ Dl H d c ∧ a ≠ d ∧ a ≠ c ∧ SqL K H a xs ∧ 0 < xs.length ∧ xs.length ≤ 1000 ∧ ∀ (j : Nat) x H', xs[j]? = some x → Dl H' d c → Kp d c H H' → Q x H'
theorem sc30 : FnScope ["_law_deal", "_law_some"] ["_law_deal", "_law_some"] (defScope (top 31)) := ⟨rfl, rfl, rfl, by decide +kernel, rfl, by decide +kernel, by decide +kernel⟩
theorem ok_of {f : Addr} {fd : FuncData} (B : Bl mg) (CA : Cal P w K mg base CX0 1 "_law_any" ["_law_deal", "_law_bound"] spAny) (F : Fun K "_law_of" "_law_of" (top 31) f fd) : FnOk P w K mg base CX0 2 f fd ["_law_deal", "_law_some"] (spOf K) := by
  refine F.ok sc30 (fun vs H Q E h => ?_) (fun cdv A outer s H vs Q E hr h => ⟨_,
    pss_one (ps_ret (pe_ix ix_list (pv 1) (pe_cal (X := L2.Cx.nox _) CA hr (by decide) (pa_cons (pv 0) (pa_cons (pe_callB call_len_seq (by rfl) B.len PySem.boot_len (pa_cons (pv 1) pa_nil)) pa_nil))) (fun _ _ => rfl))), ?_⟩)
  · obtain ⟨d, c, a, xs, rfl, _⟩ := h
    rfl
  obtain ⟨d, c, a, xs, rfl, hD, ad, ac, hS, l0, l1, q⟩ := h
  refine ⟨_, rfl, _, rfl, _, rfl, a, xs, rfl, .inl hS, d, c, _, rfl, hD, by omega, ?_, fun r H' r0 r1 hD' hk => ?_⟩
  · exact sm_of (by omega) (Int.lt_of_le_of_lt (show (xs.length : Int) ≤ 1000 by omega) (by decide))
  · have hj : r.toNat < xs.length := by omega
    have e1 : atI xs r = some xs[r.toNat] := by
      unfold atI L2.ixN
      rw [if_pos r0, if_pos r1]
      exact List.getElem?_eq_getElem hj
    exact ⟨a, xs, r, _, rfl, rfl, hk.seqL ad ac hS, e1, q r.toNat _ _ (List.getElem?_eq_getElem hj) hD' hk⟩
end
end KV

/-! the law's own steps: one change and another, back, another order, a count -/
namespace KV
open PySem PySem.Spec PyProof.Rows L2 KC
theorem Dl.upd {H : Hp} {d c p : Addr} {o : HO} (h : Dl H d c) (hd : p ≠ d) (hc : p ≠ c) : Dl (L2.upd H p o) d c := by
  obtain ⟨n, cs, b, h1, h2, r⟩ := h
  exact ⟨n, cs, b, by rw [upd_ne (Ne.symm hd)]; exact h1, by rw [upd_ne (Ne.symm hc)]; exact h2, r⟩
theorem vi_erase (ls : List Nat) (k : Nat) : (vi ls).eraseIdx k = vi (ls.eraseIdx k) := by
  induction ls generalizing k with
  | nil => rfl
  | cons x ls ih =>
    cases k with
    | zero => rfl
    | succ k =>
      show V.int x :: (vi ls).eraseIdx k = V.int x :: vi (ls.eraseIdx k)
      rw [ih]
theorem perm_erase : ∀ (ls : List Nat) (k : Nat) (h : k < ls.length), (ls[k] :: ls.eraseIdx k).Perm ls
  | x :: ls, 0, _ => List.Perm.refl _
  | x :: ls, k + 1, h => by
    have h' : k < ls.length := by simpa using h
    have z := perm_erase ls k h'
    show (ls[k] :: x :: ls.eraseIdx k).Perm (x :: ls)
    exact (List.Perm.swap x _ _).trans (z.cons x)
theorem Kp.updn {d c p : Addr} {H H' : Hp} {o : HO} (k : Kp d c H H') (hp : H p = none) : Kp d c H (L2.upd H' p o) := fun b u h1 h2 h => by
  rw [upd_ne (ne_of_none h hp)]
  exact k b u h1 h2 h
section
variable {P : Program} {w : World} {K : PySem.W.Frag} {mg : Str → Option Value} {base : Heap}
theorem sc32 : FnScope ["_law_one", "_law_other", "_law_state"] ["_law_one", "_law_other"] (defScope (top 33)) := ⟨rfl, rfl, rfl, by decide +kernel, rfl, by decide +kernel, by decide +kernel⟩
theorem ok_then {f : Addr} {fd : FuncData} (B : Bl mg) (F : Fun K "_law_then" "_law_then" (top 33) f fd) : FnOk P w K mg base CX0 1 f fd ["_law_one", "_law_other"] spComp := by
  refine F.ok sc32 (fun vs H Q E h => ?_) (fun cdv A outer s H vs Q E hr h => ⟨_,
    pss_one (ps_ret (pe_callTy call_tuple_of (by rfl) B.tuple (by decide +kernel) (pa_cons
      (pe_lc (own := [("_law_state", 2)]) (g := gName 2) (tt := tYes) rfl sc32.nd (pi_tup (pv 0)) (blkOk_by (N := ["_law_one", "_law_other", "_law_state"]) (sc := defScope (top 33)) (by decide +kernel)) (fun _ _ _ _ _ => pg_name (i := 2) sc32.nd rfl (Or.inl rfl)) (fun _ _ _ _ _ => pts_nil)
        (fun _ _ _ _ _ => pe_ix (r := rIxT K) ix_tup (pv 1) (pv 2) (fun _ _ => rfl))) pa_nil))), ?_⟩)
  · obtain ⟨a, b, c, e, rfl, _⟩ := h
    rfl
  obtain ⟨a, b, c, e, rfl, ha, hb, hlt, hl, q⟩ := h
  refine ⟨_, rfl, a, rfl, ⟨_, SqT.of ha⟩, fun D hD => lc_tup (xs := vi c) (fun i H' => Same H H' ∧ H' D = some (.lst (vi (comp (c.take i) e)))) ⟨Same.mk1 hD, upd_same⟩ (fun i H' _ p => SqT.of (p.1 _ _ ha)) ?_ ?_⟩
  · rintro i x H' hx ⟨p1, p2⟩
    obtain ⟨m, hm, rfl⟩ := vi_at hx
    have lt := hlt m (List.mem_of_getElem? hm)
    refine ⟨rfl, _, rfl, _, rfl, b, _, _, _, rfl, rfl, SqT.of (p1 _ _ hb), atI_nat (vi_get (at_getD lt)), _, p2, len_lt (by simp only [vi, comp, List.length_map, List.length_take]; omega), Same.upd p1 hD, ?_⟩
    rw [upd_same, List.take_succ, hm]
    show some (HO.lst (vi (comp (c.take i) e) ++ [V.int ((e.getD m 0 : Nat) : Int)])) = some (HO.lst (vi (comp (c.take i ++ [m]) e)))
    simp only [vi, comp, List.map_append, List.map_cons, List.map_nil]
  · rintro H' ⟨p1, p2⟩
    have p2 : H' D = some (.lst (vi (comp c e))) := by
      have z := p2
      rw [show (vi c).length = c.length from List.length_map .., List.take_length] at z
      exact z
    exact ⟨D, _, rfl, .inl ⟨SqL.of p2, fun t ht => q t _ (p1.trans (Same.mk1 ht)) (p1.free ht) upd_same⟩⟩
theorem sc33 : FnScope ["_law_one", "_law_found", "_law_state", "_law_to"] ["_law_one"] (defScope (top 34)) := ⟨rfl, rfl, rfl, by decide +kernel, rfl, by decide +kernel, by decide +kernel⟩
theorem ok_backL {f : Addr} {fd : FuncData} (B : Bl mg) (F : Fun K "_law_back" "_law_back" (top 34) f fd) : FnOk P w K mg base CX0 1 f fd ["_law_one"] spUnd := by
  refine F.ok sc33 (fun vs H Q E h => ?_) (fun cdv A outer s H vs Q E hr h => ⟨_,
    pss_cons (ps_set (i := 1) sc33.nd rfl (.inl rfl) (pe_op op_rep (pe_lst (pa_cons pe_int pa_nil)) (pe_callB call_len_seq (by rfl) B.len PySem.boot_len (pa_cons (pv 0) pa_nil))))
    (pss_cons (ps_for PassesOwn.never rfl (pi_enumT (by rfl) B.enumerate (pa_cons (pv 0) pa_nil)) (pg_tup rfl (pgs_cons (pg_name (i := 2) sc33.nd rfl (.inl rfl)) (pgs_cons (pg_name (i := 3) sc33.nd rfl (.inl rfl)) pgs_nil)))
      (pss_one (ps_asg (pv 2) (pg_sub (pv 1) (pv 3) set_list))))
    (pss_one (ps_ret (pe_callTy call_tuple_of (by rfl) B.tuple (by decide +kernel) (pa_cons (pv 1) pa_nil))))), ?_⟩)
  · obtain ⟨a, n, c, rfl, _⟩ := h
    rfl
  obtain ⟨a, n, c, rfl, ha, hc, hn, q⟩ := h
  have lc : (vi c).length = n := by rw [List.length_map]; exact hc.len
  refine ⟨(by show 1 ≤ sizeLine; decide), fun l hl => ⟨_, rfl, a, _, rfl, .inr (SqT.of (Same.mk1 hl _ _ ha)), l, _, _, rfl, rfl, upd_same, ?_, ?_, ?_, fun o ho => ?_⟩⟩
  · rw [lc]; omega
  · rw [lc]; omega
  · rw [lc]
    show 1 * ((n : Int)).toNat ≤ sizeLine
    exact Nat.le_of_lt (len_lt (by omega))
  have e0 : (List.replicate (((vi c).length : Nat) : Int).toNat [V.int 0]).flatten = vi (List.replicate n 0) := by
    rw [lc, vi_rep, rep_v]
    rfl
  rw [e0]
  have s1 : Same H (upd (upd H l (.lst [V.int 0])) o (.lst (vi (List.replicate n 0)))) := (Same.mk1 hl).trans (Same.mk1 ho)
  have o1 : upd (upd H l (.lst [V.int 0])) o (.lst (vi (List.replicate n 0))) o = some (.lst (vi (List.replicate n 0))) := upd_same
  have on : H o = none := (Same.mk1 hl).free ho
  generalize upd (upd H l (.lst [V.int 0])) o (.lst (vi (List.replicate n 0))) = H1 at s1 o1 ⊢
  refine ⟨_, rfl, a, _, rfl, SqT.of (s1 _ _ ha), for_enumT (xs := vi c) (fun i σ H' => (∃ u v : Option V, σ = [some (.ref a), some (.ref o), u, v]) ∧ Same H H' ∧ ∃ es : List Nat, H' o = some (.lst (vi es)) ∧ es.length = n ∧ ∀ j, j < i → es[c.getD j 0]? = some j)
    ⟨⟨none, none, rfl⟩, s1, List.replicate n 0, o1, List.length_replicate, fun j hj => absurd hj (Nat.not_lt_zero j)⟩ (fun i σ H' _ p => SqT.of (p.2.1 _ _ ha)) ?_ ?_⟩
  · rintro i x σ H' T hx ⟨⟨u, v, rfl⟩, p1, es, p2, p3, p4⟩ hT
    obtain ⟨m, hm, rfl⟩ := vi_at hx
    have hi : i < n := by rw [← hc.len]; exact (List.getElem?_eq_some_iff.mp hm).1
    have em : c.getD i 0 = m := getD_at hm
    have lt : m < es.length := by rw [p3, ← em]; exact hc.at_lt hi
    have oT : o ≠ T := ne_of_none p2 hT
    refine ⟨T, _, rfl, SqT.of upd_same, rfl, _, _, rfl, _, _, rfl, rfl, ?_⟩
    refine ⟨_, rfl, _, rfl, _, rfl, o, _, _, m, rfl, rfl, Same.mk1 hT _ _ p2, by rw [show (vi es).length = es.length from List.length_map ..]; exact ix_ok lt, ⟨_, _, rfl⟩, ?_, es.set m i, ?_, by rw [List.length_set]; exact p3, ?_⟩
    · intro b z hb
      rw [upd_ne (ne_of_none hb on)]
      exact (p1.trans (Same.mk1 hT)) b z hb
    · rw [upd_same]
      show some (HO.lst ((es.map fun (n : Nat) => V.int (n : Int)).set m (V.int (i : Int)))) = some (HO.lst ((es.set m i).map fun (n : Nat) => V.int (n : Int)))
      rw [List.map_set]
    · rw [← em]
      exact set_walk hc hi p3 p4
  · rintro σ H' ⟨⟨u, v, rfl⟩, p1, es, p2, p3, p4⟩
    rw [lc] at p4
    exact ⟨_, rfl, o, _, rfl, .inl ⟨SqL.of p2, fun t ht => q t _ es (p1.trans (Same.mk1 ht)) (p1.free ht) upd_same ⟨p3, p4⟩⟩⟩
/-- the things in another order -/
def spMix : Sp := fun vs H Q _ => ∃ (d c a : Addr) (ns : List Nat), vs = [.ref d, .ref a] ∧ Dl H d c ∧ H a = some (.lst (vi ns)) ∧ a ≠ d ∧ a ≠ c ∧ ns.length ≤ 16 ∧ ∀ l ms H', ms.Perm ns → H l = none → H' l = some (.lst (vi ms)) → Dl H' d c → Kp d c H H' → Q (.ref l) H'
theorem sc31 : FnScope ["_law_deal", "_law_some", "_law_left", "_law_found"] ["_law_deal", "_law_some"] (defScope (top 32)) := ⟨rfl, rfl, rfl, by decide +kernel, rfl, by decide +kernel, by decide +kernel⟩
def MixW (d c a l f : Addr) (ns : List Nat) (H : Hp) (k : Nat) (σ : L2.St) (H' : Hp) : Prop := σ = [some (.ref d), some (.ref a), some (.ref l), some (.ref f)] ∧ ∃ ls fs : List Nat, k = ls.length ∧ (fs ++ ls).Perm ns ∧ H' l = some (.lst (vi ls)) ∧ H' f = some (.lst (vi fs)) ∧ Dl H' d c ∧ Kp d c H H'
theorem ok_mixed {f : Addr} {fd : FuncData} (B : Bl mg) (CA : Cal P w K mg base CX0 1 "_law_any" ["_law_deal", "_law_bound"] spAny) (F : Fun K "_law_mixed" "_law_mixed" (top 32) f fd) : FnOk P w K mg base CX0 2 f fd ["_law_deal", "_law_some"] spMix := by
  refine F.ok sc31 (fun vs H Q E h => ?_) (fun cdv A outer s H vs Q E hr h => ⟨_,
    pss_cons (ps_par (i := 2) (j := 3) rfl sc31.nd rfl rfl (by decide) rfl rfl (pa_cons (pe_callTy call_list_of (by rfl) B.list (by decide +kernel) (pa_cons (pv 1) pa_nil)) (pa_cons (pe_lst pa_nil) pa_nil)) (by rfl))
    (pss_cons (ps_while PassesOwn.never (pt_cmpR (op_neD hr.units) (pv 2) (pe_lst pa_nil) (nomark _))
      (pss_one (ps_expr (pe_bm PySem.F.plainAttrs_list PySem.F.slot_list_append PySem.F.type_list_append mt_append (pv 3) (pa_cons (pe_bm PySem.F.plainAttrs_list PySem.F.slot_list_pop PySem.F.type_list_pop mt_popAt (pv 2) (pa_cons (by exact (pe_cal (X := L2.Cx.nox _) CA hr (by decide) (pa_cons (pv 0) (pa_cons (pe_callB call_len_seq (by rfl) B.len PySem.boot_len (pa_cons (pv 2) pa_nil)) pa_nil)))) pa_nil)) pa_nil)))))
    (pss_one (ps_ret (pv 3)))), ?_⟩)
  · obtain ⟨d, c, a, ns, rfl, _⟩ := h
    rfl
  obtain ⟨d, c, a, ns, rfl, hD, ha, ad, ac, hn, q⟩ := h
  refine ⟨_, rfl, a, _, rfl, .inl (SqL.of ha), fun l hl => ⟨(by show 0 ≤ sizeLine; decide), fun f hf => ⟨_, _, rfl, ?_⟩⟩⟩
  have ld := hD.ne hl
  have fd' := (hD.same (Same.new hl)).ne hf
  have lf : l ≠ f := fun e => by rw [← e, upd_same] at hf; cases hf
  have hfn : H f = none := (Same.new hl).free hf
  have h0 : MixW d c a l f ns H ns.length [some (.ref d), some (.ref a), some (.ref l), some (.ref f)] (upd (upd H l (.lst (vi ns))) f (.lst [])) :=
    ⟨rfl, ns, [], rfl, List.Perm.refl _, by rw [upd_ne lf, upd_same], upd_same, (hD.same (Same.new hl)).same (Same.new hf), (Kp.refl.new hl).new hf⟩
  generalize upd (upd H l (.lst (vi ns))) f (.lst []) = H1 at h0
  dsimp only
  refine sq_cut (MixW d c a l f ns H 0) (fun Z hZ => ⟨MixW d c a l f ns H, ⟨_, h0⟩, ?_⟩) ?_
  · rintro k σ H2 ⟨rfl, ls, fs, rfl, pe, h1, h2, hD2, k2⟩
    have le : ls.length ≤ 16 := by
      have := pe.length_eq
      rw [List.length_append] at this
      omega
    refine ⟨_, rfl, (by show 0 ≤ sizeLine; decide), fun p hp => ?_⟩
    have sp : Same H2 (upd H2 p (.lst [])) := Same.new hp
    have h1 := sp _ _ h1
    have h2 := sp _ _ h2
    have hD2 := hD2.same sp
    have k2 := k2.trans (Kp.of sp)
    have hpp : upd H2 p (.lst []) p = some (.lst (([] : List Int).map V.int)) := upd_same
    generalize upd H2 p (.lst []) = H3 at h1 h2 hD2 k2 hpp
    rw [vi_zi] at h1
    refine neL (ns := zi ls) (ms := []) (SqL.of h1) (SqL.of hpp) ⟨_, rfl, ?_⟩
    rw [← vi_zi] at h1
    by_cases e : ls = []
    · subst e
      exact iteN (by simp [zi]) (hZ _ _ ⟨rfl, [], fs, rfl, pe, h1, h2, hD2, k2⟩)
    · have l0 : 0 < ls.length := List.length_pos_iff.mpr e
      have lv : (vi ls).length = ls.length := List.length_map ..
      refine iteP (by simp [zi, e]) ⟨fun σ H' => ∃ m', m' < ls.length ∧ MixW d c a l f ns H m' σ H', fun _ _ z => z, ?_⟩
      refine ⟨_, rfl, .inl ⟨rfl, _, SqL.of h2⟩, _, rfl, .inl ⟨rfl, _, SqL.of h1⟩, _, rfl, _, rfl, l, _, rfl, .inl (SqL.of h1), d, c, _, rfl, hD2, by omega, sm_of (by omega) (Int.lt_of_le_of_lt (show ((vi ls).length : Int) ≤ 1000 by omega) (by decide)), fun r H4 r0 r1 hD4 k4 => ?_⟩
      have hr1 : r.toNat < ls.length := by omega
      have g1 := k4 _ _ ld.1 ld.2 h1
      have g2 := k4 _ _ fd'.1 fd'.2 h2
      have hsx : seqIndex? r (vi ls).length = some r.toNat := by
        rw [lv]
        unfold seqIndex?
        have e1 : ¬ r < 0 := by omega
        simp only [e1, if_false]
        rw [if_pos (by simp only [Bool.and_eq_true, decide_eq_true_eq]; omega)]
      refine ⟨l, _, r, r.toNat, _, rfl, rfl, g1, by omega, by omega, hsx, vi_get (List.getElem?_eq_getElem hr1), f, vi fs, _, rfl, rfl, by rw [upd_ne (Ne.symm lf)]; exact g2, len_lt (by rw [show (vi fs).length = fs.length from List.length_map ..]; have z := pe.length_eq; rw [List.length_append] at z; omega), ?_⟩
      have ee : (vi ls).eraseIdx r.toNat = vi (ls.eraseIdx r.toNat) := vi_erase _ _
      rw [ee]
      refine ⟨(ls.eraseIdx r.toNat).length, ?_, rfl, ls.eraseIdx r.toNat, fs ++ [ls[r.toNat]], rfl, ?_, ?_, ?_, ?_, ?_⟩
      · rw [List.length_eraseIdx_of_lt hr1]
        omega
      · have z : (ls[r.toNat] :: ls.eraseIdx r.toNat).Perm ls := perm_erase ls _ hr1
        rw [List.append_assoc]
        exact (List.Perm.append_left fs z).trans pe
      · rw [upd_ne lf, upd_same]
      · rw [upd_same]
        show some (HO.lst (vi fs ++ [V.int ((ls[r.toNat] : Nat) : Int)])) = some (HO.lst (vi (fs ++ [ls[r.toNat]])))
        simp only [vi, List.map_append, List.map_cons, List.map_nil]
      · exact (hD4.upd ld.1 ld.2).upd fd'.1 fd'.2
      · exact ((k2.trans k4).updn hl).updn hfn
  · rintro σ H2 ⟨rfl, ls, fs, e0, pe, h1, h2, hD2, k2⟩
    have e : ls = [] := List.eq_nil_of_length_eq_zero e0.symm
    subst e
    rw [List.append_nil] at pe
    exact ⟨_, rfl, q f fs H2 pe hfn h2 hD2 k2⟩
/-- a count -/
def spCount : Sp := fun vs H Q _ => ∃ (d c : Addr), vs = [.ref d] ∧ Dl H d c ∧ ∀ n H', sm 100 n → Dl H' d c → Kp d c H H' → Q (.int n) H'
theorem sc36 : FnScope ["_law_deal"] ["_law_deal"] (defScope (top 37)) := ⟨rfl, rfl, rfl, by decide +kernel, rfl, by decide +kernel, by decide +kernel⟩
theorem ok_count {f : Addr} {fd : FuncData} (CA : Cal P w K mg base CX0 1 "_law_any" ["_law_deal", "_law_bound"] spAny) (CO : Cal P w K mg base CX0 2 "_law_of" ["_law_deal", "_law_some"] (spOf K)) (F : Fun K "_law_count" "_law_count" (top 37) f fd) : FnOk P w K mg base CX0 3 f fd ["_law_deal"] spCount := by
  refine F.ok sc36 (fun vs H Q E h => ?_) (fun cdv A outer s H vs Q E hr h => ⟨_,
    pss_one (ps_ret (by exact (pe_cal (X := L2.Cx.nox _) CO hr (by decide) (pa_cons (pv 0) (pa_cons (pe_lst (pa_cons pe_int (pa_cons pe_int (pa_cons (pe_un un_neg pe_int) (pa_cons pe_int (pa_cons pe_int (pa_cons (pe_un un_neg pe_int)
      (pa_cons (pe_op op_sub (pe_op op_sub (pe_op op_pow pe_int pe_int) pe_int) (by exact (pe_cal (X := L2.Cx.nox _) CA hr (by decide) (pa_cons (pv 0) (pa_cons (pe_op op_pow pe_int pe_int) pa_nil)))))
      (pa_cons (by exact (pe_cal (X := L2.Cx.nox _) CA hr (by decide) (pa_cons (pv 0) (pa_cons (pe_op op_pow pe_int pe_int) pa_nil))))
      (pa_cons (pe_op op_sub pe_int (by exact (pe_cal (X := L2.Cx.nox _) CA hr (by decide) (pa_cons (pv 0) (pa_cons (pe_op op_pow pe_int pe_int) pa_nil))))) pa_nil)))))))))) pa_nil))))), ?_⟩)
  · obtain ⟨d, c, rfl, _⟩ := h
    rfl
  obtain ⟨d, c, rfl, hD, q⟩ := h
  refine ⟨_, rfl, _, rfl, _, rfl, _, _, rfl, rfl, ⟨by decide, by decide, by decide⟩, _, _, rfl, rfl, _, rfl, _, _, rfl, rfl, ⟨by decide, by decide, by decide⟩, d, c, _, rfl, hD, by decide, by decide, fun x H1 x0 x1 hD1 k1 => ⟨_, _, rfl, rfl, _, rfl, _, _, rfl, rfl, ⟨by decide, by decide, by decide⟩, d, c, _, rfl, hD1, by decide, by decide, fun y H2 y0 y1 hD2 k2 => ⟨_, rfl, _, _, rfl, rfl, ⟨by decide, by decide, by decide⟩, d, c, _, rfl, hD2, by decide, by decide, fun z H3 z0 z1 hD3 k3 => ⟨_, _, rfl, rfl, (by show 9 ≤ sizeLine; decide), fun l hl => ?_⟩⟩⟩⟩
  have ld := hD3.ne hl
  refine ⟨d, c, l, _, rfl, hD3.same (Same.new hl), ld.1, ld.2, SqL.of upd_same, Nat.succ_pos _, (by show 9 ≤ 1000; decide), fun j v H4 hj hD4 k4 => ?_⟩
  have kk : Kp d c H H4 := (((k1.trans k2).trans k3).new hl).trans k4
  have fin : ∃ n : Int, v = .int n ∧ sm 100 n := by
    have hm := List.mem_of_getElem? hj
    have sk : ∀ n : Int, -(10 ^ 30) ≤ n → n ≤ 10 ^ 30 → sm 100 n := fun n h1 h2 => by
      show n.natAbs < 2 ^ 100
      omega
    simp only [List.mem_cons, List.not_mem_nil, or_false] at hm
    rcases hm with e | e | e | e | e | e | e | e | e
    · exact ⟨_, e, by decide⟩
    · exact ⟨_, e, by decide⟩
    · exact ⟨_, e, by decide⟩
    · exact ⟨_, e, by decide⟩
    · exact ⟨_, e, by decide⟩
    · exact ⟨_, e, by decide⟩
    · refine ⟨_, e, sk _ ?_ ?_⟩
      · show -(10 ^ 30) ≤ (10 : Int) ^ 29 - 1 - x
        have : x < (10 : Int) ^ 9 := x1
        omega
      · show (10 : Int) ^ 29 - 1 - x ≤ 10 ^ 30
        omega
    · have : y < (10 : Int) ^ 9 := y1
      exact ⟨_, e, sk _ (by omega) (by omega)⟩
    · have : z < (10 : Int) ^ 18 := z1
      refine ⟨_, e, sk _ ?_ ?_⟩
      · show -(10 ^ 30) ≤ (0 : Int) - z
        omega
      · show (0 : Int) - z ≤ 10 ^ 30
        omega
  obtain ⟨n, rfl, hn⟩ := fin
  exact q n H4 hn hD4 kk
end
end KV

/-! tuples joined, cut, repeated: what comes out holds the items, at some address -/
namespace KV
open PySem PySem.Spec PyProof.Rows L2 KC
theorem mul_tuple1 (l : Addr) (items : Array Value) (n : Nat) (dd : Option Addr) (sl : Array (Option Value)) (u : Tok) (hne : items.isEmpty = false) :
    Meets (Builtin.«tuple.__mul__» ⟨[.ref l, .int 1 u], []⟩) (fun _ R s => s.heap.get? l = some { cls := .type "tuple", dict := dd, data := .seq items n, slots := sl } ∧ R (.ok (.ret (Value.ref l))) s) :=
  .of_wp fun prog w A R s h => by
    obtain ⟨hp, g, d, tk, os⟩ := s
    obtain ⟨hl, h⟩ := h
    have f1 := AutoSeq1.idx_int
    wp_walk using wpAny_loadPart' hl
    exact ⟨_, rfl, h⟩
section
variable {X : Cx}
def rRep1 : R2 := fun x y H Q => ∃ l xs, x = .ref l ∧ y = .int 1 ∧ H l = some (.tup xs) ∧ xs ≠ [] ∧ Q (.ref l) H
theorem op_rep1 : OpR X (binaryOp .Mult) rRep1 := by
  intro pins s σ H x y v u Q I rx ry h
  obtain ⟨l, xs, rfl, rfl, hT, hne, q⟩ := h
  cases rx
  obtain ⟨t, rfl⟩ := ry
  obtain ⟨its, r, ⟨⟨cls, dd, data, sl⟩, ho, hc, n, hd⟩, hs⟩ := I.tuple (SqT.of hT)
  simp only at hc hd
  subst hc hd
  have hle : its.length = xs.length := r.length.symm
  have hi : its.toArray.isEmpty = false := by
    cases its with
    | nil => exact absurd (List.eq_nil_of_length_eq_zero hle.symm) hne
    | cons a b => rfl
  exact wpAny_binaryOp_repeat_ref (T := "tuple") (U := "int") (by decide) ⟨_, ho, rfl⟩ (fun s' => typeIs_int s' 1 t) noFill_tuple_mul F.fills_int_mul F.slot_int_rmul repeat_tuple F.slot_int_index.lookup
    (call_meets F.slot_int_rmul (typeIs_int s 1 t) F.entry_int_rmul (F.args_int_rmul_2 _ _) (int_rmul_tuple 1 t l its.toArray n dd sl)
      ⟨ho, rfl, ⟨_, ho, rfl⟩, call_meets F.slot_tuple_mul ⟨_, ho, rfl⟩ F.entry_tuple_mul (F.args_tuple_mul_2 _ _) (mul_tuple1 l its.toArray n dd sl t hi) ⟨ho, .ref l, H, I, rfl, q⟩⟩)
def rRepP : R2 := fun x y H Q => ∃ (l : Addr) (k : Int) (xs : List V), x = .ref l ∧ y = .int k ∧ H l = some (.tup xs) ∧ xs ≠ [] ∧ 1 ≤ k ∧ k ≤ 1000 ∧ xs.length ≤ 1000 ∧ ∀ p H', Same H H' → H' p = some (.tup (List.replicate k.toNat xs).flatten) → Q (.ref p) H'
theorem op_repP : OpR X (binaryOp .Mult) rRepP := by
  intro pins s σ H x y v u Q I rx ry h
  obtain ⟨l, k, xs, rfl, rfl, hT, hne, h1, h2, hz, q⟩ := h
  by_cases e : k = 1
  · subst e
    exact op_rep1 pins s σ H _ _ v u Q I rx ry ⟨l, xs, rfl, rfl, hT, hne, q l H (Same.refl H) (by
      show H l = some (.tup (xs ++ []))
      rw [List.append_nil]
      exact hT)⟩
  · exact op_repT pins s σ H _ _ v u Q I rx ry ⟨l, k, xs, rfl, rfl, SqT.of hT, hne, by omega, h2, hz, fun p hp => q p _ (Same.new hp) upd_same⟩
def rCatP : R2 := fun x y H Q => ∃ (a b : Addr) (xs ys : List V), x = .ref a ∧ y = .ref b ∧ H a = some (.tup xs) ∧ H b = some (.tup ys) ∧ xs.length + ys.length ≤ 1000 ∧ ∀ p H', Same H H' → H' p = some (.tup (xs ++ ys)) → Q (.ref p) H'
theorem op_catP : OpR X (binaryOp .Add) rCatP := by
  intro pins s σ H x y v u Q I rx ry h
  obtain ⟨a, b, xs, ys, rfl, rfl, ha, hb, hz, q⟩ := h
  exact op_catA pins s σ H _ _ v u Q I rx ry ⟨a, b, xs, ys, rfl, rfl, SqT.of ha, SqT.of hb, Nat.le_of_lt (len_lt hz), fun e => q b H (Same.refl H) (by rw [e, hb]; rfl), fun _ e => q a H (Same.refl H) (by rw [e, ha, List.append_nil]),
    fun _ _ p hp => q p _ (Same.new hp) upd_same⟩
def rSlP : V → Option Int → Option Int → Hp → VK → Prop := fun x lo hi H Q => ∃ (a : Addr) (xs : List V), x = .ref a ∧ H a = some (.tup xs) ∧ ∀ p H', Same H H' → H' p = some (.tup (cutV xs lo hi)) → Q (.ref p) H'
theorem sl_tupP : SlR X rSlP := by
  intro pins s σ H x v vl vu lo hi sl Q I rx hs pl pu h
  obtain ⟨a, xs, rfl, hx, q⟩ := h
  refine sl_tupA pins s σ H _ v vl vu lo hi sl Q I rx hs pl pu ⟨a, xs, rfl, SqT.of hx, fun e => q a H (Same.refl H) ?_, fun _ p hp => q p _ (Same.new hp) upd_same⟩
  unfold cutV
  rw [e.1, e.2, List.drop_zero, Nat.sub_zero, List.take_length]
  exact hx
end
theorem cutV_from (xs : List V) (k : Nat) : cutV xs (some (k : Int)) none = xs.drop k := by
  unfold cutV
  have e1 : HT.sIx xs.length 0 (some (k : Int)) = min k xs.length := HT.sIx_nat _ _ k
  have e2 : HT.sIx xs.length xs.length none = xs.length := rfl
  rw [e1, e2]
  rcases Nat.le_total k xs.length with h | h
  · rw [Nat.min_eq_left h, ← List.length_drop, List.take_length]
  · rw [Nat.min_eq_right h, List.drop_eq_nil_of_le h, List.drop_eq_nil_of_le (Nat.le_refl _), List.take_nil]
theorem cutV_to (xs : List V) (k : Nat) : cutV xs none (some (k : Int)) = xs.take k := by
  unfold cutV
  have e1 : HT.sIx xs.length 0 none = 0 := rfl
  have e2 : HT.sIx xs.length xs.length (some (k : Int)) = min k xs.length := HT.sIx_nat _ _ k
  rw [e1, e2, List.drop_zero, Nat.sub_zero]
  exact List.take_eq_take_min.symm
/-- what is no change: its kind, and that it is none -/
def BadV (d c : Addr) (H : Hp) (v : V) : Prop := (∃ (a : Addr) (xs : List V), v = .ref a ∧ H a = some (.tup xs) ∧ (∀ x ∈ xs, Itm x) ∧ xs.length ≤ 16 ∧ chB xs = false) ∨ v = .non ∨ (∃ i, v = .int i) ∨ (∃ s, v = .str s) ∨ ∃ (a : Addr) (xs : List V), v = .ref a ∧ H a = some (.lst xs) ∧ a ≠ d ∧ a ≠ c
theorem BadV.same {d c : Addr} {H H' : Hp} {v : V} (s : Same H H') (h : BadV d c H v) : BadV d c H' v := by
  rcases h with ⟨a, xs, e, h, r⟩ | e | e | e | ⟨a, xs, e, h, r⟩
  · exact .inl ⟨a, xs, e, s _ _ h, r⟩
  · exact .inr (.inl e)
  · exact .inr (.inr (.inl e))
  · exact .inr (.inr (.inr (.inl e)))
  · exact .inr (.inr (.inr (.inr ⟨a, xs, e, s _ _ h, r⟩)))
theorem BadV.kp {d c : Addr} {H H' : Hp} {v : V} (D : Dl H d c) (k : Kp d c H H') (h : BadV d c H v) : BadV d c H' v := by
  rcases h with ⟨a, xs, e, h, r⟩ | e | e | e | ⟨a, xs, e, h, r⟩
  · exact .inl ⟨a, xs, e, k _ _ (D.neT h).1 (D.neT h).2 h, r⟩
  · exact .inr (.inl e)
  · exact .inr (.inr (.inl e))
  · exact .inr (.inr (.inr (.inl e)))
  · exact .inr (.inr (.inr (.inr ⟨a, xs, e, k _ _ r.1 r.2 h, r⟩)))
theorem BadV.val {K : PySem.W.Frag} {d c : Addr} {H : Hp} {v : V} (h : BadV d c H v) : ∃ ms, ValT K H v ms ∧ isC ms = false := by
  rcases h with ⟨a, xs, e, h, h1, h2, h3⟩ | e | ⟨i, e⟩ | ⟨t, e⟩ | ⟨a, xs, e, h, r⟩
  · exact ⟨some xs, ⟨a, e, h, h1, h2⟩, h3⟩
  · subst e
    exact ⟨none, ⟨"NoneType", .base .non, by simp⟩, rfl⟩
  · subst e
    exact ⟨none, ⟨"int", .base (.int i), by simp⟩, rfl⟩
  · subst e
    exact ⟨none, ⟨"str", .base (.str t), by simp⟩, rfl⟩
  · subst e
    exact ⟨none, ⟨"list", .base (.lst h), by simp⟩, rfl⟩
theorem chB_nd {xs : List V} (h : ¬ xs.Nodup) : chB xs = false := by
  unfold chB
  rw [decide_eq_false h, Bool.and_false, Bool.and_false]
theorem chB_bel {xs : List V} {x : V} (hx : x ∈ xs) (h : belB (xs.length : Int) x = false) : chB xs = false := by
  unfold chB
  have : xs.all (belB (xs.length : Int)) = false := by
    rw [List.all_eq_false]
    exact ⟨x, hx, by rw [h]; decide⟩
  rw [this, Bool.false_and, Bool.and_false]
theorem chB_nil : chB [] = false := rfl
theorem itm_vi {c : List Nat} : ∀ x ∈ vi c, Itm x := fun x hx => by
  obtain ⟨m, _, rfl⟩ := List.mem_map.mp hx
  exact .inl ⟨_, rfl⟩
end KV

/-! what is no change is refused -/
namespace KV
open PySem PySem.Spec PyProof.Rows L2 KC LamX
/-- refused, as it stands -/
def RefD (K : PySem.W.Frag) (mg : Str → Option Value) : Prop := ∃ (g : Addr) (fd : FuncData), Fun K "_law_refused" "_law_refused" (top 36) g fd ∧ mg "_law_refused" = some (.ref g)
section
variable {X : Cx}
theorem pe_ref {C fI : Addr} {Tt : List (Addr × Str)} {c P : Addr} {k : Nat} {params : Arguments} {body : Expr} {scope : Scope} {t : XK → TE} {p lpos pos : Pos} (T : PySem.LowX.LowTxt X.K X.mg "InvalidChange" "InvalidChange.__init__" C fI) (R : RefD X.K X.mg)
    (TB : TabB X.base X.mg c P) (hcode : X.env.code = .ref c) (hmT : (P, X.env.qual ++ "<lambda>") ∈ Tt) (hu : ∀ p ∈ Tt, p.1 = P → p.2 = X.env.qual ++ "<lambda>") (hr : Room (k + 2) X.A) (L : LamS X.env.scope scope) (hdef : defaultsOf params X.env = ([], []))
    (hbind : ∀ (q : Str) (cl : List (Str × Addr)) (pm cv ctv : Value), bindArgs (PySem.W.kla_fn "<lambda>" q params body scope cl pm cv ctv) ⟨[], []⟩ = pure [])
    (hbody : ∀ (A : Around) (outer : List Env) (s : Shared) (H : Hp) (E : XK) (f c' : Addr), Room k (A.deeper (lamEnv X scope s.heap.objs.size f c')) → PE (lamCx X A outer s H E scope f c') body (t E)) (hg : Gl X "_law_refused" := by rfl) :
    PE X (.Call (.Name "_law_refused" p) [.Lambda params body scope lpos] [] pos) (tLam Tt (TRef X.K C) t) := by
  obtain ⟨g, fd, F, hm⟩ := R
  have hk := F.kp
  have hb : L2.Binds X.K fd ["_law_work"] [] := F.binds fun _ _ _ _ _ _ us hl => match us, hl with | [_], _ => rfl
  obtain ⟨oc, od, kV, doc, pm, an, cdv, ct, osl, rfl, lk, hcd⟩ := F.ex
  exact pe_lamcall (x := "_law_refused") (a := "_law_work") (Ng := ["_law_work", "wrong"]) hg hm hk lk hcd hb sc35 rfl (.inl rfl) (ref_gives T) TB hcode hmT hu hr L hdef hbind hbody
theorem BadV.ext {d c : Addr} {H H' : Hp} {v : V} (s : ExtN H H') (h : BadV d c H v) : BadV d c H' v := by
  rcases h with ⟨a, xs, e, h, r⟩ | e | e | e | ⟨a, xs, e, h, r⟩
  · exact .inl ⟨a, xs, e, s _ _ h (fun _ z => by cases z), r⟩
  · exact .inr (.inl e)
  · exact .inr (.inr (.inl e))
  · exact .inr (.inr (.inr (.inl e)))
  · exact .inr (.inr (.inr (.inr ⟨a, xs, e, s _ _ h (fun _ z => by cases z), r⟩)))
theorem lam_ref {K : PySem.W.Frag} {C : Addr} {Tt : List (Addr × Str)} {t : XK → TE} {σ : L2.St} {H : Hp} {Q : VK} (te : PySem.W.exmOne K (.ref C) (.ref C) = some true) (hT : Tabs Tt H) (ht : ∀ (E : XK) (H1 : Hp) (Q1 : VK), ExtN H H1 → Bad C H1 E → t E σ H1 Q1) (q : ∀ H2, ExtN H H2 → Tabs Tt H2 → Q (.int 0) H2) :
    tLam Tt (TRef K C) t σ H Q :=
  ⟨hT, fun H1 e1 T1 => ht _ H1 _ e1 fun H2 d s2 hd => ⟨true, te, fun _ => ⟨rfl, d, .int 0, rfl, upd_same, q _ (e1.trans (ExtN.of (s2.trans (Same.new hd)))) (T1.ext (s2.trans (Same.new hd)))⟩, fun z => Bool.noConfusion z⟩⟩
end
theorem isCh_of {ms : Option (List V)} (s : Int) (h : isC ms = false) : isCh s ms = false := by
  cases ms with
  | none => rfl
  | some xs =>
    show (decide ((xs.length : Int) = s) && chB xs) = false
    rw [show chB xs = false from h, Bool.and_false]
theorem isCh_len {xs : List V} {s : Int} (h : (xs.length : Int) ≠ s) : isCh s (some xs) = false := by
  show (decide ((xs.length : Int) = s) && chB xs) = false
  rw [decide_eq_false h, Bool.false_and]
theorem chg_wide {n : Nat} {ch : List Nat} (h : Chg n ch) : Chg (n + 1) (ch ++ [n]) := by
  refine ⟨by rw [List.length_append, h.len]; rfl, fun x hx => ?_, ?_⟩
  · rcases List.mem_append.mp hx with hx | hx
    · have := h.lt x hx
      omega
    · rw [List.mem_singleton.mp hx]
      omega
  · rw [List.nodup_append]
    refine ⟨h.nd, by simp, fun x hx y hy => ?_⟩
    rw [List.mem_singleton.mp hy]
    have := h.lt x hx
    omega
/-- what the lambdas look at -/
structure WrF (d c a b : Addr) (v : V) (n : Nat) (ch : List Nat) (H : Hp) : Prop where
  one : H a = some (.tup (vi ch))
  bad : BadV d c H v
  wide : H b = some (.tup (vi (ch ++ [n])))
theorem WrF.ext {d c a b : Addr} {v : V} {n : Nat} {ch : List Nat} {H H' : Hp} (s : ExtN H H') (h : WrF d c a b v n ch H) : WrF d c a b v n ch H' :=
  ⟨s _ _ h.one (fun _ z => by cases z), h.bad.ext s, s _ _ h.wide (fun _ z => by cases z)⟩
theorem WrF.vo {K : PySem.W.Frag} {d c a b : Addr} {v : V} {n : Nat} {ch : List Nat} {H : Hp} (h : WrF d c a b v n ch H) (hc : Chg n ch) (n8 : n ≤ 8) : ValT K H (.ref a) (some (vi ch)) := ⟨a, rfl, h.one, itm_vi, by rw [List.length_map, hc.len]; omega⟩
theorem WrF.vw {K : PySem.W.Frag} {d c a b : Addr} {v : V} {n : Nat} {ch : List Nat} {H : Hp} (h : WrF d c a b v n ch H) (hc : Chg n ch) (n8 : n ≤ 8) : ValT K H (.ref b) (some (vi (ch ++ [n]))) := ⟨b, rfl, h.wide, itm_vi, by rw [List.length_map, (chg_wide hc).len]; omega⟩
theorem Tabs.put {T : List (Addr × Str)} {G : Hp} {l : Addr} {xs : List V} {o : HO} (hT : Tabs T G) (hl : G l = some (.lst xs)) : Tabs T (upd G l o) := fun p hp => by
  obtain ⟨ps, h1, h2, h3⟩ := hT p hp
  refine ⟨ps, ?_, h2, fun pos cv hc => ?_⟩
  · rw [upd_ne (fun z => by rw [z, hl] at h1; cases h1)]
    exact h1
  · obtain ⟨c, e1, e2⟩ := h3 pos cv hc
    refine ⟨c, e1, ?_⟩
    rw [upd_ne (fun z => by
      rw [z, hl] at e2
      unfold CodeO at e2
      cases e2)]
    exact e2
theorem ExtN.put {G H : Hp} {l : Addr} {o : HO} (e : ExtN H G) (hl : H l = none) : ExtN H (upd G l o) := fun b u hb n => by
  rw [upd_ne (ne_of_none hb hl)]
  exact e b u hb n
/-- the lambdas' name -/
def qW : Str := (envOfC "_law_wrong_right" (defScope (top 39)) 0 0 .none).qual ++ "<lambda>"
section
variable {P : Program} {w : World} {K : PySem.W.Frag} {mg : Str → Option Value} {base : Heap} {C fI : Addr}
def spWrong (Pt : Addr) : Sp := fun vs H Q _ => ∃ (d c a b : Addr) (v : V) (n : Nat) (ch : List Nat), vs = [.ref a, v, .ref b] ∧ H a = some (.tup (vi ch)) ∧ Chg n ch ∧ 1 ≤ n ∧ n ≤ 8 ∧ BadV d c H v ∧ H b = some (.tup (vi (ch ++ [n]))) ∧ Tabs [(Pt, qW)] H ∧ ∀ H', Q (.bl true) H'
theorem sc38 : FnScope ["_law_one", "_law_bad_here", "_law_wide", "_law_many", "_law_told"] ["_law_one", "_law_bad_here", "_law_wide"] (defScope (top 39)) := ⟨rfl, rfl, rfl, by decide +kernel, rfl, by decide +kernel, by decide +kernel⟩
set_option maxHeartbeats 8000000 in
theorem ok_wrong {f : Addr} {fd : FuncData} {cc Pt : Addr} (B : Bl mg) (T : PySem.LowX.LowTxt K mg "InvalidChange" "InvalidChange.__init__" C fI) (R : RefD K mg)
    (CBk : Cal P w K mg base (L2.CX P w) 6 "back" ["change"] (spBk K C)) (CPw : Cal P w K mg base (L2.CX P w) 6 "power" ["change", "count"] (spPw K C)) (COr : Cal P w K mg base (L2.CX P w) 6 "order" ["change"] (spOr K C))
    (CCk : Cal P w K mg base (L2.CX P w) 4 "checked_change" ["states", "value"] (spChk K C)) (CFo : Cal P w K mg base (L2.CX P w) 7 "followed" ["one", "other"] (spFol K C)) (CCp : Cal P w K mg base (L2.CX P w) 7 "change_places" ["one", "other"] (spCp K C))
    (CLp : Cal P w K mg base (L2.CX P w) 7 "loop" ["one", "other", "count"] (spLp K C)) (CSp : Cal P w K mg base (L2.CX P w) 7 "split_loop" ["one", "other", "count"] (spSp K C))
    (F : Fun K "_law_wrong_right" "_law_wrong_right" (top 39) f fd) (hco : fd.code = .ref cc) (TB : TabB base mg cc Pt) : FnOk P w K mg base CX0 10 f fd ["_law_one", "_law_bad_here", "_law_wide"] (spWrong Pt) := by
  obtain ⟨oc, od, kV, doc, pm, an, cdv, ct, osl, rfl, lk, hcd⟩ := F.ex
  have ecd : cdv = .ref cc := hco
  subst ecd
  refine fn_of lk hcd sc38 (fun vs H Q E h => ?_) fun A outer s H vs Q E hr h => ?_
  · obtain ⟨d, c, a, b, v, n, ch, rfl, _⟩ := h
    rfl
  have body : ∃ t, PSs (cxOf CX0 P w K mg base ["_law_one", "_law_bad_here", "_law_wide", "_law_many", "_law_told"] "_law_wrong_right" (defScope (top 39)) f (.ref cc) A outer s H E).nox (defBody (top 39)) t ∧ t { nx := fun _ H' => Q .non H', rt := Q } (start ["_law_one", "_law_bad_here", "_law_wide", "_law_many", "_law_told"] vs) H := by
    refine ⟨_, (pss_cons (ps_set (i := 3) sc38.nd rfl (.inr rfl) (pe_callB call_len_seq (by rfl) B.len PySem.boot_len (pa_cons (pv 0) pa_nil)))
    (pss_cons (ps_set (i := 4) sc38.nd rfl (.inl rfl) (pe_lst (pa_cons (pe_ref (Tt := [(Pt, qW)]) (k := 7) T R TB rfl (List.mem_singleton.mpr rfl) (fun p hp _ => congrArg Prod.snd (List.mem_singleton.mp hp)) hr (lamS_by (sc := defScope (top 39)) (by decide +kernel)) rfl (fun _ _ _ _ _ => rfl) (fun A outer s H E f c' hr => (by exact (pe_calX (E := E) CBk hr (by decide) (takes_of rfl rfl rfl rfl) (fun _ _ _ _ z => z) (pa_cons (pv 1) pa_nil))))) pa_nil)))
    (pss_cons (ps_expr (pe_bm PySem.F.plainAttrs_list PySem.F.slot_list_append PySem.F.type_list_append mt_append (pv 4) (pa_cons (pe_ref (Tt := [(Pt, qW)]) (k := 7) T R TB rfl (List.mem_singleton.mpr rfl) (fun p hp _ => congrArg Prod.snd (List.mem_singleton.mp hp)) hr (lamS_by (sc := defScope (top 39)) (by decide +kernel)) rfl (fun _ _ _ _ _ => rfl) (fun A outer s H E f c' hr => (by exact (pe_calX (E := E) CPw hr (by decide) (takes_of rfl rfl rfl rfl) (fun _ _ _ _ z => z) (pa_cons (pv 1) (pa_cons pe_int pa_nil)))))) pa_nil)))
    (pss_cons (ps_expr (pe_bm PySem.F.plainAttrs_list PySem.F.slot_list_append PySem.F.type_list_append mt_append (pv 4) (pa_cons (pe_ref (Tt := [(Pt, qW)]) (k := 7) T R TB rfl (List.mem_singleton.mpr rfl) (fun p hp _ => congrArg Prod.snd (List.mem_singleton.mp hp)) hr (lamS_by (sc := defScope (top 39)) (by decide +kernel)) rfl (fun _ _ _ _ _ => rfl) (fun A outer s H E f c' hr => (by exact (pe_calX (E := E) COr hr (by decide) (takes_of rfl rfl rfl rfl) (fun _ _ _ _ z => z) (pa_cons (pv 1) pa_nil))))) pa_nil)))
    (pss_cons (ps_expr (pe_bm PySem.F.plainAttrs_list PySem.F.slot_list_append PySem.F.type_list_append mt_append (pv 4) (pa_cons (pe_ref (Tt := [(Pt, qW)]) (k := 7) T R TB rfl (List.mem_singleton.mpr rfl) (fun p hp _ => congrArg Prod.snd (List.mem_singleton.mp hp)) hr (lamS_by (sc := defScope (top 39)) (by decide +kernel)) rfl (fun _ _ _ _ _ => rfl) (fun A outer s H E f c' hr => (by exact (pe_calX (E := E) CCk hr (by decide) (takes_of rfl rfl rfl rfl) (fun _ _ _ _ z => z) (pa_cons (pv 3) (pa_cons (pv 1) pa_nil)))))) pa_nil)))
    (pss_cons (ps_expr (pe_bm PySem.F.plainAttrs_list PySem.F.slot_list_append PySem.F.type_list_append mt_append (pv 4) (pa_cons (pe_ref (Tt := [(Pt, qW)]) (k := 7) T R TB rfl (List.mem_singleton.mpr rfl) (fun p hp _ => congrArg Prod.snd (List.mem_singleton.mp hp)) hr (lamS_by (sc := defScope (top 39)) (by decide +kernel)) rfl (fun _ _ _ _ _ => rfl) (fun A outer s H E f c' hr => (by exact (pe_calX (E := E) CFo hr (by decide) (takes_of rfl rfl rfl rfl) (fun _ _ _ _ z => z) (pa_cons (pv 0) (pa_cons (pv 1) pa_nil)))))) pa_nil)))
    (pss_cons (ps_expr (pe_bm PySem.F.plainAttrs_list PySem.F.slot_list_append PySem.F.type_list_append mt_append (pv 4) (pa_cons (pe_ref (Tt := [(Pt, qW)]) (k := 7) T R TB rfl (List.mem_singleton.mpr rfl) (fun p hp _ => congrArg Prod.snd (List.mem_singleton.mp hp)) hr (lamS_by (sc := defScope (top 39)) (by decide +kernel)) rfl (fun _ _ _ _ _ => rfl) (fun A outer s H E f c' hr => (by exact (pe_calX (E := E) CFo hr (by decide) (takes_of rfl rfl rfl rfl) (fun _ _ _ _ z => z) (pa_cons (pv 1) (pa_cons (pv 0) pa_nil)))))) pa_nil)))
    (pss_cons (ps_expr (pe_bm PySem.F.plainAttrs_list PySem.F.slot_list_append PySem.F.type_list_append mt_append (pv 4) (pa_cons (pe_ref (Tt := [(Pt, qW)]) (k := 7) T R TB rfl (List.mem_singleton.mpr rfl) (fun p hp _ => congrArg Prod.snd (List.mem_singleton.mp hp)) hr (lamS_by (sc := defScope (top 39)) (by decide +kernel)) rfl (fun _ _ _ _ _ => rfl) (fun A outer s H E f c' hr => (by exact (pe_calX (E := E) CCp hr (by decide) (takes_of rfl rfl rfl rfl) (fun _ _ _ _ z => z) (pa_cons (pv 0) (pa_cons (pv 2) pa_nil)))))) pa_nil)))
    (pss_cons (ps_expr (pe_bm PySem.F.plainAttrs_list PySem.F.slot_list_append PySem.F.type_list_append mt_append (pv 4) (pa_cons (pe_ref (Tt := [(Pt, qW)]) (k := 7) T R TB rfl (List.mem_singleton.mpr rfl) (fun p hp _ => congrArg Prod.snd (List.mem_singleton.mp hp)) hr (lamS_by (sc := defScope (top 39)) (by decide +kernel)) rfl (fun _ _ _ _ _ => rfl) (fun A outer s H E f c' hr => (by exact (pe_calX (E := E) CLp hr (by decide) (takes_of rfl rfl rfl rfl) (fun _ _ _ _ z => z) (pa_cons (pv 0) (pa_cons (pv 2) (pa_cons pe_int pa_nil))))))) pa_nil)))
    (pss_cons (ps_expr (pe_bm PySem.F.plainAttrs_list PySem.F.slot_list_append PySem.F.type_list_append mt_append (pv 4) (pa_cons (pe_ref (Tt := [(Pt, qW)]) (k := 7) T R TB rfl (List.mem_singleton.mpr rfl) (fun p hp _ => congrArg Prod.snd (List.mem_singleton.mp hp)) hr (lamS_by (sc := defScope (top 39)) (by decide +kernel)) rfl (fun _ _ _ _ _ => rfl) (fun A outer s H E f c' hr => (by exact (pe_calX (E := E) CSp hr (by decide) (takes_of rfl rfl rfl rfl) (fun _ _ _ _ z => z) (pa_cons (pv 2) (pa_cons (pv 0) (pa_cons pe_int pa_nil))))))) pa_nil)))
    (pss_cons (ps_expr (pe_bm PySem.F.plainAttrs_list PySem.F.slot_list_append PySem.F.type_list_append mt_append (pv 4) (pa_cons (pe_ref (Tt := [(Pt, qW)]) (k := 7) T R TB rfl (List.mem_singleton.mpr rfl) (fun p hp _ => congrArg Prod.snd (List.mem_singleton.mp hp)) hr (lamS_by (sc := defScope (top 39)) (by decide +kernel)) rfl (fun _ _ _ _ _ => rfl) (fun A outer s H E f c' hr => (by exact (pe_calX (E := E) CCk hr (by decide) (takes_of rfl rfl rfl rfl) (fun _ _ _ _ z => z) (pa_cons (pe_op op_add (pv 3) pe_int) (pa_cons (pv 0) pa_nil)))))) pa_nil)))
    (pss_one (ps_ret (pe_cmpR (op_eqD hr.units) (pv 4) (pe_op op_rep (pe_lst (pa_cons pe_int pa_nil)) pe_int) (nomark _))))))))))))))), ?_⟩
    obtain ⟨d, c, a, b, v, n, ch, rfl, ha, hc, n1, n8, hv, hb, hT, q⟩ := h
    have ln : (vi ch).length = n := by rw [List.length_map]; exact hc.len
    have lw : (vi (ch ++ [n])).length = n + 1 := by rw [List.length_map]; exact (chg_wide hc).len
    have co : isC (some (vi ch)) = true := chB_chg hc n1
    have cw : isC (some (vi (ch ++ [n]))) = true := chB_chg (chg_wide hc) (by omega)
    have lne : (((vi (ch ++ [n])).length : Nat) : Int) ≠ (((vi ch).length : Nat) : Int) := by rw [lw, ln]; omega
    have ln1 : (((vi ch).length : Nat) : Int) ≠ (((vi ch).length : Nat) : Int) + 1 := by omega
    have F0 : WrF d c a b v n ch H := ⟨ha, hv, hb⟩
    refine ⟨_, rfl, a, _, rfl, .inr (SqT.of ha), ?_⟩
    dsimp only [gName]
    refine lam_ref T.te hT (fun E H1 Q1 e1 bad => ?_) (fun H2 e2 T2 => ⟨(by show 1 ≤ sizeLine; decide), fun l hl => ?_⟩)
    · have F := F0.ext e1
      obtain ⟨ms, vm, im⟩ := F.bad.val (K := K)
      exact ⟨_, rfl, .inr ⟨v, ms, rfl, vm, im, bad⟩⟩
    have F1 := F0.ext e2
    have x1 : ExtN H2 (upd H2 l (.lst [.int 0])) := ExtN.of (Same.new hl)
    have t1 := T2.ext (Same.new (o := .lst [.int 0]) hl)
    have l1 : upd H2 l (.lst [.int 0]) l = some (.lst [.int 0]) := upd_same
    generalize upd H2 l (.lst [.int 0]) = G1 at x1 t1 l1 ⊢
    refine ⟨_, rfl, .inl ⟨rfl, _, SqL.of l1⟩, lam_ref T.te t1 (fun E H1 Q1 e1 bad => ?_) (fun H3 e3 T3 => ⟨l, [V.int 0], _, rfl, rfl, e3 _ _ l1 (fun _ z => by cases z), len_lt (by decide), ?_⟩)⟩
    · have F := (F1.ext x1).ext e1
      obtain ⟨ms, vm, im⟩ := F.bad.val (K := K)
      exact ⟨_, rfl, .inr ⟨v, ms, 2, rfl, vm, im, bad⟩⟩
    have x2 : ExtN H2 (upd H3 l (.lst ([V.int 0] ++ [V.int 0]))) := ExtN.put (x1.trans e3) hl
    have t2 := Tabs.put (o := .lst ([V.int 0] ++ [V.int 0])) T3 (e3 _ _ l1 (fun _ z => by cases z))
    have l2 : upd H3 l (.lst ([V.int 0] ++ [V.int 0])) l = some (.lst [V.int 0, V.int 0]) := upd_same
    generalize upd H3 l (.lst ([V.int 0] ++ [V.int 0])) = G2 at x2 t2 l2 ⊢
    clear e3 T3
    clear H3
    refine ⟨_, rfl, .inl ⟨rfl, _, SqL.of l2⟩, lam_ref T.te t2 (fun E H1 Q1 e1 bad => ?_) (fun H3 e3 T3 => ⟨l, [V.int 0, V.int 0], _, rfl, rfl, e3 _ _ l2 (fun _ z => by cases z), len_lt (by decide), ?_⟩)⟩
    · have F := (F1.ext x2).ext e1
      obtain ⟨ms, vm, im⟩ := F.bad.val (K := K)
      exact ⟨_, rfl, .inr ⟨v, ms, rfl, vm, im, bad⟩⟩
    have x3 : ExtN H2 (upd H3 l (.lst ([V.int 0, V.int 0] ++ [V.int 0]))) := ExtN.put (x2.trans e3) hl
    have t3 := Tabs.put (o := .lst ([V.int 0, V.int 0] ++ [V.int 0])) T3 (e3 _ _ l2 (fun _ z => by cases z))
    have l3 : upd H3 l (.lst ([V.int 0, V.int 0] ++ [V.int 0])) l = some (.lst [V.int 0, V.int 0, V.int 0]) := upd_same
    generalize upd H3 l (.lst ([V.int 0, V.int 0] ++ [V.int 0])) = G3 at x3 t3 l3 ⊢
    clear e3 T3
    clear H3
    refine ⟨_, rfl, .inl ⟨rfl, _, SqL.of l3⟩, lam_ref T.te t3 (fun E H1 Q1 e1 bad => ?_) (fun H3 e3 T3 => ⟨l, [V.int 0, V.int 0, V.int 0], _, rfl, rfl, e3 _ _ l3 (fun _ z => by cases z), len_lt (by decide), ?_⟩)⟩
    · have F := (F1.ext x3).ext e1
      obtain ⟨ms, vm, im⟩ := F.bad.val (K := K)
      exact ⟨_, rfl, _, rfl, _, v, ms, rfl, vm, fun z => absurd ((isCh_of _ im).symm.trans z) (by decide), fun _ => bad⟩
    have x4 : ExtN H2 (upd H3 l (.lst ([V.int 0, V.int 0, V.int 0] ++ [V.int 0]))) := ExtN.put (x3.trans e3) hl
    have t4 := Tabs.put (o := .lst ([V.int 0, V.int 0, V.int 0] ++ [V.int 0])) T3 (e3 _ _ l3 (fun _ z => by cases z))
    have l4 : upd H3 l (.lst ([V.int 0, V.int 0, V.int 0] ++ [V.int 0])) l = some (.lst [V.int 0, V.int 0, V.int 0, V.int 0]) := upd_same
    generalize upd H3 l (.lst ([V.int 0, V.int 0, V.int 0] ++ [V.int 0])) = G4 at x4 t4 l4 ⊢
    clear e3 T3
    clear H3
    refine ⟨_, rfl, .inl ⟨rfl, _, SqL.of l4⟩, lam_ref T.te t4 (fun E H1 Q1 e1 bad => ?_) (fun H3 e3 T3 => ⟨l, [V.int 0, V.int 0, V.int 0, V.int 0], _, rfl, rfl, e3 _ _ l4 (fun _ z => by cases z), len_lt (by decide), ?_⟩)⟩
    · have F := (F1.ext x4).ext e1
      obtain ⟨ms, vm, im⟩ := F.bad.val (K := K)
      exact ⟨_, rfl, _, rfl, .inr ⟨_, v, _, ms, rfl, F.vo hc n8, vm, .inr ⟨_, rfl, co, isCh_of _ im⟩, bad⟩⟩
    have x5 : ExtN H2 (upd H3 l (.lst ([V.int 0, V.int 0, V.int 0, V.int 0] ++ [V.int 0]))) := ExtN.put (x4.trans e3) hl
    have t5 := Tabs.put (o := .lst ([V.int 0, V.int 0, V.int 0, V.int 0] ++ [V.int 0])) T3 (e3 _ _ l4 (fun _ z => by cases z))
    have l5 : upd H3 l (.lst ([V.int 0, V.int 0, V.int 0, V.int 0] ++ [V.int 0])) l = some (.lst [V.int 0, V.int 0, V.int 0, V.int 0, V.int 0]) := upd_same
    generalize upd H3 l (.lst ([V.int 0, V.int 0, V.int 0, V.int 0] ++ [V.int 0])) = G5 at x5 t5 l5 ⊢
    clear e3 T3
    clear H3
    refine ⟨_, rfl, .inl ⟨rfl, _, SqL.of l5⟩, lam_ref T.te t5 (fun E H1 Q1 e1 bad => ?_) (fun H3 e3 T3 => ⟨l, [V.int 0, V.int 0, V.int 0, V.int 0, V.int 0], _, rfl, rfl, e3 _ _ l5 (fun _ z => by cases z), len_lt (by decide), ?_⟩)⟩
    · have F := (F1.ext x5).ext e1
      obtain ⟨ms, vm, im⟩ := F.bad.val (K := K)
      exact ⟨_, rfl, _, rfl, .inr ⟨v, _, ms, _, rfl, vm, F.vo hc n8, .inl im, bad⟩⟩
    have x6 : ExtN H2 (upd H3 l (.lst ([V.int 0, V.int 0, V.int 0, V.int 0, V.int 0] ++ [V.int 0]))) := ExtN.put (x5.trans e3) hl
    have t6 := Tabs.put (o := .lst ([V.int 0, V.int 0, V.int 0, V.int 0, V.int 0] ++ [V.int 0])) T3 (e3 _ _ l5 (fun _ z => by cases z))
    have l6 : upd H3 l (.lst ([V.int 0, V.int 0, V.int 0, V.int 0, V.int 0] ++ [V.int 0])) l = some (.lst [V.int 0, V.int 0, V.int 0, V.int 0, V.int 0, V.int 0]) := upd_same
    generalize upd H3 l (.lst ([V.int 0, V.int 0, V.int 0, V.int 0, V.int 0] ++ [V.int 0])) = G6 at x6 t6 l6 ⊢
    clear e3 T3
    clear H3
    refine ⟨_, rfl, .inl ⟨rfl, _, SqL.of l6⟩, lam_ref T.te t6 (fun E H1 Q1 e1 bad => ?_) (fun H3 e3 T3 => ⟨l, [V.int 0, V.int 0, V.int 0, V.int 0, V.int 0, V.int 0], _, rfl, rfl, e3 _ _ l6 (fun _ z => by cases z), len_lt (by decide), ?_⟩)⟩
    · have F := (F1.ext x6).ext e1
      exact ⟨_, rfl, _, rfl, .inr ⟨_, _, _, _, rfl, F.vo hc n8, F.vw hc n8, .inr ⟨_, rfl, co, isCh_len lne⟩, bad⟩⟩
    have x7 : ExtN H2 (upd H3 l (.lst ([V.int 0, V.int 0, V.int 0, V.int 0, V.int 0, V.int 0] ++ [V.int 0]))) := ExtN.put (x6.trans e3) hl
    have t7 := Tabs.put (o := .lst ([V.int 0, V.int 0, V.int 0, V.int 0, V.int 0, V.int 0] ++ [V.int 0])) T3 (e3 _ _ l6 (fun _ z => by cases z))
    have l7 : upd H3 l (.lst ([V.int 0, V.int 0, V.int 0, V.int 0, V.int 0, V.int 0] ++ [V.int 0])) l = some (.lst [V.int 0, V.int 0, V.int 0, V.int 0, V.int 0, V.int 0, V.int 0]) := upd_same
    generalize upd H3 l (.lst ([V.int 0, V.int 0, V.int 0, V.int 0, V.int 0, V.int 0] ++ [V.int 0])) = G7 at x7 t7 l7 ⊢
    clear e3 T3
    clear H3
    refine ⟨_, rfl, .inl ⟨rfl, _, SqL.of l7⟩, lam_ref T.te t7 (fun E H1 Q1 e1 bad => ?_) (fun H3 e3 T3 => ⟨l, [V.int 0, V.int 0, V.int 0, V.int 0, V.int 0, V.int 0, V.int 0], _, rfl, rfl, e3 _ _ l7 (fun _ z => by cases z), len_lt (by decide), ?_⟩)⟩
    · have F := (F1.ext x7).ext e1
      exact ⟨_, rfl, _, rfl, .inr ⟨_, _, _, _, 1, rfl, F.vo hc n8, F.vw hc n8, .inr ⟨_, rfl, co, isCh_len lne⟩, bad⟩⟩
    have x8 : ExtN H2 (upd H3 l (.lst ([V.int 0, V.int 0, V.int 0, V.int 0, V.int 0, V.int 0, V.int 0] ++ [V.int 0]))) := ExtN.put (x7.trans e3) hl
    have t8 := Tabs.put (o := .lst ([V.int 0, V.int 0, V.int 0, V.int 0, V.int 0, V.int 0, V.int 0] ++ [V.int 0])) T3 (e3 _ _ l7 (fun _ z => by cases z))
    have l8 : upd H3 l (.lst ([V.int 0, V.int 0, V.int 0, V.int 0, V.int 0, V.int 0, V.int 0] ++ [V.int 0])) l = some (.lst [V.int 0, V.int 0, V.int 0, V.int 0, V.int 0, V.int 0, V.int 0, V.int 0]) := upd_same
    generalize upd H3 l (.lst ([V.int 0, V.int 0, V.int 0, V.int 0, V.int 0, V.int 0, V.int 0] ++ [V.int 0])) = G8 at x8 t8 l8 ⊢
    clear e3 T3
    clear H3
    refine ⟨_, rfl, .inl ⟨rfl, _, SqL.of l8⟩, lam_ref T.te t8 (fun E H1 Q1 e1 bad => ?_) (fun H3 e3 T3 => ⟨l, [V.int 0, V.int 0, V.int 0, V.int 0, V.int 0, V.int 0, V.int 0, V.int 0], _, rfl, rfl, e3 _ _ l8 (fun _ z => by cases z), len_lt (by decide), ?_⟩)⟩
    · have F := (F1.ext x8).ext e1
      exact ⟨_, rfl, _, rfl, .inr ⟨_, _, _, _, 0, rfl, F.vw hc n8, F.vo hc n8, .inr ⟨_, rfl, cw, isCh_len (Ne.symm lne)⟩, bad⟩⟩
    have x9 : ExtN H2 (upd H3 l (.lst ([V.int 0, V.int 0, V.int 0, V.int 0, V.int 0, V.int 0, V.int 0, V.int 0] ++ [V.int 0]))) := ExtN.put (x8.trans e3) hl
    have t9 := Tabs.put (o := .lst ([V.int 0, V.int 0, V.int 0, V.int 0, V.int 0, V.int 0, V.int 0, V.int 0] ++ [V.int 0])) T3 (e3 _ _ l8 (fun _ z => by cases z))
    have l9 : upd H3 l (.lst ([V.int 0, V.int 0, V.int 0, V.int 0, V.int 0, V.int 0, V.int 0, V.int 0] ++ [V.int 0])) l = some (.lst [V.int 0, V.int 0, V.int 0, V.int 0, V.int 0, V.int 0, V.int 0, V.int 0, V.int 0]) := upd_same
    generalize upd H3 l (.lst ([V.int 0, V.int 0, V.int 0, V.int 0, V.int 0, V.int 0, V.int 0, V.int 0] ++ [V.int 0])) = G9 at x9 t9 l9 ⊢
    clear e3 T3
    clear H3
    refine ⟨_, rfl, .inl ⟨rfl, _, SqL.of l9⟩, lam_ref T.te t9 (fun E H1 Q1 e1 bad => ?_) (fun H3 e3 T3 => ⟨l, [V.int 0, V.int 0, V.int 0, V.int 0, V.int 0, V.int 0, V.int 0, V.int 0, V.int 0], _, rfl, rfl, e3 _ _ l9 (fun _ z => by cases z), len_lt (by decide), ?_⟩)⟩
    · have F := (F1.ext x9).ext e1
      exact ⟨_, rfl, _, _, rfl, rfl, _, rfl, _, _, _, rfl, F.vo hc n8, fun z => absurd ((isCh_len ln1).symm.trans z) (by decide), fun _ => bad⟩
    have x10 : ExtN H2 (upd H3 l (.lst ([V.int 0, V.int 0, V.int 0, V.int 0, V.int 0, V.int 0, V.int 0, V.int 0, V.int 0] ++ [V.int 0]))) := ExtN.put (x9.trans e3) hl
    have t10 := Tabs.put (o := .lst ([V.int 0, V.int 0, V.int 0, V.int 0, V.int 0, V.int 0, V.int 0, V.int 0, V.int 0] ++ [V.int 0])) T3 (e3 _ _ l9 (fun _ z => by cases z))
    have l10 : upd H3 l (.lst ([V.int 0, V.int 0, V.int 0, V.int 0, V.int 0, V.int 0, V.int 0, V.int 0, V.int 0] ++ [V.int 0])) l = some (.lst [V.int 0, V.int 0, V.int 0, V.int 0, V.int 0, V.int 0, V.int 0, V.int 0, V.int 0, V.int 0]) := upd_same
    generalize upd H3 l (.lst ([V.int 0, V.int 0, V.int 0, V.int 0, V.int 0, V.int 0, V.int 0, V.int 0, V.int 0] ++ [V.int 0])) = G10 at x10 t10 l10 ⊢
    clear e3 T3
    clear H3
    refine ⟨_, rfl, (by show 1 ≤ sizeLine; decide), fun l2 hl2 => ⟨l2, _, _, rfl, rfl, upd_same, ?_⟩⟩
    refine ⟨by decide, by decide, by decide, fun p hp => ?_⟩
    have z10 : (upd (upd G10 l2 (.lst [.int 0])) p (.lst (List.replicate (10 : Int).toNat [V.int 0]).flatten)) l = some (.lst ((List.replicate 10 (0 : Int)).map V.int)) := Same.new hp _ _ (Same.new hl2 _ _ l10)
    have y10 : (upd (upd G10 l2 (.lst [.int 0])) p (.lst (List.replicate (10 : Int).toNat [V.int 0]).flatten)) p = some (.lst ((List.replicate 10 (0 : Int)).map V.int)) := upd_same
    refine eqL (SqL.of z10) (SqL.of y10) ?_
    rw [decide_eq_true rfl]
    exact q _
  obtain ⟨t, ht, hq⟩ := body
  exact ⟨t, ht.nox, hq⟩
end
end KV

/-! bad -/
namespace KV
open PySem PySem.Spec PyProof.Rows L2 KC
section
variable {P : Program} {w : World} {K : PySem.W.Frag} {mg : Str → Option Value} {base : Heap}
def spBad : Sp := fun vs H Q _ => ∃ (d c a : Addr) (n : Nat) (ch : List Nat), vs = [.ref d, .ref a] ∧ Dl H d c ∧ H a = some (.tup (vi ch)) ∧ Chg n ch ∧ 1 ≤ n ∧ n ≤ 8 ∧ ∀ v H', BadV d c H' v → Dl H' d c → Kp d c H H' → Q v H'
/-- False for 0 -/
def offF (x : V) : V := if x = .int 0 then .bl false else x
/-- the things so far -/
def BadN (d c a : Addr) (n b : Nat) (H : Hp) (σ : L2.St) (H' : Hp) : Prop := ∃ (l : Addr) (vs : List V), σ = [some (.ref d), some (.ref a), some (.int (n : Int)), some (.ref l), none] ∧ H' l = some (.lst vs) ∧ (∀ v ∈ vs, BadV d c H' v) ∧ Same H H' ∧ vs.length ≤ b
theorem sc37 : FnScope ["_law_deal", "_law_change", "_law_many", "_law_odd", "_law_to"] ["_law_deal", "_law_change"] (defScope (top 38)) := ⟨rfl, rfl, rfl, by decide +kernel, rfl, by decide +kernel, by decide +kernel⟩
set_option maxHeartbeats 8000000 in
theorem ok_bad {f : Addr} {fd : FuncData} (B : Bl mg) (CO : Cal P w K mg base CX0 2 "_law_of" ["_law_deal", "_law_some"] (spOf K)) (F : Fun K "_law_bad" "_law_bad" (top 38) f fd) : FnOk P w K mg base CX0 3 f fd ["_law_deal", "_law_change"] spBad := by
  refine F.ok sc37 (fun vs H Q E h => ?_) (fun cdv A outer s H vs Q E hr h => ⟨_,
    pss_cons (ps_set (i := 2) sc37.nd rfl (.inl rfl) (pe_callB call_len_seq (by rfl) B.len PySem.boot_len (pa_cons (pv 1) pa_nil)))
    (pss_cons (ps_set (i := 3) sc37.nd rfl (.inl rfl) (pe_lst (pa_cons (pe_callTy call_list_of (by rfl) B.list (by decide +kernel) (pa_cons (pv 1) pa_nil)) (pa_cons (pe_op op_catP (pv 1) (pe_tup (pa_cons pe_int pa_nil))) (pa_cons (pe_op op_catP (pe_op op_catP (pe_slice sl_tupP (pv 1) (po_some pe_int) po_none) (pe_slice sl_tupP (pv 1) po_none (po_some pe_int))) (pe_slice sl_tupP (pv 1) po_none (po_some pe_int))) (pa_cons pe_non (pa_cons (pe_tup pa_nil) (pa_cons pe_str (pa_cons pe_int (pa_cons (pe_op op_catP (pe_tup (pa_cons (pe_un un_neg pe_int) pa_nil)) (pe_slice sl_tupP (pv 1) (po_some pe_int) po_none)) (pa_cons (pe_op op_catP (pe_tup (pa_cons (pv 2) pa_nil)) (pe_slice sl_tupP (pv 1) (po_some pe_int) po_none)) pa_nil)))))))))))
    (pss_cons (ps_set (i := 3) sc37.nd rfl (.inl rfl) (pe_op op_cat (pv 3) (pe_lst (pa_cons (pe_callTy call_tuple_of (by rfl) B.tuple (by decide +kernel) (pa_cons (pe_lc (own := [("_law_to", 4)]) (g := gName 4) (tt := tYes) rfl sc37.nd (pi_tup (pv 1)) (blkOk_by (N := ["_law_deal", "_law_change", "_law_many", "_law_odd", "_law_to"]) (sc := defScope (top 38)) (by decide +kernel)) (fun _ _ _ _ _ => pg_name (i := 4) sc37.nd rfl (Or.inl rfl)) (fun _ _ _ _ _ => pts_nil) (fun _ _ _ _ _ => pe_ifExp (pt_cmpR op_eq (pv 4) pe_int (nomark _)) pe_bl (pv 4))) pa_nil)) (pa_cons (pe_op op_catP (pe_op op_repP (pe_slice sl_tupP (pv 1) po_none (po_some pe_int)) pe_int) (pe_slice sl_tupP (pv 1) (po_some pe_int) po_none)) pa_nil)))))
    (pss_one (ps_ret (by exact (pe_cal (X := L2.Cx.nox _) CO hr (by decide) (pa_cons (pv 0) (pa_cons (pe_op op_cat (pv 3) (pe_lst (pa_cons (pe_op op_repP (pe_tup (pa_cons pe_bl pa_nil)) (pv 2)) (pa_cons (pe_op op_catP (pe_tup (pa_cons pe_non pa_nil)) (pe_slice sl_tupP (pv 1) (po_some pe_int) po_none)) pa_nil)))) pa_nil)))))))), ?_⟩)
  · obtain ⟨d, c, a, n, ch, rfl, _⟩ := h
    rfl
  obtain ⟨d, c, a, n, ch, rfl, hD, ha, hc, n1, n8, q⟩ := h
  obtain ⟨m, r, rfl⟩ : ∃ m r, ch = m :: r := by
    cases ch with
    | nil =>
      have z := hc.len
      simp at z
      omega
    | cons m r => exact ⟨m, r, rfl⟩
  have ln : (vi (m :: r)).length = n := by rw [List.length_map]; exact hc.len
  have rn : (vi r).length + 1 = n := ln
  have ci : ∀ x ∈ vi (m :: r), Itm x := itm_vi
  have cr : ∀ x ∈ vi r, Itm x := itm_vi
  have cm : ∀ x ∈ [V.int (m : Int)], Itm x := fun x hx => .inl ⟨_, List.mem_singleton.mp hx⟩
  have z0 : V.int 0 ∈ vi (m :: r) := by
    obtain ⟨i, hi, ei⟩ := hc.mem (show 0 < n by omega)
    have hi' : i < (m :: r).length := by rw [hc.len]; exact hi
    have e2 := List.mem_of_getElem? (at_getD hi')
    rw [ei] at e2
    exact List.mem_map.mpr ⟨0, e2, rfl⟩
  have one : (1 : Nat) ≤ sizeLine := by decide
  have f1 : cutV (vi (m :: r)) (some 1) none = vi r := cutV_from _ 1
  have t1 : cutV (vi (m :: r)) none (some 1) = [V.int (m : Int)] := cutV_to _ 1
  have f2 : cutV (vi (m :: r)) (some 2) none = (vi r).drop 1 := cutV_from _ 2
  refine ⟨_, rfl, a, _, rfl, .inr (SqT.of ha), ?_⟩
  rw [ln]
  dsimp only [gName]
  refine sq_cut (BadN d c a n 9 H) (fun Z hZ => ?_) ?_
  · refine ⟨_, rfl, a, _, rfl, .inr (SqT.of ha), fun l0 hl0 => ⟨_, rfl, one, fun p1 hp1 => ⟨a, p1, _, _, rfl, rfl, Same.new hp1 _ _ (Same.new hl0 _ _ ha), upd_same, ?_, fun p2 H2 s2 h2 => ?_⟩⟩⟩
    · rw [ln]
      show n + 1 ≤ 1000
      omega
    have D0 := hD.ne hl0
    have b0 : BadV d c H2 (.ref l0) := .inr (.inr (.inr (.inr ⟨l0, _, rfl, s2 _ _ (Same.new hp1 _ _ upd_same), D0.1, D0.2⟩)))
    have s02 : Same H H2 := ((Same.new hl0).trans (Same.new hp1)).trans s2
    have b1 : BadV d c H2 (.ref p2) := .inl ⟨p2, _, rfl, h2, fun x hx => (by
      rcases List.mem_append.mp hx with hx | hx
      · exact ci x hx
      · exact .inl ⟨0, List.mem_singleton.mp hx⟩), (by rw [List.length_append, ln, List.length_singleton]; omega), chB_nd fun nd => (by
      rw [List.nodup_append] at nd
      exact nd.2.2 (V.int 0) z0 (V.int 0) (by simp) rfl)⟩
    refine ⟨_, rfl, _, rfl, a, _, rfl, s02 _ _ ha, fun p3 H3 s3 h3 => ⟨_, rfl, _, rfl, a, _, rfl, s3 _ _ (s02 _ _ ha), fun p4 H4 s4 h4 => ⟨p3, p4, _, _, rfl, rfl, s4 _ _ h3, h4, ?_, fun p5 H5 s5 h5 => ?_⟩⟩⟩
    · rw [f1, t1]
      show (vi r).length + 1 ≤ 1000
      omega
    have s05 : Same H H5 := ((s02.trans s3).trans s4).trans s5
    refine ⟨_, rfl, _, rfl, a, _, rfl, s05 _ _ ha, fun p6 H6 s6 h6 => ⟨p5, p6, _, _, rfl, rfl, s6 _ _ h5, h6, ?_, fun p7 H7 s7 h7 => ?_⟩⟩
    · rw [f1, t1]
      simp only [List.length_append, List.length_singleton]
      omega
    have s07 : Same H H7 := (s05.trans s6).trans s7
    have s27 : Same H2 H7 := ((((s3.trans s4).trans s5).trans s6).trans s7)
    have b0 := b0.same s27
    have b1 := b1.same s27
    rw [f1, t1] at h7
    have b2 : BadV d c H7 (.ref p7) := .inl ⟨p7, _, rfl, h7, fun x hx => (by
      rcases List.mem_append.mp hx with hx | hx
      · rcases List.mem_append.mp hx with hx | hx
        · exact cr x hx
        · exact cm x hx
      · exact cm x hx), (by simp only [List.length_append, List.length_singleton]; omega), chB_nd fun nd => (by
      rw [List.nodup_append] at nd
      exact nd.2.2 (V.int (m : Int)) (by simp) (V.int (m : Int)) (by simp) rfl)⟩
    refine ⟨(by show 0 ≤ sizeLine; decide), fun p8 hp8 => ⟨_, rfl, one, fun p9 hp9 => ?_⟩⟩
    have s8 : Same H7 (upd H7 p8 (.tup [])) := Same.new hp8
    have s89 : Same H7 (upd (upd H7 p8 (.tup [])) p9 (.tup [(fun i => V.int (-i)) 1])) := s8.trans (Same.new hp9)
    have h8 : upd (upd H7 p8 (.tup [])) p9 (.tup [(fun i => V.int (-i)) 1]) p8 = some (.tup []) := Same.new hp9 _ _ upd_same
    have h9 : upd (upd H7 p8 (.tup [])) p9 (.tup [(fun i => V.int (-i)) 1]) p9 = some (.tup [V.int (-1)]) := upd_same
    generalize upd (upd H7 p8 (.tup [])) p9 (.tup [(fun i => V.int (-i)) 1]) = H9 at s89 h8 h9 ⊢
    have b0 := b0.same s89
    have b1 := b1.same s89
    have b2 := b2.same s89
    have s09 := s07.trans s89
    refine ⟨_, rfl, _, rfl, a, _, rfl, s09 _ _ ha, fun p10 H10 s10 h10 => ⟨p9, p10, _, _, rfl, rfl, s10 _ _ h9, h10, ?_, fun p11 H11 s11 h11 => ?_⟩⟩
    · rw [f1]
      simp only [List.length_singleton]
      omega
    rw [f1] at h11
    have s9 := s10.trans s11
    have b0 := b0.same s9
    have b1 := b1.same s9
    have b2 := b2.same s9
    have b4 : BadV d c H11 (.ref p8) := .inl ⟨p8, [], rfl, s9 _ _ h8, fun _ z => absurd z (by simp), by simp, chB_nil⟩
    have b7 : BadV d c H11 (.ref p11) := .inl ⟨p11, _, rfl, h11, fun x hx => (by
      rcases List.mem_append.mp hx with hx | hx
      · exact .inl ⟨-1, List.mem_singleton.mp hx⟩
      · exact cr x hx), (by simp only [List.length_append, List.length_singleton]; omega), chB_bel (x := V.int (-1)) (by simp) rfl⟩
    have s011 := s09.trans s9
    refine ⟨_, rfl, one, fun p12 hp12 => ⟨_, rfl, _, rfl, a, _, rfl, Same.new hp12 _ _ (s011 _ _ ha), fun p13 H13 s13 h13 => ⟨p12, p13, _, _, rfl, rfl, s13 _ _ upd_same, h13, ?_, fun p14 H14 s14 h14 => ?_⟩⟩⟩
    · rw [f1]
      simp only [List.length_singleton]
      omega
    rw [f1] at h14
    have s12 : Same H11 H14 := ((Same.new hp12).trans s13).trans s14
    have b8 : BadV d c H14 (.ref p14) := .inl ⟨p14, _, rfl, h14, fun x hx => (by
      rcases List.mem_append.mp hx with hx | hx
      · exact .inl ⟨_, List.mem_singleton.mp hx⟩
      · exact cr x hx), (by simp only [List.length_append, List.length_singleton]; omega), chB_bel (x := V.int (n : Int)) (by simp) (by
        rw [List.length_append, List.length_singleton]
        show (decide ((0 : Int) ≤ (n : Int)) && decide ((n : Int) < ((1 + (vi r).length : Nat) : Int))) = false
        rw [decide_eq_false (by omega : ¬ (n : Int) < ((1 + (vi r).length : Nat) : Int)), Bool.and_false])⟩
    refine ⟨(by show 9 ≤ sizeLine; decide), fun l hl => hZ _ _ ⟨l, _, rfl, upd_same, ?_, (s011.trans s12).trans (Same.new hl), (by show 9 ≤ 9; decide)⟩⟩
    have sl : Same H14 (upd H14 l (.lst [.ref l0, .ref p2, .ref p7, .non, .ref p8, .str "0", .int 7, .ref p11, .ref p14])) := Same.new hl
    intro v hv
    simp only [List.mem_cons, List.not_mem_nil, or_false] at hv
    rcases hv with rfl | rfl | rfl | rfl | rfl | rfl | rfl | rfl | rfl
    · exact (b0.same s12).same sl
    · exact (b1.same s12).same sl
    · exact (b2.same s12).same sl
    · exact .inr (.inl rfl)
    · exact (b4.same s12).same sl
    · exact .inr (.inr (.inr (.inl ⟨_, rfl⟩)))
    · exact .inr (.inr (.inl ⟨_, rfl⟩))
    · exact (b7.same s12).same sl
    · exact b8.same sl
  · rintro σ H1 ⟨l, vs, rfl, hl, hb, s1, lv⟩
    refine sq_cut (BadN d c a n 11 H) (fun Z hZ => ?_) ?_
    · refine ⟨_, rfl, _, rfl, a, rfl, ⟨_, SqT.of (s1 _ _ ha)⟩, fun D hD => lc_tup (xs := vi (m :: r)) (fun i H' => Same H1 H' ∧ H' D = some (.lst (((vi (m :: r)).take i).map offF))) ⟨Same.mk1 hD, upd_same⟩ (fun i H' _ p => SqT.of (p.1 _ _ (s1 _ _ ha))) ?_ ?_⟩
      · rintro i x H' hx ⟨p1, p2⟩
        obtain ⟨j, hj, rfl⟩ := vi_at hx
        refine ⟨rfl, _, rfl, rfl, _, rfl, ?_⟩
        have nx : ∀ u, u = offF (V.int (j : Int)) → (((vi (m :: r)).take i).map offF) ++ [u] = ((vi (m :: r)).take (i + 1)).map offF := fun u e => by
          rw [List.take_succ, hx, List.map_append, e]
          rfl
        by_cases j0 : V.int (j : Int) = V.int 0
        · refine iteP (by simpa using j0) ⟨_, p2, len_lt (by rw [List.length_map, List.length_take]; omega), Same.upd p1 hD, ?_⟩
          rw [upd_same, nx _ (by unfold offF; rw [if_pos j0])]
        · refine iteN (by simpa using j0) ⟨_, rfl, _, p2, len_lt (by rw [List.length_map, List.length_take]; omega), Same.upd p1 hD, ?_⟩
          rw [upd_same, nx _ (by unfold offF; rw [if_neg j0])]
      rintro H2 ⟨s2, p2⟩
      rw [List.take_length] at p2
      refine ⟨D, _, rfl, .inl ⟨SqL.of p2, fun t ht => ?_⟩⟩
      have s3 : Same H2 (upd H2 t (.tup ((vi (m :: r)).map offF))) := Same.new ht
      have h3 : upd H2 t (.tup ((vi (m :: r)).map offF)) t = some (.tup ((vi (m :: r)).map offF)) := upd_same
      generalize upd H2 t (.tup ((vi (m :: r)).map offF)) = H3 at s3 h3 ⊢
      have s13 : Same H1 H3 := s2.trans s3
      have b9 : BadV d c H3 (.ref t) := .inl ⟨t, _, rfl, h3, fun x hx => (by
        obtain ⟨y, hy, rfl⟩ := List.mem_map.mp hx
        unfold offF
        by_cases e : y = V.int 0
        · rw [if_pos e]
          exact .inr (.inl ⟨_, rfl⟩)
        · rw [if_neg e]
          exact ci y hy), (by rw [List.length_map, ln]; omega), chB_bel (x := V.bl false) (List.mem_map.mpr ⟨V.int 0, z0, rfl⟩) rfl⟩
      refine ⟨_, rfl, _, rfl, a, _, rfl, s13 _ _ (s1 _ _ ha), fun p4 H4 s4 h4 => ⟨p4, 2, _, rfl, rfl, h4, by rw [t1]; simp, by decide, by decide, by rw [t1]; simp, fun p5 H5 s5 h5 => ⟨_, rfl, _, rfl, a, _, rfl, s5 _ _ (s4 _ _ (s13 _ _ (s1 _ _ ha))), fun p6 H6 s6 h6 => ⟨p5, p6, _, _, rfl, rfl, s6 _ _ h5, h6, ?_, fun p7 H7 s7 h7 => ?_⟩⟩⟩⟩
      · rw [t1, f2, List.length_drop]
        show 2 + ((vi r).length - 1) ≤ 1000
        omega
      rw [t1, f2] at h7
      have s37 : Same H3 H7 := ((s4.trans s5).trans s6).trans s7
      have b10 : BadV d c H7 (.ref p7) := .inl ⟨p7, [V.int (m : Int), V.int (m : Int)] ++ (vi r).drop 1, rfl, h7, fun x hx => (by
        rcases List.mem_append.mp hx with hx | hx
        · refine .inl ⟨(m : Int), ?_⟩
          rcases List.mem_cons.mp hx with e | hx
          · exact e
          · exact List.mem_singleton.mp hx
        · exact cr x (List.mem_of_mem_drop hx)), (by rw [List.length_append, List.length_drop]; show 2 + _ ≤ 16; omega), chB_nd fun nd => (by
        rw [List.nodup_append] at nd
        simp at nd)⟩
      refine ⟨(by show 2 ≤ sizeLine; decide), fun q1 hq1 => ⟨l, q1, vs, _, rfl, rfl, Same.new hq1 _ _ (s37 _ _ (s13 _ _ hl)), upd_same, Nat.le_of_lt (len_lt (by show vs.length + 2 ≤ 1000; omega)), fun l2 hl2 => hZ _ _ ⟨l2, _, rfl, upd_same, ?_, ((((s1.trans s13).trans s37).trans (Same.new hq1)).trans (Same.new hl2)), ?_⟩⟩⟩
      · have sq : Same H7 (upd (upd H7 q1 (.lst [.ref t, .ref p7])) l2 (.lst (vs ++ [.ref t, .ref p7]))) := (Same.new hq1).trans (Same.new hl2)
        intro v hv
        rcases List.mem_append.mp hv with hv | hv
        · exact (((hb v hv).same s13).same s37).same sq
        · simp only [List.mem_cons, List.not_mem_nil, or_false] at hv
          rcases hv with rfl | rfl
          · exact (b9.same s37).same sq
          · exact b10.same sq
      · rw [List.length_append]
        show vs.length + 2 ≤ 11
        omega
    · rintro σ H2 ⟨l, vs, rfl, hl, hb, s1, lv⟩
      have e1 : (List.replicate ((n : Nat) : Int).toNat [V.bl true]).flatten = List.replicate n (V.bl true) := rep_v n _
      refine ⟨_, rfl, _, rfl, one, fun p1 hp1 => ⟨_, rfl, p1, _, _, rfl, rfl, upd_same, by simp, by omega, by omega, by simp, fun p2 H3 s3 h3 => ⟨one, fun p4 hp4 => ⟨_, rfl, _, rfl, a, _, rfl, Same.new hp4 _ _ (s3 _ _ (Same.new hp1 _ _ (s1 _ _ ha))), fun p5 H5 s5 h5 => ⟨p4, p5, _, _, rfl, rfl, s5 _ _ upd_same, h5, ?_, fun p6 H6 s6 h6 => ?_⟩⟩⟩⟩⟩
      · rw [f1]
        simp only [List.length_singleton]
        omega
      rw [f1] at h6
      rw [e1] at h3
      have s36 : Same H3 H6 := ((Same.new hp4).trans s5).trans s6
      have s26 : Same H2 H6 := ((Same.new hp1).trans s3).trans s36
      have b11 : BadV d c H6 (.ref p2) := .inl ⟨p2, _, rfl, s36 _ _ h3, fun x hx => (by
        rw [List.eq_of_mem_replicate hx]
        exact .inr (.inl ⟨_, rfl⟩)), (by rw [List.length_replicate]; omega), chB_bel (x := V.bl true) (List.mem_replicate.mpr ⟨by omega, rfl⟩) rfl⟩
      have b12 : BadV d c H6 (.ref p6) := .inl ⟨p6, _, rfl, h6, fun x hx => (by
        rcases List.mem_append.mp hx with hx | hx
        · exact .inr (.inr (List.mem_singleton.mp hx))
        · exact cr x hx), (by rw [List.length_append, List.length_singleton]; omega), chB_bel (x := V.non) (by simp) rfl⟩
      refine ⟨(by show 2 ≤ sizeLine; decide), fun q1 hq1 => ⟨l, q1, vs, _, rfl, rfl, Same.new hq1 _ _ (s26 _ _ hl), upd_same, Nat.le_of_lt (len_lt (by show vs.length + 2 ≤ 1000; omega)), fun l2 hl2 => ?_⟩⟩
      have sq : Same H6 (upd (upd H6 q1 (.lst [.ref p2, .ref p6])) l2 (.lst (vs ++ [.ref p2, .ref p6]))) := (Same.new hq1).trans (Same.new hl2)
      have b : ∀ v ∈ vs ++ [.ref p2, .ref p6], BadV d c (upd (upd H6 q1 (.lst [.ref p2, .ref p6])) l2 (.lst (vs ++ [.ref p2, .ref p6]))) v := by
        intro v hv
        rcases List.mem_append.mp hv with hv | hv
        · exact ((hb v hv).same s26).same sq
        · simp only [List.mem_cons, List.not_mem_nil, or_false] at hv
          rcases hv with rfl | rfl
          · exact b11.same sq
          · exact b12.same sq
      have hl3 : upd (upd H6 q1 (.lst [.ref p2, .ref p6])) l2 (.lst (vs ++ [.ref p2, .ref p6])) l2 = some (.lst (vs ++ [.ref p2, .ref p6])) := upd_same
      have s06 := (s1.trans s26).trans sq
      have lz : H l2 = none := (s1.trans s26).free ((Same.new hq1).free hl2)
      generalize upd (upd H6 q1 (.lst [.ref p2, .ref p6])) l2 (.lst (vs ++ [.ref p2, .ref p6])) = H7 at b hl3 s06 ⊢
      have D7 := hD.same s06
      have ld := hD.ne lz
      exact ⟨d, c, l2, _, rfl, D7, ld.1, ld.2, SqL.of hl3, by rw [List.length_append]; show 0 < vs.length + 2; omega, by rw [List.length_append]; show vs.length + 2 ≤ 1000; omega, fun j x H8 hx D8 k8 => q x H8 ((b x (List.mem_of_getElem? hx)).kp D7 k8) D8 ((Kp.of s06).trans k8)⟩
end
end KV

/-! the law's powers -/
namespace KV
open PySem PySem.Spec PyProof.Rows L2 KC
theorem vi_rg (n : Nat) : rgV 0 (n : Int) = vi (tab n id) := by
  unfold rgV vi tab
  rw [List.map_map, show ((n : Int) - 0).toNat = n by omega]
  refine List.map_congr_left fun i _ => ?_
  show V.int (0 + (i : Int)) = V.int (i : Int)
  rw [Int.zero_add]
section
variable {P : Program} {w : World} {K : PySem.W.Frag} {mg : Str → Option Value} {base : Heap}
def spPwL : Sp := fun vs H Q _ => ∃ (a : Addr) (n : Nat) (c : List Nat) (k : Int), vs = [.ref a, .int k] ∧ H a = some (.tup (vi c)) ∧ Chg n c ∧ n ≤ 16 ∧ ∀ t H', Same H H' → H t = none → H' t = some (.tup (vi (pw n c k))) → Q (.ref t) H'
theorem sc34 : FnScope ["_law_one", "_law_count_here", "_law_step", "_law_left", "_law_found"] ["_law_one", "_law_count_here"] (defScope (top 35)) := ⟨rfl, rfl, rfl, by decide +kernel, rfl, by decide +kernel, by decide +kernel⟩
/-- the loop's state: what is found, the step, what is left -/
def PwW (n : Nat) (e : List Nat) (T : Nat) (a : Addr) (k : Int) (H : Hp) (m : Nat) (σ : L2.St) (H' : Hp) : Prop := ∃ (x b : Nat) (s f : Addr), σ = [some (.ref a), some (.int k), some (.ref s), some (.int (m : Int)), some (.ref f)] ∧ H' s = some (.tup (vi (tab n (it e b)))) ∧ H' f = some (.tup (vi (tab n (it e x)))) ∧ H f = none ∧ x + b * m = T ∧ Same H H'
theorem ok_pwL {f : Addr} {fd : FuncData} (B : Bl mg) (CT : Cal P w K mg base CX0 1 "_law_then" ["_law_one", "_law_other"] spComp) (CB : Cal P w K mg base CX0 1 "_law_back" ["_law_one"] spUnd) (F : Fun K "_law_power" "_law_power" (top 35) f fd) :
    FnOk P w K mg base CX0 2 f fd ["_law_one", "_law_count_here"] spPwL := by
  refine F.ok sc34 (fun vs H Q E h => ?_) (fun cdv A outer s H vs Q E hr h => ⟨_,
    pss_cons (ps_asg (pe_ifExp (pt_cmpR op_lt (pv 1) pe_int (nomark _)) (pe_tup (pa_cons (by exact (pe_cal (X := L2.Cx.nox _) CB hr (by decide) (pa_cons (pv 0) pa_nil))) (pa_cons (pe_op op_sub pe_int (pv 1)) pa_nil))) (pe_tup (pa_cons (pv 0) (pa_cons (pv 1) pa_nil))))
      (pg_tup rfl (pgs_cons (pg_name (i := 2) sc34.nd rfl (.inl rfl)) (pgs_cons (pg_name (i := 3) sc34.nd rfl (.inl rfl)) pgs_nil))))
    (pss_cons (ps_set (i := 4) sc34.nd rfl (.inl rfl) (pe_callTy call_tuple_of (by rfl) B.tuple (by decide +kernel) (pa_cons (pe_listRg rfl (by rfl) B.list (prg_1 (by rfl) B.range (pe_callB call_len_seq (by rfl) B.len PySem.boot_len (pa_cons (pv 0) pa_nil)))) pa_nil)))
    (pss_cons (ps_while PassesOwn.never (pt_cmpR op_gt (pv 3) pe_int (nomark _))
      (pss_cons (ps_if (pt_cmpR op_eq (pe_op op_mod (pe_callTy call_int1 (by rfl) B.int PyProof.Rows.boot_int (pa_cons (pv 3) pa_nil)) pe_int) pe_int (nomark _))
        (pss_one (ps_set (i := 4) sc34.nd rfl (.inl rfl) (by exact (pe_cal (X := L2.Cx.nox _) CT hr (by decide) (pa_cons (pv 4) (pa_cons (pv 2) pa_nil)))))) pss_nil)
      (pss_one (ps_par (i := 2) (j := 3) rfl sc34.nd rfl rfl (by decide) rfl rfl (pa_cons (by exact (pe_cal (X := L2.Cx.nox _) CT hr (by decide) (pa_cons (pv 2) (pa_cons (pv 2) pa_nil)))) (pa_cons (pe_op op_fdivW (pv 3) pe_int) pa_nil)) (by rfl)))))
    (pss_one (ps_ret (pv 4))))), ?_⟩)
  · obtain ⟨a, n, c, k, rfl, _⟩ := h
    rfl
  obtain ⟨a, n, c, k, rfl, ha, hc, hn, q⟩ := h
  refine sq_cut (fun σ H' => ∃ (s : Addr) (e : List Nat) (m : Nat), σ = [some (.ref a), some (.int k), some (.ref s), some (.int (m : Int)), none] ∧ H' s = some (.tup (vi e)) ∧ Chg n e ∧ pw n c k = tab n (it e m) ∧ Same H H') (fun Z hZ => ⟨_, rfl, _, _, rfl, rfl, _, rfl, ?_⟩) ?_
  · by_cases k0 : k < 0
    · refine iteP (by simpa using k0) ⟨_, rfl, a, n, c, rfl, ha, hc, hn, fun t H1 e s1 t0 t1 u => ⟨_, rfl, _, _, rfl, rfl, (by show 2 ≤ sizeLine; decide), fun T hT => ⟨T, _, rfl, SqT.of upd_same, rfl, _, _, rfl, _, _, rfl, rfl, ?_⟩⟩⟩
      have sT : Same H1 (upd H1 T (.tup [.ref t, (fun i j => V.int (i - j)) 0 k])) := Same.mk1 hT
      refine hZ _ _ ⟨t, e, (-k).toNat, ?_, sT _ _ t1, u.chg hc, ?_, s1.trans sT⟩
      · have ek : ((-k).toNat : Int) = 0 - k := by omega
        rw [ek]
        rfl
      · rw [← pw_neg hc u]
        congr 1
        omega
    · refine iteN (by simpa using k0) ⟨_, rfl, _, rfl, (by show 2 ≤ sizeLine; decide), fun T hT => ⟨T, _, rfl, SqT.of upd_same, rfl, _, _, rfl, _, _, rfl, rfl, ?_⟩⟩
      have sT : Same H (upd H T (.tup [.ref a, .int k])) := Same.mk1 hT
      have ek : (k.toNat : Int) = k := by omega
      refine hZ _ _ ⟨a, c, k.toNat, by rw [ek]; rfl, sT _ _ ha, hc, ?_, sT⟩
      rw [← pw_nat hc, ek]
  · rintro σ H1 ⟨s, e, m, rfl, hs, he, ep, s1⟩
    have lc : (vi c).length = n := by rw [List.length_map]; exact hc.len
    refine ⟨_, rfl, a, _, rfl, .inr (SqT.of (s1 _ _ ha)), _, rfl, RgOk.of_le (Int.le_refl 0) (by rw [lc]; omega) (by decide) (by omega), fun l hl => ⟨l, _, rfl, .inl ⟨SqL.of upd_same, fun f hf => ?_⟩⟩⟩
    rw [lc] at hf ⊢
    have sl : Same H1 (upd H1 l (.lst (rgV 0 (n : Int)))) := Same.mk1 hl
    have sf : Same H1 (upd (upd H1 l (.lst (rgV 0 (n : Int)))) f (.tup (rgV 0 (n : Int)))) := sl.trans (Same.mk1 hf)
    have e1 : tab n (it e 1) = e := by
      rw [← pw_nat he]
      exact pw_one he
    have h0 : PwW n e m a k H m [some (.ref a), some (.int k), some (.ref s), some (.int (m : Int)), some (.ref f)] (upd (upd H1 l (.lst (rgV 0 (n : Int)))) f (.tup (rgV 0 (n : Int)))) :=
      ⟨0, 1, s, f, rfl, by rw [e1]; exact sf _ _ hs, by rw [upd_same, vi_rg]; rfl, s1.free (sl.free hf), by omega, s1.trans sf⟩
    generalize upd (upd H1 l (.lst (rgV 0 (n : Int)))) f (.tup (rgV 0 (n : Int))) = H3 at h0
    dsimp only [gName]
    refine sq_cut (PwW n e m a k H 0) (fun Z hZ => ⟨PwW n e m a k H, ⟨_, h0⟩, ?_⟩) ?_
    · rintro i σ H4 ⟨x, b, s, f, rfl, g1, g2, g3, g4, g5⟩
      refine ⟨_, rfl, _, _, rfl, rfl, _, rfl, ?_⟩
      by_cases i0 : i = 0
      · subst i0
        exact iteN (by simp) (hZ _ _ ⟨x, b, s, f, rfl, g1, g2, g3, g4, g5⟩)
      refine iteP (by simp only [decide_eq_true_eq]; omega) ⟨fun σ H' => ∃ m', m' < i ∧ PwW n e m a k H m' σ H', fun _ _ z => z, ?_⟩
      refine sq_cut (fun σ H' => ∃ (x b : Nat) (s f : Addr), σ = [some (.ref a), some (.int k), some (.ref s), some (.int (i : Int)), some (.ref f)] ∧ H' s = some (.tup (vi (tab n (it e b)))) ∧ H' f = some (.tup (vi (tab n (it e x)))) ∧ H f = none ∧ x + b * (i - i % 2) = m ∧ Same H H') (fun Z2 hZ2 => ?_) ?_
      · refine ⟨_, rfl, .inl ⟨_, rfl, _, _, rfl, rfl, (by show (0 : Int) < 2; decide), rfl, _, rfl, ?_⟩⟩
        by_cases od : i % 2 = 1
        · have hlt : ∀ y ∈ tab n (it e x), y < (tab n (it e b)).length := fun y hy => by
            rw [tab_len]
            obtain ⟨j, hj, rfl⟩ := mem_tab.mp hy
            exact it_lt he hj _
          refine iteP ?_ ⟨_, rfl, _, rfl, f, s, _, _, rfl, g2, g1, hlt, by rw [tab_len]; exact hn, fun t H5 s5 t0 t5 => hZ2 _ _ ⟨b + x, b, s, t, rfl, s5 _ _ g1, ?_, g5.free t0, ?_, g5.trans s5⟩⟩
          · show decide (V.int (((i : Nat) : Int) % 2) = V.int 1) = true
            rw [decide_eq_true_eq, V.int.injEq]
            omega
          · rw [t5, comp_tab (fun j hj => it_lt he hj _)]
            congr 2
            refine congrArg _ (tab_congr fun j _ => ?_)
            rw [it_add]
          · rw [od]
            have z : b * i = b * (i - 1) + b := by
              have : i = i - 1 + 1 := by omega
              rw [this, Nat.mul_succ]
              rfl
            omega
        · have ev : i % 2 = 0 := by omega
          refine iteN ?_ (hZ2 _ _ ⟨x, b, s, f, rfl, g1, g2, g3, by rw [ev]; exact g4, g5⟩)
          show ¬ decide (V.int (((i : Nat) : Int) % 2) = V.int 1) = true
          rw [decide_eq_true_eq, V.int.injEq]
          omega
      · rintro σ H5 ⟨x, b, s, f, rfl, g1, g2, g3, g4, g5⟩
        have hlt : ∀ y ∈ tab n (it e b), y < (tab n (it e b)).length := fun y hy => by
          rw [tab_len]
          obtain ⟨j, hj, rfl⟩ := mem_tab.mp hy
          exact it_lt he hj _
        refine ⟨_, rfl, _, rfl, s, s, _, _, rfl, g1, g1, hlt, by rw [tab_len]; exact hn, fun t H6 s6 t0 t6 => ⟨_, rfl, _, _, rfl, rfl, ?_, _, _, rfl, i / 2, ?_, x, b + b, t, f, ?_, ?_, s6 _ _ g2, g3, ?_, g5.trans s6⟩⟩
        · exact divW (k := 3) (by decide) (by decide) (by decide) (by decide)
        · omega
        · rfl
        · rw [t6, comp_tab (fun j hj => it_lt he hj _)]
          refine congrArg _ (congrArg _ (congrArg _ (tab_congr fun j _ => ?_)))
          rw [it_add]
        · have z : i - i % 2 = i / 2 + i / 2 := by omega
          rw [z] at g4
          rw [Nat.add_mul, ← Nat.mul_add]
          exact g4
    · rintro σ H4 ⟨x, b, s, f, rfl, g1, g2, g3, g4, g5⟩
      refine ⟨_, rfl, q f H4 g5 g3 ?_⟩
      rw [g2, ep]
      have : x = m := by omega
      rw [this]
end
end KV

/-! the law's own def -/
namespace KV
open PySem PySem.Spec PyProof.Rows L2 KC LamX
/-- what stands through the law -/
structure LS (d c a1 a2 a3 Pt : Addr) (n : Nat) (c1 c2 : List Nat) (H : Hp) : Prop where
  dl : Dl H d c
  one : H a1 = some (.tup (vi c1))
  oth : H a2 = some (.tup (vi c2))
  idl : H a3 = some (.tup (vi (tab n id)))
  tb : H Pt = some (.tbl #[])
theorem Dl.neO {H : Hp} {d c p : Addr} {o : HO} (h : Dl H d c) (hp : H p = some o) (no : ∀ xs, o ≠ .lst xs) : p ≠ d ∧ p ≠ c := by
  obtain ⟨_, cs, b, h1, h2, _⟩ := h
  exact ⟨fun e => no _ (by rw [e, h1] at hp; exact (Option.some.inj hp).symm), fun e => no _ (by rw [e, h2] at hp; exact (Option.some.inj hp).symm)⟩
theorem LS.same {d c a1 a2 a3 Pt : Addr} {n : Nat} {c1 c2 : List Nat} {H H' : Hp} (h : LS d c a1 a2 a3 Pt n c1 c2 H) (s : Same H H') : LS d c a1 a2 a3 Pt n c1 c2 H' := ⟨h.dl.same s, s _ _ h.one, s _ _ h.oth, s _ _ h.idl, s _ _ h.tb⟩
theorem LS.kp {d c a1 a2 a3 Pt : Addr} {n : Nat} {c1 c2 : List Nat} {H H' : Hp} (h : LS d c a1 a2 a3 Pt n c1 c2 H) (D : Dl H' d c) (k : Kp d c H H') : LS d c a1 a2 a3 Pt n c1 c2 H' :=
  ⟨D, k _ _ (h.dl.neT h.one).1 (h.dl.neT h.one).2 h.one, k _ _ (h.dl.neT h.oth).1 (h.dl.neT h.oth).2 h.oth, k _ _ (h.dl.neT h.idl).1 (h.dl.neT h.idl).2 h.idl, k _ _ (h.dl.neO h.tb (fun _ z => by cases z)).1 (h.dl.neO h.tb (fun _ z => by cases z)).2 h.tb⟩
/-- the text of a change -/
def TX (c : List Nat) : Str := (PyData.tuple ((zi c).map PyData.int)).shown
theorem rp {K : PySem.W.Frag} {σ : L2.St} {H : Hp} {t : Addr} {n : Nat} {c : List Nat} {Q : VK} (h : H t = some (.tup (vi c))) (hc : Chg n c) (hn : n ≤ 16) (q : Q (.str (TX c)) H) : tNil σ H fun xs H2 => rRepr K (V.ref t :: xs) H2 Q := by
  have logs : ∀ i ∈ zi c, i.natAbs.log2 < 1920 := fun i hi => by
    obtain ⟨m, hm, rfl⟩ := List.mem_map.mp hi
    have := hc.lt m hm
    refine log_sm (k := 10) ?_ (by decide) (by decide)
    show ((m : Nat) : Int).natAbs < 2 ^ 10
    omega
  exact .inr (.inr ⟨t, zi c, rfl, SqT.of (by rw [← vi_zi]; exact h), logs, shown_len logs (by rw [show (zi c).length = c.length from List.length_map .., hc.len]; omega), q⟩)
section
variable {P : Program} {w : World} {K : PySem.W.Frag} {mg : Str → Option Value} {base : Heap} {C : Addr}
def spLaw (K : PySem.W.Frag) (Pt : Addr) : Sp := fun vs H Q _ => ∃ (a : Addr) (ns : List Int), vs = [.ref a] ∧ SqL K H a (ns.map V.int) ∧ H Pt = some (.tbl #[]) ∧ ∀ H', Q (.bl true) H'
theorem sc39 : FnScope ["_law_script", "_law_deal", "_law_many", "_law_one", "_law_other", "_law_idle", "_law_n", "_law_k", "_law_step", "_law_turns", "_law_short", "_law_done", "_law_turn"] ["_law_script"] (defScope (top 40)) := ⟨rfl, rfl, rfl, by decide +kernel, rfl, by decide +kernel, by decide +kernel⟩
set_option maxHeartbeats 16000000 in
theorem ok_law {f : Addr} {fd : FuncData} {Pt : Addr} (B : Bl mg)
    (CDr : Cal P w K mg base CX0 1 "_law_draw" ["_law_script", "_law_salt"] (spDraw K))
    (CA : Cal P w K mg base CX0 1 "_law_any" ["_law_deal", "_law_bound"] spAny)
    (CM : Cal P w K mg base CX0 2 "_law_mixed" ["_law_deal", "_law_some"] spMix)
    (CCo : Cal P w K mg base CX0 3 "_law_count" ["_law_deal"] spCount)
    (CT : Cal P w K mg base CX0 1 "_law_then" ["_law_one", "_law_other"] spComp)
    (CLB : Cal P w K mg base CX0 1 "_law_back" ["_law_one"] spUnd)
    (CLP : Cal P w K mg base CX0 2 "_law_power" ["_law_one", "_law_count_here"] spPwL)
    (CBd : Cal P w K mg base CX0 3 "_law_bad" ["_law_deal", "_law_change"] spBad)
    (CWr : Cal P w K mg base CX0 10 "_law_wrong_right" ["_law_one", "_law_bad_here", "_law_wide"] (spWrong Pt))
    (CPw : Cal P w K mg base (L2.CX P w) 6 "power" ["change", "count"] (spPw K C))
    (CFo : Cal P w K mg base (L2.CX P w) 7 "followed" ["one", "other"] (spFol K C))
    (CCp : Cal P w K mg base (L2.CX P w) 7 "change_places" ["one", "other"] (spCp K C))
    (CkK : CalK P w K mg base (L2.CX P w) 4 "checked_change" ["states", "value"] ["value", "states"] true (spChk K C))
    (CFoK : CalK P w K mg base (L2.CX P w) 7 "followed" ["one", "other"] ["other", "one"] true (spFol K C))
    (CBkK : CalK P w K mg base (L2.CX P w) 6 "back" ["change"] ["change"] false (spBk K C))
    (CPwK : CalK P w K mg base (L2.CX P w) 6 "power" ["change", "count"] ["count", "change"] true (spPw K C))
    (COrK : CalK P w K mg base (L2.CX P w) 6 "order" ["change"] ["change"] false (spOr K C))
    (CCpK : CalK P w K mg base (L2.CX P w) 7 "change_places" ["one", "other"] ["other", "one"] true (spCp K C))
    (CLpK : CalK P w K mg base (L2.CX P w) 7 "loop" ["one", "other", "count"] ["count", "other", "one"] true (spLp K C))
    (CSpK : CalK P w K mg base (L2.CX P w) 7 "split_loop" ["one", "other", "count"] ["count", "other", "one"] true (spSp K C))
    (F : Fun K "law" "law" (top 40) f fd) : FnOkG P w K mg base 11 f fd ["_law_script"] (spLaw K Pt) := by
  obtain ⟨oc, od, kV, doc, pm, an, cdv, ct, osl, rfl, lk, hcd⟩ := F.ex
  refine fn_ofG lk hcd sc39 (fun vs H Q E h => ?_) (fun A outer s H vs Q E hr gd h => ⟨_,
    (pss_cons (ps_set (i := 1) sc39.nd rfl (.inl rfl) (by exact (pe_cal CDr hr (by decide) (pa_cons (pv 0) (pa_cons pe_int pa_nil)))))
    (pss_cons (ps_set (i := 2) sc39.nd rfl (.inl rfl) (pe_op op_add pe_int (by exact (pe_cal CA hr (by decide) (pa_cons (pv 1) (pa_cons pe_int pa_nil))))))
    (pss_cons (ps_par (i := 3) (j := 4) rfl sc39.nd rfl rfl (by decide) rfl rfl (pa_cons (pe_callTy call_tuple_of (by rfl) B.tuple (by decide +kernel) (pa_cons (by exact (pe_cal CM hr (by decide) (pa_cons (pv 1) (pa_cons (pe_listRg rfl (by rfl) B.list (prg_1 (by rfl) B.range (pv 2))) pa_nil)))) pa_nil)) (pa_cons (pe_callTy call_tuple_of (by rfl) B.tuple (by decide +kernel) (pa_cons (by exact (pe_cal CM hr (by decide) (pa_cons (pv 1) (pa_cons (pe_listRg rfl (by rfl) B.list (prg_1 (by rfl) B.range (pv 2))) pa_nil)))) pa_nil)) pa_nil)) (by rfl))
    (pss_cons (ps_par3 (i := 5) (j := 6) (l := 7) rfl sc39.nd rfl rfl rfl (by decide) (by decide) (by decide) rfl rfl rfl (pa_cons (pe_callTy call_tuple_of (by rfl) B.tuple (by decide +kernel) (pa_cons (pe_listRg rfl (by rfl) B.list (prg_1 (by rfl) B.range (pv 2))) pa_nil)) (pa_cons (by exact (pe_cal CCo hr (by decide) (pa_cons (pv 1) pa_nil))) (pa_cons (by exact (pe_cal CCo hr (by decide) (pa_cons (pv 1) pa_nil))) pa_nil))) (by rfl))
    (pss_cons (ps_if (PW.pt (pw_or (pt_cmpR op_ne (pe_callB (call_repr gd hr.units) (by rfl) B.repr (by decide +kernel) (pa_cons (by exact (pe_calSK CkK hr (by decide) (fun σ => passL σ) (pk_cons (pv 3) (pk_cons (pv 2) pk_nil)))) pa_nil)) (pe_callB (call_repr gd hr.units) (by rfl) B.repr (by decide +kernel) (pa_cons (pv 3) pa_nil)) (nomark _)) (pw_or1 (pt_cmpR op_ne (pe_callB (call_repr gd hr.units) (by rfl) B.repr (by decide +kernel) (pa_cons (by exact (pe_calSK CFoK hr (by decide) (fun σ => passL σ) (pk_cons (pv 4) (pk_cons (pv 3) pk_nil)))) pa_nil)) (pe_callB (call_repr gd hr.units) (by rfl) B.repr (by decide +kernel) (pa_cons (by exact (pe_cal CT hr (by decide) (pa_cons (pv 3) (pa_cons (pv 4) pa_nil)))) pa_nil)) (nomark _))))) (pss_one (ps_ret pe_bl)) pss_nil)
    (pss_cons (ps_if (PW.pt (pw_or (pt_cmpR op_ne (pe_callB (call_repr gd hr.units) (by rfl) B.repr (by decide +kernel) (pa_cons (by exact (pe_calSK CBkK hr (by decide) (fun σ => passL σ) (pk_cons (pv 3) pk_nil))) pa_nil)) (pe_callB (call_repr gd hr.units) (by rfl) B.repr (by decide +kernel) (pa_cons (by exact (pe_cal CLB hr (by decide) (pa_cons (pv 3) pa_nil))) pa_nil)) (nomark _)) (pw_or1 (pt_cmpR op_ne (pe_callB (call_repr gd hr.units) (by rfl) B.repr (by decide +kernel) (pa_cons (by exact (pe_calSK CPwK hr (by decide) (fun σ => passL σ) (pk_cons (pv 6) (pk_cons (pv 3) pk_nil)))) pa_nil)) (pe_callB (call_repr gd hr.units) (by rfl) B.repr (by decide +kernel) (pa_cons (by exact (pe_cal CLP hr (by decide) (pa_cons (pv 3) (pa_cons (pv 6) pa_nil)))) pa_nil)) (nomark _))))) (pss_one (ps_ret pe_bl)) pss_nil)
    (pss_cons (ps_par (i := 8) (j := 9) rfl sc39.nd rfl rfl (by decide) rfl rfl (pa_cons (pv 3) (pa_cons pe_int pa_nil)) (by rfl))
    (pss_cons (ps_while (passes_of rfl) (pt_cmpR (op_neD hr.units) (pv 8) (pv 5) (nomark _)) (pss_one (ps_par (i := 8) (j := 9) rfl sc39.nd rfl rfl (by decide) rfl rfl (pa_cons (by exact (pe_cal CT hr (by decide) (pa_cons (pv 8) (pa_cons (pv 3) pa_nil)))) (pa_cons (pe_op op_add (pv 9) pe_int) pa_nil)) (by rfl))))
    (pss_cons (ps_if (PW.pt (pw_or (pt_cmpR op_ne (pe_callB (call_repr gd hr.units) (by rfl) B.repr (by decide +kernel) (pa_cons (by exact (pe_calSK COrK hr (by decide) (fun σ => passL σ) (pk_cons (pv 3) pk_nil))) pa_nil)) (pe_callB (call_repr gd hr.units) (by rfl) B.repr (by decide +kernel) (pa_cons (pv 9) pa_nil)) (nomark _)) (pw_or (pt_cmpR (op_neD hr.units) (by exact (pe_calS CPw hr (by decide) (fun σ => passL σ) (pa_cons (pv 3) (pa_cons (pe_op op_add (pv 6) (pv 9)) pa_nil)))) (by exact (pe_calS CPw hr (by decide) (fun σ => passL σ) (pa_cons (pv 3) (pa_cons (pv 6) pa_nil)))) (nomark _)) (pw_or1 (pt_cmpR (op_neD hr.units) (by exact (pe_calS CPw hr (by decide) (fun σ => passL σ) (pa_cons (pv 3) (pa_cons (pe_op op_mod (pe_callTy call_int1 (by rfl) B.int PyProof.Rows.boot_int (pa_cons (pv 6) pa_nil)) (pv 9)) pa_nil)))) (by exact (pe_calS CPw hr (by decide) (fun σ => passL σ) (pa_cons (pv 3) (pa_cons (pv 6) pa_nil)))) (nomark _)))))) (pss_one (ps_ret pe_bl)) pss_nil)
    (pss_cons (ps_par (i := 10) (j := 11) rfl sc39.nd rfl rfl (by decide) rfl rfl (pa_cons (by exact (pe_cal CA hr (by decide) (pa_cons (pv 1) (pa_cons pe_int pa_nil)))) (pa_cons (pv 5) pa_nil)) (by rfl))
    (pss_cons (ps_for (passes_of rfl) rfl (pi_range1 (by rfl) B.range (pa_cons (pv 10) pa_nil)) (pg_name (i := 12) sc39.nd rfl (.inl rfl)) (pss_one (ps_set (i := 11) sc39.nd rfl (.inl rfl) (by exact (pe_cal CT hr (by decide) (pa_cons (pv 11) (pa_cons (pv 3) pa_nil)))))))
    (pss_cons (ps_if (PW.pt (pw_or (pt_cmpR (op_neD hr.units) (by exact (pe_calS CPw hr (by decide) (fun σ => passL σ) (pa_cons (pv 3) (pa_cons (pv 10) pa_nil)))) (pv 11) (nomark _)) (pw_or1 (pt_cmpR (op_neD hr.units) (by exact (pe_calS CPw hr (by decide) (fun σ => passL σ) (pa_cons (pv 3) (pa_cons (pe_op op_sub pe_int (pv 10)) pa_nil)))) (by exact (pe_cal CLB hr (by decide) (pa_cons (pv 11) pa_nil))) (nomark _))))) (pss_one (ps_ret pe_bl)) pss_nil)
    (pss_cons (ps_if (PW.pt (pw_or (pt_cmpR (op_neD hr.units) (by exact (pe_calS CFo hr (by decide) (fun σ => passL σ) (pa_cons (by exact (pe_calS CPw hr (by decide) (fun σ => passL σ) (pa_cons (pv 3) (pa_cons (pv 6) pa_nil)))) (pa_cons (by exact (pe_calS CPw hr (by decide) (fun σ => passL σ) (pa_cons (pv 3) (pa_cons (pv 7) pa_nil)))) pa_nil)))) (by exact (pe_calS CPw hr (by decide) (fun σ => passL σ) (pa_cons (pv 3) (pa_cons (pe_op op_add (pv 6) (pv 7)) pa_nil)))) (nomark _)) (pw_or1 (pt_cmpR (op_neD hr.units) (by exact (pe_calS CPw hr (by decide) (fun σ => passL σ) (pa_cons (by exact (pe_calS CPw hr (by decide) (fun σ => passL σ) (pa_cons (pv 3) (pa_cons (pe_op op_mod (pe_callTy call_int1 (by rfl) B.int PyProof.Rows.boot_int (pa_cons (pv 6) pa_nil)) pe_int) pa_nil)))) (pa_cons (pe_op op_mod (pe_callTy call_int1 (by rfl) B.int PyProof.Rows.boot_int (pa_cons (pv 7) pa_nil)) pe_int) pa_nil)))) (by exact (pe_calS CPw hr (by decide) (fun σ => passL σ) (pa_cons (pv 3) (pa_cons (pe_op op_mulW (pe_op op_mod (pe_callTy call_int1 (by rfl) B.int PyProof.Rows.boot_int (pa_cons (pv 6) pa_nil)) pe_int) (pe_op op_mod (pe_callTy call_int1 (by rfl) B.int PyProof.Rows.boot_int (pa_cons (pv 7) pa_nil)) pe_int)) pa_nil)))) (nomark _))))) (pss_one (ps_ret pe_bl)) pss_nil)
    (pss_cons (ps_if (PW.pt (pw_or (pt_cmpR op_ne (pe_callB (call_repr gd hr.units) (by rfl) B.repr (by decide +kernel) (pa_cons (by exact (pe_calSK CCpK hr (by decide) (fun σ => passL σ) (pk_cons (pv 4) (pk_cons (pv 3) pk_nil)))) pa_nil)) (pe_callB (call_repr gd hr.units) (by rfl) B.repr (by decide +kernel) (pa_cons (pe_cmpR (op_eqD hr.units) (by exact (pe_cal CT hr (by decide) (pa_cons (pv 3) (pa_cons (pv 4) pa_nil)))) (by exact (pe_cal CT hr (by decide) (pa_cons (pv 4) (pa_cons (pv 3) pa_nil)))) (nomark _)) pa_nil)) (nomark _)) (pw_or1 (pt_not (pt_val (by exact (pe_calS CCp hr (by decide) (fun σ => passL σ) (pa_cons (pv 3) (pa_cons (by exact (pe_calS CPw hr (by decide) (fun σ => passL σ) (pa_cons (pv 3) (pa_cons (pv 6) pa_nil)))) pa_nil))))))))) (pss_one (ps_ret pe_bl)) pss_nil)
    (pss_cons (ps_if (pt_cmpR op_ne (pe_callB (call_repr gd hr.units) (by rfl) B.repr (by decide +kernel) (pa_cons (by exact (pe_calSK CLpK hr (by decide) (fun σ => passL σ) (pk_cons (pv 6) (pk_cons (pv 4) (pk_cons (pv 3) pk_nil))))) pa_nil)) (pe_callB (call_repr gd hr.units) (by rfl) B.repr (by decide +kernel) (pa_cons (by exact (pe_cal CLP hr (by decide) (pa_cons (by exact (pe_cal CT hr (by decide) (pa_cons (pv 3) (pa_cons (pv 4) pa_nil)))) (pa_cons (pv 6) pa_nil)))) pa_nil)) (nomark _)) (pss_one (ps_ret pe_bl)) pss_nil)
    (pss_cons (ps_if (pt_cmpR op_ne (pe_callB (call_repr gd hr.units) (by rfl) B.repr (by decide +kernel) (pa_cons (by exact (pe_calSK CSpK hr (by decide) (fun σ => passL σ) (pk_cons (pv 6) (pk_cons (pv 4) (pk_cons (pv 3) pk_nil))))) pa_nil)) (pe_callB (call_repr gd hr.units) (by rfl) B.repr (by decide +kernel) (pa_cons (by exact (pe_cal CT hr (by decide) (pa_cons (by exact (pe_cal CLP hr (by decide) (pa_cons (pv 3) (pa_cons (pv 6) pa_nil)))) (pa_cons (by exact (pe_cal CLP hr (by decide) (pa_cons (pv 4) (pa_cons (pv 6) pa_nil)))) pa_nil)))) pa_nil)) (nomark _)) (pss_one (ps_ret pe_bl)) pss_nil)
    (pss_one (ps_ret (by exact (pe_cal CWr hr (by decide) (pa_cons (pv 3) (pa_cons (by exact (pe_cal CBd hr (by decide) (pa_cons (pv 1) (pa_cons (pv 3) pa_nil)))) (pa_cons (pe_op op_catP (pv 3) (pe_tup (pa_cons (pv 2) pa_nil))) pa_nil))))))))))))))))))))))), ?_⟩)
  · obtain ⟨a, ns, rfl, _⟩ := h
    rfl
  obtain ⟨a, ns0, rfl, hS, hPt, q⟩ := h
  refine ⟨_, rfl, a, ns0, 3, rfl, hS, by decide, by decide, fun H1 d c s1 hd hc hD1 => ?_⟩
  dsimp only [gName]
  refine ⟨_, rfl, d, c, 8, rfl, hD1, by decide, by decide, fun r H2 r0 r1 hD2 k2 => ⟨_, _, rfl, rfl, ?_⟩⟩
  have hP1 := s1 _ _ hPt
  have pn := hD1.neO hP1 (fun _ z => by cases z)
  have hP2 := k2 _ _ pn.1 pn.2 hP1
  have e1 : (1 : Int) + r = ((1 + r.toNat : Nat) : Int) := by omega
  have n1 : 1 ≤ 1 + r.toNat := by omega
  have n8 : 1 + r.toNat ≤ 8 := by omega
  dsimp only [gName]
  rw [e1]
  generalize 1 + r.toNat = n at n1 n8
  have ok0 : RgOk 0 (n : Int) := RgOk.of_le (Int.le_refl 0) (by omega) (by decide) (by omega)
  refine ⟨_, rfl, _, rfl, _, rfl, ok0, fun q1 hq1 => ⟨d, c, q1, tab n id, rfl, hD2.same (Same.new hq1), by rw [upd_same, vi_rg], (hD2.ne hq1).1, (hD2.ne hq1).2, by rw [tab_len]; omega, fun l1 m1 H3 pe1 ln1 hl1 hD3 k3 => ⟨l1, _, rfl, .inl ⟨SqL.of hl1, fun a1 ha1 => ?_⟩⟩⟩⟩
  have hP3 := k3 _ _ pn.1 pn.2 (Same.new hq1 _ _ hP2)
  have c1 := chg_perm pe1
  have s3 : Same H3 (upd H3 a1 (.tup (vi m1))) := Same.new ha1
  have o3 : upd H3 a1 (.tup (vi m1)) a1 = some (.tup (vi m1)) := upd_same
  have hD3 := hD3.same s3
  have hP3 := s3 _ _ hP3
  generalize upd H3 a1 (.tup (vi m1)) = H4 at s3 o3 hD3 hP3 ⊢
  refine ⟨_, rfl, _, rfl, _, rfl, ok0, fun q2 hq2 => ⟨d, c, q2, tab n id, rfl, hD3.same (Same.new hq2), by rw [upd_same, vi_rg], (hD3.ne hq2).1, (hD3.ne hq2).2, by rw [tab_len]; omega, fun l2 m2 H5 pe2 ln2 hl2 hD5 k5 => ⟨l2, _, rfl, .inl ⟨SqL.of hl2, fun a2 ha2 => ⟨_, _, rfl, ?_⟩⟩⟩⟩⟩
  have c2 := chg_perm pe2
  have t1 := hD3.neT o3
  have o5 := k5 _ _ t1.1 t1.2 (Same.new hq2 _ _ o3)
  have hP5 := k5 _ _ pn.1 pn.2 (Same.new hq2 _ _ hP3)
  have s5 : Same H5 (upd H5 a2 (.tup (vi m2))) := Same.new ha2
  have w5 : upd H5 a2 (.tup (vi m2)) a2 = some (.tup (vi m2)) := upd_same
  have o5 := s5 _ _ o5
  have hP5 := s5 _ _ hP5
  have hD5 := hD5.same s5
  generalize upd H5 a2 (.tup (vi m2)) = H6 at s5 w5 o5 hP5 hD5 ⊢
  -- idle, two counts
  refine ⟨_, rfl, _, rfl, ok0, fun q3 hq3 => ⟨q3, _, rfl, .inl ⟨SqL.of upd_same, fun a3 ha3 => ?_⟩⟩⟩
  have s6 : Same H6 (upd (upd H6 q3 (.lst (rgV 0 (n : Int)))) a3 (.tup (rgV 0 (n : Int)))) := (Same.new hq3).trans (Same.new ha3)
  have w6 : upd (upd H6 q3 (.lst (rgV 0 (n : Int)))) a3 (.tup (rgV 0 (n : Int))) a3 = some (.tup (vi (tab n id))) := by rw [upd_same, vi_rg]
  have L7 : LS d c a1 a2 a3 Pt n m1 m2 (upd (upd H6 q3 (.lst (rgV 0 (n : Int)))) a3 (.tup (rgV 0 (n : Int)))) := ⟨hD5.same s6, s6 _ _ o5, s6 _ _ w5, w6, s6 _ _ hP5⟩
  generalize upd (upd H6 q3 (.lst (rgV 0 (n : Int)))) a3 (.tup (rgV 0 (n : Int))) = H7 at L7 ⊢
  refine ⟨_, rfl, d, c, rfl, L7.dl, fun x H8 sx hD8 k8 => ⟨_, rfl, d, c, rfl, hD8, fun y H9 sy hD9 k9 => ⟨_, _, _, rfl, ?_⟩⟩⟩
  have L9 := (L7.kp hD8 k8).kp hD9 k9
  clear k9 k8 L7 s6 w6 s5 w5 o5 hP5 hD5 k5 hl2 pe2 o3 hP3 s3 hl1 pe1 hP2 k2 hD2 hD8 hD9 hD3 k3
  dsimp only [gName]
  have n16 : n ≤ 16 := by omega
  have G1 : ∀ {H' : Hp}, LS d c a1 a2 a3 Pt n m1 m2 H' → Good n H' (.ref a1) m1 := fun L => ⟨a1, rfl, L.one, c1, n1, n16⟩
  have G2 : ∀ {H' : Hp}, LS d c a1 a2 a3 Pt n m1 m2 H' → Good n H' (.ref a2) m2 := fun L => ⟨a2, rfl, L.oth, c2, n1, n16⟩
  have c12 := chg_comp c1 c2
  have lt12 : ∀ z ∈ m1, z < m2.length := fun z hz => by rw [c2.len]; exact c1.lt z hz
  have lt21 : ∀ z ∈ m2, z < m1.length := fun z hz => by rw [c1.len]; exact c2.lt z hz
  have ml1 : m1.length ≤ 16 := by rw [c1.len]; exact n16
  have ml2 : m2.length ≤ 16 := by rw [c2.len]; exact n16
  -- one after another
  refine sq_cut (fun σ H' => σ = [some (.ref a), some (.ref d), some (.int (n : Int)), some (.ref a1), some (.ref a2), some (.ref a3), some (.int x), some (.int y), none, none, none, none, none] ∧ LS d c a1 a2 a3 Pt n m1 m2 H') (fun Z hZ => ?_) ?_
  · refine ⟨_, rfl, _, rfl, (n : Int), .ref a1, some (vi m1), rfl, (G1 L9).val, fun _ H10 s10 => rp (s10 _ _ L9.one) c1 n16 ⟨_, rfl, rp (s10 _ _ L9.one) c1 n16 ⟨rfl, _, rfl, iteN (by simp) ?_⟩⟩, fun z => absurd ((G1 L9).isCh.symm.trans z) (by decide)⟩
    have L10 := L9.same s10
    refine ⟨_, rfl, _, rfl, .inl ⟨_, _, n, m1, m2, rfl, G1 L10, G2 L10, fun t H11 s11 _ ht => rp ht c12 n16 ?_⟩⟩
    have L11 := L10.same s11
    exact ⟨_, rfl, _, rfl, a1, a2, m1, m2, rfl, L11.one, L11.oth, lt12, ml1, fun t2 H12 s12 _ ht2 => rp ht2 c12 n16 ⟨rfl, _, rfl, iteN (by simp) (hZ _ _ ⟨rfl, L11.same s12⟩)⟩⟩
  clear L9
  rintro σ H10 ⟨rfl, L9⟩
  -- back, powers
  refine sq_cut (fun σ H' => σ = [some (.ref a), some (.ref d), some (.int (n : Int)), some (.ref a1), some (.ref a2), some (.ref a3), some (.int x), some (.int y), none, none, none, none, none] ∧ LS d c a1 a2 a3 Pt n m1 m2 H') (fun Z hZ => ?_) ?_
  · refine ⟨_, rfl, .inl ⟨_, n, m1, rfl, G1 L9, fun t H11 e s11 _ ht u => rp ht (u.chg c1) n16 ?_⟩⟩
    have L11 := L9.same s11
    refine ⟨_, rfl, a1, n, m1, rfl, L11.one, c1, n16, fun t2 H12 e2 s12 _ ht2 u2 => rp ht2 (u2.chg c1) n16 ⟨rfl, _, rfl, iteN (by rw [Und.uniq c1 u u2]; simp) ?_⟩⟩
    have L12 := L11.same s12
    refine ⟨_, rfl, _, rfl, .inl ⟨_, n, m1, x, rfl, G1 L12, fun t3 H13 s13 _ ht3 => rp ht3 (pw_chg c1 _) n16 ?_⟩⟩
    have L13 := L12.same s13
    exact ⟨_, rfl, _, rfl, a1, n, m1, x, rfl, L13.one, c1, n16, fun t4 H14 s14 _ ht4 => rp ht4 (pw_chg c1 _) n16 ⟨rfl, _, rfl, iteN (by simp) (hZ _ _ ⟨rfl, L13.same s14⟩)⟩⟩
  clear L9
  rintro σ H11 ⟨rfl, L9⟩
  -- the order, by doing it till nothing is moved
  refine ⟨_, rfl, _, _, rfl, ?_⟩
  have e11 : tab n (it m1 1) = m1 := by
    rw [← pw_nat c1]
    exact pw_one c1
  have idf : tab n (it m1 (fac n)) = tab n id := tab_id_iff.mpr fun i hi => it_fac c1 hi
  have fs := fac_small n16
  dsimp only [gName]
  refine sq_cut (fun σ H' => ∃ (r : Nat) (s : Addr), σ = [some (.ref a), some (.ref d), some (.int (n : Int)), some (.ref a1), some (.ref a2), some (.ref a3), some (.int x), some (.int y), some (.ref s), some (.int (r : Int)), none, none, none] ∧ LS d c a1 a2 a3 Pt n m1 m2 H' ∧ 0 < r ∧ r ≤ fac n ∧ tab n (it m1 r) = tab n id ∧ ∀ j, 0 < j → j < r → tab n (it m1 j) ≠ tab n id) (fun Z hZ =>
    ⟨fun m σ H' => ∃ (r : Nat) (s : Addr), σ = [some (.ref a), some (.ref d), some (.int (n : Int)), some (.ref a1), some (.ref a2), some (.ref a3), some (.int x), some (.int y), some (.ref s), some (.int (r : Int)), none, none, none] ∧ LS d c a1 a2 a3 Pt n m1 m2 H' ∧ H' s = some (.tup (vi (tab n (it m1 r)))) ∧ 0 < r ∧ r ≤ fac n ∧ (∀ j, 0 < j → j < r → tab n (it m1 j) ≠ tab n id) ∧ m = fac n - r,
      ⟨_, 1, a1, rfl, L9, by rw [e11]; exact L9.one, by decide, fac_pos n, fun j j0 j1 => by omega, rfl⟩, ?_⟩) ?_
  · rintro m σ H12 ⟨r, s, rfl, L12, hs, r0, r1, rm, rfl⟩
    refine ⟨_, rfl, _, rfl, neT hs L12.idl ⟨_, rfl, ?_⟩⟩
    by_cases e : tab n (it m1 r) = tab n id
    · exact iteN (by simp [e]) (hZ _ _ ⟨r, s, rfl, L12, r0, r1, e, rm⟩)
    · have rlt : r < fac n := by
        rcases Nat.lt_or_eq_of_le r1 with z | z
        · exact z
        · rw [z] at e
          exact absurd idf e
      refine iteP (by simp [e]) ⟨fun σ H' => ∃ m', m' < fac n - r ∧ ∃ (r : Nat) (s : Addr), σ = [some (.ref a), some (.ref d), some (.int (n : Int)), some (.ref a1), some (.ref a2), some (.ref a3), some (.int x), some (.int y), some (.ref s), some (.int (r : Int)), none, none, none] ∧ LS d c a1 a2 a3 Pt n m1 m2 H' ∧ H' s = some (.tup (vi (tab n (it m1 r)))) ∧ 0 < r ∧ r ≤ fac n ∧ (∀ j, 0 < j → j < r → tab n (it m1 j) ≠ tab n id) ∧ m' = fac n - r, fun _ _ z => z, ?_⟩
      refine ⟨_, rfl, _, rfl, s, a1, _, _, rfl, hs, L12.one, fun z hz => (by
        rw [c1.len]
        obtain ⟨j, hj, rfl⟩ := mem_tab.mp hz
        exact it_lt c1 hj _), (by rw [tab_len]; exact n16), fun t H13 s13 t0 t1 => ⟨_, rfl, _, _, rfl, rfl, _, _, rfl, fac n - (r + 1), by omega, r + 1, t, rfl, L12.same s13, by rw [t1, comp_step c1], by omega, rlt, fun j j0 j1 => ?_, rfl⟩⟩
      by_cases ej : j = r
      · rw [ej]
        exact e
      · exact rm j j0 (by omega)
  clear L9
  rintro σ H12 ⟨r, s, rfl, L9, r0, r1, eid, rm⟩
  have rz : ((r : Nat) : Int).natAbs.log2 < 1920 := log_sm (k := 60) (by show ((r : Nat) : Int).natAbs < 2 ^ 60; omega) (by decide) (by decide)
  have pid : pw n m1 (r : Nat) = tab n id := by rw [pw_nat c1]; exact eid
  refine sq_cut (fun σ H' => σ = [some (.ref a), some (.ref d), some (.int (n : Int)), some (.ref a1), some (.ref a2), some (.ref a3), some (.int x), some (.int y), some (.ref s), some (.int (r : Int)), none, none, none] ∧ LS d c a1 a2 a3 Pt n m1 m2 H') (fun Z hZ => ?_) ?_
  · refine ⟨_, rfl, .inl ⟨_, n, m1, rfl, G1 L9, fun H13 ord s13 hO => ?_⟩⟩
    have eL : ord = r := by
      have d1 := (hO.2 r).mp (tab_id_iff.mp eid)
      have le := Nat.le_of_dvd r0 d1
      rcases Nat.lt_or_eq_of_le le with z | z
      · exact absurd (tab_id_iff.mpr ((hO.2 ord).mpr (Nat.dvd_refl _))) (rm ord hO.1 z)
      · exact z
    subst eL
    have L13 := L9.same s13
    refine .inr (.inl ⟨_, rfl, rz, _, rfl, .inr (.inl ⟨_, rfl, rz, rfl, _, rfl, iteN (by simp) ?_⟩)⟩)
    refine ⟨_, rfl, _, rfl, _, rfl, _, _, rfl, rfl, .inl ⟨_, n, m1, _, rfl, G1 L13, fun t H14 s14 t0 t1 => ?_⟩⟩
    have L14 := L13.same s14
    refine ⟨_, rfl, _, rfl, .inl ⟨_, n, m1, _, rfl, G1 L14, fun t2 H15 s15 _ t3 => neT (s15 _ _ t1) t3 ⟨_, rfl, iteN (by rw [pw_period c1 pid]; simp) ?_⟩⟩⟩
    have L15 := L14.same s15
    refine ⟨_, rfl, _, rfl, .inl ⟨_, rfl, _, rfl, _, _, rfl, rfl, (by show (0 : Int) < (ord : Int); omega), .inl ⟨_, n, m1, _, rfl, G1 L15, fun t4 H16 s16 t5 t6 => ?_⟩⟩⟩
    have L16 := L15.same s16
    exact ⟨_, rfl, _, rfl, .inl ⟨_, n, m1, _, rfl, G1 L16, fun t7 H17 s17 _ t8 => neT (s17 _ _ t6) t8 ⟨_, rfl, iteN (by rw [pw_mod c1 r0 pid]; simp) (hZ _ _ ⟨rfl, L16.same s17⟩)⟩⟩⟩
  clear L9
  rintro σ H13 ⟨rfl, L9⟩
  clear rz pid eid rm
  -- short ones, by doing them
  refine ⟨_, rfl, d, c, 9, rfl, L9.dl, by decide, by decide, fun u H14 u0 u1 D14 k14 => ⟨_, rfl, _, _, rfl, ?_⟩⟩
  have L14 := L9.kp D14 k14
  clear L9 k14 D14
  obtain ⟨sh, rfl⟩ : ∃ sh : Nat, u = (sh : Int) := ⟨u.toNat, by omega⟩
  dsimp only [gName]
  refine sq_cut (fun σ H' => ∃ (t : Addr) (w : Option V), σ = [some (.ref a), some (.ref d), some (.int (n : Int)), some (.ref a1), some (.ref a2), some (.ref a3), some (.int x), some (.int y), some (.ref s), some (.int (r : Int)), some (.int (sh : Int)), some (.ref t), w] ∧ LS d c a1 a2 a3 Pt n m1 m2 H' ∧ H' t = some (.tup (vi (tab n (it m1 sh))))) (fun Z hZ =>
    ⟨_, rfl, (sh : Int), rfl, by omega, by omega, for_range (n := sh) (fun i σ H' => ∃ (t : Addr) (w : Option V), σ = [some (.ref a), some (.ref d), some (.int (n : Int)), some (.ref a1), some (.ref a2), some (.ref a3), some (.int x), some (.int y), some (.ref s), some (.int (r : Int)), some (.int (sh : Int)), some (.ref t), w] ∧ LS d c a1 a2 a3 Pt n m1 m2 H' ∧ H' t = some (.tup (vi (tab n (it m1 i)))))
      ⟨a3, none, rfl, L14, by rw [L14.idl]; rfl⟩ ?_ ?_⟩) ?_
  · rintro i σ H15 hi ⟨t, w, rfl, L15, ht⟩
    exact ⟨_, rfl, _, rfl, t, a1, _, _, rfl, ht, L15.one, fun z hz => (by
      rw [c1.len]
      obtain ⟨j, hj, rfl⟩ := mem_tab.mp hz
      exact it_lt c1 hj _), (by rw [tab_len]; exact n16), fun t2 H16 s16 t0 t1 => ⟨t2, some (.int (0 + (i : Int))), rfl, L15.same s16, by rw [t1, comp_step c1]⟩⟩
  · rintro σ H15 ⟨t, w, rfl, L15, ht⟩
    exact hZ _ _ ⟨t, w, rfl, L15, ht⟩
  clear L14
  rintro σ H15 ⟨t, w, rfl, L9, ht⟩
  refine sq_cut (fun σ H' => σ = [some (.ref a), some (.ref d), some (.int (n : Int)), some (.ref a1), some (.ref a2), some (.ref a3), some (.int x), some (.int y), some (.ref s), some (.int (r : Int)), some (.int (sh : Int)), some (.ref t), w] ∧ LS d c a1 a2 a3 Pt n m1 m2 H') (fun Z hZ => ?_) ?_
  · refine ⟨_, rfl, _, rfl, .inl ⟨_, n, m1, _, rfl, G1 L9, fun t2 H16 s16 t0 t1 => ⟨_, rfl, neT t1 (s16 _ _ ht) ⟨_, rfl, iteN (by rw [pw_nat c1]; simp) ?_⟩⟩⟩⟩
    have L16 := L9.same s16
    refine ⟨_, rfl, _, rfl, _, _, rfl, rfl, .inl ⟨_, n, m1, _, rfl, G1 L16, fun t3 H17 s17 t2 t3 => ?_⟩⟩
    have L17 := L16.same s17
    refine ⟨_, rfl, t, n, _, rfl, s17 _ _ (s16 _ _ ht), chg_it c1 sh, n16, fun t4 H18 e s18 t5 t6 ue => neT (s18 _ _ t3) t6 ⟨_, rfl, iteN ?_ (hZ _ _ ⟨rfl, L17.same s18⟩)⟩⟩
    have z := und_pws c1 sh
    rw [pw_nat c1] at z
    rw [Und.uniq (chg_it c1 sh) ue z, show (0 : Int) - (sh : Int) = -(sh : Int) by omega]
    simp
  clear L9 ht
  rintro σ H16 ⟨rfl, L9⟩
  -- sums and products of counts
  refine sq_cut (fun σ H' => σ = [some (.ref a), some (.ref d), some (.int (n : Int)), some (.ref a1), some (.ref a2), some (.ref a3), some (.int x), some (.int y), some (.ref s), some (.int (r : Int)), some (.int (sh : Int)), some (.ref t), w] ∧ LS d c a1 a2 a3 Pt n m1 m2 H') (fun Z hZ => ?_) ?_
  · refine ⟨_, rfl, _, rfl, .inl ⟨_, n, m1, _, rfl, G1 L9, fun t1 H17 s17 _ h1 => ?_⟩⟩
    have L17 := L9.same s17
    refine ⟨_, rfl, _, rfl, .inl ⟨_, n, m1, _, rfl, G1 L17, fun t2 H18 s18 _ h2 => ?_⟩⟩
    have L18 := L17.same s18
    refine .inl ⟨_, _, n, pw n m1 x, pw n m1 y, rfl, ⟨t1, rfl, s18 _ _ h1, pw_chg c1 _, n1, n16⟩, ⟨t2, rfl, h2, pw_chg c1 _, n1, n16⟩, fun t3 H19 s19 _ h3 => ?_⟩
    have L19 := L18.same s19
    refine ⟨_, rfl, _, rfl, _, rfl, _, _, rfl, rfl, .inl ⟨_, n, m1, _, rfl, G1 L19, fun t4 H20 s20 _ h4 => neT (s20 _ _ h3) h4 ⟨_, rfl, iteN (by rw [pw_add c1]; simp) ?_⟩⟩⟩
    have L20 := L19.same s20
    have m0 : (0 : Int) < 1000 := by decide
    refine ⟨_, rfl, _, rfl, .inl ⟨_, rfl, _, _, rfl, rfl, m0, .inl ⟨_, n, m1, _, rfl, G1 L20, fun t5 H21 s21 _ h5 => ?_⟩⟩⟩
    have L21 := L20.same s21
    refine ⟨_, rfl, .inl ⟨_, rfl, _, _, rfl, rfl, m0, .inl ⟨_, n, pw n m1 (x % 1000), _, rfl, ⟨t5, rfl, h5, pw_chg c1 _, n1, n16⟩, fun t6 H22 s22 _ h6 => ?_⟩⟩⟩
    have L22 := L21.same s22
    have xm := Int.emod_nonneg x (by decide : (1000 : Int) ≠ 0)
    have ym := Int.emod_nonneg y (by decide : (1000 : Int) ≠ 0)
    have xl := Int.emod_lt_of_pos x m0
    have yl := Int.emod_lt_of_pos y m0
    refine ⟨_, rfl, _, rfl, .inl ⟨_, rfl, _, _, rfl, rfl, m0, _, rfl, .inl ⟨_, rfl, _, _, rfl, rfl, m0, _, _, rfl, rfl, mulW (j := 10) (k := 10) (sm_of xm (Int.lt_of_lt_of_le xl (by decide))) (sm_of ym (Int.lt_of_lt_of_le yl (by decide))) (by decide) (by decide) (by decide), .inl ⟨_, n, m1, _, rfl, G1 L22, fun t7 H23 s23 _ h7 => neT (s23 _ _ h6) h7 ⟨_, rfl, iteN ?_ (hZ _ _ ⟨rfl, L22.same s23⟩)⟩⟩⟩⟩⟩
    obtain ⟨A, eA⟩ : ∃ A : Nat, x % 1000 = (A : Int) := ⟨(x % 1000).toNat, by omega⟩
    obtain ⟨D, eD⟩ : ∃ D : Nat, y % 1000 = (D : Int) := ⟨(y % 1000).toNat, by omega⟩
    rw [eA, eD, pw_pw c1, Int.natCast_mul]
    simp
  clear L9
  rintro σ H17 ⟨rfl, L9⟩
  -- whether they change places
  refine sq_cut (fun σ H' => σ = [some (.ref a), some (.ref d), some (.int (n : Int)), some (.ref a1), some (.ref a2), some (.ref a3), some (.int x), some (.int y), some (.ref s), some (.int (r : Int)), some (.int (sh : Int)), some (.ref t), w] ∧ LS d c a1 a2 a3 Pt n m1 m2 H') (fun Z hZ => ?_) ?_
  · refine ⟨_, rfl, _, rfl, .inl ⟨_, _, n, m1, m2, rfl, G1 L9, G2 L9, fun H18 s18 => .inl ⟨_, rfl, ?_⟩⟩⟩
    have L18 := L9.same s18
    refine ⟨_, rfl, _, rfl, a1, a2, _, _, rfl, L18.one, L18.oth, lt12, ml1, fun t1 H19 s19 _ h1 => ?_⟩
    have L19 := L18.same s19
    refine ⟨_, rfl, _, rfl, a2, a1, _, _, rfl, L19.oth, L19.one, lt21, ml2, fun t2 H20 s20 _ h2 => eqT (s20 _ _ h1) h2 (.inl ⟨_, rfl, rfl, _, rfl, iteN (by simp) ?_⟩)⟩
    have L20 := L19.same s20
    refine ⟨_, rfl, _, rfl, _, rfl, .inl ⟨_, n, m1, _, rfl, G1 L20, fun t3 H21 s21 _ h3 => ?_⟩⟩
    have L21 := L20.same s21
    exact .inl ⟨_, _, n, m1, pw n m1 x, rfl, G1 L21, ⟨t3, rfl, h3, pw_chg c1 _, n1, n16⟩, fun H22 s22 => ⟨_, rfl, iteN (by simp [comp_self c1]) (hZ _ _ ⟨rfl, L21.same s22⟩)⟩⟩
  clear L9
  rintro σ H18 ⟨rfl, L9⟩
  -- loops
  refine sq_cut (fun σ H' => σ = [some (.ref a), some (.ref d), some (.int (n : Int)), some (.ref a1), some (.ref a2), some (.ref a3), some (.int x), some (.int y), some (.ref s), some (.int (r : Int)), some (.int (sh : Int)), some (.ref t), w] ∧ LS d c a1 a2 a3 Pt n m1 m2 H') (fun Z hZ => ?_) ?_
  · refine ⟨_, rfl, _, rfl, _, rfl, .inl ⟨_, _, n, m1, m2, x, rfl, G1 L9, G2 L9, fun t1 H19 s19 _ h1 => rp h1 (pw_chg c12 _) n16 ?_⟩⟩
    have L19 := L9.same s19
    exact ⟨_, rfl, _, rfl, a1, a2, _, _, rfl, L19.one, L19.oth, lt12, ml1, fun t2 H20 s20 _ h2 => ⟨_, rfl, t2, n, _, x, rfl, h2, c12, n16, fun t3 H21 s21 _ h3 => rp h3 (pw_chg c12 _) n16 ⟨rfl, _, rfl, iteN (by simp) (hZ _ _ ⟨rfl, (L19.same s20).same s21⟩)⟩⟩⟩
  clear L9
  rintro σ H19 ⟨rfl, L9⟩
  refine sq_cut (fun σ H' => σ = [some (.ref a), some (.ref d), some (.int (n : Int)), some (.ref a1), some (.ref a2), some (.ref a3), some (.int x), some (.int y), some (.ref s), some (.int (r : Int)), some (.int (sh : Int)), some (.ref t), w] ∧ LS d c a1 a2 a3 Pt n m1 m2 H') (fun Z hZ => ?_) ?_
  · have cpp := chg_comp (pw_chg c1 x) (pw_chg c2 x)
    refine ⟨_, rfl, _, rfl, _, rfl, .inl ⟨_, _, n, m1, m2, x, rfl, G1 L9, G2 L9, fun t1 H20 s20 _ h1 => rp h1 cpp n16 ?_⟩⟩
    have L20 := L9.same s20
    refine ⟨_, rfl, _, rfl, a1, n, _, x, rfl, L20.one, c1, n16, fun t2 H21 s21 _ h2 => ?_⟩
    have L21 := L20.same s21
    exact ⟨_, rfl, _, rfl, a2, n, _, x, rfl, L21.oth, c2, n16, fun t3 H22 s22 _ h3 => ⟨t2, t3, _, _, rfl, s22 _ _ h2, h3, fun z hz => (by
      rw [(pw_chg c2 x).len]
      exact (pw_chg c1 x).lt z hz), (by rw [(pw_chg c1 x).len]; exact n16), fun t4 H23 s23 _ h4 => rp h4 cpp n16 ⟨rfl, _, rfl, iteN (by simp) (hZ _ _ ⟨rfl, (L21.same s22).same s23⟩)⟩⟩⟩
  clear L9
  rintro σ H20 ⟨rfl, L9⟩
  -- what is refused
  refine ⟨_, rfl, _, rfl, _, rfl, d, c, a1, n, m1, rfl, L9.dl, L9.one, c1, n1, n8, fun v H21 hv D21 k21 => ?_⟩
  have L21 := L9.kp D21 k21
  refine ⟨_, rfl, _, rfl, (by show 1 ≤ sizeLine; decide), fun p hp => ⟨a1, p, _, _, rfl, rfl, Same.new hp _ _ L21.one, upd_same, ?_, fun p2 H22 s22 h22 => ?_⟩⟩
  · rw [show (vi m1).length = m1.length from List.length_map .., c1.len]
    show n + 1 ≤ 1000
    omega
  have L22 := (L21.same (Same.new (o := .tup [.int (n : Int)]) hp)).same s22
  refine ⟨d, c, a1, p2, v, n, m1, rfl, L22.one, c1, n1, n8, (hv.same (Same.new hp)).same s22, ?_, fun z hz => ?_, fun H' => q H'⟩
  · rw [h22]
    simp only [vi, List.map_append, List.map_cons, List.map_nil]
  · rw [List.mem_singleton.mp hz]
    exact TabS.nil L22.tb
end
end KV

/-! the law's call behind the top, one table of code objects known -/
namespace KV
open PySem PySem.Spec PyProof.Rows L2 LamX
/-- the objects that an abstract heap may hold at the start: the script, the empty table -/
structure Begin (G : Hp) (a Pt : Addr) : Prop where
  tb : G Pt = some (.tbl #[])
  sort : ∀ b, b ≠ Pt → G b = none ∨ ∃ ob xs, G b = some (.frz ob (.lst xs))
  only : ∀ b, b ≠ a → b ≠ Pt → G b = none
def emptyO : Obj := { cls := .none, data := .fields #[] }
section
variable {P : Program} {w : World} {K : PySem.W.Frag} {mg mb : Str → Option Value} {k : Nat} {fa a ct Pt : Addr} {fd : FuncData} {x : Str} {sp : Sp} {st : Shared} {vs : List Value} {ns : List Int} {G : Hp}
/-- an object that is neither the script nor the table is not tracked -/
theorem Begin.clear (B : Begin G a Pt) (scr : st.heap.get? a = some { cls := .type "list", data := .seq vs.toArray }) (tab : st.heap.get? Pt = some emptyO) {b : Addr} {o : Obj} (h : st.heap.get? b = some o) (h1 : ∀ us m, o.data ≠ .seq us m) (h2 : o.data ≠ .fields #[]) : G b = none := by
  refine B.only b (fun e => ?_) fun e => ?_
  · rw [e, scr] at h
    cases h
    exact h1 _ _ rfl
  · rw [e, tab] at h
    cases h
    exact h2 rfl
theorem Begin.spaces (B : Begin G a Pt) (scr : st.heap.get? a = some { cls := .type "list", data := .seq vs.toArray }) (tab : st.heap.get? Pt = some emptyO) {b : Addr} {m : Str → Option Value} (h : st.heap.Ns b m) : (hidT st.heap G).Ns b m := by
  obtain ⟨o, es, ep, h1, h2, r⟩ := h
  exact ⟨o, es, ep, hidT_get h1 (B.clear scr tab h1 (fun us m z => by rw [h2] at z; cases z) fun z => by rw [h2] at z; cases z), h2, r⟩
theorem Begin.table (B : Begin G a Pt) (scr : st.heap.get? a = some { cls := .type "list", data := .seq vs.toArray }) (tab : st.heap.get? Pt = some emptyO) (gl : st.heap.Ns mainGlobals mg) (C : PySem.W.CodeHd st.heap ct Pt)
    (bm : ∃ (m : Addr) (ob : Obj), mg "__builtins__" = some (.ref m) ∧ m ≠ builtinsNs ∧ st.heap.get? m = some ob ∧ ob.cls = .type "module" ∧ ob.dict = some builtinsNs ∧ ob.data = .plain) : TabB (hidT st.heap G) mg ct Pt := by
  obtain ⟨og, es, ep, g1, g2, _⟩ := gl
  constructor
  · obtain ⟨o, us, file, tf, flags, tg, inF, text, tt, e1, r1, r2, r3, more⟩ := C
    refine ⟨o, us, file, tf, flags, tg, inF, text, tt, hidT_get e1 (B.clear scr tab e1 (fun us m z => ?_) fun z => ?_), r1, r2, r3, more⟩
    · rw [r2] at z
      cases z
    · rw [r2] at z
      cases z
      simp at r3
  · obtain ⟨m, ob, b1, b2, b3, b4, b5, b6⟩ := bm
    refine ⟨m, ob, b1, b2, fun e => ?_, fun e => ?_, hidT_get b3 (B.clear scr tab b3 (fun us n z => ?_) fun z => ?_), b4, b5, b6⟩
    · rw [e, g1] at b3
      cases b3
      rw [g2] at b6
      cases b6
    · rw [e, tab] at b3
      cases b3
      cases b6
    · rw [b6] at z
      cases z
    · rw [b6] at z
      cases z
  · intro e
    rw [e, tab] at g1
    cases g1
    cases g2
/-- the call, from such an abstract heap -/
theorem begin_run (inK : K.In st.heap) (gl : st.heap.Ns mainGlobals mg) (bl : st.heap.Ns builtinsNs mb) (blb : ∀ y : Str, y ≠ "__name__" → mb y = bootBuiltins y) (noLim : st.heap.NoLimit) (gens : st.gens = #[])
    (tab : st.heap.get? Pt = some emptyO) (nT : K.lookup Pt = none) (C : PySem.W.CodeHd st.heap ct Pt)
    (bm : ∃ (m : Addr) (ob : Obj), mg "__builtins__" = some (.ref m) ∧ m ≠ builtinsNs ∧ st.heap.get? m = some ob ∧ ob.cls = .type "module" ∧ ob.dict = some builtinsNs ∧ ob.data = .plain)
    (scr : st.heap.get? a = some { cls := .type "list", data := .seq vs.toArray }) (room : Room k callerA)
    (F : ∀ base : Heap, K.In base → base.Ns mainGlobals mg → TabB base mg ct Pt → FnOkG P w K mg base k fa fd [x] sp) (bnd : ∀ (s : Shared) (u : Value), BindsTo s fd ⟨[u], []⟩ [(x, u)])
    (B : Begin G a Pt) (ok : HOk P w G st.heap) (out : G a ≠ none → K.lookup a = none) (want : sp [.ref a] G (fun v _ => v = .bl true) fun _ _ _ => False) :
    codeAny (model P w) callerA (.call (.ref fa) ⟨[.ref a], []⟩) (fun r s' => r = .ok (.ret (.bool true)) ∧ OldK st.heap s'.heap ∧ s'.os = st.os ∧ AllBare s'.gens) st := by
  have inB : K.In (hidT st.heap G) := fun b o q => hidT_get (inK b o q) (by
    cases z : G b with
    | none => rfl
    | some u =>
      exfalso
      by_cases e1 : b = a
      · rw [e1] at q z
        rw [out (by rw [z]; simp)] at q
        cases q
      · by_cases e2 : b = Pt
        · rw [e2, nT] at q
          cases q
        · rw [B.only b e1 e2] at z
          cases z)
  have nsB := B.spaces scr tab gl
  have hm : L2.Mod K mg (hidT st.heap G) := ⟨inB, nsB, ⟨mb, B.spaces scr tab bl, blb⟩, let ⟨mc, h1, h2⟩ := noLim; ⟨mc, B.spaces scr tab h1, h2⟩⟩
  have e0 : Env0 P w K mg (hidT st.heap G) callerA [] st G := ⟨rfl, hm, fun b o q => of_hidT q, Nat.le_of_eq (hidT_size _ _), trivial, fun b hb => absurd (show b ∈ ([] : List Addr) from hb) (by simp), ok, .of_eq gens⟩
  refine codeAny_mono ((F _ inB nsB (B.table scr tab gl C bm)).go callerA [] st G ⟨[.ref a], []⟩ [.ref a] [.ref a] _ _ room rfl e0 (bnd st (.ref a)) (.cons rfl .nil) want) fun r s' h => ?_
  cases r with
  | error e => exact False.elim h
  | ok fl =>
    cases fl with
    | next => exact False.elim h
    | brk => exact False.elim h
    | cont => exact False.elim h
    | ret u =>
      obtain ⟨v, G', os, bare, un, ok', r', q⟩ := h
      have q2 : v = .bl true := q
      subst q2
      have u2 : u = Value.bool true := r'
      subst u2
      obtain ⟨more, tg⟩ := un.tbls Pt #[] B.tb
      have grown : s'.heap.get? Pt = some { cls := .none, data := .fields (#[] ++ more) } := ok' Pt _ tg
      have old : ∀ b o, b ≠ Pt → st.heap.get? b = some o → s'.heap.get? b = some o := fun b o nb e => by
        rcases B.sort b nb with z | ⟨ob, xs, z⟩
        · exact un.keep b o e z (by intro y; exact absurd (show b ∈ ([] : List Addr) from y) (by simp)) (by simp)
        · have f1 := (ok b _ z).1
          have f2 := (ok' b _ (un.frzs b ob _ z)).1
          rw [e] at f1
          cases f1
          exact f2
      refine ⟨rfl, ⟨fun b o e => ?_, fun b o e => ?_⟩, os, bare⟩
      · by_cases hb : b = Pt
        · rw [hb, tab] at e
          cases e
          rw [hb]
          exact .inr (.inl ⟨(C.tab tab).isCodeTable, rfl, #[], more, rfl, grown⟩)
        · exact .inl (old b o hb e)
      · by_cases hb : b = Pt
        · rw [hb]
          exact ⟨_, grown⟩
        · exact ⟨o, old b o hb e⟩
/-- the law's call -/
theorem law_callGT (inK : K.In st.heap) (gl : st.heap.Ns mainGlobals mg) (bl : st.heap.Ns builtinsNs mb) (blb : ∀ y : Str, y ≠ "__name__" → mb y = bootBuiltins y) (noLim : st.heap.NoLimit) (gens : st.gens = #[])
    (tab : st.heap.get? Pt = some emptyO) (nT : K.lookup Pt = none) (C : PySem.W.CodeHd st.heap ct Pt)
    (bm : ∃ (m : Addr) (ob : Obj), mg "__builtins__" = some (.ref m) ∧ m ≠ builtinsNs ∧ st.heap.get? m = some ob ∧ ob.cls = .type "module" ∧ ob.dict = some builtinsNs ∧ ob.data = .plain)
    (scr : st.heap.get? a = some { cls := .type "list", data := .seq vs.toArray }) (isI : IntsAre vs ns) (few : ns.length ≤ sizeLine) (room : Room k callerA)
    (F : ∀ base : Heap, K.In base → base.Ns mainGlobals mg → TabB base mg ct Pt → FnOkG P w K mg base k fa fd [x] sp) (bnd : ∀ (s : Shared) (u : Value), BindsTo s fd ⟨[u], []⟩ [(x, u)])
    (want : ∀ G : Hp, G Pt = some (.tbl #[]) → SqL K G a (ns.map V.int) → sp [.ref a] G (fun v _ => v = .bl true) fun _ _ _ => False) :
    codeAny (model P w) callerA (.call (.ref fa) ⟨[.ref a], []⟩) (fun r s' => r = .ok (.ret (.bool true)) ∧ OldK st.heap s'.heap ∧ s'.os = st.os ∧ AllBare s'.gens) st := by
  have rel := vals_ints isI
  have lens := isI.length
  have ap : a ≠ Pt := fun e => by
    rw [e, tab] at scr
    cases scr
  cases hk : K.lookup a with
  | none =>
    have fr : ∀ b, (if b = Pt then some (HO.tbl #[]) else if b = a then some (HO.frz { cls := .type "list", data := .seq vs.toArray } (.lst (ns.map V.int))) else none) = (fun b => if b = Pt then some (HO.tbl #[]) else if b = a then some (HO.frz { cls := .type "list", data := .seq vs.toArray } (.lst (ns.map V.int))) else none) b := fun _ => rfl
    have atA : (fun b : Addr => if b = Pt then some (HO.tbl #[]) else if b = a then some (HO.frz { cls := .type "list", data := .seq vs.toArray } (.lst (ns.map V.int))) else none) a = some (HO.frz { cls := .type "list", data := .seq vs.toArray } (.lst (ns.map V.int))) := (if_neg ap).trans (if_pos rfl)
    refine begin_run (G := fun b => if b = Pt then some (.tbl #[]) else if b = a then some (.frz { cls := .type "list", data := .seq vs.toArray } (.lst (ns.map V.int))) else none) inK gl bl blb noLim gens tab nT C bm scr room F bnd
      ⟨if_pos rfl, fun b nb => ?_, fun b n1 n2 => (if_neg n2).trans (if_neg n1)⟩ (fun b u z => ?_) (fun _ => hk) (want _ (if_pos rfl) (.inl (.inr ⟨_, atA⟩)))
    · by_cases e : b = a
      · exact .inr ⟨_, _, (if_neg nb).trans (if_pos e)⟩
      · exact .inl ((if_neg nb).trans (if_neg e))
    · by_cases e : b = Pt
      · have z2 := (if_pos e).symm.trans z
        cases z2
        rw [e]
        exact tab
      · have z1 := (if_neg e).symm.trans z
        by_cases e2 : b = a
        · have z2 := (if_pos e2).symm.trans z1
          cases z2
          subst e2
          exact ⟨scr, by rw [List.length_map]; exact few, vs, _, rel, scr⟩
        · have z2 := (if_neg e2).symm.trans z1
          cases z2
  | some o =>
    have e := inK a o hk
    rw [scr] at e
    cases e
    refine begin_run (G := fun b => if b = Pt then some (.tbl #[]) else none) inK gl bl blb noLim gens tab nT C bm scr room F bnd ⟨if_pos rfl, fun b nb => .inl (if_neg nb), fun b _ n2 => if_neg n2⟩ (fun b u z => ?_) (fun z => absurd (if_neg ap) z)
      (want _ (if_pos rfl) (.inr ⟨_, vs.toArray, _, hk, rfl, rfl, rfl, ?_, by simpa using rel⟩))
    · by_cases e : b = Pt
      · have z2 := (if_pos e).symm.trans z
        cases z2
        rw [e]
        exact tab
      · have z2 := (if_neg e).symm.trans z
        cases z2
    · rw [List.size_toArray, lens]
      exact few
end
/-- a law's end, over a head by facts with a table -/
theorem walk_ofGT {l : PySem.W.OpenLaw} {n k : Nat} {q : Program} {loose : List Str} {XP : (Str → Option Value) → Heap → Prop} {YP : World → Heap → Prop} {d : DefRec} {x : Str}
    (most : l.most = some n) (fits : n ≤ sizeLine) (plain : d.params.defaults = []) (room : Room k callerA)
    (F : ∀ (w : World) (mg : Str → Option Value) (fa : Addr) (h : Heap), YP w h → h.Ns mainGlobals mg → mg d.name = some (.ref fa) →
      ∃ (K : PySem.W.Frag) (fd : FuncData) (sp : Sp) (ct Pt : Addr), K.In h ∧ h.get? Pt = some emptyO ∧ K.lookup Pt = none ∧ PySem.W.CodeHd h ct Pt ∧ (∀ (s : Shared) (u : Value), BindsTo s fd ⟨[u], []⟩ [(x, u)]) ∧
        (∀ (G : Hp) (a : Addr) (ns : List Int), ns.length ≤ n → G Pt = some (.tbl #[]) → SqL K G a (ns.map V.int) → sp [.ref a] G (fun v _ => v = .bl true) fun _ _ _ => False) ∧
        ∀ base : Heap, K.In base → base.Ns mainGlobals mg → TabB base mg ct Pt → FnOkG l.prog w K mg base k fa fd [x] sp) :
    PySem.W.WalkO q loose XP YP l.row.toRowW d [] (fun f vs => PySem.call f vs) := by
  refine Att.attach_call most plain fun w s0 s1 mg mb fa o pm cd doc a vs ns G Y ho hd hcd hmg hobj hints hlen hg => ?_
  obtain ⟨K, fd, sp, ct, Pt, KX, tab, nT, C, hb, hsp, hF⟩ := F w mg fa _ Y G.T.g hmg
  exact law_callGT KX G.T.g G.T.b G.T.builtins G.T.nolimit hg tab nT C G.T.bmain hobj hints (Nat.le_trans hlen fits) room hF hb fun H hP hS => hsp H a ns hlen hP hS
end KV

/-! the end -/
namespace KV
open PySem PySem.Spec PyProof.Rows L2 He LamX
section
variable {P : Program} {w : World} {K : PySem.W.Frag} {mg : Str → Option Value} {base : Heap} {Z : CXT} {k : Nat} {x : Str} {st : Stmt} {f : Addr} {fd : FuncData} {ps ks : List Str} {sp : Sp}
theorem mkCal (F : Fun K x x st f fd) (ok : FnOk P w K mg base Z k f fd ps sp) (g : mg x = some (.ref f))
    (h : ∀ (kV doc pm : Value) (an : Option Addr) (cdv ct : Value) (us : List Value), us.length = ps.length → bindArgs (PySem.W.fnOf x x (defArgs st) (defBody st) (defScope st) .none kV doc pm an cdv ct) ⟨us, []⟩ = pure (ps.zip us)) :
    Cal P w K mg base Z k x ps sp := ⟨_, _, ok, g, F.kp, F.binds h⟩
theorem mkCalK {b : Bool} (F : Fun K x x st f fd) (ok : FnOk P w K mg base Z k f fd ps sp) (g : mg x = some (.ref f))
    (h : ∀ (kV doc pm : Value) (an : Option Addr) (cdv ct : Value) (us : List Value), us.length = ps.length → bindArgs (PySem.W.fnOf x x (defArgs st) (defBody st) (defScope st) .none kV doc pm an cdv ct) ⟨[], ks.zip us⟩ = pure (ps.zip (rv b us))) :
    CalK P w K mg base Z k x ps ks b sp := ⟨_, _, ok, g, F.kp, KB.mk F h⟩
end
/-! the hook: facts, defs, one more look, defs whose tables are empty -/
structure TabF (K : PySem.W.Frag) (h : Heap) (p : Defn) : Prop where
  hd : PySem.W.codeHdIn K (cT K p).1 (cT K p).2 = true
  out : K.lookup (cT K p).2 = none
  empty : h.get? (cT K p).2 = some emptyO
def obsW (n : Nat) (fa : List Fa) (fn : List FnD) (ex : PySem.W.Frag → Bool) (tf : List Defn) (g : Addr → Option Obj) : Al × Bool := (obsE fa fn (frT g (asG g n)), ex (frT g (asG g n)) && tabsB g tf (frT g (asG g n)))
theorem tabF_of {h : Heap} {as : List Addr} {tf : List Defn} (e : tabsB h.get? tf (frT h.get? as) = true) : ∀ p ∈ tf, TabF (frT h.get? as) h p := fun p hp => by
  obtain ⟨h3, h4⟩ := ba (List.all_eq_true.mp e p hp)
  cases q : h.get? (cT (frT h.get? as) p).2 with
  | none =>
    rw [q] at h4
    cases h4
  | some o =>
    rw [q] at h4
    exact ⟨h3, frT_none q h4, by rw [q, emptyTab_eq h4]; rfl⟩
def hookW (n : Nat) (fa : List Fa) (fn : List FnD) (ex : PySem.W.Frag → Bool) (tf : List Defn) : PySem.W.Hook where
  α := Al × Bool
  obs := fun s => obsW n fa fn ex tf s.heap.get?
  val := fun _ => (valE fn, true)
  says := fun _ h => ∃ K : PySem.W.Frag, K.In h ∧ SaysE fa fn K ∧ ex K = true ∧ ∀ p ∈ tf, TabF K h p
  of := fun _ _ e => ⟨_, frT_in, congrArg (fun z : Al × Bool => z.1) e, (ba (congrArg (fun z : Al × Bool => z.2) e)).1, tabF_of (ba (congrArg (fun z : Al × Bool => z.2) e)).2⟩
  keeps := fun _ _ _ ⟨K, hK, c, d, t⟩ k => ⟨K, PySem.W.Frag.In.keeps hK k, c, d, fun p hp => ⟨(t p hp).hd, (t p hp).out, k _ _ (t p hp).empty⟩⟩
theorem obsW_eq {n : Nat} {fa : List Fa} {fn : List FnD} {ex : PySem.W.Frag → Bool} {tf : List Defn} {g : Addr → Option Obj} {s : Shared} (h : ∀ a, g a = s.heap.get? a) : obsW n fa fn ex tf g = (hookW n fa fn ex tf).obs s := by
  have e : g = s.heap.get? := funext h
  rw [e] <;> rfl
def gN : List Str := (["is_integer", "is_below", "is_change", "checked_change", "_check_alone", "_check_two", "composed", "undone", "round_from", "_cycles", "raised", "order_of", "commute"] : List Str) ++ (["looped", "split_looped", "followed", "back", "power", "order", "change_places", "loop", "split_loop", "_law_draw", "_law_any", "_law_of"] : List Str) ++ (["_law_mixed", "_law_then", "_law_back", "_law_power", "_law_refused", "_law_count", "_law_bad", "_law_wrong_right", "law", "InvalidChange"] : List Str)
def fN : List Str := ["isinstance", "int", "bool", "tuple", "list", "set", "len", "range", "all", "abs", "repr", "zip", "enumerate"]
def fa3 : List Fa := gN.map Fa.glo ++ fN.map Fa.free
def dI : FnD := ⟨("InvalidChange", some "__init__"), "__init__", "InvalidChange.__init__", PySem.LowX.iA ⟨7, 17, 7, 21⟩ ⟨7, 23, 7, 25⟩, PySem.LowX.iB ⟨8, 8, 8, 12⟩ ⟨8, 8, 8, 15⟩ ⟨8, 18, 8, 20⟩ ⟨8, 8, 8, 20⟩, PySem.LowX.iS⟩
def fn3 : List FnD := [dI, dTop "is_integer" (top 5), dTop "is_below" (top 6), dTop "is_change" (top 8), dTop "checked_change" (top 9), dTop "_check_alone" (top 10), dTop "_check_two" (top 11), dTop "composed" (top 12), dTop "undone" (top 13), dTop "_cycles" (top 15), dTop "raised" (top 16), dTop "order_of" (top 17), dTop "commute" (top 18), dTop "looped" (top 19), dTop "split_looped" (top 20), dTop "followed" (top 21), dTop "back" (top 22), dTop "power" (top 23), dTop "order" (top 24), dTop "change_places" (top 25), dTop "loop" (top 26), dTop "split_loop" (top 27), dTop "_law_draw" (top 29), dTop "_law_any" (top 30), dTop "_law_of" (top 31), dTop "_law_mixed" (top 32), dTop "_law_then" (top 33), dTop "_law_back" (top 34), dTop "_law_power" (top 35), dTop "_law_refused" (top 36), dTop "_law_count" (top 37), dTop "_law_bad" (top 38), dTop "_law_wrong_right" (top 39), dTop "law" (top 40), dTop "round_from" (top 14)]
def ex3 (K : PySem.W.Frag) : Bool := lowB K "InvalidChange" && bltB K "lcm" "math.lcm"
def tf3 : List Defn := [("_law_wrong_right", none)]
theorem factG {K : PySem.W.Frag} (c : SaysE fa3 fn3 K) {f : Fa} (hf : f ∈ fa3) : f.ok K = true := by
  have c1 := (ba (show ((fa3.all fun f => f.ok K) && fn3.all fun d => (Fa.code d.at_ d.qual).ok K) = true from congrArg (fun z : Al => z.1) c)).1
  exact List.all_eq_true.mp c1 f hf
theorem mem_g {x : Str} (h : x ∈ gN) : Fa.glo x ∈ fa3 := List.mem_append_left _ (List.mem_map_of_mem h)
theorem mem_f {x : Str} (h : x ∈ fN) : Fa.free x ∈ fa3 := List.mem_append_right _ (List.mem_map_of_mem h)
theorem end3 {P : Program} {w : World} {K : PySem.W.Frag} {h : Heap} {mg : Str → Option Value} {f : Addr} (X : K.In h) (G : h.Ns mainGlobals mg) (hfa : mg ("law" : Str) = some (.ref f)) (c : SaysE fa3 fn3 K) (b : ex3 K = true) (tb : ∀ p ∈ tf3, TabF K h p) :
    ∃ (fd : FuncData) (ct Pt : Addr), h.get? Pt = some emptyO ∧ K.lookup Pt = none ∧ PySem.W.CodeHd h ct Pt ∧ (∀ (s : Shared) (u : Value), BindsTo s fd ⟨[u], []⟩ [("_law_script", u)]) ∧ ∀ base : Heap, K.In base → base.Ns mainGlobals mg → TabB base mg ct Pt → FnOkG P w K mg base 11 f fd ["_law_script"] (spLaw K Pt) := by
  obtain ⟨b1, b2⟩ := ba b
  have g : ∀ x : Str, x ∈ gN → mg x = some (.ref (ga K x)) := fun x hx => glo_ok X G (factG c (mem_g hx))
  have fr : ∀ x : Str, x ∈ fN → mg x = none := fun x hx => free_ok X G (factG c (mem_f hx))
  have B : Bl mg := ⟨fr _ (by decide), fr _ (by decide), fr _ (by decide), fr _ (by decide), fr _ (by decide), fr _ (by decide), fr _ (by decide), fr _ (by decide), fr _ (by decide), fr _ (by decide), fr _ (by decide), fr _ (by decide), fr _ (by decide), bltB_ok X G b2⟩
  have T : PySem.LowX.LowTxt K mg "InvalidChange" "InvalidChange.__init__" (ga K "InvalidChange") (ma K (ga K "InvalidChange") "__init__") := low_of X G (d := dI) rfl (saysFn c 0 rfl).1 (saysFn c 0 rfl).2 (factG c (mem_g (by decide))) b1
  obtain ⟨fd2, F2⟩ := saysFun c 1 rfl
  obtain ⟨fd3, F3⟩ := saysFun c 2 rfl
  obtain ⟨fd8, F8⟩ := saysFun c 3 rfl
  obtain ⟨fd9, F9⟩ := saysFun c 4 rfl
  obtain ⟨fd10, F10⟩ := saysFun c 5 rfl
  obtain ⟨fd11, F11⟩ := saysFun c 6 rfl
  obtain ⟨fd12, F12⟩ := saysFun c 7 rfl
  obtain ⟨fd13, F13⟩ := saysFun c 8 rfl
  obtain ⟨fd14, F14⟩ := saysFun c 9 rfl
  obtain ⟨fd15, F15⟩ := saysFun c 10 rfl
  obtain ⟨fd16, F16⟩ := saysFun c 11 rfl
  obtain ⟨fd17, F17⟩ := saysFun c 12 rfl
  obtain ⟨fd18, F18⟩ := saysFun c 13 rfl
  obtain ⟨fd19, F19⟩ := saysFun c 14 rfl
  obtain ⟨fd20, F20⟩ := saysFun c 15 rfl
  obtain ⟨fd21, F21⟩ := saysFun c 16 rfl
  obtain ⟨fd22, F22⟩ := saysFun c 17 rfl
  obtain ⟨fd23, F23⟩ := saysFun c 18 rfl
  obtain ⟨fd24, F24⟩ := saysFun c 19 rfl
  obtain ⟨fd25, F25⟩ := saysFun c 20 rfl
  obtain ⟨fd26, F26⟩ := saysFun c 21 rfl
  obtain ⟨fd28, F28⟩ := saysFun c 22 rfl
  obtain ⟨fd29, F29⟩ := saysFun c 23 rfl
  obtain ⟨fd30, F30⟩ := saysFun c 24 rfl
  obtain ⟨fd31, F31⟩ := saysFun c 25 rfl
  obtain ⟨fd32, F32⟩ := saysFun c 26 rfl
  obtain ⟨fd33, F33⟩ := saysFun c 27 rfl
  obtain ⟨fd34, F34⟩ := saysFun c 28 rfl
  obtain ⟨fd35, F35⟩ := saysFun c 29 rfl
  obtain ⟨fd36, F36⟩ := saysFun c 30 rfl
  obtain ⟨fd37, F37⟩ := saysFun c 31 rfl
  obtain ⟨fd38, F38⟩ := saysFun c 32 rfl
  obtain ⟨fd39, F39⟩ := saysFun c 33 rfl
  obtain ⟨fdRF, FRF⟩ := saysFun c 34 rfl
  have e := hfa.symm.trans (g "law" (by decide))
  cases e
  have bL : ∀ (s : Shared) (u : Value), BindsTo s fd39 ⟨[u], []⟩ [("_law_script", u)] := by
    obtain ⟨oc, od, kV, doc, pm, an, cdv, ct, osl, rfl, lk, hcd⟩ := F39.ex
    exact fun s u => .of_eq rfl
  have t1 := tb ("_law_wrong_right", none) (List.mem_singleton.mpr rfl)
  have hco : fd38.code = .ref (cT K ("_law_wrong_right", none)).1 := by
    obtain ⟨oc, od, kV, doc, pm, an, cdv, ct, osl, rfl, lk, hcd⟩ := F38.ex
    obtain ⟨cc, e⟩ := codeIn_ref hcd
    have e2 : codeOf K ("_law_wrong_right", none) = cc := codeOf_eq (p := ("_law_wrong_right", none)) lk e
    show cdv = .ref (codeOf K ("_law_wrong_right", none))
    rw [e2]
    exact e
  refine ⟨fd39, (cT K ("_law_wrong_right", none)).1, (cT K ("_law_wrong_right", none)).2, t1.empty, t1.out, PySem.W.codeHd_of_K X t1.hd, bL, fun base _ _ TB => ?_⟩
  have o2 := ok_isInt (P := P) (w := w) (base := base) B F2
  have c2 := mkCal (P := P) (w := w) (base := base) F2 o2 (g _ (by decide)) fun _ _ _ _ _ _ us hl => match us, hl with | [_], _ => rfl
  have o3 := ok_below (P := P) (w := w) (base := base) c2 F3
  have c3 := mkCal (P := P) (w := w) (base := base) F3 o3 (g _ (by decide)) fun _ _ _ _ _ _ us hl => match us, hl with | [_, _], _ => rfl
  have o8 := ok_isCh B c3 F8
  have c8 := mkCal (P := P) (w := w) (base := base) F8 o8 (g _ (by decide)) fun _ _ _ _ _ _ us hl => match us, hl with | [_, _], _ => rfl
  have o9 := ok_chk T c8 F9
  have c9 := mkCal (P := P) (w := w) (base := base) F9 o9 (g _ (by decide)) fun _ _ _ _ _ _ us hl => match us, hl with | [_, _], _ => rfl
  have o10 := ok_alone B T c9 F10
  have c10 := mkCal (P := P) (w := w) (base := base) F10 o10 (g _ (by decide)) fun _ _ _ _ _ _ us hl => match us, hl with | [_], _ => rfl
  have o11 := ok_two B c10 c9 F11
  have c11 := mkCal (P := P) (w := w) (base := base) F11 o11 (g _ (by decide)) fun _ _ _ _ _ _ us hl => match us, hl with | [_, _], _ => rfl
  have o12 := ok_comp (P := P) (w := w) (base := base) B F12
  have c12 := mkCal (P := P) (w := w) (base := base) F12 o12 (g _ (by decide)) fun _ _ _ _ _ _ us hl => match us, hl with | [_, _], _ => rfl
  have o13 := ok_und (P := P) (w := w) (base := base) B F13
  have c13 := mkCal (P := P) (w := w) (base := base) F13 o13 (g _ (by decide)) fun _ _ _ _ _ _ us hl => match us, hl with | [_], _ => rfl
  have oRF := ok_rf (P := P) (w := w) (mg := mg) (base := base) FRF
  have cRF := mkCal (P := P) (w := w) (base := base) FRF oRF (g _ (by decide)) fun _ _ _ _ _ _ us hl => match us, hl with | [_, _], _ => rfl
  have o14 := ok_cyc B cRF F14
  have c14 := mkCal (P := P) (w := w) (base := base) F14 o14 (g _ (by decide)) fun _ _ _ _ _ _ us hl => match us, hl with | [_], _ => rfl
  have o15 := ok_rai B c14 F15
  have c15 := mkCal (P := P) (w := w) (base := base) F15 o15 (g _ (by decide)) fun _ _ _ _ _ _ us hl => match us, hl with | [_, _], _ => rfl
  have o16 := ok_ord B c14 F16
  have c16 := mkCal (P := P) (w := w) (base := base) F16 o16 (g _ (by decide)) fun _ _ _ _ _ _ us hl => match us, hl with | [_], _ => rfl
  have o17 := ok_com c12 F17
  have c17 := mkCal (P := P) (w := w) (base := base) F17 o17 (g _ (by decide)) fun _ _ _ _ _ _ us hl => match us, hl with | [_, _], _ => rfl
  have o18 := ok_loo c12 c15 F18
  have c18 := mkCal (P := P) (w := w) (base := base) F18 o18 (g _ (by decide)) fun _ _ _ _ _ _ us hl => match us, hl with | [_, _, _], _ => rfl
  have o19 := ok_spl c12 c15 F19
  have c19 := mkCal (P := P) (w := w) (base := base) F19 o19 (g _ (by decide)) fun _ _ _ _ _ _ us hl => match us, hl with | [_, _, _], _ => rfl
  have o20 := ok_Fol c11 c12 F20
  have c20 := mkCal (P := P) (w := w) (base := base) F20 o20 (g _ (by decide)) fun _ _ _ _ _ _ us hl => match us, hl with | [_, _], _ => rfl
  have o21 := ok_Bk c10 c13 F21
  have c21 := mkCal (P := P) (w := w) (base := base) F21 o21 (g _ (by decide)) fun _ _ _ _ _ _ us hl => match us, hl with | [_], _ => rfl
  have o22 := ok_Pw c10 c15 F22
  have c22 := mkCal (P := P) (w := w) (base := base) F22 o22 (g _ (by decide)) fun _ _ _ _ _ _ us hl => match us, hl with | [_, _], _ => rfl
  have o23 := ok_Or c10 c16 F23
  have c23 := mkCal (P := P) (w := w) (base := base) F23 o23 (g _ (by decide)) fun _ _ _ _ _ _ us hl => match us, hl with | [_], _ => rfl
  have o24 := ok_Cp c11 c17 F24
  have c24 := mkCal (P := P) (w := w) (base := base) F24 o24 (g _ (by decide)) fun _ _ _ _ _ _ us hl => match us, hl with | [_, _], _ => rfl
  have o25 := ok_Lp c11 c18 F25
  have c25 := mkCal (P := P) (w := w) (base := base) F25 o25 (g _ (by decide)) fun _ _ _ _ _ _ us hl => match us, hl with | [_, _, _], _ => rfl
  have o26 := ok_Sp c11 c19 F26
  have c26 := mkCal (P := P) (w := w) (base := base) F26 o26 (g _ (by decide)) fun _ _ _ _ _ _ us hl => match us, hl with | [_, _, _], _ => rfl
  have o28 := ok_draw (P := P) (w := w) (base := base) B F28
  have c28 := mkCal (P := P) (w := w) (base := base) F28 o28 (g _ (by decide)) fun _ _ _ _ _ _ us hl => match us, hl with | [_, _], _ => rfl
  have o29 := ok_any (P := P) (w := w) (base := base) B F29
  have c29 := mkCal (P := P) (w := w) (base := base) F29 o29 (g _ (by decide)) fun _ _ _ _ _ _ us hl => match us, hl with | [_, _], _ => rfl
  have o30 := ok_of B c29 F30
  have c30 := mkCal (P := P) (w := w) (base := base) F30 o30 (g _ (by decide)) fun _ _ _ _ _ _ us hl => match us, hl with | [_, _], _ => rfl
  have o31 := ok_mixed B c29 F31
  have c31 := mkCal (P := P) (w := w) (base := base) F31 o31 (g _ (by decide)) fun _ _ _ _ _ _ us hl => match us, hl with | [_, _], _ => rfl
  have o32 := ok_then (P := P) (w := w) (base := base) B F32
  have c32 := mkCal (P := P) (w := w) (base := base) F32 o32 (g _ (by decide)) fun _ _ _ _ _ _ us hl => match us, hl with | [_, _], _ => rfl
  have o33 := ok_backL (P := P) (w := w) (base := base) B F33
  have c33 := mkCal (P := P) (w := w) (base := base) F33 o33 (g _ (by decide)) fun _ _ _ _ _ _ us hl => match us, hl with | [_], _ => rfl
  have o34 := ok_pwL B c32 c33 F34
  have c34 := mkCal (P := P) (w := w) (base := base) F34 o34 (g _ (by decide)) fun _ _ _ _ _ _ us hl => match us, hl with | [_, _], _ => rfl
  have o36 := ok_count c29 c30 F36
  have c36 := mkCal (P := P) (w := w) (base := base) F36 o36 (g _ (by decide)) fun _ _ _ _ _ _ us hl => match us, hl with | [_], _ => rfl
  have o37 := ok_bad B c30 F37
  have c37 := mkCal (P := P) (w := w) (base := base) F37 o37 (g _ (by decide)) fun _ _ _ _ _ _ us hl => match us, hl with | [_, _], _ => rfl
  have k9 := mkCalK (ks := ["value", "states"]) (b := true) F9 o9 (g _ (by decide)) fun _ _ _ _ _ _ us hl => match us, hl with | [_, _], _ => rfl
  have k20 := mkCalK (ks := ["other", "one"]) (b := true) F20 o20 (g _ (by decide)) fun _ _ _ _ _ _ us hl => match us, hl with | [_, _], _ => rfl
  have k21 := mkCalK (ks := ["change"]) (b := false) F21 o21 (g _ (by decide)) fun _ _ _ _ _ _ us hl => match us, hl with | [_], _ => rfl
  have k22 := mkCalK (ks := ["count", "change"]) (b := true) F22 o22 (g _ (by decide)) fun _ _ _ _ _ _ us hl => match us, hl with | [_, _], _ => rfl
  have k23 := mkCalK (ks := ["change"]) (b := false) F23 o23 (g _ (by decide)) fun _ _ _ _ _ _ us hl => match us, hl with | [_], _ => rfl
  have k24 := mkCalK (ks := ["other", "one"]) (b := true) F24 o24 (g _ (by decide)) fun _ _ _ _ _ _ us hl => match us, hl with | [_, _], _ => rfl
  have k25 := mkCalK (ks := ["count", "other", "one"]) (b := true) F25 o25 (g _ (by decide)) fun _ _ _ _ _ _ us hl => match us, hl with | [_, _, _], _ => rfl
  have k26 := mkCalK (ks := ["count", "other", "one"]) (b := true) F26 o26 (g _ (by decide)) fun _ _ _ _ _ _ us hl => match us, hl with | [_, _, _], _ => rfl
  have c38 := mkCal (P := P) (w := w) (base := base) F38 (ok_wrong B T ⟨_, _, F35, g _ (by decide)⟩ c21 c22 c23 c9 c20 c24 c25 c26 F38 hco TB) (g _ (by decide)) fun _ _ _ _ _ _ us hl => match us, hl with | [_, _, _], _ => rfl
  exact ok_law B c28 c29 c31 c36 c32 c33 c34 c37 c38 c22 c20 c24 k9 k20 k21 k22 k23 k24 k25 k26 F39
abbrev R3 : PySem.W.OpenRow := PySem.W.OpenLaw.row PySem.Challenge.rw_batchnumbers_k03_powers_and_loops
abbrev hk3 : PySem.W.Hook := hookW 5 fa3 fn3 ex3 tf3
def ob3 (s : PySem.W.SharedT) : Al × Bool := obsW 5 fa3 fn3 ex3 tf3 (HandSHeadRun.getT s)
theorem ob3_eq (s : PySem.W.SharedT) : ob3 s = hk3.obs s.abs := obsW_eq (HandSHeadRun.getT_eq s)
def loose3 : List Str := (["is_integer", "is_below", "BatchError", "InvalidChange", "is_change", "checked_change", "_check_alone", "_check_two", "composed", "undone", "round_from", "_cycles", "raised"] : List Str) ++ (["order_of", "commute", "looped", "split_looped", "followed", "back", "power", "order", "change_places", "loop", "split_loop", "_law_draw"] : List Str) ++ (["_law_any", "_law_of", "_law_mixed", "_law_then", "_law_back", "_law_power", "_law_refused", "_law_count", "_law_bad", "_law_wrong_right"] : List Str)
theorem run3 (w : World) : HandSHeadRun.RunEqI R3 (PySem.W.view R3.prog [0, 40]) hk3 ob3 6000 loose3 w := by
  unfold HandSHeadRun.RunEqI
  kernel_rfl
end KV
open PySem PySem.W PySem.Calls PyProof.Rows
set_option maxRecDepth 100000 in
set_option maxHeartbeats 8000000 in
theorem PySem.Challenge.cw_batchnumbers_k03_powers_and_loops_holds : PySem.Challenge.rw_batchnumbers_k03_powers_and_loops.Holds := by
  w_on; o_law
  refine HandSHeadRun.head_imp (r := OpenLaw.row PySem.Challenge.rw_batchnumbers_k03_powers_and_loops) (q := view (OpenLaw.row PySem.Challenge.rw_batchnumbers_k03_powers_and_loops).prog [0, 40]) (H := KV.hk3) (ob := KV.ob3) (M := 6000) (loose := KV.loose3) (d := HandSHeadRun.topDef (OpenLaw.row PySem.Challenge.rw_batchnumbers_k03_powers_and_loops).prog 40) (kwd := []) KV.ob3_eq
    KV.run3 (by kernel_rfl) (by kernel_rfl) (by kernel_rfl) (by rfl) (by first | assumption | decide +kernel) (by decide +kernel) ⟨rfl, rfl, rfl, rfl, rfl, by decide +kernel⟩ ?hw ?hc
  case hw => w_witness2
  case hc =>
    refine KV.walk_ofGT (l := PySem.Challenge.rw_batchnumbers_k03_powers_and_loops) (n := 63) (k := 11) (x := "_law_script") rfl (by decide) (by kernel_rfl) ⟨rfl, by decide, by decide⟩ ?F
    intro w mg fa h Y G hmg0
    obtain ⟨K, KX, c, b, tb⟩ := Y
    have hmg : mg ("law" : PySem.Str) = some (.ref fa) := by
      have e : (HandSHeadRun.topDef (OpenLaw.row PySem.Challenge.rw_batchnumbers_k03_powers_and_loops).prog 40).name = ("law" : PySem.Str) := by kernel_rfl
      rw [← e]
      exact hmg0
    obtain ⟨fd, ct, Pt, t1, t2, t3, hb, hF⟩ := KV.end3 (P := (PySem.Challenge.rw_batchnumbers_k03_powers_and_loops).prog) (w := w) KX G hmg c b tb
    exact ⟨K, fd, KV.spLaw K Pt, ct, Pt, KX, t1, t2, t3, hb, fun H a ns _ hP hS => ⟨a, ns, rfl, hS, hP, fun _ => rfl⟩, hF⟩
