import PyProof.Rows.All
import Wide.All
import OpenK.AllK
import Wide.FinOn
import PyProof.EqAt
import PyProof.EqKinds
import PyProof.TupleCall
import PySem.Challenge.RW_batchnumbers_k40_whole_far_counts
import HandS.ForMost
import HandS.ForExc
import HandS.Wide
import HandS.WideMore
import HandS.WideBits
import HandS.Gcd
import HandS.IsInst
import HandS.SortInts
import HandS.Flow
import HandS.Style
import HandS.RaiseMore
import HandS.TupAny
import KE.GoesMore
import KE.KMathGC
import HandS.More
import HandS.Conv
import HandS.ExcOwn
import HandS.SetFor
import HandS.Zip
import HandS.TupMul
import HandS.Lambda
import HandS.HeadEnd
import HandS.HeadHook1
import HandS.HeadHook2
import HandS.Head0
import HandS.Head1
import HandS.Head2
import HandS.Head3
import HandS.HeadHook3
import HandS.HeadHook4
set_option Elab.async false
set_option linter.all false
set_option maxRecDepth 100000
set_option maxHeartbeats 4000000
/-! rules of our own over the hand layer -/
namespace KV
open PySem PySem.Spec PyProof.Rows L2
/-- a def of the module, by its name: it stands there and keeps a promise -/
def Cal (P : Program) (w : World) (K : PySem.W.Frag) (mg : Str → Option Value) (base : Heap) (Z : CXT) (k : Nat) (x : Str) (ps : List Str) (sp : Sp) : Prop :=
  ∃ (f : Addr) (fd : FuncData), FnOk P w K mg base Z k f fd ps sp ∧ mg x = some (.ref f) ∧ PySem.W.keepIn K (.ref f) = true ∧ Binds K fd ps []
section
variable {X : Cx} {k j : Nat} {x : Str} {ps : List Str} {sp : Sp} {p pos : Pos} {e : Expr} {es : List Expr} {t : TA}
theorem pe_cal (C : Cal X.prog X.w X.K X.mg X.base CX0 k x ps sp) (hr : Room j X.A) (hj : k ≤ j) (ha : PA X (e :: es) t)
    (hg : Gl X x := by rfl) (hdb : (x == ("__debug__" : Str)) = false := by decide)
    (he : starEach (e :: es) X.env = (false, eval e X.env) :: starEach es X.env := by rfl)
    (hpl : (backTo pos (starEach es X.env)).any (·.1) = false := by rfl) :
    PE X (.Call (.Name x p) (e :: es) [] pos) (tCall sp [] E0 t) := by
  obtain ⟨f, fd, F, h1, h2, h3⟩ := C
  exact pe_call F (hr.mono hj) hg h1 h2 h3 .nil pass0 ha hdb he hpl
end

/-- repr of a truth value, of an int, of a tuple of ints -/
def rRepr (K : PySem.W.Frag) : List V → Hp → VK → Prop := fun xs H Q =>
  (∃ b : Bool, xs = [.bl b] ∧ Q (.str (if b then "True" else "False")) H) ∨ (∃ i : Int, xs = [.int i] ∧ i.natAbs.log2 < 1920 ∧ Q (.str (toString i)) H) ∨
  ∃ (a : Addr) (ns : List Int), xs = [.ref a] ∧ SqT K H a (ns.map V.int) ∧ (∀ n ∈ ns, n.natAbs.log2 < 1920) ∧ (PyData.tuple (ns.map PyData.int)).shown.length ≤ sizeLine ∧ Q (.str (PyData.tuple (ns.map PyData.int)).shown) H
theorem dp_ints {K : PySem.W.Frag} {H : Hp} : ∀ ns : List Int, DpAll K H (ns.map V.int) (ns.map PyData.int)
  | [] => .nil
  | n :: r => .cons (.int n) (dp_ints r)
theorem showAll_ints : ∀ ns : List Int, (∀ n ∈ ns, n.natAbs.log2 < 1920) → PyData.showableAll (ns.map PyData.int) = true
  | [], _ => rfl
  | n :: r, h => by
    have h1 := h n (by simp)
    have h2 := showAll_ints r fun m hm => h m (by simp [hm])
    simp only [List.map_cons, PyData.showableAll, PyData.showable, h2, h1, decide_true, Bool.and_self]
theorem noDict_ints : ∀ ns : List Int, PyData.hasDictAll (ns.map PyData.int) = false
  | [] => rfl
  | n :: r => by simp only [List.map_cons, PyData.hasDictAll, PyData.hasDict, noDict_ints r, Bool.or_self]
theorem depth_ints : ∀ ns : List Int, PyData.depthAll (ns.map PyData.int) = 0
  | [] => rfl
  | n :: r => by simp only [List.map_cons, PyData.depthAll, PyData.depth, depth_ints r, Nat.max_self]
theorem call_repr {X : Cx} (hg : X.A.guards = some []) (hu : X.A.units + 64 < cLine) : CallR X (.builtin "repr") (rRepr X.K) := by
  intro pins s σ H xs us Q I r h
  rcases h with ⟨b, rfl, q⟩ | ⟨i, rfl, hz, q⟩ | ⟨a, ns, rfl, hs, hb, hz, q⟩
  · obtain ⟨u, rfl, r1⟩ := vals1 r
    cases r1
    exact PySem.P.repr_of_bool ⟨.str _, H, I.tok _, ⟨_, rfl⟩, q⟩
  · obtain ⟨u, rfl, t, rfl⟩ := vals1 r
    exact PySem.P.repr_of_int hz ⟨.str _, H, I.tok _, ⟨_, rfl⟩, q⟩
  · obtain ⟨u, rfl, r1⟩ := vals1 r
    have r2 : RelV (.ref a) u := r1
    obtain ⟨as, rd⟩ := Dp.reads I (.tuple (ns.map PyData.int)) (.ref a) u (.tup hs (dp_ints ns)) r2
    cases r1
    refine repr_of_reads' rd (by simp only [PyData.showable]; exact showAll_ints ns hb) (fun z => ?_) hg (by simp only [PyData.depth, depth_ints]; omega) (fun _ _ z => z) (fun h' u tk kk => ?_) hz
    · simp only [PyData.hasDict, noDict_ints] at z
      exact absurd z Bool.false_ne_true
    · exact ⟨.str _, H, I.kept kk, ⟨_, rfl⟩, q⟩
end KV

/-! a def that is called where no repr is under way (the law's own def): the rule for its body, and the end -/
namespace KV
open PySem PySem.Spec PyProof.Rows L2
structure FnOkG (P : Program) (w : World) (K : PySem.W.Frag) (mg : Str → Option Value) (base : Heap) (k : Nat) (f : Addr) (fd : FuncData) (ps : List Str) (sp : Sp) : Prop where
  size : ∀ xs G R Z, sp xs G R Z → xs.length = ps.length
  go : ∀ (B : Around) (out : List Env) (st : Shared) (G : Hp) (ar : Args) (ws : List Value) (xs : List V) (R : VK) (Z : XK), Room k B → B.guards = some [] → Env0 P w K mg base B out st G →
    BindsTo st fd ar (ps.zip ws) → Vals xs ws → sp xs G R Z → codeAny (model P w) B (.call (.ref f) ar) (CR CX0 out P w G st R Z) st
theorem fn_ofG {P : Program} {w : World} {K : PySem.W.Frag} {mg : Str → Option Value} {base : Heap} {k : Nat} {f : Addr} {nm ql : Str} {pa : Arguments} {bo : List Stmt} {sc : Scope} {dv kv dc pm cd ct oc : Value} {an od : Option Addr}
    {sl : Array (Option Value)} {N ps : List Str} {sp : Sp} (there : K.lookup f = some ⟨oc, od, .func (PySem.W.fnOf nm ql pa bo sc dv kv dc pm an cd ct), sl⟩) (code : PySem.W.codeIn K cd ql = true) (S : FnScope N ps sc)
    (size : ∀ xs G R Z, sp xs G R Z → xs.length = ps.length)
    (bodyOk : ∀ (B : Around) (out : List Env) (st : Shared) (G : Hp) (xs : List V) (R : VK) (Z : XK), Room k (B.deeper (envOfC ql sc st.heap.objs.size f cd)) → B.guards = some [] → sp xs G R Z →
      ∃ t, PSs (cxOf CX0 P w K mg base N ql sc f cd B out st G Z) bo t ∧ t { nx := fun _ G' => R .non G', rt := R } (start N xs) G) :
    FnOkG P w K mg base (k + 1) f (PySem.W.fnOf nm ql pa bo sc dv kv dc pm an cd ct) ps sp := by
  constructor
  · exact size
  intro B out st G ar ws xs R Z room gd e0 bnd rel want
  have len := size _ _ _ _ want
  have inK : K.In st.heap := e0.mod.kin.keeps fun b o q => (e0.bs b o q).1
  have noLim : st.heap.NoLimit := e0.mod.nolimit.keeps fun b o q => (e0.bs b o q).1
  have kinds : ∀ y ∈ ps.zip ws, sc.names.lookup y.1 = some .local ∨ (sc.names.lookup y.1 = some .cell ∧ ((cellsFrom (st.heap.objs.size + 1) sc.names []).lookup y.1).isSome = true) := by
    rintro ⟨n, v⟩ hy
    rcases S.par n (List.of_mem_zip hy).1 with q | q
    · exact .inl q
    · exact .inr ⟨q, PySem.W.cellsFrom_some _ _ _ (.inl q)⟩
  refine codeAny_call_function room.depth (inK _ _ there) rfl S.co S.gen rfl (PySem.W.codeRec_of inK code) (bnd _ _ _ _ ?_)
  refine wpAny_newFunctionEnv_cells S.kind kinds fun env henv s2 x => ?_
  subst henv
  refine ⟨noLim.keeps x.toInCall.keep, codeAny_func ?_⟩
  obtain ⟨t, ht, hq⟩ := bodyOk B out st G xs R Z (room.deeper _) gd want
  have J := inv_start (CX := CX0) (E := Z) S room.hd e0 len rel x
  refine wpAny_mono (ht.run [] s2 (start N xs) G _ J hq) (fun fl s3 hs => ?_) (fun _ _ z => z)
  cases fl with
  | brk => exact hs.elim fun _ ⟨_, _, z⟩ => z.elim
  | cont => exact hs.elim fun _ ⟨_, _, z⟩ => z.elim
  | ret u =>
    obtain ⟨v, σ3, G3, J3, rv, q⟩ := hs
    exact ⟨v, G3, J3.os, J3.bare, J3.base, J3.hok, rv, q⟩
  | next =>
    obtain ⟨σ3, G3, J3, q⟩ := hs
    exact ⟨V.non, G3, J3.os, J3.bare, J3.base, J3.hok, rfl, q⟩

/-- the law's call, behind the top -/
theorem law_callG {P : Program} {w : World} {K : PySem.W.Frag} {mg mb : Str → Option Value} {k : Nat} {fa a : Addr} {fd : FuncData} {x : Str} {sp : Sp} {st : Shared} {vs : List Value} {ns : List Int}
    (inK : K.In st.heap) (gl : st.heap.Ns mainGlobals mg) (bl : st.heap.Ns builtinsNs mb) (blb : ∀ y : Str, y ≠ "__name__" → mb y = bootBuiltins y) (noLim : st.heap.NoLimit) (gens : st.gens = #[])
    (scr : st.heap.get? a = some { cls := .type "list", data := .seq vs.toArray }) (isI : IntsAre vs ns) (few : ns.length ≤ sizeLine) (room : Room k callerA)
    (F : ∀ base : Heap, K.In base → base.Ns mainGlobals mg → FnOkG P w K mg base k fa fd [x] sp) (bnd : ∀ (s : Shared) (u : Value), BindsTo s fd ⟨[u], []⟩ [(x, u)])
    (want : ∀ G : Hp, SqL K G a (ns.map V.int) → sp [.ref a] G (fun v _ => v = .bl true) fun _ _ _ => False) :
    codeAny (model P w) callerA (.call (.ref fa) ⟨[.ref a], []⟩) (fun r s' => r = .ok (.ret (.bool true)) ∧ OldK st.heap s'.heap ∧ s'.os = st.os ∧ AllBare s'.gens) st := by
  have rel := vals_ints isI
  have lens := isI.length
  have core : ∀ G : Hp, Only G → SqL K G a (ns.map V.int) → HOk P w G st.heap → (∀ b, G b ≠ none → b = a) → (G a ≠ none → K.lookup a = none) →
      codeAny (model P w) callerA (.call (.ref fa) ⟨[.ref a], []⟩) (fun r s' => r = .ok (.ret (.bool true)) ∧ OldK st.heap s'.heap ∧ s'.os = st.os ∧ AllBare s'.gens) st := by
    intro G only sq ok one out
    have free : ∀ {b : Addr} {o : Obj} {es : Array DictEntry} {ep : Nat}, st.heap.get? b = some o → o.data = .dict es ep → G b = none := by
      intro b o es ep q d
      cases z : G b with
      | none => rfl
      | some u =>
        have : b = a := one b (by simp [z])
        subst this
        rw [scr] at q
        cases q
        cases (show Data.seq vs.toArray _ = Data.dict es ep from d)
    have ns2 : ∀ {b : Addr} {m : Str → Option Value}, st.heap.Ns b m → (hidT st.heap G).Ns b m := fun ⟨o, es, ep, q, d, r⟩ => ⟨o, es, ep, hidT_get q (free q d), d, r⟩
    have inB : K.In (hidT st.heap G) := by
      intro b o q
      refine hidT_get (inK b o q) ?_
      cases z : G b with
      | none => rfl
      | some u =>
        have : b = a := one b (by simp [z])
        subst this
        rw [out (by simp [z])] at q
        cases q
    have hm : Mod K mg (hidT st.heap G) := ⟨inB, ns2 gl, ⟨mb, ns2 bl, blb⟩, let ⟨mc, h1, h2⟩ := noLim; ⟨mc, ns2 h1, h2⟩⟩
    have e0 : Env0 P w K mg (hidT st.heap G) callerA [] st G :=
      ⟨rfl, hm, fun b o q => of_hidT q, Nat.le_of_eq (hidT_size _ _), trivial, fun b hb => absurd (show b ∈ ([] : List Addr) from hb) (by simp), ok, .of_eq gens⟩
    refine codeAny_mono ((F _ inB (ns2 gl)).go callerA [] st G ⟨[.ref a], []⟩ [.ref a] [.ref a] _ _ room rfl e0 (bnd st (.ref a)) (.cons rfl .nil) (want G sq)) fun r s' h => ?_
    cases r with
    | error e => exact False.elim h
    | ok fl =>
      cases fl with
      | next => exact False.elim h
      | brk => exact False.elim h
      | cont => exact False.elim h
      | ret u =>
        obtain ⟨v, G', os, bare, un, ok', r', q⟩ := h
        have q2 : v = .bl true := q
        subst q2
        have u2 : u = Value.bool true := r'
        subst u2
        refine ⟨rfl, OldK.of_keep fun b o e => ?_, os, bare⟩
        cases z : G b with
        | none => exact un.keep b o e z (by intro y; exact absurd (show b ∈ ([] : List Addr) from y) (by simp)) (by simp)
        | some u =>
          rcases only b with y | ⟨ob, xs, y⟩
          · rw [z] at y
            cases y
          · have y2 := un.frzs b ob _ y
            have f1 := (ok b _ y).1
            have f2 := (ok' b _ y2).1
            rw [e] at f1
            cases f1
            exact f2
  cases hk : K.lookup a with
  | none =>
    refine core (fun b => if b = a then some (.frz { cls := .type "list", data := .seq vs.toArray } (.lst (ns.map V.int))) else none) (fun b => ?_)
      (.inl (.inr ⟨{ cls := .type "list", data := .seq vs.toArray }, if_pos rfl⟩)) (fun b u z => ?_) (fun b z => ?_) (fun _ => hk)
    · by_cases hb : b = a
      · exact .inr ⟨_, _, if_pos hb⟩
      · exact .inl (if_neg hb)
    · by_cases hb : b = a
      · have z2 := (if_pos hb).symm.trans z
        cases z2
        subst hb
        exact ⟨scr, by rw [List.length_map]; exact few, vs, _, rel, scr⟩
      · have z2 := (if_neg hb).symm.trans z
        cases z2
    · by_cases hb : b = a
      · exact hb
      · exact absurd (if_neg hb) z
  | some o =>
    have e := inK a o hk
    rw [scr] at e
    cases e
    refine core (fun _ => none) (fun _ => .inl rfl) (.inr ⟨_, vs.toArray, _, hk, rfl, rfl, rfl, ?_, by simpa using rel⟩) (fun b u z => ?_) (fun b z => absurd rfl z) (fun z => absurd rfl z)
    · rw [List.size_toArray, lens]
      exact few
    · cases (show (none : Option HO) = some u from z)
/-- what k_head leaves, from the law's promise -/
theorem walk_ofG {l : PySem.W.OpenLaw} {n k : Nat} {q : Program} {loose : List Str} {XP : (Str → Option Value) → Heap → Prop} {YP : World → Heap → Prop} {d : DefRec} {K : Params → PySem.W.Frag} {sp : World → Sp} {x : Str}
    (most : l.most = some n) (fits : n ≤ sizeLine) (plain : d.params.defaults = []) (room : Room k callerA) (hY : ∀ (w : World) (h : Heap), YP w h → (K w.params).In h)
    (F : ∀ (w : World) (mg : Str → Option Value) (fa : Addr) (h : Heap), (K w.params).In h → h.Ns mainGlobals mg → mg d.name = some (.ref fa) →
      ∃ fd : FuncData, (∀ (s : Shared) (u : Value), BindsTo s fd ⟨[u], []⟩ [(x, u)]) ∧ ∀ base : Heap, (K w.params).In base → base.Ns mainGlobals mg → FnOkG l.prog w (K w.params) mg base k fa fd [x] (sp w))
    (want : ∀ (w : World) (G : Hp) (a : Addr) (ns : List Int), ns.length ≤ n → SqL (K w.params) G a (ns.map V.int) → sp w [.ref a] G (fun v _ => v = .bl true) fun _ _ _ => False) :
    PySem.W.WalkO q loose XP YP l.row.toRowW d [] (fun f vs => PySem.call f vs) := by
  refine Att.attach_call most plain fun w s0 s1 mg mb fa o pm cd doc a vs ns G Y ho hd hcd hmg hobj hints hlen hg => ?_
  obtain ⟨fd, hb, hF⟩ := F w mg fa _ (hY w _ Y) G.T.g hmg
  exact law_callG (hY w _ Y) G.T.g G.T.b G.T.builtins G.T.nolimit hg hobj hints (Nat.le_trans hlen fits) room hF hb fun H hS => want w H a ns hlen hS
end KV

namespace PySem
namespace LowX
open PySem.W PySem.Calls PyProof.Rows PySem.HandSPX
/-! ### the text of __init__ -/
def iA (p1 p2 : Pos) : Arguments := { posonlyargs := [], args := [{ arg := "self", annotation := none, pos := p1 }, { arg := "at", annotation := none, pos := p2 }], vararg := none, kwonlyargs := [], kw_defaults := [], kwarg := none, defaults := [] }
def iB (q1 q2 q3 q4 : Pos) : List Stmt := [.Assign [.Attribute (.Name "self" q1) "at" q2] (.Name "at" q3) q4]
def iS : Scope := { kind := .function, names := [(PySem.Str.ofString "self", .local), (PySem.Str.ofString "at", .local)], isGenerator := false, isCoroutine := false, more := [] }
/-- what the written part says of Low, at C, and of its __init__, at fI -/
structure LowTxt (K : Frag) (mg : Str → Option Value) (nm ql : Str) (C fI : Addr) : Prop where
  gC : mg nm = some (.ref C)
  nd : (nm == ("__debug__" : Str)) = false
  cls : ∃ nm q N bs bm sn sub ab col dd k0 k1 k2 k3 k5, K.lookup C = some (excClassObj nm q C N bs bm true sn sub ab col dd k0 k1 k2 k3 k5 "ValueError.__new__") ∧ refsVE bm = true
  sa : findIn K (.ref C) "__setattr__" = some (some (.builtin "object.__setattr__"))
  ga : findIn K (.ref C) "__getattribute__" = some (some (.builtin "BaseException.__getattribute__"))
  gg : findIn K (.ref C) "__getattr__" = some none
  noN : findIn K (.ref C) "at" = some none
  iC : findIn K (.ref C) "__init__" = some (some (.ref fI))
  tC : typeIn K (.ref fI) = some (.type "function")
  kC : keepIn K (.ref C) = true
  exC : subIn K (.ref C) (.type "BaseException") = some true
  tyC : typeIn K (.ref C) = some (.type "type")
  hdC : hasDictIn K C = true
  te : exmOne K (.ref C) (.ref C) = some true
  fn : ∃ (oc : Value) (od : Option Addr) (doc pm : Value) (an : Option Addr) (cdv ct : Value) (osl : Array (Option Value)) (p1 p2 q1 q2 q3 q4 : Pos),
    K.lookup fI = some ⟨oc, od, .func (fnOf "__init__" ql (iA p1 p2) (iB q1 q2 q3 q4) iS .none .none doc pm an cdv ct), osl⟩ ∧ codeIn K cdv ql = true
theorem one_size (v : Value) : [v].length ≤ sizeLine := by
  rw [sizeLine_eq]
  exact (by decide : 1 ≤ 16777216)
theorem kept_but {K : Frag} {h h' : Heap} {x : Addr} (X : K.In h) (hx : K.lookup x = none) (k : ∀ b o, b ≠ x → h.get? b = some o → h'.get? b = some o) : K.In h' := fun a o e =>
  k a o (fun z => by rw [z, hx] at e; cases e) (X a o e)
theorem ldC {M : Model} {s : Shared} {name : Str} {scope : Scope} {L a : Addr} {cd : Value} {m : Str → Option Value} {x : Str} {pos : Pos} {v : Value} {Q : Value → Shared → Prop} {A : Around} {E : Value → Shared → Prop} (hn : s.heap.Ns L m) (hv : m x = some v) (h : Q v s)
    (hk : scope.kind = .function := by rfl) (hl : (envOfC name scope L a cd).kindOf x = some .local := by rfl) (hd : (x == ("__debug__" : Str)) = false := by decide) :
    wpAny M A (eval (.Name x pos) (envOfC name scope L a cd)) Q E s := wpAny_Name (wpAny_loadName_local hk hl hn hv h) hd
/-- what __init__ leaves of a fresh exception at x -/
structure InitEnd (h h' : Heap) (x C dx t1 : Addr) (v : Value) : Prop where
  keep : ∀ b o, b ≠ x → h.get? b = some o → h'.get? b = some o
  obj : h'.get? x = some { cls := .ref C, dict := some dx, data := .fields #[.ref t1, .none, .none, .none, .bool false, .none] }
  dbig : h.objs.size ≤ dx
  dne : dx ≠ x
  ns : h'.Ns1 dx (fun y => if y = "at" then some v else none)
/-- a made Low -/
structure OwnMade (h h' : Heap) (e C d : Addr) (v : Value) : Prop where
  keep : ∀ b o, h.get? b = some o → h'.get? b = some o
  new : h.objs.size ≤ e
  obj : ∃ oe vs, h'.get? e = some oe ∧ oe.cls = .ref C ∧ oe.dict = some d ∧ oe.data = .fields vs ∧ vs[1]? = some .none
  dbig : h.objs.size ≤ d
  dne : d ≠ e
  ns : h'.Ns1 d (fun y => if y = "at" then some v else none)
section
variable {prog : Program} {w : World} {A : Around} {E : Value → Shared → Prop} {R : Result → Shared → Prop} {s : Shared} {K : Frag} {mg : Str → Option Value} {nm ql : Str} {C fI : Addr}
theorem low_init (T : LowTxt K mg nm ql C fI) {x t0 : Addr} {v : Value} (X : K.In s.heap) (hlim : s.heap.NoLimit) (hx : s.heap.get? x = some (excO C t0)) (hnx : K.lookup x = none) (hroom : A.depth < recursionLimit)
    (hq : ∀ h' tk dx, InitEnd s.heap h' x C dx t0 v → R (.ok (.ret .none)) { s with heap := h', toks := tk }) :
    codeAny (model prog w) A (.call (.ref fI) ⟨[.ref x, v], []⟩) R s := by
  obtain ⟨oc, od, doc, pm, an, cdv, ct, osl, p1, p2, q1, q2, q3, q4, ho, hcd⟩ := T.fn
  obtain ⟨nm, q, N, bs, bm, sn, sub, ab, col, dd, k0, k1, k2, k3, k5, hC, hbm⟩ := T.cls
  have hcl : clsIn K C = some { name := nm, bases := bs, mro := .ref C :: bm, ns := N, qualname := q, hasDict := true, slotNames := sn, subclasses := sub, abstract := ab, collection := col, hasDel := false } := by unfold clsIn; rw [hC] <;> rfl
  refine Att.call_fn (binds := [("self", .ref x), ("at", v)]) X hlim ho hcd hroom (BindsTo.of_eq (by first | rfl | with_unfolding_all rfl)) (by first | rfl | decide | with_unfolding_all rfl) (fun s₁ IC => ?_) rfl rfl rfl
  obtain ⟨h₁, tk₁, rfl⟩ := IC.toInCall.same
  have k : ∀ b o, s.heap.get? b = some o → h₁.get? b = some o := IC.toInCall.keep
  have hn := IC.toInCall.ns
  have hxL : s.heap.objs.size ≠ x := Nat.ne_of_gt (Heap.lt_size hx)
  have X₁ : K.In h₁ := X.keeps k
  have hx₁ := k _ _ hx
  -- self.by = by
  show wpAny _ _ (execs _ _) _ _ _
  refine wpAny_execs_cons (plainObj_wpAny_Assign_Attribute ?_)
  refine ldC (v := v) hn (by first | rfl | with_unfolding_all rfl | kernel_rfl) (ldC (v := .ref x) hn (by first | rfl | with_unfolding_all rfl | kernel_rfl) ?_)
  refine set_plain X₁ (ox := excO C t0) (od := none) ⟨hx₁, rfl, rfl, trivial⟩ T.sa ?_
  refine exc_osa X₁ hx₁ hcl (show refsVE (.ref C :: bm) = true from hbm) rfl T.noN (fun h₃ tk₃ dx k₃ dn dne hx₃ hn₃ => ?_)
  show wpAny _ _ (execs _ _) _ _ _
  have z : s.heap.objs.size < h₁.objs.size := hn.lt
  exact wpAny_execs_nil (hq h₃ tk₃ dx ⟨fun b o hb e => k₃ b o hb (k b o e), hx₃, Nat.le_of_lt (Nat.lt_of_lt_of_le z dn), dne, hn₃⟩)
theorem low_made (T : LowTxt K mg nm ql C fI) {v : Value} (X : K.In s.heap) (hlim : s.heap.NoLimit) (hroom : A.depth + 1 < recursionLimit)
    (hq : ∀ h' tk e d, OwnMade s.heap h' e C d v → R (.ok (.ret (.ref e))) { s with heap := h', toks := tk }) :
    codeAny (model prog w) A (.call (.ref C) ⟨[v], []⟩) R s := by
  obtain ⟨nm, q, N, bs, bm, sn, sub, ab, col, dd, k0, k1, k2, k3, k5, hC, hbm⟩ := T.cls
  obtain ⟨hp, g, dr, tk, os⟩ := s
  have k : ∀ b o, hp.get? b = some o → ((hp.push (kdv_tup [v])).push (excO C hp.objs.size)).get? b = some o := fun b o e => Heap.get?_push_of_some _ (Heap.get?_push_of_some _ e)
  have hget : ((hp.push (kdv_tup [v])).push (excO C hp.objs.size)).get? (hp.objs.size + 1) = some (excO C hp.objs.size) := by heap_get
  have hnx : K.lookup (hp.objs.size + 1) = none := by
    cases e : K.lookup (hp.objs.size + 1) with
    | none => rfl
    | some o =>
      have z : hp.get? (hp.objs.size + 1) = some o := X _ _ e
      exact absurd (Nat.lt_of_succ_lt (Heap.lt_size z)) (Nat.lt_irrefl _)
  refine call_own F.excBase_ValueError (fun X => refsVE_contains X bm hbm) (X _ _ hC) (looks_findIn X T.iC) (fun self => bind_fn X self T.tC) (one_size v) ?_
  refine low_init (s := ⟨(hp.push (kdv_tup [v])).push (excO C hp.objs.size), g, dr, tk, os⟩) T (X.keeps k) (hlim.keeps k) hget hnx ?_ fun h' tk' dx ⟨k', hx, dn, dne, hns⟩ => ?_
  · show A.depth + 1 < recursionLimit
    exact hroom
  · have old : ∀ b o, hp.get? b = some o → h'.get? b = some o := fun b o e => k' b o (Nat.ne_of_lt (Nat.lt_succ_of_lt (Heap.lt_size e))) (k b o e)
    have z : hp.objs.size + 1 + 1 ≤ dx := by
      first
        | (simpa only [Heap.size_push] using dn)
        | exact dn
        | (have q := dn; rw [Heap.size_push, Heap.size_push] at q; exact q)
    exact ⟨rfl, hq h' tk' (hp.objs.size + 1) dx ⟨old, Nat.le_succ _, ⟨_, _, hx, rfl, rfl, rfl, rfl⟩, Nat.le_trans (Nat.le_trans (Nat.le_succ _) (Nat.le_succ _)) z, dne, hns⟩⟩
end
end LowX
end PySem
namespace L2
open PySem PySem.Spec PyProof.Rows
theorem relO_low {v : V} {v' : Value} (r : RelV v v') (f : Str) : RelO (List.lookup f [(("at" : Str), v)]) (if f = "at" then some v' else none) := by
  by_cases hw : f = "at"
  · subst hw
    rw [if_pos rfl]
    have q : List.lookup ("at" : Str) [(("at" : Str), v)] = some v := by simp [List.lookup]
    rw [q]
    exact r
  · rw [if_neg hw]
    have qw : (f == ("at" : Str)) = false := by simpa using hw
    have q2 : List.lookup f [(("at" : Str), v)] = none := by simp [List.lookup, qw]
    rw [q2]
    trivial
section
variable {X : Cx} {nm ql : Str} {C fI : Addr}
/-- Low(e) -/
def tMkLow (C : Addr) (ta : TA) : St → Hp → XK → Prop := fun σ H Q => ta σ H fun vs H1 => ∃ v, vs = [v] ∧ ∀ d, H1 d = none → Q (.ref C) (some d) (upd H1 d (.xd [(("at" : Str), v)]))
theorem pmk_low {a : Expr} {ta : TA} {p pos : Pos} {k : Nat} (T : PySem.LowX.LowTxt X.K X.mg nm ql C fI) (hr : Room k X.A) (ha : PA X [a] ta) (hg : Gl X nm := by rfl)
    (he : starEach (a :: []) X.env = (false, eval a X.env) :: starEach [] X.env := by rfl) (hpl : (backTo pos (starEach [] X.env)).any (·.1) = false := by rfl) :
    PMk X (.Call (.Name nm p) [a] [] pos) (tMkLow C ta) := by
  intro pins s σ H Q I h
  refine wpAny_Call_Name_kw (ld_glob I hg T.gC ?_ T.nd)
  refine PySem.W.callWith_K (h₀ := X.base) I.ok.mod.kin T.kC (thn (ha.run pos pins s σ H _ I h) fun us s1 hh => ?_) he hpl
  obtain ⟨vs, H1, I1, r1, v, ev, q1⟩ := hh
  subst ev
  refine ⟨I1.kIn, ?_⟩
  cases r1 with
  | cons rv rn =>
    rename_i v' us'
    cases rn
    show wpAny _ _ (call (.ref C) [v']) _ _ _
    have hlim := I1.nolimit
    obtain ⟨hp, g, dr, tk, os⟩ := s1
    refine wpAny_call (PySem.LowX.low_made T I1.kIn hlim (by have := hr.dp; omega) fun h' tk' e d M => ?_)
    show MkP X pins σ Q (.ref e) ⟨h', g, dr, tk', os⟩
    obtain ⟨oe, fv, hoe, hc, hd, hdat, h1⟩ := M.obj
    have hns := M.ns
    obtain ⟨G', g1, g2⟩ := restrict h' fun b => decide (b ≠ e)
    have gk : ∀ b, b ≠ e → G'.get? b = h'.get? b := fun b hb => g1 b (decide_eq_true hb)
    have ge : G'.get? e = none := g2 e (by simp)
    have old : ∀ b o, hp.get? b = some o → G'.get? b = some o := fun b o q => (gk b (Nat.ne_of_lt (Nat.lt_of_lt_of_le (Heap.lt_size q) M.new))).trans (M.keep b o q)
    have ob : ObjOk X.prog X.w (upd H1 d (.xd [(("at" : Str), v)])) G' d (.xd [(("at" : Str), v)]) :=
      ⟨_, hns.at (fun o q => (gk d M.dne).trans q), fun f => relO_low rv f⟩
    have J : Inv X pins σ (upd H1 d (.xd [(("at" : Str), v)])) ⟨G', g, dr, tk', os⟩ := I1.laid (t' := tk') old M.dbig ob
    refine ⟨e, oe, fv, ⟨G', g, dr, tk', os⟩, _, .ref C, some d, rfl, J, fun b o q => ?_, ge, hoe, ⟨hc, hd⟩, hdat, h1, ?_, rfl, I1.bare, raises_own T.exC T.tyC, q1 d (I1.hok.fresh M.dbig)⟩
    · by_cases hb : b = e
      · have q' : G'.get? b = some o := q
        rw [hb, ge] at q'; cases q'
      · exact (gk b hb).symm.trans q
    · rw [upd_ne (Ne.symm M.dne)]
      exact I1.hok.fresh M.new
/-- raise Low(e) -/
def tRaiseLow (C : Addr) (W : WX) (ta : TA) : TS := fun _ σ H => tMkLow C ta σ H fun cls d H' => W cls d σ H'
theorem ps_raiseLow {a : Expr} {ta : TA} {W : WX} {p pos pos2 : Pos} {k : Nat} (hc : X.calm = true) (T : PySem.LowX.LowTxt X.K X.mg nm ql C fI) (hr : Room k X.A) (tk : Takes X W) (ha : PA X [a] ta) (hg : Gl X nm := by rfl)
    (he : starEach (a :: []) X.env = (false, eval a X.env) :: starEach [] X.env := by rfl) (hpl : (backTo pos (starEach [] X.env)).any (·.1) = false := by rfl) :
    PS X (.Raise (some (.Call (.Name nm p) [a] [] pos)) none pos2) (tRaiseLow C W ta) := ps_raise hc tk (pmk_low T hr ha hg he hpl)
/-- low.by, low the exception that the suite holds (at a; its class cls, its dict d) -/
def tByLow (C : Addr) (a : Addr) (cls : Value) (d : Option Addr) (te : TE) : TE := fun σ H Q => te σ H fun x H1 => x = .ref a ∧ cls = .ref C ∧ ∃ (dd : Addr) (v : V), d = some dd ∧ H1 dd = some (.xd [(("at" : Str), v)]) ∧ Q v H1
theorem pe_byLow {a : Addr} {oe : Obj} {cls : Value} {d : Option Addr} {pn : List (Addr × Obj)} {e : Expr} {te : TE} {pos : Pos} (T : PySem.LowX.LowTxt X.K X.mg nm ql C fI) (hz : Zc cls d oe) (hf : ∃ vs, oe.data = .fields vs) (he : PE (X.suite a ((a, oe) :: pn)) e te)
    (hb : attributeBase e "at" X.env (eval e X.env) = eval e X.env := by rfl) :
    PE (X.suite a ((a, oe) :: pn)) (.Attribute e "at" pos) (tByLow C a cls d te) := by
  refine ⟨fun pins s σ H Q I h => ?_⟩
  refine attr_of hb (thn (he.run pins s σ H _ I h) fun u s1 hh => ?_)
  obtain ⟨x, H1, I1, rx, ex, ec, dd, v, ed, ea, q⟩ := hh
  subst ex
  obtain rfl : u = Value.ref a := rx
  subst ec
  subst ed
  obtain ⟨ha, _⟩ := I1.pin (a, oe) (List.mem_append_left _ List.mem_cons_self)
  obtain ⟨vs, hd⟩ := hf
  have hx : ObjOk X.prog X.w H1 s1.heap dd (.xd [(("at" : Str), v)]) := I1.hok dd _ ea
  obtain ⟨mA, hns, hr⟩ := hx
  obtain ⟨od, ho, hl⟩ := lookIn_ns hns
  have l : List.lookup ("at" : Str) [(("at" : Str), v)] = some v := by simp [List.lookup]
  obtain ⟨u, hu, ru⟩ := RelO.some_of (v := v) (o := mA "at") (by rw [← l]; exact hr "at")
  have J : PySem.W.InstAt s1.heap a oe C (some od) := ⟨ha, hz.1, by unfold PySem.W.notCls; rw [hd] <;> rfl, by rw [hz.2]; exact ho⟩
  exact HandSPX.exc_get I1.kIn J T.ga T.gg T.exC (PySem.W.findObj_own T.hdC T.noN rfl (by rw [hl, hu])) (handed_of ru) ⟨v, H1, I1.tok _, ru, q⟩
end
end L2

/-! the head: what the top leaves, looked at once -/
namespace KV
open PySem PySem.Spec PyProof.Rows L2 He
/-- a global that is a built-in -/
def bltB (K : PySem.W.Frag) (x : Str) (id : String) : Bool := match PySem.W.nsIn K mainGlobals x with
  | some (some (.builtin i)) => decide (i = id)
  | _ => false
theorem bltB_ok {K : PySem.W.Frag} {h : Heap} {mg : Str → Option Value} (X : K.In h) (G : h.Ns mainGlobals mg) {x : Str} {id : String} (c : bltB K x id = true) : mg x = some (.builtin id) := by
  unfold bltB at c
  split at c
  · rename_i i e
    rw [← of_decide_eq_true c]
    exact PySem.W.mg_of X G e
  · cases c
/-- an error's class over ValueError -/
def errB (K : PySem.W.Frag) (C : Addr) : Bool := match K.lookup C with
  | some ⟨.type "type", _, .cls cd, sl⟩ => (match cd.mro, sl.toList with
    | .ref C' :: bm, [_, _, _, _, some (.builtin n), _] => C' == C && n == "ValueError.__new__" && !cd.hasDel && cd.hasDict && PySem.HandSPX.refsVE bm
    | _, _ => false)
  | _ => false
theorem errB_ok {K : PySem.W.Frag} {C : Addr} (c : errB K C = true) :
    ∃ nm q N bs bm sn sub ab col dd k0 k1 k2 k3 k5, K.lookup C = some (excClassObj nm q C N bs bm true sn sub ab col dd k0 k1 k2 k3 k5 "ValueError.__new__") ∧ PySem.HandSPX.refsVE bm = true := by
  unfold errB at c
  split at c
  · rename_i dd cd sl ho
    split at c
    · rename_i C' bm k0 k1 k2 k3 n k5 hm hs
      simp only [Bool.and_eq_true, beq_iff_eq, Bool.not_eq_true'] at c
      obtain ⟨⟨⟨⟨rfl, rfl⟩, hdel⟩, hdi⟩, hok⟩ := c
      obtain ⟨nm, bs, mro, ns, qn, hd, sn, sub, ab, col, del⟩ := cd
      dsimp only at hm hdel hdi
      subst hm hdel hdi
      have hsl : sl = #[k0, k1, k2, k3, some (.builtin "ValueError.__new__"), k5] := by
        obtain ⟨l⟩ := sl
        simp only at hs
        rw [hs]
      subst hsl
      exact ⟨nm, qn, ns, bs, bm, sn, sub, ab, col, dd, k0, k1, k2, k3, k5, ho, hok⟩
    · cases c
  · cases c
def kwNo (K : PySem.W.Frag) (f : Addr) : Bool := match K.lookup f with
  | some ⟨_, _, .func fd, _⟩ => (match fd.kwdefaults with
    | .none => true
    | _ => false)
  | _ => false
/-- all that is asked of an error's class x with the field at -/
def lowB (K : PySem.W.Frag) (x : Str) : Bool :=
  errB K (ga K x) && (eqO (PySem.W.findIn K (.ref (ga K x)) "__setattr__") (some (some (.builtin "object.__setattr__"))) && (eqO (PySem.W.findIn K (.ref (ga K x)) "__getattribute__") (some (some (.builtin "BaseException.__getattribute__"))) &&
  (eqO (PySem.W.findIn K (.ref (ga K x)) "__getattr__") (some none) && (eqO (PySem.W.findIn K (.ref (ga K x)) "at") (some none) && (eqO (PySem.W.findIn K (.ref (ga K x)) "__init__") (some (some (.ref (ma K (ga K x) "__init__")))) &&
  (decide (PySem.W.typeIn K (.ref (ma K (ga K x) "__init__")) = some (.type "function")) && (PySem.W.keepIn K (.ref (ga K x)) && (decide (PySem.W.subIn K (.ref (ga K x)) (.type "BaseException") = some true) && (decide (PySem.W.typeIn K (.ref (ga K x)) = some (.type "type")) &&
  (PySem.W.hasDictIn K (ga K x) && (decide (PySem.W.exmOne K (.ref (ga K x)) (.ref (ga K x)) = some true) && kwNo K (ma K (ga K x) "__init__"))))))))))))
theorem low_of {K : PySem.W.Frag} {h : Heap} {mg : Str → Option Value} (X : K.In h) (G : h.Ns mainGlobals mg) {x ql : Str} {p1 p2 q1 q2 q3 q4 : Pos} {d : FnD} (hd : d = ⟨(x, some "__init__"), "__init__", ql, PySem.LowX.iA p1 p2, PySem.LowX.iB q1 q2 q3 q4, PySem.LowX.iS⟩)
    (e : fnObs K d.at_ = d.val) (c : (Fa.code d.at_ d.qual).ok K = true) (g : (Fa.glo x).ok K = true) (b : lowB K x = true) (nd : (x == ("__debug__" : Str)) = false := by decide) : PySem.LowX.LowTxt K mg x ql (ga K x) (ma K (ga K x) "__init__") := by
  subst hd
  obtain ⟨b1, b⟩ := ba b
  obtain ⟨b2, b⟩ := ba b
  obtain ⟨b3, b⟩ := ba b
  obtain ⟨b4, b⟩ := ba b
  obtain ⟨b5, b⟩ := ba b
  obtain ⟨b6, b⟩ := ba b
  obtain ⟨b7, b⟩ := ba b
  obtain ⟨b8, b⟩ := ba b
  obtain ⟨b9, b⟩ := ba b
  obtain ⟨b10, b⟩ := ba b
  obtain ⟨b11, b⟩ := ba b
  obtain ⟨b12, b13⟩ := ba b
  obtain ⟨oc, od, osl, kV, doc, pm, an, cdv, ct, lk, hc⟩ := fn_ok e c
  have lk' : K.lookup (ma K (ga K x) "__init__") = some ⟨oc, od, .func (PySem.W.fnOf "__init__" ql (PySem.LowX.iA p1 p2) (PySem.LowX.iB q1 q2 q3 q4) PySem.LowX.iS .none kV doc pm an cdv ct), osl⟩ := lk
  have kn : kV = .none := by
    unfold kwNo at b13
    rw [lk'] at b13
    cases kV <;> first | rfl | exact Bool.noConfusion (show (false : Bool) = true from b13)
  subst kn
  exact { gC := glo_ok X G g, nd := nd, cls := errB_ok b1, sa := eqO_ok b2, ga := eqO_ok b3, gg := eqO_ok b4, noN := eqO_ok b5, iC := eqO_ok b6, tC := of_decide_eq_true b7, kC := b8, exC := of_decide_eq_true b9, tyC := of_decide_eq_true b10, hdC := b11, te := of_decide_eq_true b12,
          fn := ⟨_, _, _, _, _, _, _, _, _, _, _, _, _, _, lk', hc⟩ }
/-! the Hook: the facts fa, the defs fn, and one more look ex -/
def obsZ (n : Nat) (fa : List Fa) (fn : List FnD) (ex : PySem.W.Frag → Bool) (g : Addr → Option Obj) : Al × Bool := (obsE fa fn (frG g (asG g n)), ex (frG g (asG g n)))
def hookZ (n : Nat) (fa : List Fa) (fn : List FnD) (ex : PySem.W.Frag → Bool) : PySem.W.Hook where
  α := Al × Bool
  obs := fun s => obsZ n fa fn ex s.heap.get?
  val := fun _ => (valE fn, true)
  says := fun _ h => ∃ K : PySem.W.Frag, K.In h ∧ SaysE fa fn K ∧ ex K = true
  of := fun _ _ e => ⟨_, frG_in, congrArg (fun z : Al × Bool => z.1) e, congrArg (fun z : Al × Bool => z.2) e⟩
  keeps := fun _ _ _ ⟨K, hK, c, d⟩ k => ⟨K, PySem.W.Frag.In.keeps hK k, c, d⟩
theorem obsZ_eq {n : Nat} {fa : List Fa} {fn : List FnD} {ex : PySem.W.Frag → Bool} {g : Addr → Option Obj} {s : Shared} (h : ∀ a, g a = s.heap.get? a) : obsZ n fa fn ex g = (hookZ n fa fn ex).obs s := by
  have e : g = s.heap.get? := funext h
  rw [e] <;> rfl
/-- a def of the text, by a path -/
theorem saysFn {fa : List Fa} {fn : List FnD} {K : PySem.W.Frag} (c : SaysE fa fn K) (i : Nat) {d : FnD} (h : fn[i]? = some d := by rfl) : fnObs K d.at_ = d.val ∧ (Fa.code d.at_ d.qual).ok K = true := by
  have c2 := (ba (show ((fa.all fun f => f.ok K) && fn.all fun d => (Fa.code d.at_ d.qual).ok K) = true from congrArg (fun z : Al => z.1) c)).2
  have e : fn.map (fun d => fnObs K d.at_) = fn.map FnD.val := congrArg (fun z : Al => z.2) c
  have e2 : (fn.map fun d => fnObs K d.at_)[i]? = (fn.map FnD.val)[i]? := by rw [e]
  rw [List.getElem?_map, List.getElem?_map, h] at e2
  exact ⟨Option.some.inj e2, List.all_eq_true.mp c2 d (List.mem_of_getElem? h)⟩
/-- a def of the top: its name, its statement -/
def dTop (x : Str) (st : Stmt) : FnD := ⟨(x, none), x, x, defArgs st, defBody st, defScope st⟩
theorem keep_fn {K : PySem.W.Frag} {f : Addr} {oc : Value} {od : Option Addr} {fd : FuncData} {osl : Array (Option Value)} (h : K.lookup f = some ⟨oc, od, .func fd, osl⟩) : PySem.W.keepIn K (.ref f) = true := by
  simp only [PySem.W.keepIn, h]
theorem saysFun {fa : List Fa} {fn : List FnD} {K : PySem.W.Frag} (c : SaysE fa fn K) (i : Nat) {x : Str} {st : Stmt} (h : fn[i]? = some (dTop x st) := by rfl) : ∃ fd, Fun K x x st (ga K x) fd := by
  obtain ⟨e, k⟩ := saysFn c i h
  obtain ⟨oc, od, osl, kV, doc, pm, an, cdv, ct, lk, hc⟩ := fn_ok e k
  exact ⟨_, fun_mk lk hc (keep_fn lk)⟩
/-- a law's end, over a head by facts -/
theorem walk_ofGE {l : PySem.W.OpenLaw} {n k : Nat} {q : Program} {loose : List Str} {XP : (Str → Option Value) → Heap → Prop} {YP : World → Heap → Prop} {d : DefRec} {x : Str}
    (most : l.most = some n) (fits : n ≤ sizeLine) (plain : d.params.defaults = []) (room : Room k callerA)
    (F : ∀ (w : World) (mg : Str → Option Value) (fa : Addr) (h : Heap), YP w h → h.Ns mainGlobals mg → mg d.name = some (.ref fa) →
      ∃ (K : PySem.W.Frag) (fd : FuncData) (sp : Sp), K.In h ∧ (∀ (s : Shared) (u : Value), BindsTo s fd ⟨[u], []⟩ [(x, u)]) ∧
        (∀ (G : Hp) (a : Addr) (ns : List Int), ns.length ≤ n → SqL K G a (ns.map V.int) → sp [.ref a] G (fun v _ => v = .bl true) fun _ _ _ => False) ∧
        ∀ base : Heap, K.In base → base.Ns mainGlobals mg → FnOkG l.prog w K mg base k fa fd [x] sp) :
    PySem.W.WalkO q loose XP YP l.row.toRowW d [] (fun f vs => PySem.call f vs) := by
  refine Att.attach_call most plain fun w s0 s1 mg mb fa o pm cd doc a vs ns G Y ho hd hcd hmg hobj hints hlen hg => ?_
  obtain ⟨K, fd, sp, KX, hb, hsp, hF⟩ := F w mg fa _ Y G.T.g hmg
  exact law_callG KX G.T.g G.T.b G.T.builtins G.T.nolimit hg hobj hints (Nat.le_trans hlen fits) room hF hb fun H hS => hsp H a ns hlen hS
end KV

/-! the text -/
namespace KV
open PySem PySem.Spec PyProof.Rows L2
def top (i : Nat) : Stmt := PySem.Challenge.pw_batchnumbers_k40_whole_far_counts.main.body.getD i (.Pass ⟨0, 0, 0, 0⟩)
/-- the built-in names that no global hides -/
structure Bl (mg : Str → Option Value) : Prop where
  isi : mg "isinstance" = none
  int : mg "int" = none
  bool : mg "bool" = none
  tuple : mg "tuple" = none
  list : mg "list" = none
  set : mg "set" = none
  len : mg "len" = none
  range : mg "range" = none
  all : mg "all" = none
  abs : mg "abs" = none
  repr : mg "repr" = none
  sorted : mg "sorted" = none
  zip : mg "zip" = none
  enumerate : mg "enumerate" = none
  divmod : mg "divmod" = none
  max : mg "max" = none
  lcm : mg "lcm" = some (.builtin "math.lcm")
end KV

/-! sizes, small words -/
namespace KV
open PySem PySem.Spec PyProof.Rows L2
abbrev sm (k : Nat) (n : Int) : Prop := n.natAbs < 2 ^ k
theorem sm_mono {j k : Nat} {n : Int} (h : sm j n) (hk : j ≤ k) : sm k n := Nat.lt_of_lt_of_le h (Nat.pow_le_pow_right (by decide) hk)
theorem sm_of {k : Nat} {n : Int} (h0 : 0 ≤ n) (h1 : n < 2 ^ k) : sm k n := by
  have e : ((2 ^ k : Nat) : Int) = (2 : Int) ^ k := by simp
  show n.natAbs < 2 ^ k
  omega
theorem sm_le {k : Nat} {n m : Int} (h0 : 0 ≤ n) (h1 : n ≤ m) (h : sm k m) : sm k n := Nat.lt_of_le_of_lt (by omega) h
theorem sm_abs {k : Nat} {n m : Int} (h1 : (n.natAbs : Int) ≤ m) (h : sm k m) : sm k n := Nat.lt_of_le_of_lt (by omega) h
theorem sm_add {k : Nat} {n m : Int} (h1 : sm k n) (h2 : sm k m) : sm (k + 1) (n + m) := by
  have a := Int.natAbs_add_le n m
  have e : 2 ^ (k + 1) = 2 ^ k * 2 := Nat.pow_succ ..
  have h1' : n.natAbs < 2 ^ k := h1
  have h2' : m.natAbs < 2 ^ k := h2
  show (n + m).natAbs < 2 ^ (k + 1)
  omega
theorem sm_neg {k : Nat} {n : Int} (h : sm k n) : sm k (-n) := by
  show (-n).natAbs < 2 ^ k
  rw [Int.natAbs_neg]
  exact h
theorem sm_sub {k : Nat} {n m : Int} (h1 : sm k n) (h2 : sm k m) : sm (k + 1) (n - m) := by
  rw [Int.sub_eq_add_neg]
  exact sm_add h1 (sm_neg h2)
theorem sm_mul {j k : Nat} {n m : Int} (h1 : sm j n) (h2 : sm k m) : sm (j + k) (n * m) := wide_lt h1 h2
theorem mulW {j k : Nat} {n m : Int} (h1 : sm j n) (h2 : sm k m) (hj : 0 < j) (hk : 0 < k) (h : j + k ≤ 1000000) : CMulW n m := wide_mul h1 h2 hj hk h
theorem divW {k : Nat} {n m : Int} (h0 : 0 < m) (h : sm k m) (hk : 0 < k) (h9 : k ≤ 9000) : CDivW n m := wide_div h0 h hk h9
theorem iop_mulW {X : Cx} : OpR X (inplaceOp .Mult) (rI CMulW fun i j => .int (i * j)) := opI fun _ _ _ _ _ _ _ hc q => imul_int q hc.ok
theorem map_at {f : Int → V} {ns : List Int} {i : Nat} {x : V} (h : (ns.map f)[i]? = some x) : ∃ n, ns[i]? = some n ∧ x = f n := by
  rw [List.getElem?_map] at h
  cases e : ns[i]? with
  | none => rw [e] at h; cases h
  | some n => rw [e] at h; exact ⟨n, rfl, (Option.some.inj h).symm⟩
theorem Same.seqT {K : PySem.W.Frag} {H H' : Hp} {a : Addr} {xs : List V} (e : Same H H') (h : SqT K H a xs) : SqT K H' a xs := by
  rcases h with (h | ⟨o, h⟩) | h
  · exact .inl (.inl (e _ _ h))
  · exact .inl (.inr ⟨o, e _ _ h⟩)
  · exact .inr h
theorem Same.upd {H H' : Hp} {a : Addr} {o : HO} (e : Same H H') (h : H a = none) : Same H (upd H' a o) := fun b u q => by
  rw [upd_ne (ne_of_none q h)]
  exact e b u q
theorem Same.new {H : Hp} {a : Addr} {o : HO} (h : H a = none) : Same H (L2.upd H a o) := Same.upd (Same.refl H) h
end KV

/-! the mathematics of changes -/
namespace KC
/-- where m rounds of the change lead -/
def it (c : List Nat) : Nat → Nat → Nat
  | 0, i => i
  | m + 1, i => c.getD (it c m i) 0
structure Chg (n : Nat) (c : List Nat) : Prop where
  len : c.length = n
  lt : ∀ x ∈ c, x < n
  nd : c.Nodup
def tab (n : Nat) (f : Nat → Nat) : List Nat := (List.range n).map f
def comp (c e : List Nat) : List Nat := c.map fun x => e.getD x 0
def fac : Nat → Nat
  | 0 => 1
  | n + 1 => (n + 1) * fac n
theorem fac_pos : ∀ n, 0 < fac n
  | 0 => by decide
  | n + 1 => Nat.mul_pos (Nat.succ_pos n) (fac_pos n)
theorem dvd_fac : ∀ {n L : Nat}, 0 < L → L ≤ n → L ∣ fac n
  | 0, L, h, g => by omega
  | n + 1, L, h, g => by
    rcases Nat.lt_or_ge L (n + 1) with k | k
    · exact Nat.dvd_trans (dvd_fac h (by omega)) (Nat.dvd_mul_left _ _)
    · have : L = n + 1 := by omega
      rw [this]
      exact Nat.dvd_mul_right _ _
theorem tab_len {n : Nat} {f : Nat → Nat} : (tab n f).length = n := by simp [tab]
theorem tab_get {n i : Nat} {f : Nat → Nat} (h : i < n) : (tab n f)[i]? = some (f i) := by
  unfold tab
  rw [List.getElem?_map, List.getElem?_range h]
  rfl
theorem tab_getD {n i : Nat} {f : Nat → Nat} (h : i < n) : (tab n f).getD i 0 = f i := by
  rw [List.getD_eq_getElem?_getD, tab_get h]
  rfl
theorem getD_at {c : List Nat} {i x : Nat} (h : c[i]? = some x) : c.getD i 0 = x := by
  rw [List.getD_eq_getElem?_getD, h]
  rfl
theorem at_getD {c : List Nat} {i : Nat} (h : i < c.length) : c[i]? = some (c.getD i 0) := by
  rw [List.getD_eq_getElem?_getD, List.getElem?_eq_getElem h]
  rfl
theorem eq_tab {n : Nat} {c : List Nat} (h : c.length = n) : c = tab n fun i => c.getD i 0 := by
  refine List.ext_getElem? fun i => ?_
  by_cases k : i < n
  · rw [tab_get k]
    exact at_getD (by omega)
  · rw [List.getElem?_eq_none (by omega), List.getElem?_eq_none (by rw [tab_len]; omega)]
theorem tab_congr {n : Nat} {f g : Nat → Nat} (h : ∀ i < n, f i = g i) : tab n f = tab n g := List.map_congr_left fun i hi => h i (List.mem_range.mp hi)
theorem tab_inj {n : Nat} {f g : Nat → Nat} (h : tab n f = tab n g) : ∀ i < n, f i = g i := fun i hi => by
  have e := tab_get (f := f) hi
  rw [h, tab_get hi] at e
  exact (Option.some.inj e).symm
theorem comp_tab {n : Nat} {f g : Nat → Nat} (h : ∀ i < n, f i < n) : comp (tab n f) (tab n g) = tab n fun i => g (f i) := by
  unfold comp
  show ((List.range n).map f).map _ = (List.range n).map _
  rw [List.map_map]
  exact List.map_congr_left fun i hi => tab_getD (h i (List.mem_range.mp hi))
section
variable {n : Nat} {c : List Nat}
theorem Chg.at_lt (h : Chg n c) {i : Nat} (hi : i < n) : c.getD i 0 < n := h.lt _ (List.mem_of_getElem? (at_getD (by rw [h.len]; exact hi)))
theorem Chg.at_inj (h : Chg n c) {i j : Nat} (hi : i < n) (hj : j < n) (e : c.getD i 0 = c.getD j 0) : i = j := by
  have hi' : i < c.length := by rw [h.len]; exact hi
  have hj' : j < c.length := by rw [h.len]; exact hj
  have a := at_getD hi'
  have b := at_getD hj'
  rw [List.getElem?_eq_getElem hi'] at a
  rw [List.getElem?_eq_getElem hj'] at b
  have e2 : c[i] = c[j] := by rw [Option.some.inj a, Option.some.inj b, e]
  exact (List.getElem_inj h.nd).mp e2
theorem it_lt (h : Chg n c) {i : Nat} (hi : i < n) : ∀ m, it c m i < n
  | 0 => hi
  | m + 1 => h.at_lt (it_lt h hi m)
theorem it_add (a b i : Nat) : it c (a + b) i = it c a (it c b i) := by
  induction a with
  | zero => rw [Nat.zero_add]; rfl
  | succ a ih =>
    rw [Nat.succ_add]
    show c.getD (it c (a + b) i) 0 = c.getD (it c a (it c b i)) 0
    rw [ih]
theorem it_inj (h : Chg n c) {i j : Nat} (hi : i < n) (hj : j < n) : ∀ m, it c m i = it c m j → i = j
  | 0, e => e
  | m + 1, e => it_inj h hi hj m (h.at_inj (it_lt h hi m) (it_lt h hj m) e)
theorem it_back (h : Chg n c) {i a b : Nat} (hi : i < n) (hab : a ≤ b) (e : it c a i = it c b i) : it c (b - a) i = i := by
  have e2 : it c b i = it c a (it c (b - a) i) := by rw [← it_add]; congr 1; omega
  rw [e2] at e
  exact (it_inj h hi (it_lt h hi _) a e).symm
/-- each state comes back -/
theorem per (h : Chg n c) {i : Nat} (hi : i < n) : ∃ L, 0 < L ∧ L ≤ n ∧ it c L i = i := by
  apply Classical.byContradiction
  intro no
  have nd : ((List.range (n + 1)).map fun m => it c m i).Nodup := by
    unfold List.Nodup
    rw [List.pairwise_map]
    refine List.Pairwise.imp_of_mem (fun {a b} ha hb hlt e => ?_) List.pairwise_lt_range
    have hb := List.mem_range.mp hb
    exact no ⟨b - a, by omega, by omega, it_back h hi (by omega) e⟩
  have z := List.Nodup.length_le_of_subset (l₂ := List.range n) nd fun x hx => by
    obtain ⟨m, _, rfl⟩ := List.mem_map.mp hx
    exact List.mem_range.mpr (it_lt h hi m)
  rw [List.length_map, List.length_range, List.length_range] at z
  omega
theorem it_mul {i L : Nat} (e : it c L i = i) : ∀ k, it c (L * k) i = i
  | 0 => rfl
  | k + 1 => by rw [Nat.mul_succ, it_add, e, it_mul e k]
theorem it_mod {i L : Nat} (e : it c L i = i) (m : Nat) : it c (m % L) i = it c m i := by
  have z : it c m i = it c (m % L + L * (m / L)) i := by rw [Nat.mod_add_div]
  rw [z, it_add, it_mul e]
theorem it_fac (h : Chg n c) {i : Nat} (hi : i < n) : it c (fac n) i = i := by
  obtain ⟨L, l0, l1, e⟩ := per h hi
  obtain ⟨k, ek⟩ := dvd_fac l0 l1
  rw [ek]
  exact it_mul e k
theorem chg_tab {f : Nat → Nat} (h : ∀ i < n, f i < n) (g : ∀ i < n, ∀ j < n, f i = f j → i = j) : Chg n (tab n f) := by
  refine ⟨tab_len, fun x hx => ?_, ?_⟩
  · obtain ⟨i, hi, rfl⟩ := List.mem_map.mp hx
    exact h i (List.mem_range.mp hi)
  · unfold List.Nodup tab
    rw [List.pairwise_map]
    refine List.Pairwise.imp_of_mem (fun {a b} ha hb hlt e => ?_) List.pairwise_lt_range
    have := g a (List.mem_range.mp ha) b (List.mem_range.mp hb) e
    omega
theorem chg_it (h : Chg n c) (m : Nat) : Chg n (tab n (it c m)) := chg_tab (fun i hi => it_lt h hi m) fun i hi j hj e => it_inj h hi hj m e
theorem chg_comp {e : List Nat} (h : Chg n c) (g : Chg n e) : Chg n (comp c e) := by
  rw [eq_tab h.len, eq_tab g.len, comp_tab (fun i hi => h.at_lt hi)]
  exact chg_tab (fun i hi => g.at_lt (h.at_lt hi)) fun i hi j hj e => h.at_inj hi hj (g.at_inj (h.at_lt hi) (h.at_lt hj) e)
/-- the power with a count -/
def pw (n : Nat) (c : List Nat) (k : Int) : List Nat := tab n (it c (k % (fac n : Int)).toNat)
theorem pw_chg (h : Chg n c) (k : Int) : Chg n (pw n c k) := chg_it h _
theorem pw_nat (h : Chg n c) (m : Nat) : pw n c (m : Int) = tab n (it c m) := by
  refine tab_congr fun i hi => ?_
  have e : (((m : Nat) : Int) % (fac n : Int)).toNat = m % fac n := by
    rw [← Int.natCast_emod]
    rfl
  rw [e, it_mod (it_fac h hi)]
theorem pw_add (h : Chg n c) (a b : Int) : comp (pw n c a) (pw n c b) = pw n c (a + b) := by
  unfold pw
  rw [comp_tab (fun i hi => it_lt h hi _)]
  refine tab_congr fun i hi => ?_
  have f0 : (0 : Int) < fac n := by exact_mod_cast fac_pos n
  rw [← it_add, ← it_mod (it_fac h hi) ((b % (fac n : Int)).toNat + (a % (fac n : Int)).toNat)]
  congr 1
  have a0 := Int.emod_nonneg a (by omega : (fac n : Int) ≠ 0)
  have b0 := Int.emod_nonneg b (by omega : (fac n : Int) ≠ 0)
  have e : ((((b % (fac n : Int)).toNat + (a % (fac n : Int)).toNat) % fac n : Nat) : Int) = (a + b) % (fac n : Int) := by
    rw [Int.natCast_emod, Int.natCast_add, Int.toNat_of_nonneg a0, Int.toNat_of_nonneg b0, ← Int.add_emod, Int.add_comm]
  rw [← e]
  rfl
/-- a cycle: it starts at st -/
structure Cyc (n : Nat) (c : List Nat) (cy : List Nat) : Prop where
  ex : ∃ st L, 0 < L ∧ st < n ∧ it c L st = st ∧ cy = tab L fun j => it c j st
  nd : cy.Nodup
theorem Cyc.pos {cy : List Nat} (h : Cyc n c cy) : 0 < cy.length := by
  obtain ⟨st, L, l0, _, _, rfl⟩ := h.ex
  rw [tab_len]
  exact l0
theorem Cyc.le (h : Chg n c) {cy : List Nat} (k : Cyc n c cy) : cy.length ≤ n := by
  obtain ⟨st, L, l0, hs, _, rfl⟩ := k.ex
  have z := List.Nodup.length_le_of_subset (l₂ := List.range n) k.nd fun x hx => by
    obtain ⟨m, _, rfl⟩ := List.mem_map.mp hx
    exact List.mem_range.mpr (it_lt h hs m)
  rw [List.length_range] at z
  exact z
theorem Cyc.dvd (h : Chg n c) {cy : List Nat} (k : Cyc n c cy) : cy.length ∣ fac n := dvd_fac k.pos (k.le h)
/-- the states of a cycle come back just by its length -/
theorem Cyc.back (h : Chg n c) {cy : List Nat} (k : Cyc n c cy) {x m : Nat} (hx : x ∈ cy) : it c m x = x ↔ cy.length ∣ m := by
  obtain ⟨st, L, l0, hs, e, rfl⟩ := k.ex
  have nd := k.nd
  obtain ⟨j, hj, rfl⟩ := List.mem_map.mp hx
  have hj := List.mem_range.mp hj
  rw [tab_len]
  have lb : it c L (it c j st) = it c j st := by rw [← it_add, Nat.add_comm, it_add, e]
  constructor
  · intro hm
    have z : it c (m % L) (it c j st) = it c j st := by rw [it_mod lb, hm]
    have z1 : it c (m % L) st = st := by
      rw [← it_add, Nat.add_comm, it_add] at z
      exact it_inj h (it_lt h hs _) hs j z
    by_cases z2 : m % L = 0
    · exact Nat.dvd_of_mod_eq_zero z2
    · have lt := Nat.mod_lt m l0
      have a := tab_get (f := fun j => it c j st) lt
      have b := tab_get (f := fun j => it c j st) l0
      have hl1 : m % L < (tab L fun j => it c j st).length := by rw [tab_len]; exact lt
      have hl2 : 0 < (tab L fun j => it c j st).length := by rw [tab_len]; exact l0
      rw [List.getElem?_eq_getElem hl1] at a
      rw [List.getElem?_eq_getElem hl2] at b
      have e2 : (tab L fun j => it c j st)[m % L] = (tab L fun j => it c j st)[0] := by
        rw [Option.some.inj a, Option.some.inj b]
        exact z1
      exact absurd ((List.getElem_inj nd).mp e2) z2
  · rintro ⟨q, rfl⟩
    exact it_mul lb q
theorem Cyc.lt (h : Chg n c) {cy : List Nat} (k : Cyc n c cy) {x : Nat} (hx : x ∈ cy) : x < n := by
  obtain ⟨st, L, l0, hs, e, rfl⟩ := k.ex
  obtain ⟨j, _, rfl⟩ := List.mem_map.mp hx
  exact it_lt h hs j
/-- the cycle turned by what the count leaves: each state's power -/
theorem Cyc.turn (h : Chg n c) {cy : List Nat} (k : Cyc n c cy) (cnt : Int) {j x : Nat} (hx : cy[j]? = some x) :
    (cy.drop (cnt % (cy.length : Int)).toNat ++ cy.take (cnt % (cy.length : Int)).toNat)[j]? = some (it c (cnt % (fac n : Int)).toNat x) := by
  have hdv := k.dvd h
  have hb := k.back h (x := x) (m := cy.length) (List.mem_of_getElem? hx)
  have hp := k.pos
  have hj := (List.getElem?_eq_some_iff.mp hx).1
  obtain ⟨st, L, l0, hs, e, rfl⟩ := k.ex
  rw [tab_len] at hb hp hj hdv ⊢
  have s0 := Int.emod_nonneg cnt (by omega : (L : Int) ≠ 0)
  have s1 := Int.emod_lt_of_pos cnt (by omega : (0 : Int) < (L : Int))
  have es : ((cnt % (fac n : Int)).toNat) % L = (cnt % (L : Int)).toNat := by
    have f0 : (0 : Int) < fac n := by exact_mod_cast fac_pos n
    have a0 := Int.emod_nonneg cnt (by omega : (fac n : Int) ≠ 0)
    have z : ((((cnt % (fac n : Int)).toNat) % L : Nat) : Int) = cnt % (L : Int) := by
      rw [Int.natCast_emod, Int.toNat_of_nonneg a0]
      exact Int.emod_emod_of_dvd _ (by exact_mod_cast hdv)
    rw [← z]
    rfl
  rw [← it_mod (hb.mpr (Nat.dvd_refl _)), es]
  rw [tab_get hj] at hx
  have hx := Option.some.inj hx
  generalize (cnt % (L : Int)).toNat = s at es s0 s1
  have sL : s < L ∨ L ≤ s := Nat.lt_or_ge s L
  have sl : s < L := by
    rw [← es]
    exact Nat.mod_lt _ l0
  have key : ∀ m, it c m x = it c (j + m) st := fun m => by rw [← hx, ← it_add, Nat.add_comm]
  rw [key]
  by_cases w : j < L - s
  · rw [List.getElem?_append_left (by rw [List.length_drop, tab_len]; exact w), List.getElem?_drop, tab_get (by omega), Nat.add_comm]
  · have e1 : j - (L - s) < L := by omega
    rw [List.getElem?_append_right (by rw [List.length_drop, tab_len]; omega), List.length_drop, tab_len, List.getElem?_take_of_lt (by omega), tab_get e1]
    have e2 : j + s = (j - (L - s)) + L := by omega
    rw [e2, it_add, e]
end
end KC

/-! more of changes: every state is reached, cycles closed backwards, a walk to its end -/
namespace KC
section
variable {n : Nat} {c : List Nat}
theorem Chg.mem (h : Chg n c) {x : Nat} (hx : x < n) : ∃ i, i < n ∧ c.getD i 0 = x := by
  apply Classical.byContradiction
  intro no
  have nm : x ∉ c := fun hm => by
    obtain ⟨i, hi⟩ := List.mem_iff_getElem?.mp hm
    have lt := (List.getElem?_eq_some_iff.mp hi).1
    exact no ⟨i, by rw [← h.len]; exact lt, getD_at hi⟩
  have z := List.Nodup.length_le_of_subset (l₁ := x :: c) (l₂ := List.range n) (List.nodup_cons.mpr ⟨nm, h.nd⟩) fun y hy => by
    rcases List.mem_cons.mp hy with rfl | hy
    · exact List.mem_range.mpr hx
    · exact List.mem_range.mpr (h.lt y hy)
  rw [List.length_cons, h.len, List.length_range] at z
  omega
theorem tab_succ {L : Nat} {f : Nat → Nat} : tab (L + 1) f = tab L f ++ [f L] := by
  unfold tab
  rw [List.range_succ, List.map_append]
  rfl
theorem mem_tab {L x : Nat} {f : Nat → Nat} : x ∈ tab L f ↔ ∃ j, j < L ∧ f j = x := by
  unfold tab
  rw [List.mem_map]
  exact ⟨fun ⟨j, h, e⟩ => ⟨j, List.mem_range.mp h, e⟩, fun ⟨j, h, e⟩ => ⟨j, List.mem_range.mpr h, e⟩⟩
theorem Cyc.pred (h : Chg n c) {cy : List Nat} (k : Cyc n c cy) {x : Nat} (hx : x < n) (hm : c.getD x 0 ∈ cy) : x ∈ cy := by
  obtain ⟨st, L, l0, hs, e, rfl⟩ := k.ex
  obtain ⟨j, hj, ej⟩ := mem_tab.mp hm
  have go : ∀ i, c.getD (it c i st) 0 = c.getD x 0 → i < L → x ∈ tab L fun j => it c j st := fun i ei hi => mem_tab.mpr ⟨i, hi, h.at_inj (it_lt h hs i) hx ei⟩
  cases j with
  | succ i => exact go i ej (by omega)
  | zero =>
    have e2 : c.getD (it c (L - 1) st) 0 = it c (L - 1 + 1) st := rfl
    rw [show L - 1 + 1 = L by omega, e] at e2
    exact go (L - 1) (by rw [e2]; exact ej) (by omega)
/-- a walk from st, none of it in the cycles before, that meets what was met: nothing new, or a whole cycle -/
theorem walk_end (h : Chg n c) {st L : Nat} {U : Nat → Prop} (hs : st < n) (up : ∀ x < n, U (c.getD x 0) → U x) (nd : (tab L fun j => it c j st).Nodup) (nu : ∀ x ∈ tab L (fun j => it c j st), ¬ U x)
    (met : U (it c L st) ∨ it c L st ∈ tab L fun j => it c j st) : (L = 0 ∧ U st) ∨ (0 < L ∧ Cyc n c (tab L fun j => it c j st)) := by
  cases L with
  | zero =>
    rcases met with u | m
    · exact .inl ⟨rfl, u⟩
    · obtain ⟨j, hj, _⟩ := mem_tab.mp m
      omega
  | succ l =>
    refine .inr ⟨by omega, ⟨st, l + 1, by omega, hs, ?_, rfl⟩, nd⟩
    rcases met with u | m
    · exact absurd (up _ (it_lt h hs l) u) (nu _ (mem_tab.mpr ⟨l, by omega, rfl⟩))
    · obtain ⟨j, hj, ej⟩ := mem_tab.mp m
      have bk := it_back h hs (show j ≤ l + 1 by omega) ej
      cases j with
      | zero => simpa using bk
      | succ i =>
        exfalso
        have l1 : l + 1 - (i + 1) < (tab (l + 1) fun j => it c j st).length := by rw [tab_len]; omega
        have l0 : 0 < (tab (l + 1) fun j => it c j st).length := by rw [tab_len]; omega
        have a := tab_get (f := fun j => it c j st) (show l + 1 - (i + 1) < l + 1 by omega)
        have b := tab_get (f := fun j => it c j st) (show 0 < l + 1 by omega)
        rw [List.getElem?_eq_getElem l1] at a
        rw [List.getElem?_eq_getElem l0] at b
        have e2 : (tab (l + 1) fun j => it c j st)[l + 1 - (i + 1)] = (tab (l + 1) fun j => it c j st)[0] := by
          rw [Option.some.inj a, Option.some.inj b]
          exact bk
        have := (List.getElem_inj nd).mp e2
        omega
theorem walk_le (h : Chg n c) {st L : Nat} (hs : st < n) (nd : (tab L fun j => it c j st).Nodup) : L ≤ n := by
  have z := List.Nodup.length_le_of_subset (l₂ := List.range n) nd fun x hx => by
    obtain ⟨m, _, rfl⟩ := mem_tab.mp hx
    exact List.mem_range.mpr (it_lt h hs m)
  rw [tab_len, List.length_range] at z
  exact z
/-- what undoes the change -/
def Und (n : Nat) (c e : List Nat) : Prop := e.length = n ∧ ∀ i, i < n → e[c.getD i 0]? = some i
theorem Und.uniq (h : Chg n c) {e e' : List Nat} (a : Und n c e) (b : Und n c e') : e = e' := by
  refine List.ext_getElem? fun x => ?_
  by_cases hx : x < n
  · obtain ⟨i, hi, rfl⟩ := h.mem hx
    rw [a.2 i hi, b.2 i hi]
  · rw [List.getElem?_eq_none (by have := a.1; omega), List.getElem?_eq_none (by have := b.1; omega)]
theorem Und.at (h : Chg n c) {e : List Nat} (a : Und n c e) {i : Nat} (hi : i < n) : e.getD (c.getD i 0) 0 = i := getD_at (a.2 i hi)
theorem Und.chg (h : Chg n c) {e : List Nat} (a : Und n c e) : Chg n e := by
  have lt : ∀ x, x < n → e.getD x 0 < n := fun x hx => by
    obtain ⟨i, hi, rfl⟩ := h.mem hx
    rw [a.at h hi]
    exact hi
  rw [eq_tab a.1]
  refine chg_tab lt fun x hx y hy exy => ?_
  obtain ⟨i, hi, rfl⟩ := h.mem hx
  obtain ⟨j, hj, rfl⟩ := h.mem hy
  rw [a.at h hi, a.at h hj] at exy
  rw [exy]
theorem set_walk {i n : Nat} {c es : List Nat} (h : Chg n c) (hi : i < n) (l : es.length = n) (w : ∀ j, j < i → es[c.getD j 0]? = some j) : ∀ j, j < i + 1 → (es.set (c.getD i 0) i)[c.getD j 0]? = some j := by
  intro j hj
  by_cases e : j = i
  · subst e
    rw [List.getElem?_set_self (by rw [l]; exact h.at_lt hi)]
  · rw [List.getElem?_set_ne (fun z => e (h.at_inj hi (by omega) z).symm)]
    exact w j (by omega)
end
end KC

/-! whether a value is a change -/
namespace KV
open PySem PySem.Spec PyProof.Rows L2 KC
theorem iteP {c : Prop} [Decidable c] {A B : Prop} (h : c) (x : A) : if c then A else B := by rw [if_pos h]; exact x
theorem iteN {c : Prop} [Decidable c] {A B : Prop} (h : ¬ c) (x : B) : if c then A else B := by rw [if_neg h]; exact x
theorem sq_cut {a b : TS} {D : Ends} {σ : L2.St} {H : Hp} (N : L2.St → Hp → Prop) (hs : ∀ Z : L2.St → Hp → Prop, (∀ σ' H', N σ' H' → Z σ' H') → a { nx := Z, rt := D.rt, bk := D.bk, ct := D.ct } σ H) (ht : ∀ σ' H', N σ' H' → b D σ' H') : tSeq a b D σ H := hs _ ht
theorem len_lt {n : Nat} (h : n ≤ 1000) : n < sizeLine := small1000 h
/-- a list of numbers as values -/
abbrev vi (c : List Nat) : List V := c.map fun (n : Nat) => V.int (n : Int)
theorem vi_at {c : List Nat} {i : Nat} {x : V} (h : (vi c)[i]? = some x) : ∃ n, c[i]? = some n ∧ x = .int (n : Int) := by
  rw [List.getElem?_map] at h
  cases e : c[i]? with
  | none => rw [e] at h; cases h
  | some n => rw [e] at h; exact ⟨n, rfl, (Option.some.inj h).symm⟩
theorem vi_get {c : List Nat} {i n : Nat} (h : c[i]? = some n) : (vi c)[i]? = some (V.int (n : Int)) := by
  rw [List.getElem?_map, h]
  rfl
/-! the number of different ints in a tuple -/
def tLenSetT (K : PySem.W.Frag) (ta : TE) : TE := fun σ H Q => ta σ H fun x H1 => ∃ (l : Addr) (ns : List Int), x = .ref l ∧ SqT K H1 l (ns.map V.int) ∧ ns.length ≤ 1000 ∧ ∀ L : List Int, L.Nodup → (∀ k, k ∈ L ↔ k ∈ ns) → Q (.int (L.length : Nat)) H1
theorem pe_lenSetT {X : Cx} {a : Expr} {ta : TE} {p p2 q pos : Pos} (gl : Gl X "len") (ml : X.mg "len" = none) (gs : Gl X "set") (ms : X.mg "set" = none) (ha : PE X a ta) (hc : X.calm = true := by rfl)
    (na : starEach [a] X.env = (false, eval a X.env) :: starEach [] X.env := by rfl) : PE X (.Call (.Name "len" p) [.Call (.Name "set" p2) [a] [] q] [] pos) (tLenSetT X.K ta) := by
  constructor
  intro pins s σ H Q I h
  refine Call_ (ld_blt I gl ml boot_len ?_)
  refine PyProof.Rows.callWith_builtin1 (PyProof.Rows.args_cons ?_ rfl) rfl rfl
  refine Call_ (ld_blt I gs ms PyProof.Rows.boot_set ?_)
  refine PyProof.Rows.callWith_type1 (PyProof.Rows.args_cons (thn (ha.run pins s σ H _ I h) fun v s1 ⟨x, H1, I1, r1, q1⟩ => PyProof.Rows.args_nil ?_) na) na rfl
  obtain ⟨l, ns, ex, hq, small, q1⟩ := q1
  subst ex
  cases r1
  obtain ⟨its, r, pt, _⟩ := I1.tuple hq
  have ia : IntsAre its.toArray.toList ns := ints_of_vals r
  refine call_set_tupI ns (I1.ok.hd hc) (show s1.heap.IsTuple l its.toArray from pt) ia (by unfold scanBound; omega) fun h' tk c R1 hcn k => ?_
  refine PyProof.Rows.args_nil ?_
  obtain ⟨o, es, ep, t, ho, hex, hdt, _, nd, mem, _, hf, hn, _, _⟩ := R1
  have I2 : Inv X pins σ H1 { s1 with heap := h', toks := tk } := I1.kept k
  have le : (es.toList.map keyOf).length = es.size := by rw [List.length_map, Array.length_toList]
  refine call_len_set ho hex hdt hf (by rw [hn] <;> omega) ⟨.int _, H1, I2.tok _, ⟨_, rfl⟩, ?_⟩
  have z := q1 (es.toList.map keyOf) nd fun j => by rw [← mem j, decide_eq_true_eq]
  rw [le] at z
  exact z
/-! values -/
theorem tyx_same {K : PySem.W.Frag} {H H' : Hp} (s : Same H H') {x : V} {t : Value} (h : TyX K H x t) : TyX K H' x t := by
  cases h with
  | base b =>
    refine .base ?_
    cases b with
    | non => exact .non
    | bl y => exact .bl y
    | int i => exact .int i
    | str y => exact .str y
    | flt y => exact .flt y
    | lst e => exact .lst (s _ _ e)
    | frz e => exact .frz (s _ _ e)
    | tup e => exact .tup (s _ _ e)
    | dK e => exact .dK (s _ _ e)
    | dT e => exact .dT (s _ _ e)
    | ins e a b c d f => exact .ins (s _ _ e) a b c d f
  | byt b => exact .byt b
  | set e => exact .set (s _ _ e)
  | kList e c => exact .kList e c
  | kTuple e c => exact .kTuple e c
  | kDict e c => exact .kDict e c
  | fTuple e => exact .fTuple (s _ _ e)
  | fDict e => exact .fDict (s _ _ e)
def isI : V → Bool
  | .int _ => true
  | _ => false
/-- an item: an int, a bool, None -/
def Itm (x : V) : Prop := (∃ i : Int, x = .int i) ∨ (∃ b : Bool, x = .bl b) ∨ x = .non ∨ ∃ z : Str, x = .str z
theorem itm_kit {K : PySem.W.Frag} {H : Hp} {x : V} (h : Itm x) : ∃ (t : Value) (b c : Bool), TyX K H x t ∧ PySem.W.kitOne K t (.type "int") = some b ∧ PySem.W.kitOne K t (.type "bool") = some c ∧ (b && !c) = isI x := by
  rcases h with ⟨i, rfl⟩ | ⟨b, rfl⟩ | rfl | ⟨z, rfl⟩
  · exact ⟨.type "int", true, false, .base (.int i), kit_ty (by decide +kernel), kit_ty (by decide +kernel), rfl⟩
  · exact ⟨.type "bool", true, true, .base (.bl b), kit_ty (by decide +kernel), kit_ty (by decide +kernel), rfl⟩
  · exact ⟨.type "NoneType", false, false, .base .non, kit_ty (by decide +kernel), kit_ty (by decide +kernel), rfl⟩
  · exact ⟨.type "str", false, false, .base (.str z), kit_ty (by decide +kernel), kit_ty (by decide +kernel), rfl⟩
/-- a value: a tuple of items (some), or of another kind (none) -/
def ValT (K : PySem.W.Frag) (H : Hp) (v : V) : Option (List V) → Prop
  | some xs => ∃ a : Addr, v = .ref a ∧ H a = some (.tup xs) ∧ (∀ x ∈ xs, Itm x) ∧ xs.length ≤ 16
  | none => ∃ T : String, TyX K H v (.type T) ∧ (T = "list" ∨ T = "NoneType" ∨ T = "int" ∨ T = "str")
theorem ValT.same {K : PySem.W.Frag} {H H' : Hp} (s : Same H H') {v : V} {ms : Option (List V)} (h : ValT K H v ms) : ValT K H' v ms := by
  cases ms with
  | none =>
    obtain ⟨T, h1, h2⟩ := h
    exact ⟨T, tyx_same s h1, h2⟩
  | some xs =>
    obtain ⟨a, h1, h2, h3, h4⟩ := h
    exact ⟨a, h1, s _ _ h2, h3, h4⟩
theorem val_kit {K : PySem.W.Frag} {H : Hp} {v : V} {ms : Option (List V)} (h : ValT K H v ms) : ∃ t : Value, TyX K H v t ∧ PySem.W.kitOne K t (.type "tuple") = some ms.isSome := by
  cases ms with
  | some xs =>
    obtain ⟨a, rfl, ht, _⟩ := h
    exact ⟨_, .base (.tup ht), (kit_ty (by decide +kernel) : PySem.W.kitOne K (.type "tuple") (.type "tuple") = some true)⟩
  | none =>
    obtain ⟨T, ty, hT⟩ := h
    rcases hT with rfl | rfl | rfl | rfl
    · exact ⟨_, ty, (kit_ty (by decide +kernel) : PySem.W.kitOne K (.type "list") (.type "tuple") = some false)⟩
    · exact ⟨_, ty, (kit_ty (by decide +kernel) : PySem.W.kitOne K (.type "NoneType") (.type "tuple") = some false)⟩
    · exact ⟨_, ty, (kit_ty (by decide +kernel) : PySem.W.kitOne K (.type "int") (.type "tuple") = some false)⟩
    · exact ⟨_, ty, (kit_ty (by decide +kernel) : PySem.W.kitOne K (.type "str") (.type "tuple") = some false)⟩
def belB (b : Int) : V → Bool
  | .int i => decide (0 ≤ i) && decide (i < b)
  | _ => false
def chB (xs : List V) : Bool := decide (1 ≤ xs.length) && (xs.all (belB (xs.length : Int)) && decide xs.Nodup)
def isCh (s : Int) : Option (List V) → Bool
  | none => false
  | some xs => decide ((xs.length : Int) = s) && chB xs
theorem ints_bel {b : Int} : ∀ {xs : List V}, xs.all (belB b) = true → ∃ ns : List Int, xs = ns.map V.int
  | [], _ => ⟨[], rfl⟩
  | x :: r, h => by
    simp only [List.all_cons, Bool.and_eq_true] at h
    obtain ⟨ns, rfl⟩ := ints_bel h.2
    cases x with
    | int i => exact ⟨i :: ns, rfl⟩
    | _ => exact absurd h.1 (by simp [belB])
theorem nodup_ints {ns : List Int} : (ns.map V.int).Nodup ↔ ns.Nodup := by
  unfold List.Nodup
  rw [List.pairwise_map]
  constructor
  · exact fun h => h.imp fun z e => z (by rw [e])
  · exact fun h => h.imp fun z e => z (V.int.inj e)
theorem len_nodup {L ns : List Int} (h : L.Nodup) (m : ∀ k, k ∈ L ↔ k ∈ ns) : L.length = ns.length ↔ ns.Nodup := by
  constructor
  · intro e
    apply Classical.byContradiction
    intro no
    have key : ∀ ns : List Int, ¬ ns.Nodup → ∃ ms : List Int, ms.length < ns.length ∧ ∀ k ∈ ns, k ∈ ms := by
      intro ns
      induction ns with
      | nil => exact fun z => absurd List.nodup_nil z
      | cons a r ih =>
        intro z
        by_cases ha : a ∈ r
        · exact ⟨r, by simp, fun k hk => by rcases List.mem_cons.mp hk with rfl | hk <;> assumption⟩
        · have : ¬ r.Nodup := fun y => z (List.nodup_cons.mpr ⟨ha, y⟩)
          obtain ⟨ms, l, hm⟩ := ih this
          exact ⟨a :: ms, by simp only [List.length_cons]; omega, fun k hk => by
            rcases List.mem_cons.mp hk with rfl | hk
            · simp
            · exact List.mem_cons_of_mem _ (hm k hk)⟩
    obtain ⟨ms, l, hm⟩ := key ns no
    have := h.length_le_of_subset (l₂ := ms) fun k hk => hm k ((m k).mp hk)
    omega
  · intro nd
    exact ((List.perm_ext_iff_of_nodup h nd).mpr m).length_eq
section
variable {P : Program} {w : World} {K : PySem.W.Frag} {mg : Str → Option Value} {base : Heap}
def spIsInt : Sp := fun vs H Q _ => ∃ v : V, vs = [v] ∧ Itm v ∧ Q (.bl (isI v)) H
theorem sk2 : FnScope ["value"] ["value"] (defScope (top 5)) := ⟨rfl, rfl, rfl, by decide +kernel, rfl, by decide +kernel, by decide +kernel⟩
theorem ok_isInt {f : Addr} {fd : FuncData} (B : Bl mg) (F : Fun K "is_integer" "is_integer" (top 5) f fd) : FnOk P w K mg base CX0 1 f fd ["value"] spIsInt := by
  refine F.ok sk2 (fun vs H Q E h => ?_) (fun cdv A outer s H vs Q E hr h => ⟨_,
    pss_one (ps_ret (pe_and (pe_callB call_isi (by rfl) B.isi (by decide +kernel) (pa_cons (pv 0) (pa_cons (pe_bltn (v := .ty "int") (by rfl) B.int PyProof.Rows.boot_int rfl) pa_nil)))
      (pe_one (pe_not (pe_callB call_isi (by rfl) B.isi (by decide +kernel) (pa_cons (pv 0) (pa_cons (pe_bltn (v := .ty "bool") (by rfl) B.bool (by decide +kernel) rfl) pa_nil))))))), ?_⟩)
  · obtain ⟨v, rfl, _⟩ := h
    rfl
  obtain ⟨v, rfl, hv, q⟩ := h
  obtain ⟨t, b, c, ty, h1, h2, e⟩ := itm_kit (K := K) (H := H) hv
  rw [← e] at q
  refine ⟨_, rfl, v, _, t, _, b, rfl, .ty _, ty, h1, b, rfl, ?_⟩
  cases b with
  | false => exact q
  | true => exact ⟨_, rfl, v, _, t, _, c, rfl, .ty _, ty, h2, c, rfl, q⟩
def spBelow : Sp := fun vs H Q _ => ∃ (v : V) (b : Int), vs = [v, .int b] ∧ Itm v ∧ Q (.bl (belB b v)) H
theorem sk3 : FnScope ["value", "bound"] ["value", "bound"] (defScope (top 6)) := ⟨rfl, rfl, rfl, by decide +kernel, rfl, by decide +kernel, by decide +kernel⟩
theorem ok_below {f : Addr} {fd : FuncData} (C : Cal P w K mg base CX0 1 "is_integer" ["value"] spIsInt) (F : Fun K "is_below" "is_below" (top 6) f fd) : FnOk P w K mg base CX0 2 f fd ["value", "bound"] spBelow := by
  refine F.ok sk3 (fun vs H Q E h => ?_) (fun cdv A outer s H vs Q E hr h => ⟨_,
    pss_one (ps_ret (pe_and (pe_cal (X := L2.Cx.nox _) C hr (by decide) (pa_cons (pv 0) pa_nil)) (pe_one (pe_chain op_le op_lt pe_int (pv 0) (pv 1))))), ?_⟩)
  · obtain ⟨v, b, rfl, _⟩ := h
    rfl
  obtain ⟨v, b, rfl, hv, q⟩ := h
  refine ⟨_, rfl, v, rfl, hv, _, rfl, ?_⟩
  rcases hv with ⟨i, rfl⟩ | ⟨x, rfl⟩ | rfl | ⟨z, rfl⟩
  · refine iteT ⟨_, rfl, _, _, rfl, rfl, _, rfl, ?_⟩
    have e : belB b (.int i) = (decide (0 ≤ i) && decide (i < b)) := rfl
    rw [e] at q
    cases z : decide (0 ≤ i) with
    | true =>
      rw [z] at q
      exact iteT ⟨_, rfl, _, _, rfl, rfl, q⟩
    | false =>
      rw [z] at q
      exact iteF q
  · exact iteF q
  · exact iteF q
  · exact iteF q
end
end KV

/-! is_change and what refuses by it -/
namespace KV
open PySem PySem.Spec PyProof.Rows L2 KC
section
variable {X : Cx} {k j : Nat} {x : Str} {ps : List Str} {sp : Sp} {p pos : Pos} {e : Expr} {es : List Expr} {t : TA}
/-- a call of a def that may raise, from one that may -/
theorem pe_calX {W : WX} {E : XK} (C : Cal X.prog X.w X.K X.mg X.base (L2.CX X.prog X.w) k x ps sp) (hr : Room j X.A) (hj : k ≤ j) (tk : Takes X W) (hW : ∀ cls d σ H, E cls d H → W cls d σ H) (ha : PA X (e :: es) t)
    (hg : Gl X x := by rfl) (hdb : (x == ("__debug__" : Str)) = false := by decide)
    (he : starEach (e :: es) X.env = (false, eval e X.env) :: starEach es X.env := by rfl)
    (hpl : (backTo pos (starEach es X.env)).any (·.1) = false := by rfl) :
    PE X (.Call (.Name x p) (e :: es) [] pos) (tCall sp [] E t) := by
  obtain ⟨f, fd, F, h1, h2, h3⟩ := C
  exact pe_call F (hr.mono hj) hg h1 h2 h3 .nil (passes_call tk hW) ha hdb he hpl
end
theorem Same.mk1 {H : Hp} {a : Addr} {o : HO} (h : H a = none) : Same H (L2.upd H a o) := Same.new h
/-- the error InvalidChange(0) -/
def Bad (C : Addr) (H : Hp) (E : XK) : Prop := ∀ (H' : Hp) (d : Addr), Same H H' → H' d = none → E (.ref C) (some d) (L2.upd H' d (.xd [(("at" : Str), .int 0)]))
theorem Bad.same {C : Addr} {H H' : Hp} {E : XK} (s : Same H H') (b : Bad C H E) : Bad C H' E := fun H2 d t => b H2 d (s.trans t)
section
variable {P : Program} {w : World} {K : PySem.W.Frag} {mg : Str → Option Value} {base : Heap} {C fI : Addr}
def spIsCh (K : PySem.W.Frag) : Sp := fun vs H Q _ => ∃ (s : Int) (v : V) (ms : Option (List V)), vs = [.int s, v] ∧ ValT K H v ms ∧ ∀ H', Same H H' → Q (.bl (isCh s ms)) H'
theorem sk8 : FnScope ["states", "value", "state"] ["states", "value"] (defScope (top 10)) := ⟨rfl, rfl, rfl, by decide +kernel, rfl, by decide +kernel, by decide +kernel⟩
theorem ok_isCh {f : Addr} {fd : FuncData} (B : Bl mg) (CB : Cal P w K mg base CX0 2 "is_below" ["value", "bound"] spBelow) (F : Fun K "is_change" "is_change" (top 10) f fd) : FnOk P w K mg base CX0 3 f fd ["states", "value"] (spIsCh K) := by
  refine F.ok sk8 (fun vs H Q E h => ?_) (fun cdv A outer s H vs Q E hr h => ⟨_,
    pss_cons (ps_if (PW.pt (pw_or (pt_not (pt_val (pe_callB call_isi (by rfl) B.isi (by decide +kernel) (pa_cons (pv 1) (pa_cons (pe_bltn (v := .ty "tuple") (by rfl) B.tuple (by decide +kernel) rfl) pa_nil)))))
      (pw_or (pt_cmpR op_ne (pe_callB call_len_seq (by rfl) B.len PySem.boot_len (pa_cons (pv 1) pa_nil)) (pv 0) (nomark _)) (pw_or1 (pt_cmpR op_lt (pv 0) pe_int (nomark _)))))) (pss_one (ps_ret pe_bl)) pss_nil)
    (pss_cons (ps_if (pt_not (pt_val (pe_callB (cr_all rfl) (by rfl) B.all (by decide +kernel) (pa_cons
      (pe_lc (own := [("state", 2)]) (g := gName 2) (tt := tYes) rfl sk8.nd (pi_tup (pv 1)) (blkOk_by (N := ["states", "value", "state"]) (sc := defScope (top 10)) (by decide +kernel)) (fun _ _ _ _ _ => pg_name (i := 2) sk8.nd rfl (Or.inl rfl)) (fun _ _ _ _ _ => pts_nil)
        (fun _ _ _ _ _ => pe_cal CB hr (by decide) (pa_cons (pv 2) (pa_cons (pv 0) pa_nil)))) pa_nil)))) (pss_one (ps_ret pe_bl)) pss_nil)
    (pss_one (ps_ret (pe_cmpR op_eq (pe_lenSetT (by rfl) B.len (by rfl) B.set (pv 1)) (pv 0) (nomark _))))), ?_⟩)
  · obtain ⟨s, v, ms, rfl, _⟩ := h
    rfl
  obtain ⟨s0, v, ms, rfl, hv, q⟩ := h
  obtain ⟨t, ty, hk⟩ := val_kit hv
  refine ⟨_, rfl, _, _, t, _, _, rfl, .ty _, ty, hk, _, rfl, ?_⟩
  cases ms with
  | none => exact iteT (iteT (q _ (Same.refl H)))
  | some xs =>
    obtain ⟨a, rfl, hS, hI, hl⟩ := hv
    refine iteF ⟨_, rfl, a, xs, rfl, .inr (SqT.of hS), _, rfl, rfl, _, rfl, ?_⟩
    by_cases e1 : ¬ (xs.length : Int) = s0
    · have e : isCh s0 (some xs) = false := by
        show (decide ((xs.length : Int) = s0) && chB xs) = false
        rw [decide_eq_false e1, Bool.false_and]
      rw [e] at q
      exact iteP (by simp [e1]) (iteT (q _ (Same.refl H)))
    have e1 := Decidable.not_not.mp e1
    subst e1
    have e : isCh (xs.length : Int) (some xs) = chB xs := by
      show (decide ((xs.length : Int) = (xs.length : Int)) && chB xs) = chB xs
      rw [decide_eq_true rfl, Bool.true_and]
    rw [e] at q
    refine iteN (by simp) ⟨_, rfl, _, _, rfl, rfl, _, rfl, ?_⟩
    by_cases e2 : ¬ 1 ≤ xs.length
    · have e3 : chB xs = false := by
        unfold chB
        rw [decide_eq_false e2, Bool.false_and]
      rw [e3] at q
      exact iteP (by simp only [decide_eq_true_eq]; omega) (q _ (Same.refl H))
    have e2 := Decidable.not_not.mp e2
    refine iteN (by simp only [decide_eq_true_eq]; omega) ?_
    refine ⟨_, rfl, a, rfl, ⟨_, SqT.of hS⟩, fun D hD => lc_tup (xs := xs) (fun i H' => Same H H' ∧ H' D = some (.lst ((xs.take i).map fun x => V.bl (belB (xs.length : Int) x)))) ⟨Same.mk1 hD, upd_same⟩ (fun i H' _ p => SqT.of (p.1 _ _ hS)) ?_ ?_⟩
    · rintro i x H' hx ⟨p1, p2⟩
      refine ⟨rfl, _, rfl, _, rfl, x, _, rfl, hI x (List.mem_of_getElem? hx), _, p2, len_lt (by rw [List.length_map, List.length_take]; omega), Same.upd p1 hD, ?_⟩
      rw [upd_same, List.take_succ, hx, List.map_append]
      rfl
    · rintro H' ⟨p1, p2⟩
      rw [List.take_length] at p2
      refine ⟨D, xs.map (belB (xs.length : Int)), rfl, SqL.of (by rw [p2, List.map_map]; rfl), _, rfl, ?_⟩
      have ea : (xs.map (belB (xs.length : Int))).all id = xs.all (belB (xs.length : Int)) := by
        rw [List.all_map]
        rfl
      rw [ea]
      cases e4 : xs.all (belB (xs.length : Int)) with
      | false =>
        have e3 : chB xs = false := by
          unfold chB
          rw [e4, Bool.false_and, Bool.and_false]
        rw [e3] at q
        exact iteT (q _ p1)
      | true =>
        obtain ⟨ns, rfl⟩ := ints_bel e4
        have e3 : chB (ns.map V.int) = decide ns.Nodup := by
          unfold chB
          rw [e4, Bool.true_and, decide_eq_true e2, Bool.true_and, decide_eq_decide]
          exact nodup_ints
        rw [e3] at q
        refine iteF ⟨_, rfl, a, ns, rfl, SqT.of (p1 _ _ hS), by rw [List.length_map] at hl; omega, fun L nd mem => ⟨_, rfl, rfl, ?_⟩⟩
        have e5 : decide (V.int ((L.length : Nat) : Int) = V.int (((ns.map V.int).length : Nat) : Int)) = decide ns.Nodup := by
          rw [decide_eq_decide, V.int.injEq, List.length_map, ← len_nodup nd mem]
          omega
        rw [e5]
        exact q _ p1
/-- checked_change(states, value) -/
def spChk (K : PySem.W.Frag) (C : Addr) : Sp := fun vs H Q E => ∃ (s : Int) (v : V) (ms : Option (List V)), vs = [.int s, v] ∧ ValT K H v ms ∧ (isCh s ms = true → ∀ H', Same H H' → Q v H') ∧ (isCh s ms = false → Bad C H E)
theorem sk9 : FnScope ["states", "value"] ["states", "value"] (defScope (top 11)) := ⟨rfl, rfl, rfl, by decide +kernel, rfl, by decide +kernel, by decide +kernel⟩
theorem ok_chk {f : Addr} {fd : FuncData} (T : PySem.LowX.LowTxt K mg "InvalidChange" "InvalidChange.__init__" C fI) (CI : Cal P w K mg base CX0 3 "is_change" ["states", "value"] (spIsCh K)) (F : Fun K "checked_change" "checked_change" (top 11) f fd) :
    FnOk P w K mg base (L2.CX P w) 4 f fd ["states", "value"] (spChk K C) := by
  refine F.okX sk9 (fun vs H Q E h => ?_) (fun cdv A outer s H vs Q E hr h => ⟨_, pss_cons (ps_if (pt_not (pt_val (by exact (pe_cal CI hr (by decide) (pa_cons (pv 0) (pa_cons (pv 1) pa_nil))))))
    (pss_one (ps_raiseLow rfl T hr (takes_of rfl rfl rfl rfl) (by exact (pa_cons pe_int pa_nil)))) pss_nil) (pss_one (ps_ret (pv 1))), ?_⟩)
  · obtain ⟨s, v, ms, rfl, _⟩ := h
    rfl
  obtain ⟨s0, v, ms, rfl, hv, h1, h2⟩ := h
  refine ⟨_, rfl, _, rfl, s0, v, ms, rfl, hv, fun H' s1 => ⟨_, rfl, ?_⟩⟩
  cases e : isCh s0 ms with
  | true => exact iteF ⟨_, rfl, h1 e _ s1⟩
  | false => exact iteT ⟨_, rfl, fun d hd => h2 e _ d s1 hd⟩
/-- whether it is a change of its own number of states -/
def isC : Option (List V) → Bool
  | none => false
  | some xs => chB xs
/-- _check_alone(value) -/
def spAlone (K : PySem.W.Frag) (C : Addr) : Sp := fun vs H Q E => ∃ (v : V) (ms : Option (List V)), vs = [v] ∧ ValT K H v ms ∧ (isC ms = true → ∀ H', Same H H' → Q .non H') ∧ (isC ms = false → Bad C H E)
theorem sk10 : FnScope ["value"] ["value"] (defScope (top 12)) := ⟨rfl, rfl, rfl, by decide +kernel, rfl, by decide +kernel, by decide +kernel⟩
theorem ok_alone {f : Addr} {fd : FuncData} (B : Bl mg) (T : PySem.LowX.LowTxt K mg "InvalidChange" "InvalidChange.__init__" C fI) (CK : Cal P w K mg base (L2.CX P w) 4 "checked_change" ["states", "value"] (spChk K C)) (F : Fun K "_check_alone" "_check_alone" (top 12) f fd) :
    FnOk P w K mg base (L2.CX P w) 5 f fd ["value"] (spAlone K C) := by
  refine F.okX sk10 (fun vs H Q E h => ?_) (fun cdv A outer s H vs Q E hr h => ⟨_,
    pss_cons (ps_if (pt_not (pt_val (pe_callB call_isi (by rfl) B.isi (by decide +kernel) (pa_cons (pv 0) (pa_cons (pe_bltn (v := .ty "tuple") (by rfl) B.tuple (by decide +kernel) rfl) pa_nil)))))
      (pss_one (ps_raiseLow rfl T hr (takes_of rfl rfl rfl rfl) (by exact (pa_cons pe_int pa_nil)))) pss_nil)
    (pss_one (ps_expr (by exact (pe_calX CK hr (by decide) (takes_of rfl rfl rfl rfl) (fun _ _ _ _ z => z) (pa_cons (pe_callB call_len_seq (by rfl) B.len PySem.boot_len (pa_cons (pv 0) pa_nil)) (pa_cons (pv 0) pa_nil)))))), ?_⟩)
  · obtain ⟨v, ms, rfl, _⟩ := h
    rfl
  obtain ⟨v, ms, rfl, hv, h1, h2⟩ := h
  obtain ⟨t, ty, hk⟩ := val_kit hv
  refine ⟨_, rfl, _, _, t, _, _, rfl, .ty _, ty, hk, _, rfl, ?_⟩
  cases ms with
  | none => exact iteT ⟨_, rfl, fun d hd => h2 rfl _ d (Same.refl H) hd⟩
  | some xs =>
    have hv2 := hv
    obtain ⟨a, rfl, hS, hI, hl⟩ := hv
    have e : isCh ((xs.length : Nat) : Int) (some xs) = isC (some xs) := by
      show (decide ((xs.length : Int) = (xs.length : Int)) && chB xs) = chB xs
      rw [decide_eq_true rfl, Bool.true_and]
    refine iteF ⟨_, rfl, a, xs, rfl, .inr (SqT.of hS), _, rfl, _, _, some xs, rfl, hv2, ?_, ?_⟩
    · rw [e]
      exact fun z H' s1 => h1 z H' s1
    · rw [e]
      exact h2
/-- _check_two(one, other) -/
def spTwo (K : PySem.W.Frag) (C : Addr) : Sp := fun vs H Q E => ∃ (v u : V) (ms us : Option (List V)), vs = [v, u] ∧ ValT K H v ms ∧ ValT K H u us ∧
  ((isC ms = false ∧ Bad C H E) ∨ ∃ xs, ms = some xs ∧ isC ms = true ∧ (isCh ((xs.length : Nat) : Int) us = true → ∀ H', Same H H' → Q .non H') ∧ (isCh ((xs.length : Nat) : Int) us = false → Bad C H E))
theorem sk11 : FnScope ["one", "other"] ["one", "other"] (defScope (top 13)) := ⟨rfl, rfl, rfl, by decide +kernel, rfl, by decide +kernel, by decide +kernel⟩
theorem ok_two {f : Addr} {fd : FuncData} (B : Bl mg) (CA : Cal P w K mg base (L2.CX P w) 5 "_check_alone" ["value"] (spAlone K C)) (CK : Cal P w K mg base (L2.CX P w) 4 "checked_change" ["states", "value"] (spChk K C)) (F : Fun K "_check_two" "_check_two" (top 13) f fd) :
    FnOk P w K mg base (L2.CX P w) 6 f fd ["one", "other"] (spTwo K C) := by
  refine F.okX sk11 (fun vs H Q E h => ?_) (fun cdv A outer s H vs Q E hr h => ⟨_,
    pss_cons (ps_expr (by exact (pe_calX CA hr (by decide) (takes_of rfl rfl rfl rfl) (fun _ _ _ _ z => z) (pa_cons (pv 0) pa_nil))))
    (pss_one (ps_expr (by exact (pe_calX CK hr (by decide) (takes_of rfl rfl rfl rfl) (fun _ _ _ _ z => z) (pa_cons (pe_callB call_len_seq (by rfl) B.len PySem.boot_len (pa_cons (pv 0) pa_nil)) (pa_cons (pv 1) pa_nil)))))), ?_⟩)
  · obtain ⟨v, u, ms, us, rfl, _⟩ := h
    rfl
  obtain ⟨v, u, ms, us, rfl, hv, hu, h⟩ := h
  rcases h with ⟨e, b⟩ | ⟨xs, rfl, e, q1, q2⟩
  · exact ⟨_, rfl, v, ms, rfl, hv, fun z => absurd (e.symm.trans z) (by decide), fun _ => b⟩
  · refine ⟨_, rfl, v, some xs, rfl, hv, fun _ H' s1 => ?_, fun z => absurd (e.symm.trans z) (by decide)⟩
    obtain ⟨a, rfl, hS, hI, hl⟩ := hv
    exact ⟨_, rfl, a, xs, rfl, .inr (SqT.of (s1 _ _ hS)), _, rfl, _, _, us, rfl, hu.same s1, fun z H2 s2 => q1 z H2 (s1.trans s2), fun z => (q2 z).same s1⟩
end
end KV

/-! enumerate(tuple) in a for -/
namespace KV
open PySem PySem.Spec PyProof.Rows L2
open AutoSeq1 (wpAny_loadPart')
/-- what stands behind enumerate(t) -/
def enumHeap (hp : Heap) (a : Addr) : Heap :=
  (hp.push { cls := .type "tuple_iterator", data := .fields #[.ref a, .int 0 0] }).push { cls := .type "enumerate", data := .fields #[.none, .bool false, .ref hp.objs.size, rawInt 0, .none, .none] }
theorem enum_newT (a : Addr) (xs : Array Value) (k : Nat) (dd : Option Addr) (sl : Array (Option Value)) :
    Meets (Builtin.«enumerate.__new__» ⟨[.type "enumerate", .ref a], []⟩) (fun _ R st => st.heap.get? a = some { cls := .type "tuple", dict := dd, data := .seq xs k, slots := sl } ∧
      R (.ok (.ret (.ref (st.heap.push { cls := .type "tuple_iterator", data := .fields #[.ref a, .int 0 0] }).objs.size))) { st with heap := enumHeap st.heap a }) :=
  .of_wp fun P w B R st z => by
    obtain ⟨hp, gn, dr, tk, os⟩ := st; obtain ⟨ho, z⟩ := z
    have hsub := sub_enumerate
    have hT : Heap.IsTuple (Shared.heap ⟨hp, gn, dr, tk, os⟩) a xs := ⟨_, ho, rfl, k, rfl⟩
    wp_walk using wpAny_loadPart' ho
    refine wpAny_stack_any fun stk => wpAny_pure ?_
    split
    · rename_i c _ _ _ _ _
      cases (c == Value.type "enumerate")
      · wp_walk using wpAny_loadPart' ho, wpAny_pyIter_tuple hT
        exact ⟨_, rfl, z⟩
      · wp_walk using wpAny_loadPart' ho, wpAny_pyIter_tuple hT
        exact ⟨_, rfl, z⟩
    · wp_walk using wpAny_loadPart' ho, wpAny_pyIter_tuple hT
      exact ⟨_, rfl, z⟩
theorem call_enumT {P : Program} {w : World} {B : Around} {E : Value → Shared → Prop} {st : Shared} {a : Addr} {xs : Array Value} {Q : Value → Shared → Prop} (hT : IsTup st.heap a xs)
    (z : IsEnum (enumHeap st.heap a) (st.heap.objs.size + 1) st.heap.objs.size 0 .none → (enumHeap st.heap a).IsTupleIter st.heap.objs.size a 0 →
      (∀ b o, st.heap.get? b = some o → (enumHeap st.heap a).get? b = some o) → Q (.ref (st.heap.objs.size + 1)) { st with heap := enumHeap st.heap a }) :
    wpAny (model P w) B (call (.type "enumerate") [.ref a]) Q E st := by
  obtain ⟨⟨c, dd, dt, sl⟩, ho, hc, k, hd⟩ := hT
  have hc2 : c = .type "tuple" := hc
  have hd2 : dt = .seq xs k := hd
  subst hc2 hd2
  refine callType_new F.called_enumerate (by decide) (F.typeCall_enumerate_1 _) (F.newCall_enumerate_1 _) (fun obj => F.args_object_init_2 obj _) F.entry_enumerate_new (enum_newT a xs k dd sl) ⟨ho, ?_⟩
  have one : (st.heap.push { cls := .type "tuple_iterator", data := .fields #[.ref a, .int 0 0] }).objs.size = st.heap.objs.size + 1 := Heap.size_push ..
  show _ ∧ _
  rw [one]
  have en : IsEnum (enumHeap st.heap a) (st.heap.objs.size + 1) st.heap.objs.size 0 .none := by
    have q := Heap.get?_push_size (st.heap.push { cls := .type "tuple_iterator", data := .fields #[.ref a, .int 0 0] })
      (o := { cls := .type "enumerate", data := .fields #[.none, .bool false, .ref st.heap.objs.size, rawInt 0, .none, .none] }) rfl
    rw [one] at q
    exact q
  exact ⟨⟨_, en, rfl⟩, z en ⟨_, Heap.get?_push_of_some _ (Heap.get?_push_size _ rfl), rfl, rfl⟩ fun b o x => Heap.get?_push_of_some _ (Heap.get?_push_of_some _ x)⟩
/-- each item of the tuple at a, in a new pair -/
def Iet (K : PySem.W.Frag) (a : Addr) : It :=
  ⟨fun i H => ∃ (xs : List V) (x : V), SqT K H a xs ∧ xs[i]? = some x,
   fun i H v H' => ∃ T x, v = .ref T ∧ H T = none ∧ H' = upd H T (.tup [.int (i : Nat), x]) ∧ ∀ xs, SqT K H a xs → xs[i]? = some x,
   fun i H => ∃ xs : List V, SqT K H a xs ∧ xs.length ≤ i⟩
theorem turn_enumT {P : Program} {w : World} {K : PySem.W.Frag} {elts : List Expr} {kk : Nat} {tpos : Pos} (a e it : Addr) (hai : a ≠ it) (hea : e ≠ a) :
    Turn P w K (.Tuple elts kk tpos) (Iet K a) [e, it] e (fun i h => (∃ old, IsEnum h e it ((i : Nat) : Int) old) ∧ h.IsTupleIter it a i ∧ e ≠ it) where
  mem := by simp
  self := fun B i st Q E q z => let ⟨⟨_, he⟩, _⟩ := q; wpAny_pyIter_enum he z
  obj := fun i h q b hb => by
    obtain ⟨⟨old, he⟩, ⟨o, ho, hc, hd⟩, _⟩ := q
    rcases (show b = e ∨ b = it by simpa using hb) with z | z
    · rw [z]
      exact ⟨_, he, fun v y => nomatch y⟩
    · rw [z]
      exact ⟨o, ho, fun v y => by rw [hd] at y; cases y⟩
  keep := fun i h h' q k => let ⟨⟨old, he⟩, hi, hne⟩ := q; ⟨⟨old, k e (by simp) _ he⟩, hi.at fun o y => k it (by simp) o y, hne⟩
  item := by
    intro X hP hw hK hc i pins st σ H E I hf q hg
    subst hP hw hK
    obtain ⟨⟨old, he⟩, hit, hne⟩ := q
    obtain ⟨xs, x, hq, hx⟩ := hg
    obtain ⟨its, rv, p, hz⟩ := I.tuple hq
    obtain ⟨u, hu, ru⟩ := rv.get hx
    have el : e < st.heap.objs.size := Heap.lt_size he
    have il : it < st.heap.objs.size := by obtain ⟨_, y, _⟩ := hit; exact Heap.lt_size y
    have D := Draws.tuple (prog := X.prog) (w := X.w) (A := X.A.in1) (by exact I.ok.hd hc) it a hai its.toArray
    have hlt : i < its.toArray.size := by
      obtain ⟨y, _⟩ := List.getElem?_eq_some_iff.mp hu
      simpa using y
    refine wpAny_pyNext_enum_itemD D he ⟨hit, p⟩ hlt hne (by simp; exact ⟨hne, hea⟩) fun v h' tk hv ho hst hT hsz hk => ?_
    have huv : v = u := by
      have y : its.toArray[i]? = some v := hv
      have y2 : its.toArray[i]? = some u := by simpa using hu
      rw [y2] at y
      exact (Option.some.inj y).symm
    subst huv
    refine ⟨_, rfl, wpAny_letOwnedTupleGo_enum (s := { st with heap := h', toks := tk + 1 }) ho fun h2 he2 sb => ?_⟩
    have hT2 : h2.get? st.heap.objs.size = some { cls := .type "tuple", data := .seq #[.int i tk, v] } := (sb.2 _ (Nat.ne_of_gt el)).trans hT
    have new : ObjOk X.prog X.w (upd H st.heap.objs.size (.tup [.int (i : Nat), x])) h2 st.heap.objs.size (.tup [.int (i : Nat), x]) :=
      ⟨by show 2 ≤ sizeLine; decide, [.int i tk, v], .cons ⟨_, rfl⟩ (.cons ru .nil), ⟨_, hT2, rfl, _, rfl⟩⟩
    have I2 : Inv X pins σ (upd H st.heap.objs.size (.tup [.int (i : Nat), x])) { st with heap := h2, toks := tk + 1 } :=
      I.turnedNew (ch := [e, it]) (fun b ob hb y => (sb.2 b (fun z => hb (by simp [z]))).trans (hk b ob (fun z => hb (by simp [z])) (fun z => hb (by simp [z])) y)) hf (Nat.le_refl _) new
    refine ⟨.ref st.heap.objs.size, _, I2, rfl, ⟨_, x, rfl, I.hok.fresh (Nat.le_refl _), rfl, fun ys hy => by rw [I.tuple_inj hy hq]; exact hx⟩, ⟨⟨v, ?_⟩, hst.1.at fun o y => (sb.2 it (Ne.symm hne)).trans y, hne⟩, fun b hb => ?_⟩
    · have e1 : ((i + 1 : Nat) : Int) = (i : Int) + 1 := by omega
      rw [e1]
      exact he2
    · have lt : b < st.heap.objs.size := by
        rcases (show b = e ∨ b = it by simpa using hb) with z | z
        · rw [z]
          exact el
        · rw [z]
          exact il
      rw [upd_ne (Nat.ne_of_lt lt)]
      exact (hf b hb).1
  done := by
    intro X hP hw hK hc i pins st σ H E I hf q hg
    subst hP hw hK
    obtain ⟨⟨old, he⟩, hit, hne⟩ := q
    obtain ⟨xs, hq, hx⟩ := hg
    obtain ⟨its, rv, p, hz⟩ := I.tuple hq
    obtain ⟨f0, f1, f2, f3, f4, f5⟩ := hf it (by simp)
    have hl := rv.length
    unfold pyNext
    have hT : st.TypeIs (.ref e) "enumerate" := ⟨_, he, rfl⟩
    refine wpAny_bind (wpAny_attempt (wpAny_callSpecial?_slot (name := Str.ofString "__next__") hT F.slot_enumerate_next
      (wpAny_call_entry F.slot_enumerate_next hT F.entry_enumerate_next ?_ (F.args_enumerate_next_1 _))))
    show wpAny _ _ (field (.ref e) 2 >>= _) _ _ _
    refine wpAny_bind (wpAny_field he rfl (x := .ref it) rfl ?_)
    refine wpAny_bind (wpAny_nextOf_tuple_end (I.ok.hd hc) hit (show st.heap.IsTuple a its.toArray from p) (by simp; omega) fun h' x he' hx' => ?_)
    obtain ⟨o, ho, hc'⟩ := hx'
    refine wpAny_bind (wpAny_isInstance (T := "StopIteration") (b := true) ⟨o, ho, hc'⟩ isSubtype_stop ?_)
    exact wpAny_pure ⟨rfl, I.turned (t' := st.toks) (fun b o hb y => he' b o hb y) f0 f1 f3 f4 f5⟩
def iEnumT (K : PySem.W.Frag) (ta : TA) : TI := fun σ H R => ta σ H fun vs H1 => ∃ a xs, vs = [.ref a] ∧ SqT K H1 a xs ∧ R (Iet K a) H1
theorem pi_enumT {X : Cx} {e : Expr} {ta : TA} {p pos tpos : Pos} {elts : List Expr} {kk : Nat} (hg : Gl X "enumerate") (hm : X.mg "enumerate" = none) (ha : PA X [e] ta) (hs : starEach [e] X.env = [(false, eval e X.env)] := by rfl) :
    PI X (.Tuple elts kk tpos) (.Call (.Name "enumerate" p) [e] [] pos) (iEnumT X.K ta) := by
  constructor
  intro pins st σ H R I h
  refine Call_ (ld_blt I hg hm boot_enumerate (PyProof.Rows.callWith_type1 (thn (ha.run pos pins st σ H _ I h) fun us s1 ⟨vs, H1, I1, r1, q1⟩ => ?_) hs rfl))
  obtain ⟨a, xs, ex, hq, q⟩ := q1
  subst ex
  cases r1 with
  | cons r rr =>
    cases rr
    cases r
    obtain ⟨its, rv, p', hz⟩ := I1.tuple hq
    refine call_enumT p' fun en hit hk => wpAny_pyIter_enum en ?_
    have al : a < s1.heap.objs.size := p'.lt
    refine ⟨s1.heap.objs.size + 1, [s1.heap.objs.size + 1, s1.heap.objs.size], _, _, H1, rfl, I1.kept (t' := s1.toks) hk, turn_enumT a (s1.heap.objs.size + 1) s1.heap.objs.size (Nat.ne_of_lt al) (Nat.ne_of_gt (Nat.lt_succ_of_lt al)), ⟨⟨.none, en⟩, hit, Nat.succ_ne_self _⟩, fun b hb => ?_, q⟩
    have le : s1.heap.objs.size ≤ b := by
      rcases (show b = s1.heap.objs.size + 1 ∨ b = s1.heap.objs.size by simpa using hb) with z | z
      · rw [z]
        exact Nat.le_succ _
      · rw [z]
        exact Nat.le_refl _
    exact I1.fpOk le (I1.hok.fresh le)
/-- the loop -/
theorem for_enumT {K : PySem.W.Frag} {a : Addr} {xs : List V} {g : TG} {tb : TS} {D : Ends} {σ : L2.St} {H : Hp} (Pv : Nat → L2.St → Hp → Prop) (h0 : Pv 0 σ H) (hl : ∀ i σ H, i ≤ xs.length → Pv i σ H → SqT K H a xs)
    (hs : ∀ i x σ H T, xs[i]? = some x → Pv i σ H → H T = none → g (.ref T) σ (upd H T (.tup [.int (i : Nat), x])) fun σ2 H2 => tb { D with nx := Pv (i + 1), ct := Pv (i + 1), bk := D.nx } σ2 H2) (hd : ∀ σ H, Pv xs.length σ H → D.nx σ H) :
    ∃ W : Nat → Nat → L2.St → Hp → Prop, (∃ m, W 0 m σ H) ∧ ∀ i m σ H, W i m σ H → ((Iet K a).stop i H ∧ D.nx σ H) ∨ ((Iet K a).go i H ∧ ∃ N : L2.St → Hp → Prop, (∀ σ' H', N σ' H' → ∃ m', m' < m ∧ W (i + 1) m' σ' H') ∧
      ∀ x H', (Iet K a).yld i H x H' → g x σ H' fun σ2 H2 => tb { D with nx := N, ct := N, bk := D.nx } σ2 H2) := by
  refine ⟨fun i m σ H => m = xs.length - i ∧ i ≤ xs.length ∧ Pv i σ H, ⟨xs.length, by simp, Nat.zero_le _, h0⟩, ?_⟩
  intro i m σ H w
  obtain ⟨em, hi, p⟩ := w
  subst em
  have q := hl i σ H hi p
  by_cases lt : i < xs.length
  · refine .inr ⟨⟨xs, xs[i], q, by simp [lt]⟩, Pv (i + 1), fun σ' H' p' => ⟨xs.length - (i + 1), by omega, rfl, lt, p'⟩, fun x H' y => ?_⟩
    obtain ⟨T, y1, rfl, hT, rfl, y2⟩ := y
    exact hs i y1 σ H T (y2 xs q) p hT
  · have e : i = xs.length := by omega
    subst e
    exact .inl ⟨⟨xs, q, Nat.le_refl _⟩, hd σ H p⟩
end KV

/-! changes made -/
namespace KV
open PySem PySem.Spec PyProof.Rows L2 KC
section
variable {P : Program} {w : World} {K : PySem.W.Frag} {mg : Str → Option Value} {base : Heap} {C fI : Addr}
/-- composed(one, other) -/
def spComp : Sp := fun vs H Q _ => ∃ (a b : Addr) (c e : List Nat), vs = [.ref a, .ref b] ∧ H a = some (.tup (vi c)) ∧ H b = some (.tup (vi e)) ∧ (∀ x ∈ c, x < e.length) ∧ c.length ≤ 16 ∧
  ∀ t H', Same H H' → H t = none → H' t = some (.tup (vi (comp c e))) → Q (.ref t) H'
theorem sk12 : FnScope ["one", "other", "state"] ["one", "other"] (defScope (top 15)) := ⟨rfl, rfl, rfl, by decide +kernel, rfl, by decide +kernel, by decide +kernel⟩
theorem ok_comp {f : Addr} {fd : FuncData} (B : Bl mg) (F : Fun K "composed" "composed" (top 15) f fd) : FnOk P w K mg base CX0 1 f fd ["one", "other"] spComp := by
  refine F.ok sk12 (fun vs H Q E h => ?_) (fun cdv A outer s H vs Q E hr h => ⟨_,
    pss_one (ps_ret (pe_callTy call_tuple_of (by rfl) B.tuple (by decide +kernel) (pa_cons
      (pe_lc (own := [("state", 2)]) (g := gName 2) (tt := tYes) rfl sk12.nd (pi_tup (pv 0)) (blkOk_by (N := ["one", "other", "state"]) (sc := defScope (top 15)) (by decide +kernel)) (fun _ _ _ _ _ => pg_name (i := 2) sk12.nd rfl (Or.inl rfl)) (fun _ _ _ _ _ => pts_nil)
        (fun _ _ _ _ _ => pe_ix (r := rIxT K) ix_tup (pv 1) (pv 2) (fun _ _ => rfl))) pa_nil))), ?_⟩)
  · obtain ⟨a, b, c, e, rfl, _⟩ := h
    rfl
  obtain ⟨a, b, c, e, rfl, ha, hb, hlt, hl, q⟩ := h
  refine ⟨_, rfl, a, rfl, ⟨_, SqT.of ha⟩, fun D hD => lc_tup (xs := vi c) (fun i H' => Same H H' ∧ H' D = some (.lst (vi (comp (c.take i) e)))) ⟨Same.mk1 hD, upd_same⟩ (fun i H' _ p => SqT.of (p.1 _ _ ha)) ?_ ?_⟩
  · rintro i x H' hx ⟨p1, p2⟩
    obtain ⟨m, hm, rfl⟩ := vi_at hx
    have lt := hlt m (List.mem_of_getElem? hm)
    refine ⟨rfl, _, rfl, _, rfl, b, _, _, _, rfl, rfl, SqT.of (p1 _ _ hb), atI_nat (vi_get (at_getD lt)), _, p2, len_lt (by simp only [vi, comp, List.length_map, List.length_take]; omega), Same.upd p1 hD, ?_⟩
    rw [upd_same, List.take_succ, hm]
    show some (HO.lst (vi (comp (c.take i) e) ++ [V.int ((e.getD m 0 : Nat) : Int)])) = some (HO.lst (vi (comp (c.take i ++ [m]) e)))
    simp only [vi, comp, List.map_append, List.map_cons, List.map_nil]
  · rintro H' ⟨p1, p2⟩
    have p2 : H' D = some (.lst (vi (comp c e))) := by
      have z := p2
      rw [show (vi c).length = c.length from List.length_map .., List.take_length] at z
      exact z
    exact ⟨D, _, rfl, .inl ⟨SqL.of p2, fun t ht => q t _ (p1.trans (Same.mk1 ht)) (p1.free ht) upd_same⟩⟩
/-- undone(change) -/
def spUnd : Sp := fun vs H Q _ => ∃ (a : Addr) (n : Nat) (c : List Nat), vs = [.ref a] ∧ H a = some (.tup (vi c)) ∧ Chg n c ∧ n ≤ 16 ∧ ∀ t H' e, Same H H' → H t = none → H' t = some (.tup (vi e)) → Und n c e → Q (.ref t) H'
theorem rep_int (n : Nat) (i : Int) : (List.replicate n [V.int i]).flatten = List.replicate n (V.int i) := by
  induction n with
  | zero => rfl
  | succ n ih => rw [List.replicate_succ, List.flatten_cons, ih, List.replicate_succ]; rfl
theorem rep_v (n : Nat) (v : V) : (List.replicate n [v]).flatten = List.replicate n v := by
  induction n with
  | zero => rfl
  | succ n ih => rw [List.replicate_succ, List.flatten_cons, ih, List.replicate_succ]; rfl
theorem vi_rep (n : Nat) : vi (List.replicate n 0) = List.replicate n (V.int 0) := by
  unfold vi
  rw [List.map_replicate]
  rfl
theorem ix_ok {α : Type} {xs : List α} {i : Nat} (h : i < xs.length) : ixN xs.length ((i : Nat) : Int) = some i := by
  unfold L2.ixN
  rw [if_pos (by omega), if_pos (by omega)]
  simp
end
end KV

/-! cycles -/
namespace KV
open PySem PySem.Spec PyProof.Rows L2 KC
/-- the truth values of a list at the places below n tell U -/
def Tells (n : Nat) (mt : List Bool) (U : Nat → Prop) : Prop := mt.length = n ∧ ∀ x, x < n → ∃ b, mt[x]? = some b ∧ (b = true ↔ U x)
theorem Tells.set {n : Nat} {mt : List Bool} {U U' : Nat → Prop} {s : Nat} (h : Tells n mt U) (hs : s < n) (e : ∀ x, x < n → (U' x ↔ U x ∨ x = s)) : Tells n (mt.set s true) U' := by
  refine ⟨by rw [List.length_set]; exact h.1, fun x hx => ?_⟩
  by_cases z : x = s
  · subst z
    exact ⟨true, List.getElem?_set_self (by rw [h.1]; exact hx), by simp [e x hx]⟩
  · obtain ⟨b, hb, hu⟩ := h.2 x hx
    refine ⟨b, by rw [List.getElem?_set_ne (Ne.symm z)]; exact hb, ?_⟩
    rw [e x hx, hu]
    simp [z]
/-- a list of bools as values -/
abbrev vb (bs : List Bool) : List V := bs.map V.bl
theorem vb_rep (n : Nat) : vb (List.replicate n false) = List.replicate n (V.bl false) := List.map_replicate ..
/-- all but the object at m stands -/
def KpM (m : Addr) (H H' : Hp) : Prop := ∀ b o, b ≠ m → H b = some o → H' b = some o
theorem KpM.refl {m : Addr} {H : Hp} : KpM m H H := fun _ _ _ h => h
theorem KpM.upd_m {m : Addr} {H H' : Hp} {o : HO} (k : KpM m H H') : KpM m H (upd H' m o) := fun b u hb h => by
  rw [upd_ne hb]
  exact k b u hb h
theorem KpM.upd_n {m q : Addr} {H H' : Hp} {o : HO} (k : KpM m H H') (hq : H q = none) : KpM m H (upd H' q o) := fun b u hb h => by
  rw [upd_ne (ne_of_none h hq)]
  exact k b u hb h
theorem KpM.new {m q : Addr} {H H' : Hp} {o : HO} (k : KpM m H H') (hq : H' q = none) (hm : q ≠ m) : KpM m H (upd H' q o) := fun b u hb h => by
  rw [upd_ne (ne_of_none (k b u hb h) hq)]
  exact k b u hb h
def Un (as : List (Addr × List Nat)) (x : Nat) : Prop := ∃ q ∈ as, x ∈ q.2
/-- what the cycles so far are -/
structure Cys (n : Nat) (c : List Nat) (H0 H : Hp) (m p : Addr) (as : List (Addr × List Nat)) : Prop where
  at_ : H p = some (.lst (as.map fun q => V.ref q.1))
  each : ∀ q ∈ as, H q.1 = some (.lst (vi q.2)) ∧ Cyc n c q.2 ∧ q.1 ≠ m ∧ q.1 ≠ p ∧ H0 q.1 = none
section
variable {P : Program} {w : World} {K : PySem.W.Frag} {mg : Str → Option Value} {base : Heap} {C fI : Addr}
/-- round_from(change, start) -/
def spRF : Sp := fun vs H Q _ => ∃ (a : Addr) (n : Nat) (c : List Nat) (st : Nat), vs = [.ref a, .int (st : Int)] ∧ H a = some (.tup (vi c)) ∧ Chg n c ∧ n ≤ 16 ∧ st < n ∧
  ∀ k H' (L : Nat), Same H H' → H k = none → H' k = some (.lst (vi (tab L fun j => it c j st))) → 0 < L → L ≤ n → Cyc n c (tab L fun j => it c j st) → Q (.ref k) H'
theorem it_mem {n : Nat} {c : List Nat} (hc : Chg n c) {st L : Nat} (hs : st < n) (nd : (tab L fun j => it c j st).Nodup) (L0 : 0 < L) (hm : it c L st ∈ tab L fun j => it c j st) : Cyc n c (tab L fun j => it c j st) ∧ it c L st = st := by
  rcases walk_end (U := fun _ => False) hc hs (fun _ _ z => z) nd (fun _ _ z => z) (.inr hm) with ⟨_, z⟩ | ⟨_, z⟩
  · exact z.elim
  · exact ⟨z, (z.back hc (mem_tab.mpr ⟨0, L0, rfl⟩)).mpr (by rw [tab_len]; exact Nat.dvd_refl _)⟩
theorem take_at3 {α : Type} {l : List α} {i : Nat} {x : α} (h : l[i]? = some x) : l.take (i + 1) = l.take i ++ [x] := by
  rw [List.take_add_one, h]
  rfl
theorem sk14r : FnScope ["change", "start", "cycle", "state"] ["change", "start"] (defScope (top 16)) := ⟨rfl, rfl, rfl, by decide +kernel, rfl, by decide +kernel, by decide +kernel⟩
theorem ok_rf {f : Addr} {fd : FuncData} (F : Fun K "round_from" "round_from" (top 16) f fd) : FnOk P w K mg base CX0 1 f fd ["change", "start"] spRF := by
  refine F.ok sk14r (fun vs H Q E h => ?_) (fun cdv A outer s H vs Q E hr h => ⟨_,
    pss_cons (ps_set (i := 2) sk14r.nd rfl (.inl rfl) (pe_lst (pa_cons (pv 1) pa_nil)))
    (pss_cons (ps_set (i := 3) sk14r.nd rfl (.inl rfl) (pe_ix ix_tup (pv 0) (pv 1) (fun _ _ => rfl)))
    (pss_cons (ps_while PassesOwn.never (pt_cmpR op_ne (pv 3) (pv 1) (nomark _))
      (pss_cons (ps_expr (pe_bm PySem.F.plainAttrs_list PySem.F.slot_list_append PySem.F.type_list_append mt_append (pv 2) (pa_cons (pv 3) pa_nil)))
      (pss_one (ps_set (i := 3) sk14r.nd rfl (.inl rfl) (pe_ix ix_tup (pv 0) (pv 3) (fun _ _ => rfl))))))
    (pss_one (ps_ret (pv 2))))), ?_⟩)
  · obtain ⟨a, n, c, st, rfl, _⟩ := h
    rfl
  obtain ⟨a, n, c, st, rfl, ha, hc, hn, stn, q⟩ := h
  refine ⟨_, rfl, (by show 1 ≤ sizeLine; decide), fun k hk => ?_⟩
  have ak : a ≠ k := fun z => by rw [z, hk] at ha; cases ha
  refine ⟨_, rfl, _, rfl, a, _, _, _, rfl, rfl, SqT.of (Same.mk1 hk _ _ ha), atI_nat (vi_get (at_getD (by rw [hc.len]; exact stn))), ?_⟩
  refine ⟨fun μ σ H3 => ∃ L : Nat, 0 < L ∧ μ = n - L ∧ σ = [some (.ref a), some (.int (st : Int)), some (.ref k), some (.int ((it c L st : Nat) : Int))] ∧ Same H H3 ∧ H3 k = some (.lst (vi (tab L fun j => it c j st))) ∧ (tab L fun j => it c j st).Nodup,
    ⟨_, 1, by decide, rfl, rfl, Same.mk1 hk, upd_same, by simp [tab]⟩, ?_⟩
  rintro μ σ H3 ⟨L, L0, rfl, rfl, s3, h2, nd⟩
  have ltn := it_lt hc stn L
  have Ln := walk_le hc stn nd
  refine ⟨_, rfl, _, rfl, rfl, _, rfl, ?_⟩
  by_cases e : it c L st = st
  · have hm : it c L st ∈ tab L fun j => it c j st := by
      rw [e]
      exact mem_tab.mpr ⟨0, L0, rfl⟩
    refine iteN (by simp [e]) ⟨_, rfl, q k H3 L s3 hk h2 L0 Ln (it_mem hc stn nd L0 hm).1⟩
  · have nm : it c L st ∉ tab L fun j => it c j st := fun z => e (it_mem hc stn nd L0 z).2
    have nd2 : (tab (L + 1) fun j => it c j st).Nodup := by
      rw [tab_succ]
      refine List.nodup_append.mpr ⟨nd, List.nodup_cons.mpr ⟨List.not_mem_nil, List.nodup_nil⟩, fun x hx y hy e => ?_⟩
      have ey : y = it c L st := List.mem_singleton.mp hy
      rw [e, ey] at hx
      exact nm hx
    have Ln2 := walk_le hc stn nd2
    refine iteP (by simp; omega) ⟨fun σ' H4 => ∃ μ', μ' < n - L ∧ ∃ L : Nat, 0 < L ∧ μ' = n - L ∧ σ' = [some (.ref a), some (.int (st : Int)), some (.ref k), some (.int ((it c L st : Nat) : Int))] ∧ Same H H4 ∧ H4 k = some (.lst (vi (tab L fun j => it c j st))) ∧ (tab L fun j => it c j st).Nodup, fun _ _ z => z, ?_⟩
    refine ⟨_, rfl, .inl ⟨rfl, _, SqL.of h2⟩, _, rfl, k, _, _, rfl, rfl, h2, len_lt (by simp only [vi, List.length_map, tab_len]; omega), ?_⟩
    refine ⟨_, rfl, _, rfl, a, _, _, _, rfl, rfl, SqT.of (by rw [upd_ne ak]; exact s3 _ _ ha), atI_nat (vi_get (at_getD (by rw [hc.len]; exact ltn))), n - (L + 1), by omega, L + 1, by omega, rfl, rfl, fun b o z => by rw [upd_ne (fun y => by rw [y, hk] at z; cases z)]; exact s3 b o z, ?_, nd2⟩
    rw [upd_same, tab_succ]
    simp only [vi, List.map_append, List.map_cons, List.map_nil]
/-- _cycles(change) -/
def spCyc : Sp := fun vs H Q _ => ∃ (a : Addr) (n : Nat) (c : List Nat), vs = [.ref a] ∧ H a = some (.tup (vi c)) ∧ Chg n c ∧ n ≤ 16 ∧
  ∀ p H' (as : List (Addr × List Nat)), Same H H' → H p = none → H' p = some (.lst (as.map fun q => V.ref q.1)) → (∀ q ∈ as, H' q.1 = some (.lst (vi q.2)) ∧ Cyc n c q.2 ∧ H q.1 = none) → (∀ x, x < n → Un as x) → as.length ≤ 16 → Q (.ref p) H'
theorem sk14 : FnScope ["change", "met", "cycles", "start", "cycle", "state"] ["change"] (defScope (top 17)) := ⟨rfl, rfl, rfl, by decide +kernel, rfl, by decide +kernel, by decide +kernel⟩
theorem ok_cyc {f : Addr} {fd : FuncData} (B : Bl mg) (CR : Cal P w K mg base CX0 1 "round_from" ["change", "start"] spRF) (F : Fun K "_cycles" "_cycles" (top 17) f fd) : FnOk P w K mg base CX0 2 f fd ["change"] spCyc := by
  refine F.ok sk14 (fun vs H Q E h => ?_) (fun cdv A outer s H vs Q E hr h => ⟨_,
    pss_cons (ps_set (i := 1) sk14.nd rfl (.inl rfl) (pe_op op_rep (pe_lst (pa_cons pe_bl pa_nil)) (pe_callB call_len_seq (by rfl) B.len PySem.boot_len (pa_cons (pv 0) pa_nil))))
    (pss_cons (ps_set (i := 2) sk14.nd rfl (.inl rfl) (pe_lst pa_nil))
    (pss_cons (ps_for PassesOwn.never rfl (pi_tup (pv 0)) (pg_name (i := 3) sk14.nd rfl (.inl rfl))
      (pss_one (ps_if (pt_not (pt_val (pe_ix ix_list (pv 1) (pv 3) (fun _ _ => rfl))))
        (pss_cons (ps_set (i := 4) sk14.nd rfl (.inl rfl) (by exact (pe_cal (X := L2.Cx.nox _) CR hr (by decide) (pa_cons (pv 0) (pa_cons (pv 3) pa_nil)))))
        (pss_cons (ps_for PassesOwn.never rfl (pi_list (pv 4)) (pg_name (i := 5) sk14.nd rfl (.inl rfl)) (pss_one (ps_asg pe_bl (pg_sub (pv 1) (pv 5) set_list))))
        (pss_one (ps_expr (pe_bm PySem.F.plainAttrs_list PySem.F.slot_list_append PySem.F.type_list_append mt_append (pv 2) (pa_cons (pv 4) pa_nil)))))) pss_nil)))
    (pss_one (ps_ret (pv 2))))), ?_⟩)
  · obtain ⟨a, n, c, rfl, _⟩ := h
    rfl
  obtain ⟨a, n, c, rfl, ha, hc, hn, q⟩ := h
  have lc : (vi c).length = n := by rw [List.length_map]; exact hc.len
  refine ⟨(by show 1 ≤ sizeLine; decide), fun l hl => ⟨_, rfl, a, _, rfl, .inr (SqT.of (Same.mk1 hl _ _ ha)), l, _, _, rfl, rfl, upd_same, ?_, ?_, ?_, fun m hm => ?_⟩⟩
  · rw [lc]; omega
  · rw [lc]; omega
  · rw [lc]
    show 1 * ((n : Int)).toNat ≤ sizeLine
    exact Nat.le_of_lt (len_lt (by omega))
  have e0 : (List.replicate (((vi c).length : Nat) : Int).toNat [V.bl false]).flatten = vb (List.replicate n false) := by
    rw [lc, vb_rep, rep_v]
    rfl
  rw [e0]
  have s1 : Same H (upd (upd H l (.lst [V.bl false])) m (.lst (vb (List.replicate n false)))) := (Same.mk1 hl).trans (Same.mk1 hm)
  have m1 : upd (upd H l (.lst [V.bl false])) m (.lst (vb (List.replicate n false))) m = some (.lst (vb (List.replicate n false))) := upd_same
  have mn : H m = none := (Same.mk1 hl).free hm
  generalize upd (upd H l (.lst [V.bl false])) m (.lst (vb (List.replicate n false))) = H1 at s1 m1 ⊢
  refine ⟨(by show 0 ≤ sizeLine; exact Nat.zero_le _), fun p hp => ?_⟩
  have pn : H p = none := s1.free hp
  have mp : m ≠ p := ne_of_none m1 hp
  refine ⟨_, rfl, a, rfl, ⟨_, SqT.of (Same.mk1 hp _ _ (s1 _ _ ha))⟩, for_tup (xs := vi c) (fun i σ H' => (∃ u3 u4 u5 : Option V, σ = [some (.ref a), some (.ref m), some (.ref p), u3, u4, u5]) ∧ Same H H' ∧ ∃ (as : List (Addr × List Nat)) (mt : List Bool),
      H' m = some (.lst (vb mt)) ∧ Cys n c H H' m p as ∧ as.length ≤ i ∧ Tells n mt (Un as) ∧ ∀ j, j < i → Un as (c.getD j 0))
    ⟨⟨none, none, none, rfl⟩, s1.trans (Same.mk1 hp), [], List.replicate n false, Same.mk1 hp _ _ m1, ⟨upd_same, fun _ z => by simp at z⟩, Nat.le_refl _, ⟨List.length_replicate, fun x hx => ⟨false, by rw [List.getElem?_replicate, if_pos hx], by simp [Un]⟩⟩, fun j hj => absurd hj (Nat.not_lt_zero j)⟩ (fun i σ H' _ z => SqT.of (z.2.1 _ _ ha)) ?_ ?_⟩
  · rintro i x σ H2 hx ⟨⟨u3, u4, u5, rfl⟩, sH, as, mt, hm2, hcy, hlen, htell, hcov⟩
    obtain ⟨st, hst, rfl⟩ := vi_at hx
    have hi : i < n := by rw [← hc.len]; exact (List.getElem?_eq_some_iff.mp hst).1
    have est : c.getD i 0 = st := getD_at hst
    have stn : st < n := by rw [← est]; exact hc.at_lt hi
    obtain ⟨b, hb, hbu⟩ := htell.2 st stn
    refine ⟨_, rfl, _, rfl, m, _, _, _, rfl, rfl, SqL.of hm2, atI_nat (by rw [List.getElem?_map, hb]; rfl), b, rfl, ?_⟩
    cases b with
    | true =>
      refine iteF ⟨⟨_, _, _, rfl⟩, sH, as, mt, hm2, hcy, by omega, htell, fun j hj => ?_⟩
      by_cases e : j = i
      · rw [e, est]
        exact hbu.mp rfl
      · exact hcov j (by omega)
    | false =>
    have nu : ¬ Un as st := fun z => by have := hbu.mpr z; cases this
    refine iteT ⟨_, rfl, _, rfl, a, n, c, st, rfl, sH _ _ ha, hc, hn, stn, fun k H3 L s3 kn2 h2 L0 Ln hC => ?_⟩
    have kn : H k = none := sH.free kn2
    have km : k ≠ m := (ne_of_none hm2 kn2).symm
    have kp : k ≠ p := (ne_of_none hcy.at_ kn2).symm
    dsimp only [gName]
    refine sq_cut (fun σ H4 => ∃ (mt' : List Bool) (u5 : Option V), σ = [some (.ref a), some (.ref m), some (.ref p), some (.int (st : Int)), some (.ref k), u5] ∧ KpM m H3 H4 ∧ H4 m = some (.lst (vb mt')) ∧ H4 k = some (.lst (vi (tab L fun j => it c j st))) ∧
        Tells n mt' (fun x => Un as x ∨ x ∈ tab L fun j => it c j st)) (fun Z hZ => ?_) ?_
    · refine ⟨_, rfl, k, rfl, ⟨_, SqL.of h2⟩, for_list (xs := vi (tab L fun j => it c j st)) (fun i2 σ H4 => ∃ (mt' : List Bool) (u5 : Option V), σ = [some (.ref a), some (.ref m), some (.ref p), some (.int (st : Int)), some (.ref k), u5] ∧ KpM m H3 H4 ∧ H4 m = some (.lst (vb mt')) ∧ H4 k = some (.lst (vi (tab L fun j => it c j st))) ∧
          Tells n mt' (fun x => Un as x ∨ x ∈ (tab L fun j => it c j st).take i2))
        ⟨mt, u5, rfl, KpM.refl, s3 _ _ hm2, h2, ⟨htell.1, fun x hx => by
          obtain ⟨b, h1, h2⟩ := htell.2 x hx
          exact ⟨b, h1, by rw [h2]; simp⟩⟩⟩ (fun i2 σ H4 _ z => by
            obtain ⟨_, _, _, _, _, z5, _⟩ := z
            exact SqL.of z5) ?_ ?_⟩
      · rintro i2 x σ H4 hx ⟨mt', u5', rfl, hK, h1, h2', hT⟩
        obtain ⟨y, hy, rfl⟩ := vi_at hx
        have ym : y ∈ tab L fun j => it c j st := List.mem_of_getElem? hy
        have ltn := hC.lt hc ym
        have lk : (vb mt').length = n := by rw [List.length_map]; exact hT.1
        refine ⟨_, rfl, _, rfl, m, _, _, y, rfl, rfl, h1, ix_ok (by rw [lk]; exact ltn), mt'.set y true, _, rfl, hK.upd_m, ?_, ?_, ?_⟩
        · rw [upd_same]
          show some (HO.lst ((mt'.map V.bl).set y (V.bl true))) = some (HO.lst ((mt'.set y true).map V.bl))
          rw [List.map_set]
        · rw [upd_ne km]
          exact h2'
        · refine hT.set ltn fun x hx => ?_
          rw [take_at3 hy, List.mem_append, List.mem_singleton, or_assoc]
      · rintro σ H4 ⟨mt', u5', rfl, hK, h1, h2', hT⟩
        rw [List.length_map, List.take_length] at hT
        exact hZ _ _ ⟨mt', u5', rfl, hK, h1, h2', hT⟩
    · rintro σ H4 ⟨mt', u5', rfl, hK, h1, h2', hT⟩
      have mnn : ∀ b o, H b = some o → b ≠ m := fun b o z y => by rw [y, mn] at z; cases z
      have sH3 : Same H H4 := fun b o z => hK b o (mnn b o z) (s3 _ _ (sH b o z))
      have cy3 : Cys n c H H4 m p as := ⟨hK _ _ mp.symm (s3 _ _ hcy.at_), fun q hq => let ⟨z1, z2, z3, z4, z5⟩ := hcy.each q hq; ⟨hK _ _ z3 (s3 _ _ z1), z2, z3, z4, z5⟩⟩
      refine ⟨_, rfl, .inl ⟨rfl, _, SqL.of cy3.at_⟩, _, rfl, p, _, _, rfl, rfl, cy3.at_, len_lt (by rw [List.length_map]; omega), ⟨_, _, _, rfl⟩, ?_, as ++ [(k, tab L fun j => it c j st)], mt', ?_, ⟨?_, fun q hq => ?_⟩, by rw [List.length_append]; simp; omega, ⟨hT.1, fun x hx => ?_⟩, fun j hj => ?_⟩
      · exact fun b o z => by rw [upd_ne (fun y => by rw [y, pn] at z; cases z)]; exact sH3 b o z
      · rw [upd_ne mp]
        exact h1
      · rw [upd_same, List.map_append]
        rfl
      · rcases List.mem_append.mp hq with hq | hq
        · obtain ⟨z1, z2, z3, z4, z5⟩ := cy3.each q hq
          exact ⟨by rw [upd_ne z4]; exact z1, z2, z3, z4, z5⟩
        · have : q = (k, tab L fun j => it c j st) := by simpa using hq
          subst this
          exact ⟨by rw [upd_ne kp]; exact h2', hC, km, kp, kn⟩
      · obtain ⟨b, z1, z2⟩ := hT.2 x hx
        refine ⟨b, z1, ?_⟩
        rw [z2]
        constructor
        · rintro (⟨q, hq, hm⟩ | hm)
          · exact ⟨q, List.mem_append_left _ hq, hm⟩
          · exact ⟨(k, tab L fun j => it c j st), by simp, hm⟩
        · rintro ⟨q, hq, hm⟩
          rcases List.mem_append.mp hq with hq | hq
          · exact .inl ⟨q, hq, hm⟩
          · have : q = (k, tab L fun j => it c j st) := by simpa using hq
            subst this
            exact .inr hm
      · by_cases e : j = i
        · rw [e, est]
          exact ⟨(k, tab L fun j => it c j st), by simp, mem_tab.mpr ⟨0, L0, rfl⟩⟩
        · obtain ⟨q, hq, hm⟩ := hcov j (by omega)
          exact ⟨q, List.mem_append_left _ hq, hm⟩
  · rintro σ H2 ⟨⟨u3, u4, u5, rfl⟩, sH, as, mt, hm2, hcy, hlen, htell, hcov⟩
    rw [lc] at hlen hcov
    exact ⟨_, rfl, q p H2 as sH pn hcy.at_ (fun q hq => let ⟨z1, z2, _, _, z5⟩ := hcy.each q hq; ⟨z1, z2, z5⟩) (fun x hx => by
      obtain ⟨j, hj, rfl⟩ := hc.mem hx
      exact hcov j hj) (by omega)⟩
end
end KV

/-! powers, orders -/
namespace KV
open PySem PySem.Spec PyProof.Rows L2 KC
theorem cut_from {xs : List V} {s : Nat} (h : s ≤ xs.length) : cutV xs (some (s : Int)) none = xs.drop s := by
  unfold cutV
  rw [HT.sIx_nat, show HT.sIx xs.length xs.length none = xs.length from rfl, Nat.min_eq_left h]
  exact List.take_of_length_le (by rw [List.length_drop]; exact Nat.le_refl _)
theorem cut_to {xs : List V} {s : Nat} (h : s ≤ xs.length) : cutV xs none (some (s : Int)) = xs.take s := by
  unfold cutV
  rw [HT.sIx_nat, show HT.sIx xs.length 0 none = 0 from rfl, Nat.min_eq_left h, List.drop_zero, Nat.sub_zero]
theorem un_take {as : List (Addr × List Nat)} {i : Nat} {q : Addr × List Nat} (h : as[i]? = some q) {x : Nat} : Un (as.take (i + 1)) x ↔ Un (as.take i) x ∨ x ∈ q.2 := by
  unfold Un
  rw [List.take_succ, h]
  constructor
  · rintro ⟨r, hr, hx⟩
    rcases List.mem_append.mp hr with hr | hr
    · exact .inl ⟨r, hr, hx⟩
    · have : r = q := by simpa using hr
      rw [this] at hx
      exact .inr hx
  · rintro (⟨r, hr, hx⟩ | hx)
    · exact ⟨r, List.mem_append_left _ hr, hx⟩
    · exact ⟨q, by simp, hx⟩
theorem refs_at {as : List (Addr × List Nat)} {i : Nat} {x : V} (h : (as.map fun q => V.ref q.1)[i]? = some x) : ∃ q, as[i]? = some q ∧ x = .ref q.1 := by
  rw [List.getElem?_map] at h
  cases e : as[i]? with
  | none => rw [e] at h; cases h
  | some q => rw [e] at h; exact ⟨q, rfl, (Option.some.inj h).symm⟩
section
variable {P : Program} {w : World} {K : PySem.W.Frag} {mg : Str → Option Value} {base : Heap} {C fI : Addr}
/-- raised(change, count) -/
def spRai : Sp := fun vs H Q _ => ∃ (a : Addr) (n : Nat) (c : List Nat) (k : Int), vs = [.ref a, .int k] ∧ H a = some (.tup (vi c)) ∧ Chg n c ∧ n ≤ 16 ∧ ∀ t H', Same H H' → H t = none → H' t = some (.tup (vi (pw n c k))) → Q (.ref t) H'
theorem sk15 : FnScope ["change", "count", "out", "cycle", "shift", "state", "to"] ["change", "count"] (defScope (top 18)) := ⟨rfl, rfl, rfl, by decide +kernel, rfl, by decide +kernel, by decide +kernel⟩
theorem ok_rai {f : Addr} {fd : FuncData} (B : Bl mg) (CC : Cal P w K mg base CX0 2 "_cycles" ["change"] spCyc) (F : Fun K "raised" "raised" (top 18) f fd) : FnOk P w K mg base CX0 3 f fd ["change", "count"] spRai := by
  refine F.ok sk15 (fun vs H Q E h => ?_) (fun cdv A outer s H vs Q E hr h => ⟨_,
    pss_cons (ps_set (i := 2) sk15.nd rfl (.inl rfl) (pe_op op_rep (pe_lst (pa_cons pe_int pa_nil)) (pe_callB call_len_seq (by rfl) B.len PySem.boot_len (pa_cons (pv 0) pa_nil))))
    (pss_cons (ps_for PassesOwn.never rfl (pi_list (pe_cal (X := L2.Cx.nox _) CC hr (by decide) (pa_cons (pv 0) pa_nil))) (pg_name (i := 3) sk15.nd rfl (.inl rfl))
      (pss_cons (ps_set (i := 4) sk15.nd rfl (.inl rfl) (pe_op op_mod (pv 1) (pe_callB call_len_seq (by rfl) B.len PySem.boot_len (pa_cons (pv 3) pa_nil))))
      (pss_one (ps_for PassesOwn.never rfl (pi_zip (by rfl) B.zip (pa_cons (pv 3) (pa_cons (pe_op op_cat (pe_slice sl_list (pv 3) (po_some (pv 4)) po_none) (pe_slice sl_list (pv 3) po_none (po_some (pv 4)))) pa_nil)))
        (pg_tup rfl (pgs_cons (pg_name (i := 5) sk15.nd rfl (.inl rfl)) (pgs_cons (pg_name (i := 6) sk15.nd rfl (.inl rfl)) pgs_nil)))
        (pss_one (ps_asg (pv 6) (pg_sub (pv 2) (pv 5) set_list)))))))
    (pss_one (ps_ret (pe_callTy call_tuple_of (by rfl) B.tuple (by decide +kernel) (pa_cons (pv 2) pa_nil))))), ?_⟩)
  · obtain ⟨a, n, c, k, rfl, _⟩ := h
    rfl
  obtain ⟨a, n, c, cnt, rfl, ha, hc, hn, q⟩ := h
  have lc : (vi c).length = n := by rw [List.length_map]; exact hc.len
  refine ⟨(by show 1 ≤ sizeLine; decide), fun l hl => ⟨_, rfl, a, _, rfl, .inr (SqT.of (Same.mk1 hl _ _ ha)), l, _, _, rfl, rfl, upd_same, ?_, ?_, ?_, fun o ho => ?_⟩⟩
  · rw [lc]; omega
  · rw [lc]; omega
  · rw [lc]
    show 1 * ((n : Int)).toNat ≤ sizeLine
    exact Nat.le_of_lt (len_lt (by omega))
  have e0 : (List.replicate (((vi c).length : Nat) : Int).toNat [V.int 0]).flatten = vi (List.replicate n 0) := by
    rw [lc, vi_rep, rep_v]
    rfl
  rw [e0]
  have s1 : Same H (upd (upd H l (.lst [V.int 0])) o (.lst (vi (List.replicate n 0)))) := (Same.mk1 hl).trans (Same.mk1 ho)
  have o1 : upd (upd H l (.lst [V.int 0])) o (.lst (vi (List.replicate n 0))) o = some (.lst (vi (List.replicate n 0))) := upd_same
  have on : H o = none := (Same.mk1 hl).free ho
  generalize upd (upd H l (.lst [V.int 0])) o (.lst (vi (List.replicate n 0))) = H1 at s1 o1 ⊢
  refine ⟨_, rfl, a, n, c, rfl, s1 _ _ ha, hc, hn, fun p Hc as sc pn hp hea hcov hlen => ⟨p, rfl, ⟨_, SqL.of hp⟩, ?_⟩⟩
  have po : p ≠ o := fun z => by rw [z, o1] at pn; cases pn
  have sH : Same H Hc := s1.trans sc
  refine for_list (K := K) (a := p) (xs := as.map fun q => V.ref q.1) (fun i σ H' => (∃ u3 u4 u5 u6 : Option V, σ = [some (.ref a), some (.int cnt), some (.ref o), u3, u4, u5, u6]) ∧ KpM o Hc H' ∧ ∃ es : List Nat, H' o = some (.lst (vi es)) ∧ es.length = n ∧ ∀ x, Un (as.take i) x → es[x]? = some (it c (cnt % (fac n : Int)).toNat x))
    ⟨⟨none, none, none, none, rfl⟩, KpM.refl, List.replicate n 0, sc _ _ o1, List.length_replicate, fun x ⟨q, hq, _⟩ => by simp at hq⟩ (fun i σ H' _ z => SqL.of (z.2.1 _ _ po hp)) ?_ ?_
  · rintro i x σ H2 hx ⟨⟨u3, u4, u5, u6, rfl⟩, hK, es, p2, p3, p4⟩
    obtain ⟨q, hq, rfl⟩ := refs_at hx
    obtain ⟨hq1, hq2, hq3⟩ := hea q (List.mem_of_getElem? hq)
    have qo : q.1 ≠ o := fun z => by rw [z, o1] at hq3; cases hq3
    have hy := hK _ _ qo hq1
    have pos := hq2.pos
    have lv : (vi q.2).length = q.2.length := List.length_map ..
    have ld := hq2.le hc
    refine ⟨_, rfl, _, rfl, q.1, _, rfl, .inl (SqL.of hy), _, _, rfl, rfl, (by rw [lv]; show (0 : Int) < _; omega), ?_⟩
    dsimp only [gName]
    rw [lv]
    have t0 := Int.emod_nonneg cnt (show (q.2.length : Int) ≠ 0 by omega)
    have t1 := Int.emod_lt_of_pos cnt (show (0 : Int) < (q.2.length : Int) by omega)
    obtain ⟨sh, esh⟩ := Int.eq_ofNat_of_zero_le t0
    have turn := fun (j x : Nat) (h : q.2[j]? = some x) => hq2.turn hc cnt h
    rw [esh] at turn t1 ⊢
    have shl : sh ≤ q.2.length := by omega
    refine ⟨_, rfl, _, rfl, _, rfl, _, rfl, q.1, _, rfl, SqL.of hy, fun d1 hd1 => ⟨_, rfl, _, rfl, _, rfl, q.1, _, rfl, SqL.of (Same.mk1 hd1 _ _ hy), fun d2 hd2 => ?_⟩⟩
    rw [cut_from (by rw [lv]; exact shl), cut_to (by rw [lv]; exact shl)]
    have e1 : (vi q.2).drop sh = vi (q.2.drop sh) := List.map_drop.symm
    have e2 : (vi q.2).take sh = vi (q.2.take sh) := List.map_take.symm
    have hd2 : upd H2 d1 (.lst (vi (q.2.drop sh))) d2 = none := by
      rw [← e1, ← cut_from (by rw [lv]; exact shl)]
      exact hd2
    rw [e1, e2]
    refine ⟨d1, d2, _, _, rfl, rfl, Same.mk1 hd2 _ _ upd_same, upd_same, ?_, fun d3 hd3 => ?_⟩
    · simp only [vi, List.length_map, List.length_drop, List.length_take]
      exact Nat.le_of_lt (len_lt (by omega))
    have sd := ((Same.mk1 (o := .lst (vi (q.2.drop sh))) hd1).trans (Same.mk1 (o := .lst (vi (q.2.take sh))) hd2)).trans (Same.mk1 (o := .lst (vi (q.2.drop sh) ++ vi (q.2.take sh))) hd3)
    have d3v : upd (upd (upd H2 d1 (.lst (vi (q.2.drop sh)))) d2 (.lst (vi (q.2.take sh)))) d3 (.lst (vi (q.2.drop sh) ++ vi (q.2.take sh))) d3 = some (.lst (vi (q.2.drop sh ++ q.2.take sh))) := by rw [upd_same]; simp only [vi, List.map_append]
    have d3n : H2 d3 = none := ((Same.mk1 (o := .lst (vi (q.2.drop sh))) hd1).trans (Same.mk1 (o := .lst (vi (q.2.take sh))) hd2)).free hd3
    generalize upd (upd (upd H2 d1 (.lst (vi (q.2.drop sh)))) d2 (.lst (vi (q.2.take sh)))) d3 (.lst (vi (q.2.drop sh) ++ vi (q.2.take sh))) = H3 at sd d3v ⊢
    have d3o : d3 ≠ o := (ne_of_none p2 d3n).symm
    have k3 : KpM o Hc H3 := fun b u hb z => sd _ _ (hK b u hb z)
    refine ⟨q.1, d3, vi q.2, vi (q.2.drop sh ++ q.2.take sh), rfl, SqL.of (sd _ _ hy), SqL.of d3v, RZ.for_zipL (xs := vi q.2) (ys := vi (q.2.drop sh ++ q.2.take sh)) ?_
      (fun j σ H' => (∃ u5 u6 : Option V, σ = [some (.ref a), some (.int cnt), some (.ref o), some (.ref q.1), some (.int (sh : Int)), u5, u6]) ∧ KpM o H3 H' ∧ ∃ es : List Nat, H' o = some (.lst (vi es)) ∧ es.length = n ∧ ∀ x, (Un (as.take i) x ∨ x ∈ q.2.take j) → es[x]? = some (it c (cnt % (fac n : Int)).toNat x))
      ⟨⟨u5, u6, rfl⟩, KpM.refl, es, sd _ _ p2, p3, fun x hx => p4 x (hx.elim id fun z => by simp at z)⟩ (fun j σ H' z => ⟨SqL.of (z.2.1 _ _ qo (sd _ _ hy)), SqL.of (z.2.1 _ _ d3o d3v)⟩) ?_ ?_⟩
    · simp only [vi, List.length_map, List.length_append, List.length_drop, List.length_take]
      omega
    · rintro j x y T σ H4 hx hy' ⟨⟨u5, u6, rfl⟩, k4, es, r2, r3, r4⟩ hT
      obtain ⟨xm, hxm, rfl⟩ := vi_at hx
      obtain ⟨ym, hym, rfl⟩ := vi_at hy'
      have ey : ym = it c (cnt % (fac n : Int)).toNat xm := by
        have z := turn j xm hxm
        rw [show ((sh : Nat) : Int).toNat = sh from rfl, hym] at z
        exact Option.some.inj z
      have xn : xm < n := hq2.lt hc (List.mem_of_getElem? hxm)
      have le : (vi es).length = n := by rw [List.length_map]; exact r3
      have oT : o ≠ T := ne_of_none r2 hT
      refine ⟨T, _, rfl, SqT.of upd_same, rfl, _, _, rfl, _, _, rfl, rfl, ?_⟩
      refine ⟨_, rfl, _, rfl, _, rfl, o, _, _, xm, rfl, rfl, Same.mk1 hT _ _ r2, ix_ok (by rw [le]; exact xn), ⟨_, _, rfl⟩, ?_, es.set xm ym, ?_, by rw [List.length_set]; exact r3, ?_⟩
      · exact (k4.new hT oT.symm).upd_m
      · rw [upd_same]
        show some (HO.lst ((es.map fun (n : Nat) => V.int (n : Int)).set xm (V.int (ym : Int)))) = some (HO.lst ((es.set xm ym).map fun (n : Nat) => V.int (n : Int)))
        rw [List.map_set]
      · intro x hx
        by_cases e : x = xm
        · subst e
          rw [List.getElem?_set_self (by rw [r3]; exact xn), ey]
        · rw [List.getElem?_set_ne (Ne.symm e)]
          refine r4 x (hx.imp id fun z => ?_)
          rw [List.take_succ, hxm] at z
          rcases List.mem_append.mp z with z | z
          · exact z
          · exact absurd (by simpa using z) e
    · rintro σ H4 ⟨⟨u5, u6, rfl⟩, k4, es, r2, r3, r4⟩
      refine ⟨⟨_, _, _, _, rfl⟩, fun b u hb z => k4 b u hb (k3 b u hb z), es, r2, r3, fun x hx => r4 x ?_⟩
      rw [lv, List.take_length]
      exact (un_take hq).mp hx
  · rintro σ H2 ⟨⟨u3, u4, u5, u6, rfl⟩, hK, es, p2, p3, p4⟩
    have s2 : Same H H2 := fun b u z => hK b u (fun y => by rw [y, on] at z; cases z) (sH b u z)
    have ees : es = pw n c cnt := by
      unfold pw
      refine List.ext_getElem? fun x => ?_
      by_cases hx : x < n
      · rw [tab_get hx]
        refine p4 x ?_
        rw [show (as.map fun q => V.ref q.1).length = as.length from List.length_map .., List.take_length]
        exact hcov x hx
      · rw [List.getElem?_eq_none (by omega), List.getElem?_eq_none (by rw [tab_len]; omega)]
    subst ees
    exact ⟨_, rfl, o, _, rfl, .inl ⟨SqL.of p2, fun t ht => q t _ (s2.trans (Same.mk1 ht)) (s2.free ht) upd_same⟩⟩
end
end KV

/-! orders, loops, and the defs that check first -/
namespace KV
open PySem PySem.Spec PyProof.Rows L2 KC
theorem canLay_ints : ∀ ns : List Int, PyData.canLayAll0 (ns.map PyData.int) = true
  | [] => rfl
  | n :: r => by simp only [List.map_cons, PyData.canLayAll0, PyData.canLay0, canLay_ints r, Bool.and_self]
theorem shaped_intsT (ns : List Int) : SeqAt.shaped (.tuple (ns.map PyData.int)) = true := by
  unfold SeqAt.shaped
  simp only [PyData.canLay0, canLay_ints, PyData.depth, depth_ints]
  decide
theorem eqv_ints : ∀ ns ms : List Int, PyData.eqvAll (ns.map PyData.int) (ms.map PyData.int) = decide (ns = ms)
  | [], [] => rfl
  | [], _ :: _ => rfl
  | _ :: _, [] => rfl
  | n :: r, m :: s => by
    show (PyData.eqv (.int n) (.int m) && PyData.eqvAll (r.map PyData.int) (s.map PyData.int)) = _
    rw [eqv_ints r s]
    have e : PyData.eqv (.int n) (.int m) = decide (n = m) := by
      show (n == m) = _
      by_cases z : n = m <;> simp [z]
    rw [e]
    by_cases z : n = m <;> by_cases y : r = s <;> simp [z, y]
def zi (c : List Nat) : List Int := c.map fun (n : Nat) => (n : Int)
theorem vi_zi (c : List Nat) : vi c = (zi c).map V.int := by
  unfold zi
  rw [List.map_map]
  rfl
theorem zi_inj : ∀ {c e : List Nat}, zi c = zi e ↔ c = e
  | [], [] => by simp [zi]
  | [], _ :: _ => by simp [zi]
  | _ :: _, [] => by simp [zi]
  | a :: c, b :: e => by
    have ih := zi_inj (c := c) (e := e)
    unfold zi at ih ⊢
    simp only [List.map_cons, List.cons.injEq, Int.natCast_inj, ih]
theorem dpT {K : PySem.W.Frag} {H : Hp} {a : Addr} {c : List Nat} (h : H a = some (.tup (vi c))) : Dp K H (.ref a) (.tuple ((zi c).map PyData.int)) := .tup (SqT.of h) (by rw [vi_zi]; exact dp_ints (zi c))
theorem eqT {K : PySem.W.Frag} {H : Hp} {a b : Addr} {c e : List Nat} {Q : VK} (h1 : H a = some (.tup (vi c))) (h2 : H b = some (.tup (vi e))) (q : Q (.bl (decide (c = e))) H) : rEqD K (.ref a) (.ref b) H Q :=
  ⟨_, _, dpT h1, dpT h2, shaped_intsT _, shaped_intsT _, by
    have z : PyData.eqv (.tuple ((zi c).map PyData.int)) (.tuple ((zi e).map PyData.int)) = decide (c = e) := by
      show PyData.eqvAll _ _ = _
      rw [eqv_ints, decide_eq_decide]
      exact zi_inj
    rw [z]
    exact q⟩
theorem neT {K : PySem.W.Frag} {H : Hp} {a b : Addr} {c e : List Nat} {Q : VK} (h1 : H a = some (.tup (vi c))) (h2 : H b = some (.tup (vi e))) (q : Q (.bl (!decide (c = e))) H) : rNeD K (.ref a) (.ref b) H Q :=
  ⟨_, _, dpT h1, dpT h2, shaped_intsT _, shaped_intsT _, by
    have z : PyData.eqv (.tuple ((zi c).map PyData.int)) (.tuple ((zi e).map PyData.int)) = decide (c = e) := by
      show PyData.eqvAll _ _ = _
      rw [eqv_ints, decide_eq_decide]
      exact zi_inj
    rw [z]
    exact q⟩
def rLcm : List V → Hp → VK → Prop := fun vs H Q => ∃ a b : Int, vs = [.int a, .int b] ∧ a.natAbs < 2 ^ 64 ∧ b.natAbs < 2 ^ 64 ∧ Q (.int ((Nat.lcm a.natAbs b.natAbs : Nat) : Int)) H
theorem cr_lcm {X : Cx} : CallR X (.builtin "math.lcm") rLcm := by
  intro pins s σ H vs us Q I r h
  obtain ⟨a, b, rfl, ha, hb, q⟩ := h
  obtain ⟨t, u, rfl⟩ := Vals.int2 r
  exact PySem.W.mc_lcm ha hb fun _ => ⟨.int _, H, I.tok _, ⟨_, rfl⟩, q⟩
theorem fac_small : ∀ {n : Nat}, n ≤ 16 → fac n < 2 ^ 60 := by
  have : ∀ n, n < 17 → fac n < 2 ^ 60 := by decide
  exact fun {n} h => this n (by omega)
/-- L tells which counts leave all as it was -/
def OrdOf (n : Nat) (c : List Nat) (L : Nat) : Prop := 0 < L ∧ ∀ m, (∀ x, x < n → it c m x = x) ↔ L ∣ m
section
variable {P : Program} {w : World} {K : PySem.W.Frag} {mg : Str → Option Value} {base : Heap} {C fI : Addr}
/-- order_of(change) -/
def spOrd : Sp := fun vs H Q _ => ∃ (a : Addr) (n : Nat) (c : List Nat), vs = [.ref a] ∧ H a = some (.tup (vi c)) ∧ Chg n c ∧ n ≤ 16 ∧ ∀ H' L, Same H H' → OrdOf n c L → Q (.int (L : Nat)) H'
theorem sk16 : FnScope ["change", "least", "cycle"] ["change"] (defScope (top 19)) := ⟨rfl, rfl, rfl, by decide +kernel, rfl, by decide +kernel, by decide +kernel⟩
theorem ok_ord {f : Addr} {fd : FuncData} (B : Bl mg) (CC : Cal P w K mg base CX0 2 "_cycles" ["change"] spCyc) (F : Fun K "order_of" "order_of" (top 19) f fd) : FnOk P w K mg base CX0 3 f fd ["change"] spOrd := by
  refine F.ok sk16 (fun vs H Q E h => ?_) (fun cdv A outer s H vs Q E hr h => ⟨_,
    pss_cons (ps_set (i := 1) sk16.nd rfl (.inl rfl) pe_int)
    (pss_cons (ps_for PassesOwn.never rfl (pi_list (pe_cal (X := L2.Cx.nox _) CC hr (by decide) (pa_cons (pv 0) pa_nil))) (pg_name (i := 2) sk16.nd rfl (.inl rfl))
      (pss_one (ps_set (i := 1) sk16.nd rfl (.inl rfl) (pe_callBfun cr_lcm (by rfl) B.lcm (pa_cons (pv 1) (pa_cons (pe_callB call_len_seq (by rfl) B.len PySem.boot_len (pa_cons (pv 2) pa_nil)) pa_nil))))))
    (pss_one (ps_ret (pv 1)))), ?_⟩)
  · obtain ⟨a, n, c, rfl, _⟩ := h
    rfl
  obtain ⟨a, n, c, rfl, ha, hc, hn, q⟩ := h
  refine ⟨_, rfl, a, n, c, rfl, ha, hc, hn, fun p Hc as sc pn hp hea hcov hlen => ⟨p, rfl, ⟨_, SqL.of hp⟩, for_list (K := K) (a := p) (xs := as.map fun q => V.ref q.1)
    (fun i σ H' => H' = Hc ∧ ∃ (l : Nat) (u : Option V), σ = [some (.ref a), some (.int (l : Int)), u] ∧ 0 < l ∧ l ∣ fac n ∧ ∀ m, l ∣ m ↔ ∀ q ∈ as.take i, q.2.length ∣ m) ⟨rfl, 1, none, rfl, by decide, Nat.one_dvd _, fun m => by simp⟩ (fun i σ H' _ z => by rw [z.1]; exact SqL.of hp) ?_ ?_⟩⟩
  · rintro i x σ H2 hx ⟨rfl, l, u, rfl, l0, l1, l2⟩
    obtain ⟨q, hq, rfl⟩ := refs_at hx
    obtain ⟨hq1, hq2, hq3⟩ := hea q (List.mem_of_getElem? hq)
    have lv : (vi q.2).length = q.2.length := List.length_map ..
    have qn := hq2.le hc
    have f60 := fac_small hn
    have lf := Nat.le_of_dvd (fac_pos n) l1
    refine ⟨_, rfl, _, rfl, q.1, _, rfl, .inl (SqL.of hq1), _, _, rfl, ?_, ?_, rfl, Nat.lcm l q.2.length, some (.ref q.1), ?_, Nat.lcm_pos l0 hq2.pos, Nat.lcm_dvd l1 (hq2.dvd hc), fun m => ?_⟩
    · show ((l : Nat) : Int).natAbs < 2 ^ 64
      rw [Int.natAbs_natCast]
      omega
    · rw [lv, Int.natAbs_natCast]
      omega
    · rw [lv, Int.natAbs_natCast, Int.natAbs_natCast]
      rfl
    · rw [Nat.lcm_dvd_iff, l2, List.take_succ, hq]
      constructor
      · rintro ⟨z1, z2⟩ r hr
        rcases List.mem_append.mp hr with hr | hr
        · exact z1 r hr
        · have : r = q := by simpa using hr
          rw [this]
          exact z2
      · exact fun z => ⟨fun r hr => z r (List.mem_append_left _ hr), z q (by simp)⟩
  · rintro σ H2 ⟨rfl, l, u, rfl, l0, l1, l2⟩
    rw [show (as.map fun q => V.ref q.1).length = as.length from List.length_map .., List.take_length] at l2
    refine ⟨_, rfl, q _ l sc ⟨l0, fun m => ?_⟩⟩
    rw [l2]
    constructor
    · intro z r hr
      obtain ⟨_, hC, _⟩ := hea r hr
      obtain ⟨x, hx⟩ := List.exists_mem_of_ne_nil r.2 (fun e => by have := hC.pos; rw [e] at this; exact absurd this (by decide))
      exact (hC.back hc hx).mp (z x (hC.lt hc hx))
    · intro z x hx
      obtain ⟨r, hr, hm⟩ := hcov x hx
      exact ((hea r hr).2.1.back hc hm).mpr (z r hr)
/-- commute(one, other) -/
def spCom : Sp := fun vs H Q _ => ∃ (a b : Addr) (n : Nat) (c e : List Nat), vs = [.ref a, .ref b] ∧ H a = some (.tup (vi c)) ∧ H b = some (.tup (vi e)) ∧ Chg n c ∧ Chg n e ∧ n ≤ 16 ∧ ∀ H', Same H H' → Q (.bl (decide (comp c e = comp e c))) H'
/-- looped, split_looped -/
def spLoo : Sp := fun vs H Q _ => ∃ (a b : Addr) (n : Nat) (c e : List Nat) (k : Int), vs = [.ref a, .ref b, .int k] ∧ H a = some (.tup (vi c)) ∧ H b = some (.tup (vi e)) ∧ Chg n c ∧ Chg n e ∧ n ≤ 16 ∧ ∀ t H', Same H H' → H t = none → H' t = some (.tup (vi (pw n (comp c e) k))) → Q (.ref t) H'
theorem sk18 : FnScope ["one", "other", "count"] ["one", "other", "count"] (defScope (top 21)) := ⟨rfl, rfl, rfl, by decide +kernel, rfl, by decide +kernel, by decide +kernel⟩
theorem ok_loo {f : Addr} {fd : FuncData} (CC : Cal P w K mg base CX0 1 "composed" ["one", "other"] spComp) (CR : Cal P w K mg base CX0 3 "raised" ["change", "count"] spRai) (F : Fun K "looped" "looped" (top 21) f fd) : FnOk P w K mg base CX0 4 f fd ["one", "other", "count"] spLoo := by
  refine F.ok sk18 (fun vs H Q E h => ?_) (fun cdv A outer s H vs Q E hr h => ⟨_,
    pss_one (ps_ret (pe_cal (X := L2.Cx.nox _) CR hr (by decide) (pa_cons (pe_cal (X := L2.Cx.nox _) CC hr (by decide) (pa_cons (pv 0) (pa_cons (pv 1) pa_nil))) (pa_cons (pv 2) pa_nil)))), ?_⟩)
  · obtain ⟨a, b, n, c, e, k, rfl, _⟩ := h
    rfl
  obtain ⟨a, b, n, c, e, k, rfl, ha, hb, hc, he, hn, q⟩ := h
  exact ⟨_, rfl, _, rfl, a, b, c, e, rfl, ha, hb, fun x hx => by rw [he.len]; exact hc.lt x hx, by rw [hc.len]; exact hn, fun t H1 s1 tn ht => ⟨_, rfl, t, n, comp c e, k, rfl, ht, chg_comp hc he, hn, fun u H2 s2 un hu => q u H2 (s1.trans s2) (s1.free un) hu⟩⟩
def spSpl : Sp := fun vs H Q _ => ∃ (a b : Addr) (n : Nat) (c e : List Nat) (k : Int), vs = [.ref a, .ref b, .int k] ∧ H a = some (.tup (vi c)) ∧ H b = some (.tup (vi e)) ∧ Chg n c ∧ Chg n e ∧ n ≤ 16 ∧ ∀ t H', Same H H' → H t = none → H' t = some (.tup (vi (comp (pw n c k) (pw n e k)))) → Q (.ref t) H'
theorem sk19 : FnScope ["one", "other", "count"] ["one", "other", "count"] (defScope (top 22)) := ⟨rfl, rfl, rfl, by decide +kernel, rfl, by decide +kernel, by decide +kernel⟩
theorem ok_spl {f : Addr} {fd : FuncData} (CC : Cal P w K mg base CX0 1 "composed" ["one", "other"] spComp) (CR : Cal P w K mg base CX0 3 "raised" ["change", "count"] spRai) (F : Fun K "split_looped" "split_looped" (top 22) f fd) : FnOk P w K mg base CX0 4 f fd ["one", "other", "count"] spSpl := by
  refine F.ok sk19 (fun vs H Q E h => ?_) (fun cdv A outer s H vs Q E hr h => ⟨_,
    pss_one (ps_ret (pe_cal (X := L2.Cx.nox _) CC hr (by decide) (pa_cons (pe_cal (X := L2.Cx.nox _) CR hr (by decide) (pa_cons (pv 0) (pa_cons (pv 2) pa_nil))) (pa_cons (pe_cal (X := L2.Cx.nox _) CR hr (by decide) (pa_cons (pv 1) (pa_cons (pv 2) pa_nil))) pa_nil)))), ?_⟩)
  · obtain ⟨a, b, n, c, e, k, rfl, _⟩ := h
    rfl
  obtain ⟨a, b, n, c, e, k, rfl, ha, hb, hc, he, hn, q⟩ := h
  exact ⟨_, rfl, _, rfl, a, n, c, k, rfl, ha, hc, hn, fun t H1 s1 tn ht => ⟨_, rfl, _, rfl, b, n, e, k, rfl, s1 _ _ hb, he, hn, fun u H2 s2 un hu => ⟨t, u, _, _, rfl, s2 _ _ ht, hu, fun x hx => by rw [(pw_chg he k).len]; exact (pw_chg hc k).lt x hx, by rw [(pw_chg hc k).len]; exact hn,
    fun v H3 s3 vn hv => q v H3 ((s1.trans s2).trans s3) ((s1.trans s2).free vn) hv⟩⟩⟩
end
end KV

/-! the law's draws -/
namespace KV
open PySem PySem.Spec PyProof.Rows L2 KC
theorem shaped_ints (ns : List Int) : SeqAt.shaped (.list (ns.map PyData.int)) = true := by
  unfold SeqAt.shaped
  simp only [PyData.canLay0, canLay_ints, PyData.depth, depth_ints]
  decide
theorem dpL {K : PySem.W.Frag} {H : Hp} {a : Addr} {ns : List Int} (h : SqL K H a (ns.map V.int)) : Dp K H (.ref a) (.list (ns.map PyData.int)) := .lst h (dp_ints ns)
/-- xs != ys, xs == ys of lists of ints: the answer -/
theorem neL {K : PySem.W.Frag} {H : Hp} {a b : Addr} {ns ms : List Int} {Q : VK} (h1 : SqL K H a (ns.map V.int)) (h2 : SqL K H b (ms.map V.int)) (q : Q (.bl (!decide (ns = ms))) H) : rNeD K (.ref a) (.ref b) H Q :=
  ⟨_, _, dpL h1, dpL h2, shaped_ints ns, shaped_ints ms, by
    have e : PyData.eqv (.list (ns.map PyData.int)) (.list (ms.map PyData.int)) = decide (ns = ms) := eqv_ints ns ms
    rw [e]
    exact q⟩
theorem eqL {K : PySem.W.Frag} {H : Hp} {a b : Addr} {ns ms : List Int} {Q : VK} (h1 : SqL K H a (ns.map V.int)) (h2 : SqL K H b (ms.map V.int)) (q : Q (.bl (decide (ns = ms))) H) : rEqD K (.ref a) (.ref b) H Q :=
  ⟨_, _, dpL h1, dpL h2, shaped_ints ns, shaped_ints ms, by
    have e : PyData.eqv (.list (ns.map PyData.int)) (.list (ms.map PyData.int)) = decide (ns = ms) := eqv_ints ns ms
    rw [e]
    exact q⟩
/-- the source of draws at d, its cells at c -/
def Dl (H : Hp) (d c : Addr) : Prop := d ≠ c ∧ ∃ (cs : List Int) (b : Int), H d = some (.lst [.ref c, .int b]) ∧ H c = some (.lst (cs.map V.int)) ∧ (∀ x ∈ cs, 0 ≤ x) ∧ cs.length ≤ 64 ∧ 0 ≤ b ∧ b < 2147483648
/-- all else stands -/
def Kp (d c : Addr) (H H' : Hp) : Prop := ∀ b o, b ≠ d → b ≠ c → H b = some o → H' b = some o
theorem Kp.refl {d c : Addr} {H : Hp} : Kp d c H H := fun _ _ _ _ h => h
theorem Kp.trans {d c : Addr} {H H1 H2 : Hp} (a : Kp d c H H1) (b : Kp d c H1 H2) : Kp d c H H2 := fun x o h1 h2 h => b x o h1 h2 (a x o h1 h2 h)
theorem Kp.of {d c : Addr} {H H' : Hp} (s : Same H H') : Kp d c H H' := fun b o _ _ h => s b o h
theorem Kp.upd_d {d c : Addr} {H H' : Hp} {o : HO} (k : Kp d c H H') : Kp d c H (upd H' d o) := fun b u h1 h2 h => by
  rw [upd_ne h1]
  exact k b u h1 h2 h
theorem Kp.upd_c {d c : Addr} {H H' : Hp} {o : HO} (k : Kp d c H H') : Kp d c H (upd H' c o) := fun b u h1 h2 h => by
  rw [upd_ne h2]
  exact k b u h1 h2 h
theorem Kp.new {d c p : Addr} {H H' : Hp} {o : HO} (k : Kp d c H H') (hp : H' p = none) : Kp d c H (upd H' p o) := k.trans (Kp.of (Same.new hp))
theorem Kp.free {d c p : Addr} {H H' : Hp} (k : Kp d c H H') (hd : p ≠ d) (hc : p ≠ c) (hp : H' p = none) : H p = none := by
  cases e : H p with
  | none => rfl
  | some o =>
    rw [k p o hd hc e] at hp
    cases hp
theorem Dl.same {H H' : Hp} {d c : Addr} (h : Dl H d c) (s : Same H H') : Dl H' d c := by
  obtain ⟨n, cs, b, h1, h2, r⟩ := h
  exact ⟨n, cs, b, s _ _ h1, s _ _ h2, r⟩
theorem Dl.ne {H : Hp} {d c p : Addr} (h : Dl H d c) (hp : H p = none) : p ≠ d ∧ p ≠ c := by
  obtain ⟨_, cs, b, h1, h2, _⟩ := h
  exact ⟨fun e => (by rw [e, h1] at hp; cases hp), fun e => (by rw [e, h2] at hp; cases hp)⟩
theorem Dl.neT {H : Hp} {d c p : Addr} {xs : List V} (h : Dl H d c) (hp : H p = some (.tup xs)) : p ≠ d ∧ p ≠ c := by
  obtain ⟨_, cs, b, h1, h2, _⟩ := h
  exact ⟨fun e => (by rw [e, h1] at hp; cases hp), fun e => (by rw [e, h2] at hp; cases hp)⟩
section
variable {P : Program} {w : World} {K : PySem.W.Frag} {mg : Str → Option Value} {base : Heap}
def spDraw (K : PySem.W.Frag) : Sp := fun vs H Q _ => ∃ (a : Addr) (ns : List Int) (sa : Int), vs = [.ref a, .int sa] ∧ SqL K H a (ns.map V.int) ∧ 0 ≤ sa ∧ sa < 1000 ∧ ∀ H' d c, Same H H' → H d = none → H c = none → Dl H' d c → Q (.ref d) H'
theorem sk28 : FnScope ["_law_script", "_law_salt", "_law_cell", "_law_cells", "_law_blend"] ["_law_script", "_law_salt"] (defScope (top 37)) := ⟨rfl, rfl, rfl, by decide +kernel, rfl, by decide +kernel, by decide +kernel⟩
theorem ok_draw {f : Addr} {fd : FuncData} (B : Bl mg) (F : Fun K "_law_draw" "_law_draw" (top 37) f fd) : FnOk P w K mg base CX0 1 f fd ["_law_script", "_law_salt"] (spDraw K) := by
  refine F.ok sk28 (fun vs H Q E h => ?_) (fun cdv A outer s H vs Q E hr h => ⟨_,
    pss_cons (ps_setLc (i := 3) (own := [("_law_cell", 2)]) (g := gName 2) (tt := tYes) rfl sk28.nd rfl rfl (sw_true rfl rfl rfl (by decide +kernel)) (pi_list (pe_slice sl_list (pv 0) po_none (po_some pe_int)))
      (blkOk_by (N := ["_law_script", "_law_salt", "_law_cell", "_law_cells", "_law_blend"]) (sc := defScope (top 37)) (by decide +kernel)) (fun _ _ _ _ _ => pg_name (i := 2) sk28.nd rfl (Or.inl rfl)) (fun _ _ _ _ _ => pts_nil)
      (fun _ _ _ _ _ => pe_callB call_abs (by rfl) B.abs (by decide +kernel) (pa_cons (pe_callTy call_int1 (by rfl) B.int PyProof.Rows.boot_int (pa_cons (pv 2) pa_nil)) pa_nil)))
    (pss_cons (ps_set (i := 4) sk28.nd rfl (.inl rfl) (pe_op op_add pe_int (pe_op op_mul pe_int (pv 1))))
    (pss_cons (ps_for PassesOwn.never rfl (pi_list (pv 3)) (pg_name (i := 2) sk28.nd rfl (.inl rfl))
      (pss_one (ps_set (i := 4) sk28.nd rfl (.inl rfl) (pe_op op_mod (pe_callTy call_int1 (by rfl) B.int PyProof.Rows.boot_int (pa_cons (pe_op op_add (pe_op op_add (pe_op op_mul (pv 4) pe_int) (pe_op op_mod (pv 2) pe_int)) pe_int) pa_nil)) pe_int))))
    (pss_one (ps_ret (pe_lst (pa_cons (pe_revL
      (pe_lc (own := [("_law_cell", 2)]) (g := gName 2) rfl sk28.nd (pi_list (pv 3)) (blkOk_by (N := ["_law_script", "_law_salt", "_law_cell", "_law_cells", "_law_blend"]) (sc := defScope (top 37)) (by decide +kernel))
        (fun _ _ _ _ _ => pg_name (i := 2) sk28.nd rfl (Or.inl rfl)) (fun _ _ _ _ _ => pts_one (pt_cmpR op_ge (pv 2) (pe_op op_pow pe_int pe_int) (nomark _))) (fun _ _ _ _ _ => pv 2))) (pa_cons (pv 4) pa_nil))))))), ?_⟩)
  · obtain ⟨a, ns, sa, rfl, _⟩ := h
    rfl
  obtain ⟨a, ns, sa, rfl, hS, s0, s1, q⟩ := h
  refine ⟨_, rfl, _, rfl, a, _, rfl, hS, fun p hp => ?_⟩
  have ecut : cutV (ns.map V.int) none (some 48) = (ns.take 48).map V.int := by
    unfold cutV
    have e1 : HT.sIx (ns.map V.int).length 0 none = 0 := rfl
    have e2 : HT.sIx (ns.map V.int).length (ns.map V.int).length (some 48) = min 48 (ns.map V.int).length := HT.sIx_nat _ _ 48
    rw [e1, e2, List.drop_zero, Nat.sub_zero, List.length_map, List.map_take]
    rw [← List.length_map (f := V.int) (as := ns)]
    exact List.take_eq_take_min.symm
  have sp : Same H (upd H p (.lst (cutV (ns.map V.int) none (some 48)))) := Same.new hp
  have hpS : SqL K (upd H p (.lst (cutV (ns.map V.int) none (some 48)))) p ((ns.take 48).map V.int) := SqL.of (by rw [upd_same, ecut])
  generalize upd H p (.lst (cutV (ns.map V.int) none (some 48))) = H1 at sp hpS
  have l48 : (ns.take 48).length ≤ 48 := by rw [List.length_take]; omega
  generalize ns.take 48 = ms at hpS l48
  refine ⟨p, rfl, ⟨_, hpS⟩, fun D hD => lc_list (xs := ms.map V.int) (fun i H' => Same H1 H' ∧ ∃ cs : List Int, cs.length = i ∧ (∀ x ∈ cs, 0 ≤ x) ∧ H' D = some (.lst (cs.map V.int))) ⟨Same.new hD, [], rfl, fun _ z => by simp at z, upd_same⟩
    (fun i H' _ z => z.1.seq hpS) ?_ ?_⟩
  · rintro i x H' hx ⟨p1, cs, cl, c0, p2⟩
    obtain ⟨m, hm, rfl⟩ := map_at hx
    have hi := (List.getElem?_eq_some_iff.mp hm).1
    refine ⟨rfl, _, rfl, .inl ⟨m, rfl, m, rfl, cs.map V.int, p2, len_lt (by rw [List.length_map]; omega), Same.upd p1 hD, cs ++ [if m < 0 then -m else m], by simp [cl], fun y hy => ?_, ?_⟩⟩
    · rcases List.mem_append.mp hy with hy | hy
      · exact c0 y hy
      · have : y = if m < 0 then -m else m := by simpa using hy
        rw [this]
        split <;> omega
    · rw [upd_same, List.map_append]
      rfl
  · rintro H' ⟨p1, cs, cl, c0, p2⟩
    rw [List.length_map] at cl
    refine ⟨_, rfl, _, _, rfl, rfl, .inl ⟨by decide, by omega⟩, _, _, rfl, rfl, ?_⟩
    refine ⟨_, rfl, D, rfl, ⟨_, SqL.of p2⟩, for_list (xs := cs.map V.int) (fun i σ H2 => (∃ (u : Option V) (b : Int), 0 ≤ b ∧ b < 2147483648 ∧ σ = [some (.ref a), some (.int sa), u, some (.ref D), some (.int b)]) ∧ H2 = H')
      ⟨⟨none, _, ?_, ?_, rfl⟩, rfl⟩ ?_ ?_ ?_⟩
    · show 0 ≤ 7919 + 104729 * sa
      omega
    · show 7919 + 104729 * sa < 2147483648
      omega
    · rintro i σ H2 _ ⟨_, rfl⟩
      exact SqL.of p2
    · rintro i x σ H2 hx ⟨⟨u, b, b0, b1, rfl⟩, rfl⟩
      obtain ⟨m, hm, rfl⟩ := map_at hx
      refine ⟨_, rfl, _, _, rfl, rfl, .inl ⟨by omega, by omega⟩, _, rfl, _, _, rfl, rfl, (by show (0 : Int) < 2147483549; decide), _, _, rfl, rfl, _, _, rfl, rfl, .inl ⟨_, rfl, _, _, rfl, rfl, (by show (0 : Int) < 2147483647; decide), ⟨some (.int m), _, ?_, ?_, rfl⟩, rfl⟩⟩
      · exact Int.emod_nonneg _ (by decide)
      · have := Int.emod_lt_of_pos (b * 48271 + m % 2147483549 + 11) (show (0 : Int) < 2147483647 by decide)
        omega
    · rintro σ H2 ⟨⟨u, b, b0, b1, rfl⟩, rfl⟩
      refine ⟨_, rfl, D, rfl, ⟨_, SqL.of p2⟩, fun D2 hD2 => lc_list (xs := cs.map V.int) (fun i H3 => Same H2 H3 ∧ ∃ es : List Int, es.length ≤ i ∧ (∀ x ∈ es, 0 ≤ x) ∧ H3 D2 = some (.lst (es.map V.int))) ⟨Same.new hD2, [], Nat.le_refl _, fun _ z => by simp at z, upd_same⟩
        (fun i H3 _ z => z.1.seq (SqL.of p2)) ?_ ?_⟩
      · rintro i x H3 hx ⟨q1, es, el, e0, q2⟩
        obtain ⟨m, hm, rfl⟩ := map_at hx
        have hi := (List.getElem?_eq_some_iff.mp hm).1
        refine ⟨rfl, _, rfl, _, _, rfl, rfl, ⟨by decide, by decide, by decide⟩, _, _, rfl, rfl, _, rfl, ?_⟩
        cases decide ((10 : Int) ^ (18 : Int).toNat ≤ m) with
        | true =>
          refine iteT ⟨_, rfl, es.map V.int, q2, len_lt (by rw [List.length_map]; omega), Same.upd q1 hD2, es ++ [m], by simp; omega, fun y hy => ?_, ?_⟩
          · rcases List.mem_append.mp hy with hy | hy
            · exact e0 y hy
            · have : y = m := by simpa using hy
              rw [this]
              exact c0 m (List.mem_of_getElem? hm)
          · rw [upd_same, List.map_append]
            rfl
        | false => exact iteF ⟨q1, es, by omega, e0, q2⟩
      · rintro H3 ⟨q1, es, el, e0, q2⟩
        rw [List.length_map] at el
        refine ⟨D2, _, rfl, SqL.of q2, fun c hc => ⟨_, rfl, (by show 2 ≤ sizeLine; decide), fun d hd => ?_⟩⟩
        have t1 : Same H H3 := (sp.trans p1).trans q1
        have t2 : Same H (upd H3 c (.lst (es.map V.int).reverse)) := Same.upd t1 (t1.free hc)
        have dc : d ≠ c := fun e => by
          rw [e, upd_same] at hd
          cases hd
        refine q _ d c (Same.upd t2 (t2.free hd)) (t2.free hd) (t1.free hc) ⟨dc, es.reverse, b, upd_same, ?_, fun x hx => e0 x (by simpa using hx), by rw [List.length_reverse]; omega, b0, b1⟩
        rw [upd_ne (Ne.symm dc), upd_same, List.map_reverse]
end
end KV

/-! any, of, divisor -/
namespace KV
open PySem PySem.Spec PyProof.Rows L2 KC
section
variable {P : Program} {w : World} {K : PySem.W.Frag} {mg : Str → Option Value} {base : Heap}
def spAny : Sp := fun vs H Q _ => ∃ (d c : Addr) (m : Int), vs = [.ref d, .int m] ∧ Dl H d c ∧ 0 < m ∧ sm 200 m ∧ ∀ r H', 0 ≤ r → r < m → Dl H' d c → Kp d c H H' → Q (.int r) H'
theorem sk29 : FnScope ["_law_deal", "_law_bound", "_law_rest"] ["_law_deal", "_law_bound"] (defScope (top 38)) := ⟨rfl, rfl, rfl, by decide +kernel, rfl, by decide +kernel, by decide +kernel⟩
theorem at0 {x y : V} : atI [x, y] 0 = some x := rfl
theorem at1 {x y : V} : atI [x, y] 1 = some y := rfl
theorem at_last {es : List Int} {e : Int} : atI ((es ++ [e]).map V.int) (-1) = some (.int e) := by
  have hl : ((es ++ [e]).map V.int).length = es.length + 1 := by simp
  unfold atI L2.ixN
  rw [hl, if_neg (by decide), if_pos (by omega)]
  have e1 : (-1 + ((es.length + 1 : Nat) : Int)).toNat = es.length := by omega
  show ((es ++ [e]).map V.int)[(-1 + ((es.length + 1 : Nat) : Int)).toNat]? = _
  rw [e1, List.map_append, List.getElem?_append_right (by simp)]
  simp
theorem last_at {es : List Int} {e : Int} : ((es ++ [e]).map V.int)[((es ++ [e]).map V.int).length - 1]? = some (V.int e) := by
  rw [List.map_append, List.getElem?_append_right (by simp)]
  simp
theorem last_drop {es : List Int} {e : Int} : ((es ++ [e]).map V.int).dropLast = es.map V.int := by
  rw [List.map_append]
  exact List.dropLast_concat
def AnyW (d c : Addr) (m b : Int) (H : Hp) (k : Nat) (σ : L2.St) (H' : Hp) : Prop := σ = [some (.ref d), some (.int m), none] ∧ Kp d c H H' ∧ ∃ es : List Int, k = es.length ∧ (∀ x ∈ es, 0 ≤ x) ∧ es.length ≤ 64 ∧ H' d = some (.lst [.ref c, .int b]) ∧ H' c = some (.lst (es.map V.int))
theorem ok_any {f : Addr} {fd : FuncData} (B : Bl mg) (F : Fun K "_law_any" "_law_any" (top 38) f fd) : FnOk P w K mg base CX0 1 f fd ["_law_deal", "_law_bound"] spAny := by
  refine F.ok sk29 (fun vs H Q E h => ?_) (fun cdv A outer s H vs Q E hr h => ⟨_,
    pss_cons (ps_while PassesOwn.never (PW.pt (pw_and (pt_cmpR (op_neD hr.units) (pe_ix ix_list (pv 0) pe_int (fun _ _ => rfl)) (pe_lst pa_nil) (nomark _))
        (pw_and1 (pt_cmpR op_eq (pe_ix ix_list (pe_ix ix_list (pv 0) pe_int (fun _ _ => rfl)) (pe_un un_neg pe_int) (fun _ _ => rfl)) pe_int (nomark _)))))
      (pss_one (ps_expr (pe_bm0 PySem.F.plainAttrs_list PySem.F.slot_list_pop PySem.F.type_list_pop mt_pop (pe_ix ix_list (pv 0) pe_int (fun _ _ => rfl))))))
    (pss_cons (ps_if (pt_cmpR (op_neD hr.units) (pe_ix ix_list (pv 0) pe_int (fun _ _ => rfl)) (pe_lst pa_nil) (nomark _))
      (pss_cons (ps_set (i := 2) sk29.nd rfl (.inl rfl) (pe_callTy call_int1 (by rfl) B.int PyProof.Rows.boot_int (pa_cons (pe_bm0 PySem.F.plainAttrs_list PySem.F.slot_list_pop PySem.F.type_list_pop mt_pop (pe_ix ix_list (pv 0) pe_int (fun _ _ => rfl))) pa_nil)))
      (pss_cons (ps_expr (pe_bm PySem.F.plainAttrs_list PySem.F.slot_list_append PySem.F.type_list_append mt_append (pe_ix ix_list (pv 0) pe_int (fun _ _ => rfl)) (pa_cons (pe_op op_fdivW (pv 2) (pv 1)) pa_nil)))
      (pss_one (ps_ret (pe_op op_mod (pv 2) (pv 1)))))) pss_nil)
    (pss_cons (ps_asg (pe_op op_mod (pe_callTy call_int1 (by rfl) B.int PyProof.Rows.boot_int (pa_cons (pe_op op_add (pe_op op_mul (pe_ix ix_list (pv 0) pe_int (fun _ _ => rfl)) pe_int) pe_int) pa_nil)) pe_int) (pg_sub (pv 0) pe_int set_list))
    (pss_one (ps_ret (pe_op op_mod (pe_callTy call_int1 (by rfl) B.int PyProof.Rows.boot_int (pa_cons (pe_op op_fdiv (pe_ix ix_list (pv 0) pe_int (fun _ _ => rfl)) pe_int) pa_nil)) (pv 1)))))), ?_⟩)
  · obtain ⟨d, c, m, rfl, _⟩ := h
    rfl
  obtain ⟨d, c, m, rfl, hD, m0, ms, q⟩ := h
  obtain ⟨dc, cs, b, h1, h2, c0, cl, b0, b1⟩ := hD
  refine sq_cut (fun σ H' => σ = [some (.ref d), some (.int m), none] ∧ Kp d c H H' ∧ ∃ es : List Int, (∀ x ∈ es, 0 ≤ x) ∧ es.length ≤ 64 ∧ H' d = some (.lst [.ref c, .int b]) ∧ H' c = some (.lst (es.map V.int))) (fun Z hZ => ?_) ?_
  · refine ⟨AnyW d c m b H,
      ⟨_, rfl, Kp.refl, cs, rfl, c0, cl, h1, h2⟩, ?_⟩
    rintro k σ H' ⟨rfl, hk, es, rfl, e0, el, g1, g2⟩
    refine ⟨_, rfl, d, _, _, _, rfl, rfl, SqL.of g1, at0, (by show 0 ≤ sizeLine; decide), fun p hp => ?_⟩
    have hpc : p ≠ c := fun e => by rw [e, g2] at hp; cases hp
    have hpd : p ≠ d := fun e => by rw [e, g1] at hp; cases hp
    have u1 : upd H' p (.lst []) d = some (.lst [.ref c, .int b]) := by rw [upd_ne (Ne.symm hpd)]; exact g1
    have u2 : upd H' p (.lst []) c = some (.lst (es.map V.int)) := by rw [upd_ne (Ne.symm hpc)]; exact g2
    have uk : Kp d c H (upd H' p (.lst [])) := hk.new hp
    have u3 : upd H' p (.lst []) p = some (.lst []) := upd_same
    generalize upd H' p (.lst []) = H1 at u1 u2 u3 uk
    refine neL (ns := es) (ms := []) (SqL.of u2) (SqL.of u3) ⟨_, rfl, ?_⟩
    rcases List.eq_nil_or_concat es with rfl | ⟨es', e, ee⟩
    · exact iteN (by simp) (iteF (hZ _ _ ⟨rfl, uk, [], fun _ z => by simp at z, by simp, u1, u2⟩))
    · rw [List.concat_eq_append] at ee
      subst ee
      refine iteP (by simp) ⟨_, rfl, d, _, _, _, rfl, rfl, SqL.of u1, at0, ?_⟩
      refine ⟨_, rfl, c, _, _, _, rfl, rfl, SqL.of u2, at_last, rfl, _, rfl, ?_⟩
      by_cases e1 : e = 0
      · refine iteP (by simp [e1]) ⟨fun σ H' => ∃ m', m' < (es' ++ [e]).length ∧ AnyW d c m b H m' σ H', fun _ _ z => z, _, rfl, d, _, _, _, rfl, rfl, SqL.of u1, at0, .inl ⟨rfl, _, SqL.of u2⟩, c, _, _, rfl, rfl, u2, last_at, ?_⟩
        rw [last_drop]
        refine ⟨es'.length, by simp, rfl, uk.upd_c, es', rfl, fun x hx => e0 x (by simp [hx]), by simp at el; omega, ?_, upd_same⟩
        rw [upd_ne dc]
        exact u1
      · exact iteN (by simp [e1]) (hZ _ _ ⟨rfl, uk, _, e0, el, u1, u2⟩)
  · rintro σ H' ⟨rfl, hk, es, e0, el, g1, g2⟩
    refine ⟨_, rfl, d, _, _, _, rfl, rfl, SqL.of g1, at0, (by show 0 ≤ sizeLine; decide), fun p hp => ?_⟩
    have hpc : p ≠ c := fun e => by rw [e, g2] at hp; cases hp
    have hpd : p ≠ d := fun e => by rw [e, g1] at hp; cases hp
    have u1 : upd H' p (.lst []) d = some (.lst [.ref c, .int b]) := by rw [upd_ne (Ne.symm hpd)]; exact g1
    have u2 : upd H' p (.lst []) c = some (.lst (es.map V.int)) := by rw [upd_ne (Ne.symm hpc)]; exact g2
    have uk : Kp d c H (upd H' p (.lst [])) := hk.new hp
    have u3 : upd H' p (.lst []) p = some (.lst []) := upd_same
    generalize upd H' p (.lst []) = H1 at u1 u2 u3 uk
    refine neL (ns := es) (ms := []) (SqL.of u2) (SqL.of u3) ⟨_, rfl, ?_⟩
    rcases List.eq_nil_or_concat es with rfl | ⟨es', e, ee⟩
    · refine iteN (by simp) ⟨_, rfl, d, _, _, _, rfl, rfl, SqL.of u1, at1, _, _, rfl, rfl, .inl ⟨by omega, by omega⟩, _, _, rfl, rfl, .inl ⟨_, rfl, _, _, rfl, rfl, (by show (0 : Int) < 2147483647; decide), _, rfl, d, _, _, _, rfl, rfl, u1, rfl, ?_⟩⟩
      have f0 := Int.emod_nonneg (b * 40693 + 71) (show (2147483647 : Int) ≠ 0 by decide)
      have f1 := Int.emod_lt_of_pos (b * 40693 + 71) (show (0 : Int) < 2147483647 by decide)
      obtain ⟨b', eb⟩ : ∃ b', b' = (b * 40693 + 71) % 2147483647 := ⟨_, rfl⟩
      rw [← eb] at f0 f1
      have e8 : [V.ref c, V.int b].set (Int.toNat 1) ((fun i j : Int => V.int (i % j)) (b * 40693 + 71) 2147483647) = [V.ref c, V.int b'] := by
        show [V.ref c, V.int ((b * 40693 + 71) % 2147483647)] = _
        rw [← eb]
      rw [e8]
      have w1 : upd H1 d (.lst [.ref c, .int b']) d = some (.lst [.ref c, .int b']) := upd_same
      have w2 : upd H1 d (.lst [.ref c, .int b']) c = some (.lst (([] : List Int).map V.int)) := by
        rw [upd_ne (Ne.symm dc)]
        exact u2
      have wk : Kp d c H (upd H1 d (.lst [.ref c, .int b'])) := uk.upd_d
      refine ⟨_, rfl, d, _, _, _, rfl, rfl, SqL.of w1, at1, _, _, rfl, rfl, ⟨by decide, by decide⟩, .inl ⟨_, rfl, _, rfl, _, _, rfl, rfl, m0, ?_⟩⟩
      exact q _ _ (Int.emod_nonneg _ (by omega)) (Int.emod_lt_of_pos _ m0) ⟨dc, [], b', w1, w2, fun _ z => by simp at z, by simp, f0, by omega⟩ wk
    · rw [List.concat_eq_append] at ee
      subst ee
      refine iteP (by simp) ⟨_, rfl, d, _, _, _, rfl, rfl, SqL.of u1, at0, .inl ⟨rfl, _, SqL.of u2⟩, c, _, _, rfl, rfl, u2, last_at, ?_⟩
      rw [last_drop]
      have w2 : upd H1 c (.lst (es'.map V.int)) c = some (.lst (es'.map V.int)) := upd_same
      have w1 : upd H1 c (.lst (es'.map V.int)) d = some (.lst [.ref c, .int b]) := by
        rw [upd_ne dc]
        exact u1
      have wk : Kp d c H (upd H1 c (.lst (es'.map V.int))) := uk.upd_c
      generalize upd H1 c (.lst (es'.map V.int)) = H3 at w1 w2 wk
      have el' : es'.length + 1 ≤ 64 := by simpa using el
      refine .inl ⟨e, rfl, _, rfl, d, _, _, _, rfl, rfl, SqL.of w1, at0, .inl ⟨rfl, _, SqL.of w2⟩, _, rfl, _, rfl, _, _, rfl, rfl, divW m0 ms (by decide) (by decide), c, _, _, rfl, rfl, w2, len_lt (by simp; omega), ?_⟩
      have x2 : upd H3 c (.lst (es'.map V.int ++ [V.int (e / m)])) c = some (.lst ((es' ++ [e / m]).map V.int)) := by rw [upd_same, List.map_append]; rfl
      have x1 : upd H3 c (.lst (es'.map V.int ++ [V.int (e / m)])) d = some (.lst [.ref c, .int b]) := by
        rw [upd_ne dc]
        exact w1
      have xk : Kp d c H (upd H3 c (.lst (es'.map V.int ++ [V.int (e / m)]))) := wk.upd_c
      generalize upd H3 c (.lst (es'.map V.int ++ [V.int (e / m)])) = H4 at x1 x2 xk
      refine ⟨_, rfl, _, rfl, _, _, rfl, rfl, m0, ?_⟩
      have e1 := e0 e (by simp)
      exact q _ _ (Int.emod_nonneg _ (by omega)) (Int.emod_lt_of_pos _ m0) ⟨dc, es' ++ [e / m], b, x1, x2, fun x hx => by
        rcases List.mem_append.mp hx with hx | hx
        · exact e0 x (by simp [hx])
        · have : x = e / m := by simpa using hx
          rw [this]
          exact Int.ediv_nonneg e1 (by omega), by simp; omega, b0, b1⟩ xk
end
end KV

/-! of, divisor -/
namespace KV
open PySem PySem.Spec PyProof.Rows L2 KC
theorem Kp.seqL {K : PySem.W.Frag} {d c : Addr} {H H' : Hp} {a : Addr} {xs : List V} (k : Kp d c H H') (hd : a ≠ d) (hc : a ≠ c) (h : SqL K H a xs) : SqL K H' a xs := by
  rcases h with (h | ⟨o, h⟩) | h
  · exact .inl (.inl (k _ _ hd hc h))
  · exact .inl (.inr ⟨o, k _ _ hd hc h⟩)
  · exact .inr h
theorem Kp.seqT {K : PySem.W.Frag} {d c : Addr} {H H' : Hp} {a : Addr} {xs : List V} (k : Kp d c H H') (hd : a ≠ d) (hc : a ≠ c) (h : SqT K H a xs) : SqT K H' a xs := by
  rcases h with (h | ⟨o, h⟩) | h
  · exact .inl (.inl (k _ _ hd hc h))
  · exact .inl (.inr ⟨o, k _ _ hd hc h⟩)
  · exact .inr h
section
variable {P : Program} {w : World} {K : PySem.W.Frag} {mg : Str → Option Value} {base : Heap}
def spOf (K : PySem.W.Frag) : Sp := fun vs H Q _ => ∃ (d c a : Addr) (xs : List V), vs = [.ref d, .ref a] ∧ Dl H d c ∧ a ≠ d ∧ a ≠ c ∧ SqL K H a xs ∧ 0 < xs.length ∧ xs.length ≤ 1000 ∧ ∀ (j : Nat) x H', xs[j]? = some x → Dl H' d c → Kp d c H H' → Q x H'
theorem sk30 : FnScope ["_law_deal", "_law_some"] ["_law_deal", "_law_some"] (defScope (top 39)) := ⟨rfl, rfl, rfl, by decide +kernel, rfl, by decide +kernel, by decide +kernel⟩
theorem ok_of {f : Addr} {fd : FuncData} (B : Bl mg) (CA : Cal P w K mg base CX0 1 "_law_any" ["_law_deal", "_law_bound"] spAny) (F : Fun K "_law_of" "_law_of" (top 39) f fd) : FnOk P w K mg base CX0 2 f fd ["_law_deal", "_law_some"] (spOf K) := by
  refine F.ok sk30 (fun vs H Q E h => ?_) (fun cdv A outer s H vs Q E hr h => ⟨_,
    pss_one (ps_ret (pe_ix ix_list (pv 1) (pe_cal (X := L2.Cx.nox _) CA hr (by decide) (pa_cons (pv 0) (pa_cons (pe_callB call_len_seq (by rfl) B.len PySem.boot_len (pa_cons (pv 1) pa_nil)) pa_nil))) (fun _ _ => rfl))), ?_⟩)
  · obtain ⟨d, c, a, xs, rfl, _⟩ := h
    rfl
  obtain ⟨d, c, a, xs, rfl, hD, ad, ac, hS, l0, l1, q⟩ := h
  refine ⟨_, rfl, _, rfl, _, rfl, a, xs, rfl, .inl hS, d, c, _, rfl, hD, by omega, ?_, fun r H' r0 r1 hD' hk => ?_⟩
  · exact sm_of (by omega) (Int.lt_of_le_of_lt (show (xs.length : Int) ≤ 1000 by omega) (by decide))
  · have hj : r.toNat < xs.length := by omega
    have e1 : atI xs r = some xs[r.toNat] := by
      unfold atI L2.ixN
      rw [if_pos r0, if_pos r1]
      exact List.getElem?_eq_getElem hj
    exact ⟨a, xs, r, _, rfl, rfl, hk.seqL ad ac hS, e1, q r.toNat _ _ (List.getElem?_eq_getElem hj) hD' hk⟩
end
end KV

/-! the law's own steps: one change and another, back, another order, a count -/
namespace KV
open PySem PySem.Spec PyProof.Rows L2 KC
theorem Dl.upd {H : Hp} {d c p : Addr} {o : HO} (h : Dl H d c) (hd : p ≠ d) (hc : p ≠ c) : Dl (L2.upd H p o) d c := by
  obtain ⟨n, cs, b, h1, h2, r⟩ := h
  exact ⟨n, cs, b, by rw [upd_ne (Ne.symm hd)]; exact h1, by rw [upd_ne (Ne.symm hc)]; exact h2, r⟩
theorem vi_erase (ls : List Nat) (k : Nat) : (vi ls).eraseIdx k = vi (ls.eraseIdx k) := by
  induction ls generalizing k with
  | nil => rfl
  | cons x ls ih =>
    cases k with
    | zero => rfl
    | succ k =>
      show V.int x :: (vi ls).eraseIdx k = V.int x :: vi (ls.eraseIdx k)
      rw [ih]
theorem perm_erase : ∀ (ls : List Nat) (k : Nat) (h : k < ls.length), (ls[k] :: ls.eraseIdx k).Perm ls
  | x :: ls, 0, _ => List.Perm.refl _
  | x :: ls, k + 1, h => by
    have h' : k < ls.length := by simpa using h
    have z := perm_erase ls k h'
    show (ls[k] :: x :: ls.eraseIdx k).Perm (x :: ls)
    exact (List.Perm.swap x _ _).trans (z.cons x)
theorem Kp.updn {d c p : Addr} {H H' : Hp} {o : HO} (k : Kp d c H H') (hp : H p = none) : Kp d c H (L2.upd H' p o) := fun b u h1 h2 h => by
  rw [upd_ne (ne_of_none h hp)]
  exact k b u h1 h2 h
section
variable {P : Program} {w : World} {K : PySem.W.Frag} {mg : Str → Option Value} {base : Heap}
theorem sk32 : FnScope ["_law_one", "_law_other", "_law_state"] ["_law_one", "_law_other"] (defScope (top 41)) := ⟨rfl, rfl, rfl, by decide +kernel, rfl, by decide +kernel, by decide +kernel⟩
theorem ok_then {f : Addr} {fd : FuncData} (B : Bl mg) (F : Fun K "_law_then" "_law_then" (top 41) f fd) : FnOk P w K mg base CX0 1 f fd ["_law_one", "_law_other"] spComp := by
  refine F.ok sk32 (fun vs H Q E h => ?_) (fun cdv A outer s H vs Q E hr h => ⟨_,
    pss_one (ps_ret (pe_callTy call_tuple_of (by rfl) B.tuple (by decide +kernel) (pa_cons
      (pe_lc (own := [("_law_state", 2)]) (g := gName 2) (tt := tYes) rfl sk32.nd (pi_tup (pv 0)) (blkOk_by (N := ["_law_one", "_law_other", "_law_state"]) (sc := defScope (top 41)) (by decide +kernel)) (fun _ _ _ _ _ => pg_name (i := 2) sk32.nd rfl (Or.inl rfl)) (fun _ _ _ _ _ => pts_nil)
        (fun _ _ _ _ _ => pe_ix (r := rIxT K) ix_tup (pv 1) (pv 2) (fun _ _ => rfl))) pa_nil))), ?_⟩)
  · obtain ⟨a, b, c, e, rfl, _⟩ := h
    rfl
  obtain ⟨a, b, c, e, rfl, ha, hb, hlt, hl, q⟩ := h
  refine ⟨_, rfl, a, rfl, ⟨_, SqT.of ha⟩, fun D hD => lc_tup (xs := vi c) (fun i H' => Same H H' ∧ H' D = some (.lst (vi (comp (c.take i) e)))) ⟨Same.mk1 hD, upd_same⟩ (fun i H' _ p => SqT.of (p.1 _ _ ha)) ?_ ?_⟩
  · rintro i x H' hx ⟨p1, p2⟩
    obtain ⟨m, hm, rfl⟩ := vi_at hx
    have lt := hlt m (List.mem_of_getElem? hm)
    refine ⟨rfl, _, rfl, _, rfl, b, _, _, _, rfl, rfl, SqT.of (p1 _ _ hb), atI_nat (vi_get (at_getD lt)), _, p2, len_lt (by simp only [vi, comp, List.length_map, List.length_take]; omega), Same.upd p1 hD, ?_⟩
    rw [upd_same, List.take_succ, hm]
    show some (HO.lst (vi (comp (c.take i) e) ++ [V.int ((e.getD m 0 : Nat) : Int)])) = some (HO.lst (vi (comp (c.take i ++ [m]) e)))
    simp only [vi, comp, List.map_append, List.map_cons, List.map_nil]
  · rintro H' ⟨p1, p2⟩
    have p2 : H' D = some (.lst (vi (comp c e))) := by
      have z := p2
      rw [show (vi c).length = c.length from List.length_map .., List.take_length] at z
      exact z
    exact ⟨D, _, rfl, .inl ⟨SqL.of p2, fun t ht => q t _ (p1.trans (Same.mk1 ht)) (p1.free ht) upd_same⟩⟩
/-- the things in another order -/
def spMix : Sp := fun vs H Q _ => ∃ (d c a : Addr) (ns : List Nat), vs = [.ref d, .ref a] ∧ Dl H d c ∧ H a = some (.lst (vi ns)) ∧ a ≠ d ∧ a ≠ c ∧ ns.length ≤ 16 ∧ ∀ l ms H', ms.Perm ns → H l = none → H' l = some (.lst (vi ms)) → Dl H' d c → Kp d c H H' → Q (.ref l) H'
theorem sk31 : FnScope ["_law_deal", "_law_some", "_law_left", "_law_found"] ["_law_deal", "_law_some"] (defScope (top 40)) := ⟨rfl, rfl, rfl, by decide +kernel, rfl, by decide +kernel, by decide +kernel⟩
def MixW (d c a l f : Addr) (ns : List Nat) (H : Hp) (k : Nat) (σ : L2.St) (H' : Hp) : Prop := σ = [some (.ref d), some (.ref a), some (.ref l), some (.ref f)] ∧ ∃ ls fs : List Nat, k = ls.length ∧ (fs ++ ls).Perm ns ∧ H' l = some (.lst (vi ls)) ∧ H' f = some (.lst (vi fs)) ∧ Dl H' d c ∧ Kp d c H H'
theorem ok_mixed {f : Addr} {fd : FuncData} (B : Bl mg) (CA : Cal P w K mg base CX0 1 "_law_any" ["_law_deal", "_law_bound"] spAny) (F : Fun K "_law_mixed" "_law_mixed" (top 40) f fd) : FnOk P w K mg base CX0 2 f fd ["_law_deal", "_law_some"] spMix := by
  refine F.ok sk31 (fun vs H Q E h => ?_) (fun cdv A outer s H vs Q E hr h => ⟨_,
    pss_cons (ps_par (i := 2) (j := 3) rfl sk31.nd rfl rfl (by decide) rfl rfl (pa_cons (pe_callTy call_list_of (by rfl) B.list (by decide +kernel) (pa_cons (pv 1) pa_nil)) (pa_cons (pe_lst pa_nil) pa_nil)) (by rfl))
    (pss_cons (ps_while PassesOwn.never (pt_cmpR (op_neD hr.units) (pv 2) (pe_lst pa_nil) (nomark _))
      (pss_one (ps_expr (pe_bm PySem.F.plainAttrs_list PySem.F.slot_list_append PySem.F.type_list_append mt_append (pv 3) (pa_cons (pe_bm PySem.F.plainAttrs_list PySem.F.slot_list_pop PySem.F.type_list_pop mt_popAt (pv 2) (pa_cons (by exact (pe_cal (X := L2.Cx.nox _) CA hr (by decide) (pa_cons (pv 0) (pa_cons (pe_callB call_len_seq (by rfl) B.len PySem.boot_len (pa_cons (pv 2) pa_nil)) pa_nil)))) pa_nil)) pa_nil)))))
    (pss_one (ps_ret (pv 3)))), ?_⟩)
  · obtain ⟨d, c, a, ns, rfl, _⟩ := h
    rfl
  obtain ⟨d, c, a, ns, rfl, hD, ha, ad, ac, hn, q⟩ := h
  refine ⟨_, rfl, a, _, rfl, .inl (SqL.of ha), fun l hl => ⟨(by show 0 ≤ sizeLine; decide), fun f hf => ⟨_, _, rfl, ?_⟩⟩⟩
  have ld := hD.ne hl
  have fd' := (hD.same (Same.new hl)).ne hf
  have lf : l ≠ f := fun e => by rw [← e, upd_same] at hf; cases hf
  have hfn : H f = none := (Same.new hl).free hf
  have h0 : MixW d c a l f ns H ns.length [some (.ref d), some (.ref a), some (.ref l), some (.ref f)] (upd (upd H l (.lst (vi ns))) f (.lst [])) :=
    ⟨rfl, ns, [], rfl, List.Perm.refl _, by rw [upd_ne lf, upd_same], upd_same, (hD.same (Same.new hl)).same (Same.new hf), (Kp.refl.new hl).new hf⟩
  generalize upd (upd H l (.lst (vi ns))) f (.lst []) = H1 at h0
  dsimp only
  refine sq_cut (MixW d c a l f ns H 0) (fun Z hZ => ⟨MixW d c a l f ns H, ⟨_, h0⟩, ?_⟩) ?_
  · rintro k σ H2 ⟨rfl, ls, fs, rfl, pe, h1, h2, hD2, k2⟩
    have le : ls.length ≤ 16 := by
      have := pe.length_eq
      rw [List.length_append] at this
      omega
    refine ⟨_, rfl, (by show 0 ≤ sizeLine; decide), fun p hp => ?_⟩
    have sp : Same H2 (upd H2 p (.lst [])) := Same.new hp
    have h1 := sp _ _ h1
    have h2 := sp _ _ h2
    have hD2 := hD2.same sp
    have k2 := k2.trans (Kp.of sp)
    have hpp : upd H2 p (.lst []) p = some (.lst (([] : List Int).map V.int)) := upd_same
    generalize upd H2 p (.lst []) = H3 at h1 h2 hD2 k2 hpp
    rw [vi_zi] at h1
    refine neL (ns := zi ls) (ms := []) (SqL.of h1) (SqL.of hpp) ⟨_, rfl, ?_⟩
    rw [← vi_zi] at h1
    by_cases e : ls = []
    · subst e
      exact iteN (by simp [zi]) (hZ _ _ ⟨rfl, [], fs, rfl, pe, h1, h2, hD2, k2⟩)
    · have l0 : 0 < ls.length := List.length_pos_iff.mpr e
      have lv : (vi ls).length = ls.length := List.length_map ..
      refine iteP (by simp [zi, e]) ⟨fun σ H' => ∃ m', m' < ls.length ∧ MixW d c a l f ns H m' σ H', fun _ _ z => z, ?_⟩
      refine ⟨_, rfl, .inl ⟨rfl, _, SqL.of h2⟩, _, rfl, .inl ⟨rfl, _, SqL.of h1⟩, _, rfl, _, rfl, l, _, rfl, .inl (SqL.of h1), d, c, _, rfl, hD2, by omega, sm_of (by omega) (Int.lt_of_le_of_lt (show ((vi ls).length : Int) ≤ 1000 by omega) (by decide)), fun r H4 r0 r1 hD4 k4 => ?_⟩
      have hr1 : r.toNat < ls.length := by omega
      have g1 := k4 _ _ ld.1 ld.2 h1
      have g2 := k4 _ _ fd'.1 fd'.2 h2
      have hsx : seqIndex? r (vi ls).length = some r.toNat := by
        rw [lv]
        unfold seqIndex?
        have e1 : ¬ r < 0 := by omega
        simp only [e1, if_false]
        rw [if_pos (by simp only [Bool.and_eq_true, decide_eq_true_eq]; omega)]
      refine ⟨l, _, r, r.toNat, _, rfl, rfl, g1, by omega, by omega, hsx, vi_get (List.getElem?_eq_getElem hr1), f, vi fs, _, rfl, rfl, by rw [upd_ne (Ne.symm lf)]; exact g2, len_lt (by rw [show (vi fs).length = fs.length from List.length_map ..]; have z := pe.length_eq; rw [List.length_append] at z; omega), ?_⟩
      have ee : (vi ls).eraseIdx r.toNat = vi (ls.eraseIdx r.toNat) := vi_erase _ _
      rw [ee]
      refine ⟨(ls.eraseIdx r.toNat).length, ?_, rfl, ls.eraseIdx r.toNat, fs ++ [ls[r.toNat]], rfl, ?_, ?_, ?_, ?_, ?_⟩
      · rw [List.length_eraseIdx_of_lt hr1]
        omega
      · have z : (ls[r.toNat] :: ls.eraseIdx r.toNat).Perm ls := perm_erase ls _ hr1
        rw [List.append_assoc]
        exact (List.Perm.append_left fs z).trans pe
      · rw [upd_ne lf, upd_same]
      · rw [upd_same]
        show some (HO.lst (vi fs ++ [V.int ((ls[r.toNat] : Nat) : Int)])) = some (HO.lst (vi (fs ++ [ls[r.toNat]])))
        simp only [vi, List.map_append, List.map_cons, List.map_nil]
      · exact (hD4.upd ld.1 ld.2).upd fd'.1 fd'.2
      · exact ((k2.trans k4).updn hl).updn hfn
  · rintro σ H2 ⟨rfl, ls, fs, e0, pe, h1, h2, hD2, k2⟩
    have e : ls = [] := List.eq_nil_of_length_eq_zero e0.symm
    subst e
    rw [List.append_nil] at pe
    exact ⟨_, rfl, q f fs H2 pe hfn h2 hD2 k2⟩
/-- a count -/
def spCount : Sp := fun vs H Q _ => ∃ (d c : Addr), vs = [.ref d] ∧ Dl H d c ∧ ∀ n H', sm 100 n → Dl H' d c → Kp d c H H' → Q (.int n) H'
end
end KV

/-! tuples are kept -/
namespace KV
open PySem PySem.Spec PyProof.Rows L2
theorem Dl.kT {d c p : Addr} {H H' : Hp} {xs : List V} (D : Dl H d c) (k : Kp d c H H') (h : H p = some (.tup xs)) : H' p = some (.tup xs) := k _ _ (D.neT h).1 (D.neT h).2 h
end KV

/-! the primes of a number, one after another -/
namespace KP
def IsPr (p : Nat) : Prop := 1 < p ∧ ∀ m, m ∣ p → m = 1 ∨ m = p
theorem IsPr.co {p m : Nat} (h : IsPr p) (d : ¬ p ∣ m) : Nat.Coprime m p := by
  have e : Nat.gcd m p ∣ p := Nat.gcd_dvd_right m p
  rcases h.2 _ e with z | z
  · exact z
  · exact absurd (z ▸ Nat.gcd_dvd_left m p) d
def prodQ : List (Nat × Nat) → Nat
  | [] => 1
  | z :: r => z.2 * prodQ r
theorem prodQ_app : ∀ (a b : List (Nat × Nat)), prodQ (a ++ b) = prodQ a * prodQ b
  | [], b => by show prodQ b = 1 * prodQ b; rw [Nat.one_mul]
  | z :: r, b => by show z.2 * prodQ (r ++ b) = z.2 * prodQ r * prodQ b; rw [prodQ_app r b, Nat.mul_assoc]
/-- what is known of the primes found so far, with r left and p next -/
structure PP (N r p : Nat) (qs : List (Nat × Nat)) : Prop where
  r0 : 0 < r
  p2 : 2 ≤ p
  low : ∀ m, 1 < m → m ∣ r → p ≤ m
  pr : ∀ z ∈ qs, IsPr z.1 ∧ z.1 < p ∧ ∃ k, 0 < k ∧ z.2 = z.1 ^ k
  asc : qs.Pairwise fun x y => x.1 < y.1
  cov : ∀ m, 1 < m → m ∣ N → (∃ z ∈ qs, z.1 ∣ m) ∨ m ∣ r
  prod : prodQ qs * r = N
theorem PP.start {N : Nat} (h : 0 < N) : PP N N 2 [] := ⟨h, Nat.le_refl _, fun m hm _ => hm, fun z hz => by simp at hz, List.Pairwise.nil, fun m _ d => .inr d, by show 1 * N = N; rw [Nat.one_mul]⟩
theorem PP.le {N r p : Nat} {qs : List (Nat × Nat)} (h : PP N r p qs) (h1 : 1 < r) : p ≤ r := h.low r h1 (Nat.dvd_refl r)
/-- what is left is a prime -/
theorem PP.jump {N r p : Nat} {qs : List (Nat × Nat)} (h : PP N r p qs) (h1 : 1 < r) (hp : r < p * p) : PP N r r qs := by
  have pl := h.le h1
  refine ⟨h.r0, h1, fun m hm d => ?_, fun z hz => ?_, h.asc, h.cov, h.prod⟩
  · obtain ⟨k, e⟩ := d
    by_cases k1 : k = 1
    · rw [k1] at e
      omega
    · have k0 : k ≠ 0 := fun z => by rw [z] at e; have := h.r0; omega
      have a := h.low m hm ⟨k, e⟩
      have b := h.low k (by omega) ⟨m, by rw [Nat.mul_comm]; exact e⟩
      have := Nat.mul_le_mul a b
      omega
  · obtain ⟨a, b, c⟩ := h.pr z hz
    exact ⟨a, by omega, c⟩
theorem dvd_pow_of {p : Nat} : ∀ j, 0 < j → p ∣ p ^ j
  | j + 1, _ => ⟨p ^ j, by rw [Nat.pow_succ, Nat.mul_comm]⟩
theorem PP.step {N r p r' j : Nat} {qs : List (Nat × Nat)} (h : PP N r p qs) (e : r' * p ^ j = r) (nd : ¬ p ∣ r') : PP N r' (p + 1) (if 0 < j then qs ++ [(p, p ^ j)] else qs) := by
  have p2 := h.p2
  have r0 : 0 < r' := Nat.pos_of_ne_zero fun z => by
    rw [z, Nat.zero_mul] at e
    have := h.r0
    omega
  have dr : r' ∣ r := ⟨p ^ j, e.symm⟩
  have isp : 0 < j → IsPr p := fun hj => ⟨by omega, fun m d => by
    by_cases m1 : m = 1
    · exact .inl m1
    · have m0 : m ≠ 0 := fun z => by rw [z] at d; have := Nat.eq_zero_of_zero_dvd d; omega
      have pd : p ∣ r := Nat.dvd_trans (dvd_pow_of j hj) ⟨r', by rw [← e, Nat.mul_comm]⟩
      have := h.low m (by omega) (Nat.dvd_trans d pd)
      have := Nat.le_of_dvd (by omega) d
      exact .inr (by omega)⟩
  refine ⟨r0, by omega, fun m hm d => ?_, fun z hz => ?_, ?_, fun m hm d => ?_, ?_⟩
  · have := h.low m hm (Nat.dvd_trans d dr)
    have : m ≠ p := fun z => nd (z ▸ d)
    omega
  · have old : z ∈ qs → IsPr z.1 ∧ z.1 < p + 1 ∧ ∃ k, 0 < k ∧ z.2 = z.1 ^ k := fun hz => by
      obtain ⟨a, b, c⟩ := h.pr z hz
      exact ⟨a, by omega, c⟩
    split at hz
    · rename_i hj
      rcases List.mem_append.mp hz with y | y
      · exact old y
      · rw [List.mem_singleton.mp y]
        exact ⟨isp hj, by show p < p + 1; omega, j, hj, rfl⟩
    · exact old hz
  · split
    · refine List.pairwise_append.mpr ⟨h.asc, List.pairwise_singleton _ _, fun a ha b hb => ?_⟩
      rw [List.mem_singleton.mp hb]
      exact (h.pr a ha).2.1
    · exact h.asc
  · rcases h.cov m hm d with ⟨z, hz, y⟩ | y
    · refine .inl ⟨z, ?_, y⟩
      split
      · exact List.mem_append_left _ hz
      · exact hz
    · by_cases hj : 0 < j
      · rw [if_pos hj]
        by_cases pm : p ∣ m
        · exact .inl ⟨(p, p ^ j), by simp, pm⟩
        · have co : Nat.Coprime m (p ^ j) := ((isp hj).co pm).pow_right j
          rw [← e] at y
          exact .inr (co.dvd_of_dvd_mul_right y)
      · rw [if_neg hj]
        have j0 : j = 0 := by omega
        rw [j0, Nat.pow_zero, Nat.mul_one] at e
        rw [e]
        exact .inr y
  · have := h.prod
    rw [← e] at this
    split
    · rw [prodQ_app]
      show prodQ qs * (p ^ j * 1) * r' = N
      rw [Nat.mul_one, Nat.mul_assoc, Nat.mul_comm (p ^ j)]
      exact this
    · have j0 : j = 0 := by omega
      rw [j0, Nat.pow_zero, Nat.mul_one] at this
      exact this
/-- all primes of a number with their powers -/
structure PPs (N : Nat) (qs : List (Nat × Nat)) : Prop where
  pr : ∀ z ∈ qs, IsPr z.1 ∧ ∃ k, 0 < k ∧ z.2 = z.1 ^ k
  asc : qs.Pairwise fun x y => x.1 < y.1
  cov : ∀ m, 1 < m → m ∣ N → ∃ z ∈ qs, z.1 ∣ m
  prod : prodQ qs = N
theorem PP.done {N r p : Nat} {qs : List (Nat × Nat)} (h : PP N r p qs) (h1 : r ≤ 1) : PPs N qs := by
  have e : r = 1 := by have := h.r0; omega
  refine ⟨fun z hz => ⟨(h.pr z hz).1, (h.pr z hz).2.2⟩, h.asc, fun m hm d => ?_, ?_⟩
  · rcases h.cov m hm d with z | z
    · exact z
    · rw [e] at z
      have := Nat.le_of_dvd (by omega) z
      omega
  · have := h.prod
    rw [e, Nat.mul_one] at this
    exact this
theorem PPs.dvd {N : Nat} {qs : List (Nat × Nat)} (h : PPs N qs) : ∀ z ∈ qs, z.1 ∣ N := by
  have go : ∀ (l : List (Nat × Nat)) (z : Nat × Nat), z ∈ l → z.2 ∣ prodQ l := fun l => by
    induction l with
    | nil => exact fun z hz => by simp at hz
    | cons a r ih =>
      intro z hz
      rcases List.mem_cons.mp hz with y | y
      · rw [y]
        exact ⟨prodQ r, rfl⟩
      · exact Nat.dvd_trans (ih z y) ⟨a.2, by show a.2 * prodQ r = _; rw [Nat.mul_comm]⟩
  intro z hz
  obtain ⟨_, k, k0, e⟩ := h.pr z hz
  have a := go qs z hz
  rw [h.prod, e] at a
  exact Nat.dvd_trans (dvd_pow_of k k0) a
/-- the least divisor of a kind: what is good are the multiples of d -/
structure LD (N d l : Nat) (done : List Nat) : Prop where
  l0 : 0 < l
  ln : l ∣ N
  dl : d ∣ l
  no : ∀ p ∈ done, ¬ (p ∣ l ∧ d ∣ l / p)
theorem LD.start {N d : Nat} (h : 0 < N) (hd : d ∣ N) : LD N d N [] := ⟨h, Nat.dvd_refl _, hd, fun p hp => by simp at hp⟩
theorem div_dvd_div {p q l : Nat} (hp : p ∣ l) (l0 : 0 < l) : ∀ {d : Nat}, q ∣ l / p → d ∣ l / p / q → q ∣ l ∧ d ∣ l / q := fun {d} a b => by
  obtain ⟨x, e⟩ := hp
  have p0 : 0 < p := Nat.pos_of_ne_zero fun z => by rw [z, Nat.zero_mul] at e; omega
  rw [e, Nat.mul_div_cancel_left x p0] at a b
  obtain ⟨y, f⟩ := a
  have q0 : 0 < q := Nat.pos_of_ne_zero fun z => by rw [z, Nat.zero_mul] at f; rw [f, Nat.mul_zero] at e; omega
  rw [f, Nat.mul_div_cancel_left y q0] at b
  have e2 : l = q * (p * y) := by rw [e, f, ← Nat.mul_assoc, Nat.mul_comm p q, Nat.mul_assoc]
  exact ⟨⟨p * y, e2⟩, by rw [e2, Nat.mul_div_cancel_left _ q0]; exact Nat.dvd_trans b ⟨p, by rw [Nat.mul_comm]⟩⟩
theorem LD.step {N d l p : Nat} {done : List Nat} (h : LD N d l done) (hp : p ∣ l) (hd : d ∣ l / p) : LD N d (l / p) done := by
  refine ⟨?_, Nat.dvd_trans (Nat.div_dvd_of_dvd hp) h.ln, hd, fun q hq ⟨a, b⟩ => ?_⟩
  · obtain ⟨x, e⟩ := hp
    have p0 : 0 < p := Nat.pos_of_ne_zero fun z => by rw [z, Nat.zero_mul] at e; have := h.l0; omega
    rw [e, Nat.mul_div_cancel_left x p0]
    exact Nat.pos_of_ne_zero fun z => by rw [z, Nat.mul_zero] at e; have := h.l0; omega
  · exact h.no q hq (div_dvd_div hp h.l0 a b)
theorem LD.next {N d l p : Nat} {done : List Nat} (h : LD N d l done) (no : ¬ (p ∣ l ∧ d ∣ l / p)) : LD N d l (done ++ [p]) := ⟨h.l0, h.ln, h.dl, fun q hq => by
  rcases List.mem_append.mp hq with z | z
  · exact h.no q z
  · rw [List.mem_singleton.mp z]; exact no⟩
theorem LD.done {N d l : Nat} {qs : List (Nat × Nat)} (h : LD N d l (qs.map (·.1))) (P : PPs N qs) : l = d := by
  obtain ⟨m, e⟩ := h.dl
  have d0 : 0 < d := Nat.pos_of_ne_zero fun z => by rw [z, Nat.zero_mul] at e; have := h.l0; omega
  by_cases m1 : m ≤ 1
  · have m0 : m ≠ 0 := fun z => by rw [z, Nat.mul_zero] at e; have := h.l0; omega
    rw [show m = 1 by omega, Nat.mul_one] at e
    exact e
  · obtain ⟨z, hz, y⟩ := P.cov m (by omega) (Nat.dvd_trans ⟨d, by rw [e, Nat.mul_comm]⟩ h.ln)
    refine absurd ?_ (h.no z.1 (List.mem_map.mpr ⟨z, hz, rfl⟩))
    obtain ⟨x, f⟩ := y
    have p0 : 0 < z.1 := by have := (P.pr z hz).1.1; omega
    have e2 : l = z.1 * (d * x) := by rw [e, f, ← Nat.mul_assoc, Nat.mul_comm d, Nat.mul_assoc]
    exact ⟨⟨d * x, e2⟩, by rw [e2, Nat.mul_div_cancel_left _ p0]; exact ⟨x, rfl⟩⟩
end KP

/-! the program: prime powers, idle changes, common orders -/
namespace KV
open PySem PySem.Spec PyProof.Rows L2 KC KP
theorem natInt {n m : Nat} : decide ((n : Int) < (m : Int)) = decide (n < m) := by
  rw [Bool.eq_iff_iff, decide_eq_true_eq, decide_eq_true_eq]
  omega
/-- pairs of numbers, as tuples side by side -/
inductive PL (H : Hp) : List Addr → List (Nat × Nat) → Prop
  | nil : PL H [] []
  | cons {t : Addr} {z : Nat × Nat} {ts : List Addr} {qs : List (Nat × Nat)} (h : H t = some (.tup [.int (z.1 : Int), .int (z.2 : Int)])) (r : PL H ts qs) : PL H (t :: ts) (z :: qs)
theorem PL.same {H H' : Hp} {ts : List Addr} {qs : List (Nat × Nat)} (s : ∀ b xs, H b = some (.tup xs) → H' b = some (.tup xs)) (h : PL H ts qs) : PL H' ts qs := by
  induction h with
  | nil => exact .nil
  | cons h _ ih => exact .cons (s _ _ h) ih
theorem PL.app {H : Hp} {ts us : List Addr} {qs rs : List (Nat × Nat)} (h : PL H ts qs) (g : PL H us rs) : PL H (ts ++ us) (qs ++ rs) := by
  induction h with
  | nil => exact g
  | cons h _ ih => exact .cons h ih
theorem PL.len {H : Hp} {ts : List Addr} {qs : List (Nat × Nat)} (h : PL H ts qs) : ts.length = qs.length := by
  induction h with
  | nil => rfl
  | cons _ _ ih => rw [List.length_cons, List.length_cons, ih]
theorem PL.at {H : Hp} {ts : List Addr} {qs : List (Nat × Nat)} (h : PL H ts qs) : ∀ {i : Nat} {t : Addr}, ts[i]? = some t → ∃ z, qs[i]? = some z ∧ H t = some (.tup [.int (z.1 : Int), .int (z.2 : Int)]) := by
  induction h with
  | nil => exact fun e => by simp at e
  | cons h _ ih =>
    intro i t e
    cases i with
    | zero =>
      cases e
      exact ⟨_, rfl, h⟩
    | succ i => exact ih e
section
variable {P : Program} {w : World} {K : PySem.W.Frag} {mg : Str → Option Value} {base : Heap}
def spPP : Sp := fun vs H Q _ => ∃ N : Nat, vs = [.int (N : Int)] ∧ 0 < N ∧ N < 2 ^ 60 ∧ ∀ (l : Addr) (ts : List Addr) (qs : List (Nat × Nat)) (H' : Hp), Same H H' → H l = none → H' l = some (.lst (ts.map V.ref)) → PL H' ts qs → PPs N qs → qs.length ≤ 60 → Q (.ref l) H'
theorem pp_len {N r p : Nat} {qs : List (Nat × Nat)} (h : PP N r p qs) (hN : N < 2 ^ 60) : qs.length < 60 := by
  have go : ∀ l : List (Nat × Nat), (∀ z ∈ l, 2 ≤ z.2) → 2 ^ l.length ≤ prodQ l := fun l => by
    induction l with
    | nil => exact fun _ => Nat.le_refl _
    | cons a r ih =>
      intro hl
      rw [List.length_cons, Nat.pow_succ, Nat.mul_comm]
      exact Nat.mul_le_mul (hl a List.mem_cons_self) (ih fun z hz => hl z (List.mem_cons_of_mem _ hz))
  have a := go qs fun z hz => by
    obtain ⟨⟨a, _⟩, _, k, k0, e⟩ := h.pr z hz
    rw [e]
    have := Nat.pow_le_pow_right (show 0 < z.1 by omega) (show 1 ≤ k from k0)
    rw [Nat.pow_one] at this
    omega
  have b := h.prod
  have r0 := h.r0
  have c : prodQ qs ≤ N := by
    rw [← b]
    exact Nat.le_mul_of_pos_right _ r0
  refine Classical.byContradiction fun z => ?_
  have := Nat.pow_le_pow_right (show 0 < 2 by decide) (show 60 ≤ qs.length by omega)
  omega
theorem sm_nat {k n : Nat} (h : n < 2 ^ k) : sm k (n : Int) := by
  show ((n : Int)).natAbs < 2 ^ k
  rw [Int.natAbs_natCast]
  exact h

theorem sj7 : FnScope ["number", "found", "prime", "power"] ["number"] (defScope (top 7)) := ⟨rfl, rfl, rfl, by decide +kernel, rfl, by decide +kernel, by decide +kernel⟩
theorem ok_pp {f : Addr} {fd : FuncData} (B : Bl mg) (F : Fun K "prime_powers" "prime_powers" (top 7) f fd) : FnOk P w K mg base CX0 1 f fd ["number"] spPP := by
  refine F.ok sj7 (fun vs H Q E h => ?_) (fun cdv A outer s H vs Q E hr h => ⟨_,
    (pss_cons (ps_set (i := 1) sj7.nd rfl (.inl rfl) (pe_lst pa_nil))
    (pss_cons (ps_set (i := 2) sj7.nd rfl (.inl rfl) pe_int)
    (pss_cons (ps_while PassesOwn.never (pt_cmpR op_gt (pv 0) pe_int (nomark _)) (pss_cons (ps_if (pt_cmpR op_gt (pe_op op_mulW (pv 2) (pv 2)) (pv 0) (nomark _)) (pss_one (ps_set (i := 2) sj7.nd rfl (.inl rfl) (pv 0))) pss_nil)
    (pss_cons (ps_set (i := 3) sj7.nd rfl (.inl rfl) pe_int)
    (pss_cons (ps_while PassesOwn.never (pt_cmpR op_eq (pe_op op_mod (pv 0) (pv 2)) pe_int (nomark _)) (pss_cons (ps_aug (i := 0) sj7.nd rfl (.inl rfl) (pv 2) iop_fdivW)
    (pss_one (ps_aug (i := 3) sj7.nd rfl (.inl rfl) (pv 2) iop_mulW))))
    (pss_cons (ps_if (pt_cmpR op_gt (pv 3) pe_int (nomark _)) (pss_one (ps_expr (pe_bm PySem.F.plainAttrs_list PySem.F.slot_list_append PySem.F.type_list_append mt_append (pv 1) (pa_cons (pe_tup (pa_cons (pv 2) (pa_cons (pv 3) pa_nil))) pa_nil)))) pss_nil)
    (pss_one (ps_aug (i := 2) sj7.nd rfl (.inl rfl) pe_int ip_add)))))))
    (pss_one (ps_ret (pv 1)))))), ?_⟩)
  · obtain ⟨N, rfl, _⟩ := h
    rfl
  obtain ⟨N, rfl, N0, Nb, q⟩ := h
  refine ⟨(by show 0 ≤ sizeLine; decide), fun l hl => ?_⟩
  refine ⟨fun μ σ H' => ∃ (r p : Nat) (ts : List Addr) (qs : List (Nat × Nat)) (v3 : Option V), μ = r + 1 - p ∧ σ = [some (.int (r : Int)), some (.ref l), some (.int (p : Int)), v3] ∧ PP N r p qs ∧ Same H H' ∧ H' l = some (.lst (ts.map V.ref)) ∧ PL H' ts qs,
    ⟨_, N, 2, [], [], none, rfl, rfl, PP.start N0, Same.new hl, upd_same, .nil⟩, ?_⟩
  rintro μ σ H1 ⟨r, p, ts, qs, v3, rfl, rfl, pp, s1, hl1, pl⟩
  have rN : r ≤ N := Nat.le_of_dvd N0 ⟨prodQ qs, by rw [Nat.mul_comm]; exact pp.prod.symm⟩
  refine ⟨_, rfl, _, _, rfl, rfl, _, rfl, ?_⟩
  by_cases r1 : 1 < r
  · refine iteP (decide_eq_true (by omega)) ?_
    have pr := pp.le r1
    have p2 := pp.p2
    refine ⟨fun σ' H' => ∃ (r' p' : Nat) (ts : List Addr) (qs : List (Nat × Nat)) (v3 : Option V), r' + 1 - p' < r + 1 - p ∧ σ' = [some (.int (r' : Int)), some (.ref l), some (.int (p' : Int)), v3] ∧ PP N r' p' qs ∧ Same H H' ∧ H' l = some (.lst (ts.map V.ref)) ∧ PL H' ts qs, ?_, ?_⟩
    · rintro σ' H' ⟨r', p', ts', qs', v3', lt, rfl, z⟩
      exact ⟨_, lt, r', p', ts', qs', v3', rfl, rfl, z⟩
    -- the next divisor to try
    refine sq_cut (fun σ H' => ∃ p', p ≤ p' ∧ p' ≤ r ∧ σ = [some (.int (r : Int)), some (.ref l), some (.int (p' : Int)), v3] ∧ PP N r p' qs ∧ H1 = H') (fun Z hZ => ?_) ?_
    · have sp : sm 61 (p : Int) := sm_nat (by omega)
      refine ⟨_, rfl, _, rfl, _, _, rfl, rfl, wide_mul sp sp (by decide) (by decide) (by decide), _, rfl, _, _, rfl, rfl, _, rfl, ?_⟩
      have pc : ((p * p : Nat) : Int) = (p : Int) * (p : Int) := by simp
      by_cases z : r < p * p
      · exact iteP (decide_eq_true (by omega)) ⟨_, rfl, hZ _ _ ⟨r, pr, Nat.le_refl _, rfl, pp.jump r1 z, rfl⟩⟩
      · exact iteN (by rw [decide_eq_true_eq]; omega) (hZ _ _ ⟨p, Nat.le_refl _, pr, rfl, pp, rfl⟩)
    rintro σ H' ⟨p', pp1, pp2, rfl, pq, rfl⟩
    clear pp pr
    -- how often it divides
    refine sq_cut (fun σ H' => σ = [some (.int (r : Int)), some (.ref l), some (.int (p' : Int)), some (.int 1)] ∧ H1 = H') (fun Z hZ => hZ _ _ ⟨rfl, rfl⟩) ?_
    rintro σ H' ⟨rfl, rfl⟩
    refine sq_cut (fun σ H' => ∃ r' j : Nat, r' * p' ^ j = r ∧ ¬ p' ∣ r' ∧ σ = [some (.int (r' : Int)), some (.ref l), some (.int (p' : Int)), some (.int ((p' ^ j : Nat) : Int))] ∧ H1 = H') (fun Z hZ => ?_) ?_
    · refine ⟨fun μ σ H' => ∃ r' j : Nat, r' = μ ∧ r' * p' ^ j = r ∧ σ = [some (.int (r' : Int)), some (.ref l), some (.int (p' : Int)), some (.int ((p' ^ j : Nat) : Int))] ∧ H1 = H', ⟨_, r, 0, rfl, by rw [Nat.pow_zero, Nat.mul_one], rfl, rfl⟩, ?_⟩
      rintro μ σ H' ⟨r', j, rfl, er, rfl, rfl⟩
      have r0 : 0 < r' := Nat.pos_of_ne_zero fun z => by rw [z, Nat.zero_mul] at er; omega
      have r'r : r' ≤ r := Nat.le_of_dvd (by omega) ⟨p' ^ j, er.symm⟩
      have pj : p' ^ j ≤ r := Nat.le_of_dvd (by omega) ⟨r', by rw [Nat.mul_comm]; exact er.symm⟩
      refine ⟨_, rfl, _, rfl, _, _, rfl, rfl, (by show (0 : Int) < (p' : Int); omega), rfl, _, rfl, ?_⟩
      by_cases z : p' ∣ r'
      · obtain ⟨x, e⟩ := z
        have m0 : ((r' : Nat) : Int) % (p' : Int) = 0 := by
          have : (p' : Int) ∣ (r' : Int) := Int.natCast_dvd_natCast.mpr ⟨x, e⟩
          exact Int.emod_eq_zero_of_dvd this
        have x0 : 0 < x := Nat.pos_of_ne_zero fun z => by rw [z, Nat.mul_zero] at e; omega
        refine iteP (decide_eq_true (congrArg V.int m0)) ⟨fun σ' H' => ∃ r'' j : Nat, r'' < r' ∧ r'' * p' ^ j = r ∧ σ' = [some (.int (r'' : Int)), some (.ref l), some (.int (p' : Int)), some (.int ((p' ^ j : Nat) : Int))] ∧ H1 = H', fun σ' H' ⟨r'', j, lt, z⟩ => ⟨r'', lt, r'', j, rfl, z⟩, ?_⟩
        have ex : (r' : Int) / (p' : Int) = (x : Int) := by
          rw [← Int.natCast_ediv, e, Nat.mul_div_cancel_left x (by omega)]
        have sp : sm 61 (p' : Int) := sm_nat (by omega)
        have sj : sm 61 ((p' ^ j : Nat) : Int) := sm_nat (by omega)
        refine ⟨_, rfl, _, rfl, _, _, rfl, rfl, wide_div (by omega) sp (by decide) (by decide), _, rfl, _, rfl, _, _, rfl, rfl, wide_mul sj sp (by decide) (by decide) (by decide), x, j + 1, ?_, ?_, ?_, rfl⟩
        · rw [e]
          have := Nat.mul_le_mul_right x (show 2 ≤ p' by omega)
          omega
        · rw [Nat.pow_succ, ← er, e, Nat.mul_comm (p' ^ j), ← Nat.mul_assoc, Nat.mul_comm x]
        · show [some (V.int ((r' : Int) / (p' : Int))), some (V.ref l), some (V.int (p' : Int)), some (V.int (((p' ^ j : Nat) : Int) * (p' : Int)))] = _
          rw [ex, Nat.pow_succ]
          simp
      · refine iteN (fun y => z ?_) (hZ _ _ ⟨r', j, er, z, rfl, rfl⟩)
        have y := of_decide_eq_true y
        have y : ((r' : Nat) : Int) % (p' : Int) = 0 := by simpa using y
        exact Int.natCast_dvd_natCast.mp (Int.dvd_of_emod_eq_zero y)
    rintro σ H' ⟨r', j, er, nd, rfl, rfl⟩
    have st := pq.step er nd
    have ql := pp_len pq Nb
    have tl := pl.len
    have r0 : 0 < r' := Nat.pos_of_ne_zero fun z => by rw [z, Nat.zero_mul] at er; omega
    have r'r : r' ≤ r := Nat.le_of_dvd (by omega) ⟨p' ^ j, er.symm⟩
    refine sq_cut (fun σ H' => ∃ ts : List Addr, σ = [some (.int (r' : Int)), some (.ref l), some (.int (p' : Int)), some (.int ((p' ^ j : Nat) : Int))] ∧ Same H H' ∧ H' l = some (.lst (ts.map V.ref)) ∧ PL H' ts (if 0 < j then qs ++ [(p', p' ^ j)] else qs)) (fun Z hZ => ?_) ?_
    · refine ⟨_, rfl, _, _, rfl, rfl, _, rfl, ?_⟩
      by_cases hj : 0 < j
      · have := Nat.one_lt_pow (show j ≠ 0 by omega) (show 1 < p' by omega)
        refine iteP (decide_eq_true (by omega)) ⟨_, rfl, .inl ⟨rfl, _, SqL.of hl1⟩, _, rfl, _, rfl, (by show 2 ≤ sizeLine; decide), fun t ht => ⟨l, _, _, rfl, rfl, Same.new ht _ _ hl1, len_lt (by rw [List.length_map]; omega), ?_⟩⟩
        have s2 : Same H1 (upd H1 t (.tup [.int (p' : Int), .int ((p' ^ j : Nat) : Int)])) := Same.new ht
        have te : upd H1 t (.tup [.int (p' : Int), .int ((p' ^ j : Nat) : Int)]) t = some (.tup [.int (p' : Int), .int ((p' ^ j : Nat) : Int)]) := upd_same
        have hl2 := s2 _ _ hl1
        generalize upd H1 t (.tup [.int (p' : Int), .int ((p' ^ j : Nat) : Int)]) = H2 at s2 te hl2
        have kT : ∀ b xs, H2 b = some (.tup xs) → upd H2 l (.lst (ts.map V.ref ++ [.ref t])) b = some (.tup xs) := fun b xs e => by
          rw [upd_ne (fun z => by rw [z, hl2] at e; cases e)]
          exact e
        refine hZ _ _ ⟨ts ++ [t], rfl, Same.upd (s1.trans s2) hl, ?_, ?_⟩
        · rw [upd_same, List.map_append]
          rfl
        · rw [if_pos hj]
          exact ((pl.same fun b xs e => s2 _ _ e).app (.cons te .nil)).same kT
      · have j0 : j = 0 := by omega
        refine iteN (by rw [j0, Nat.pow_zero]; decide) (hZ _ _ ⟨ts, rfl, s1, hl1, ?_⟩)
        rw [if_neg hj]
        exact pl
    rintro σ H' ⟨ts', rfl, s2, hl2, pl2⟩
    exact ⟨_, rfl, _, _, rfl, rfl, r', p' + 1, ts', _, _, by omega, rfl, st, s2, hl2, pl2⟩
  · refine iteN (by rw [decide_eq_true_eq]; omega) ?_
    exact ⟨_, rfl, q l ts qs H1 s1 hl hl1 pl (pp.done (by omega)) (Nat.le_of_lt (pp_len pp Nb))⟩

end
end KV

/-! a lambda with one parameter, the second argument of a def that calls it -/
namespace LamY
open PySem PySem.Spec PyProof.Rows L2 LamX
/-- its names: one parameter, captured ones and globals -/
structure LamS1 (sc scope : Scope) (N : List Str) (a : Str) : Prop where
  kind : scope.kind = .function
  co : scope.isCoroutine = false
  gen : scope.isGenerator = false
  own : ∀ y ∈ scope.names, y.2 ≠ .cell ∧ (y.2 = .local → y.1 = a)
  par : scope.names.lookup a = some .local
  new : a ∉ N
  free : ∀ y ∈ scope.names, y.2 = .free → sc.names.lookup y.1 = some .cell ∨ sc.names.lookup y.1 = some .free
def lamS1B (sc scope : Scope) (N : List Str) (a : Str) : Bool :=
  decide (scope.kind = .function) && !scope.isCoroutine && !scope.isGenerator && (scope.names.all fun y => !decide (y.2 = .cell) && (!decide (y.2 = .local) || decide (y.1 = a)) && (!decide (y.2 = .free) || decide (sc.names.lookup y.1 = some .cell) || decide (sc.names.lookup y.1 = some .free))) && decide (scope.names.lookup a = some .local) && decide (a ∉ N)
theorem lamS1_by {sc scope : Scope} {N : List Str} {a : Str} (h : lamS1B sc scope N a = true) : LamS1 sc scope N a := by
  unfold lamS1B at h
  simp only [Bool.and_eq_true, Bool.or_eq_true, Bool.not_eq_true', decide_eq_true_eq, decide_eq_false_iff_not, List.all_eq_true] at h
  obtain ⟨⟨⟨⟨⟨h1, h2⟩, h3⟩, h4⟩, h5⟩, h6⟩ := h
  refine ⟨h1, h2, h3, fun y hy => ⟨(h4 y hy).1.1, fun e => ?_⟩, h5, h6, fun y hy e => ?_⟩
  · rcases (h4 y hy).1.2 with z | z
    · exact absurd e z
    · exact z
  · rcases (h4 y hy).2 with (z | z) | z
    · exact absurd e z
    · exact .inl z
    · exact .inr z
theorem LamS1.has {X : Cx} {scope : Scope} {N : List Str} {a : Str} (L : LamS1 X.env.scope scope N a) (ok : X.Ok) : ∀ y ∈ scope.names, y.2 = .free → ∃ c, X.env.cells.lookup y.1 = some c := fun y hy e => by
  rcases L.free y hy e with k | k
  · exact ok.has _ (.inl k)
  · exact ok.has _ (.inr k)
/-- the context of the lambda's body, entered at s from the frames outer; its parameter stands behind the maker's names -/
def lamCx1 (X : Cx) (a : Str) (A : Around) (outer : List Env) (s : Shared) (H : Hp) (E : XK) (scope : Scope) (f c' : Addr) : Cx := { lamCx X A outer s H E scope f c' with N := X.N ++ [a] }
section
variable {X : Cx} {pins : List (Addr × Obj)} {σ : L2.St} {H HZ : Hp} {s s1 : Shared}
theorem lam_start1 {A : Around} {outer : List Env} {E : XK} {scope : Scope} {f c' : Addr} {h₁ : Heap} {tk : Nat} {a : Str} {u : Value} {v : V} (I : Inv X pins σ H s) (L : LamS1 X.env.scope scope X.N a) (e0 : Env0 X.prog X.w X.K X.mg X.base A outer s1 HZ) (hd : A.handled = none)
    (un : Un (frs X.stack) [] H HZ s.heap s1.heap) (hns : h₁.Ns s1.heap.objs.size fun y => [(a, u)].reverse.lookup y) (kp : ∀ b o, s1.heap.get? b = some o → h₁.get? b = some o) (ru : L2.RelV v u) :
    Inv (lamCx1 X a A outer s1 HZ E scope f c') [] (σ ++ [some v]) HZ { s1 with heap := h₁, toks := tk } := by
  have hfree := L.has I.ok
  have cm : ∀ {y c}, (cloFrom X.env.cells scope.names []).lookup y = some c → X.env.cells.lookup y = some c := fun {y c} e => by
    rcases cloFrom_mem (PySem.mem_of_lookup e) with hm | ⟨h1, h2⟩
    · cases hm
    · obtain ⟨c1, hc⟩ := hfree _ h1 rfl
      have hc : X.env.cells.lookup y = some c1 := hc
      have e2 : c = c1 := by
        rw [h2, hc] <;> rfl
      rw [e2]
      exact hc
  have look : ∀ {y}, scope.names.lookup y = some .free → ∃ c, (cloFrom X.env.cells scope.names []).lookup y = some c := fun {y} hl => by
    have hy : (y, NameKind.free) ∈ scope.names := PySem.mem_of_lookup hl
    exact mem_lookup (cloFrom_has (cells := X.env.cells) (acc := []) hy)
  have cellK : ∀ {c : Addr} {v : Option Value}, H c = none → s.heap.IsCell c v → h₁.IsCell c v := fun {c v} n ⟨o, ho, hd⟩ => by
    obtain ⟨sl, q⟩ := un.any ho n (by simp)
    exact ⟨_, kp _ _ q, hd⟩
  have noA : ∀ b : Addr, b ∉ (lamCx1 X a A outer s1 HZ E scope f c').ex := fun b z => absurd (show b ∈ ([] : List Addr) from z) (by simp)
  refine ⟨⟨e0.mod, L.kind, rfl, rfl, Nat.le_refl _, fun y z c e1 e2 => I.ok.inj y z c (cm e1) (cm e2), fun y hy => ?_, fun y c z _ => ?_, fun _ => hd, Around.frames_deeper e0.frames, .inr ⟨rfl, rfl⟩, fun b z => absurd z (noA b), e0.bs, e0.bsz, fun b _ _ => noA b,
      fun b z => absurd z (noA b), e0.funs, e0.frf⟩,
    rfl, e0.bare, Un.kept kp, ⟨_, hns, fun i y v' e1 e2 e3 => ?_⟩, fun y c e => ?_, e0.hok.fresh (Nat.le_refl _), fun y c e => ?_, fun q hq => absurd (show q ∈ ([] : List (Addr × Obj)) ++ [] from hq) (by simp), e0.hok.kept kp, ?_⟩
  · have hy : scope.names.lookup y = some .cell ∨ scope.names.lookup y = some .free := hy
    rcases hy with hy | hy
    · exact absurd rfl (L.own _ (PySem.mem_of_lookup hy)).1
    · exact look hy
  · have z : false = true := z
    cases z
  · have e1 : (X.N ++ [a])[i]? = some y := e1
    have e3 : Vis scope y := e3
    by_cases hi : i < X.N.length
    · rw [List.getElem?_append_left hi] at e1
      rw [List.getElem?_append_left (by rw [I.len]; exact hi)] at e2
      rcases e3 with k | k | k
      · exact absurd ((L.own _ (PySem.mem_of_lookup k)).2 rfl) fun z => L.new (by rw [← show y = a from z]; exact List.mem_of_getElem? e1)
      · exact absurd rfl (L.own _ (PySem.mem_of_lookup k)).1
      · obtain ⟨m, hn, hl⟩ := I.loc
        have hvis : Vis X.env.scope y := (L.free _ (PySem.mem_of_lookup k) rfl).elim (fun k => .inr (.inl k)) (fun k => .inr (.inr k))
        obtain ⟨w', r, q⟩ := hl i y v' e1 e2 hvis
        obtain ⟨c2, h2⟩ := look k
        refine ⟨w', r, .inr ⟨.inr k, c2, h2, ?_⟩⟩
        have c1 := cm h2
        rcases q with ⟨k', _⟩ | ⟨_, c3, e', z⟩
        · have k' : X.env.scope.names.lookup y = some .local := k'
          rcases L.free _ (PySem.mem_of_lookup k) rfl with k2 | k2 <;> rw [show X.env.scope.names.lookup y = _ from k2] at k' <;> cases k'
        · rw [c1] at e'
          cases e'
          exact cellK (I.freeC y _ c1) z
    · rw [List.getElem?_append_right (by omega)] at e1
      rw [List.getElem?_append_right (by rw [I.len]; omega), I.len] at e2
      have i0 : i - X.N.length = 0 := by
        have := (List.getElem?_eq_some_iff.mp e1).1
        simp at this
        omega
      rw [i0] at e1 e2
      have ey : a = y := Option.some.inj e1
      have ev : v = v' := Option.some.inj (Option.some.inj e2)
      subst ey
      subst ev
      refine ⟨u, ru, .inl ⟨L.par, ?_⟩⟩
      show [(a, u)].reverse.lookup a = some u
      simp [List.lookup]
  · obtain ⟨w', z⟩ := I.cell y c (cm e)
    exact ⟨w', cellK (I.freeC y c (cm e)) z⟩
  · obtain ⟨v, o, ho, hd⟩ := I.cell y c (cm e)
    exact un.free c o ho (I.freeC y c (cm e)) (by simp)
  · show (σ ++ [some v]).length = (X.N ++ [a]).length
    rw [List.length_append, List.length_append, I.len]
    rfl
/-- x(e), in the def that got the lambda, entered at s -/
theorem pe_act1 {Ng : List Str} {qg : Str} {sg : Scope} {g f c' : Addr} {cdg pm ctv : Value} {params : Arguments} {body : Expr} {scope : Scope} {k i : Nat} {x a : Str} {t : TA} {tb : TE} {p1 p2 : Pos} {e : Expr} {Eg : XK}
    (I : Inv X pins σ H s) (L : LamS1 X.env.scope scope X.N a) (hf : s.heap.get? f = some (PySem.W.kla_obj "<lambda>" (X.env.qual ++ "<lambda>") params body scope (cloFrom X.env.cells scope.names []) pm c' ctv)) (hfn : H f = none) (hfr : f ∉ frs X.stack)
    (hbind : ∀ u : Value, bindArgs (PySem.W.kla_fn "<lambda>" (X.env.qual ++ "<lambda>") params body scope (cloFrom X.env.cells scope.names []) pm (.ref c') ctv) ⟨[u], []⟩ = pure [(a, u)])
    (hr : Room (k + 1) (X.A.deeper (envOfC qg sg s.heap.objs.size g cdg)))
    (hbody : ∀ (A : Around) (outer : List Env) (s : Shared) (H : Hp), Room k (A.deeper (lamEnv X scope s.heap.objs.size f c')) → PE (lamCx1 X a A outer s H C8.E0 scope f c') body tb)
    (hN : Ng[i]? = some x) (hv : Vis sg x) (ha : PA (cxOf C8.CX0 X.prog X.w X.K X.mg X.base Ng qg sg g cdg X.A X.stack s H Eg).nox [e] t)
    (he : starEach [e] (cxOf C8.CX0 X.prog X.w X.K X.mg X.base Ng qg sg g cdg X.A X.stack s H Eg).nox.env = (false, eval e (cxOf C8.CX0 X.prog X.w X.K X.mg X.base Ng qg sg g cdg X.A X.stack s H Eg).nox.env) :: starEach [] (cxOf C8.CX0 X.prog X.w X.K X.mg X.base Ng qg sg g cdg X.A X.stack s H Eg).nox.env)
    (hd : (x == ("__debug__" : Str)) = false := by decide) (hcd : (x == ("__classdict__" : Str)) = false := by decide) :
    PE (cxOf C8.CX0 X.prog X.w X.K X.mg X.base Ng qg sg g cdg X.A X.stack s H Eg).nox (.Call (.Name x p1) [e] [] p2)
      (fun σZ HZ Q => σZ[i]? = some (some (.ref f)) ∧ t σZ HZ fun vs H1 => ∃ v, vs = [v] ∧ H1 c' = some (CodeO c' (X.env.qual ++ "<lambda>")) ∧ tb (σ ++ [some v]) H1 Q) := by
  refine ⟨fun pinsZ sZ σZ HZ Q IZ h => ?_⟩
  obtain ⟨hs, ht⟩ := h
  refine wpAny_Call_Name_kw (thn ((pe_var (pos := p1) (i := i) hN hv hd hcd).run pinsZ sZ σZ HZ (fun v H1 => v = .ref f ∧ H1 = HZ) IZ ⟨.ref f, hs, rfl, rfl⟩) fun u s1 ⟨v, H1, I1, r1, q1⟩ => ?_)
  obtain ⟨ev, eH⟩ := q1
  subst ev
  rw [eH] at I1
  obtain rfl : u = Value.ref f := r1
  have ofAt : ∀ {σ2 : L2.St} {H2 : Hp} {s2 : Shared}, Inv (cxOf C8.CX0 X.prog X.w X.K X.mg X.base Ng qg sg g cdg X.A X.stack s H Eg).nox pinsZ σ2 H2 s2 → s2.heap.get? f = some (PySem.W.kla_obj "<lambda>" (X.env.qual ++ "<lambda>") params body scope (cloFrom X.env.cells scope.names []) pm c' ctv) :=
    fun I2 => I2.base.keep f _ hf hfn hfr (fun z => nomatch (show f ∈ ([] : List Addr) from z))
  refine PySem.W.callWith_F (first := []) ⟨_, _, _, _, ofAt I1⟩ (thn (ha.run p2 pinsZ s1 σZ HZ _ I1 ht) fun us s2 ⟨vs, H2, I2, r, v, ev, hc, q⟩ => ⟨⟨_, _, _, _, ofAt I2⟩, ?_⟩) he (by rfl)
  subst ev
  obtain ⟨u, rfl, ru⟩ := vals1 r
  show wpAny _ _ (call (.ref f) [u]) _ _ _
  have of1 := ofAt I2
  have un : Un (frs X.stack) [] H H2 s.heap s2.heap := I2.base
  obtain ⟨⟨oc, vs, t, hoc, hdc, hvc⟩, _, _⟩ := I2.hok c' _ hc
  have rc : codeAny (model X.prog X.w) (X.A.deeper (envOfC qg sg s.heap.objs.size g cdg)) (.call (.ref f) ⟨[u], []⟩) (CR (L2.CX X.prog X.w) (envOfC qg sg s.heap.objs.size g cdg :: X.stack) X.prog X.w H2 s2 Q C8.E0) s2 := by
    refine PySem.W.kla_callFunE hr.depth of1 rfl L.co L.gen rfl ⟨c', oc, vs, t, rfl, hoc, hdc, hvc⟩ ?_
    rw [hbind]
    refine wpAny_pure (wpAny_newFunctionEnv (fun y hy => (L.own y hy).1) (fun y hy => ?_) (fun h₁ hns hsb => ⟨I2.nolimit.fresh _ hsb, ?_⟩) L.kind)
    · rw [show y = (a, u) from by simpa using hy]
      exact L.par
    show codeAny _ _ (.expr body (lamEnv X scope s2.heap.objs.size f c')) _ _
    have kp : ∀ b o, s2.heap.get? b = some o → h₁.get? b = some o := fun b o e => hsb.extBut b o (Nat.ne_of_lt (Heap.lt_size e)) (Heap.get?_push_of_some _ e)
    have J : Inv (lamCx1 X a (X.A.deeper (envOfC qg sg s.heap.objs.size g cdg)) (envOfC qg sg s.heap.objs.size g cdg :: X.stack) s2 H2 C8.E0 scope f c') [] (σ ++ [some v]) H2 { s2 with heap := h₁, toks := s2.toks + [(a, u)].length } :=
      lam_start1 I L I2.env0 hr.hd un hns kp ru
    refine PySem.W.kla_codeExpr (wpAny_mono ((hbody _ _ s2 H2 (hr.deeper _)).run [] _ _ H2 Q J q) (fun v s' hq => ?_) fun e s' hq => hq)
    obtain ⟨w', H', J', rv, q⟩ := hq
    exact ⟨w', H', J'.os, J'.bare, J'.base, J'.hok, rv, q⟩
  have hx := passes_call (X := (cxOf C8.CX0 X.prog X.w X.K X.mg X.base Ng qg sg g cdg X.A X.stack s H Eg).nox) (E := C8.E0) L2.takes0 (fun _ _ _ _ z => (show False from z).elim)
  refine wpAny_call (codeAny_mono rc fun r s' hq => ?_)
  cases r with
  | error e => exact hx pinsZ σZ H2 s2 e s' I2 hq
  | ok fl =>
    cases fl with
    | ret u => exact I2.after hq
    | next => exact False.elim hq
    | brk => exact False.elim hq
    | cont => exact False.elim hq
end
/-- the def that calls what it got as its second argument: TT: what it makes of the lambda's reading -/
def GivesTo2 (X : Cx) (Ng : List Str) (x : Str) (sg : Scope) (g : Addr) (cdg : Value) (bg : List Stmt) (a : Str) (q : Str) (k : Nat) (TT : (V → Hp → VK → Prop) → V → Hp → VK → Prop) : Prop :=
  ∀ (f c' : Addr) (s : Shared) (H : Hp) (v0 : V) (Q : VK) (tl : V → Hp → VK → Prop),
    (∀ (e : Expr) (t : TA) (p1 p2 : Pos), PA (cxOf C8.CX0 X.prog X.w X.K X.mg X.base Ng x sg g cdg X.A X.stack s H C8.E0).nox [e] t →
      starEach [e] (cxOf C8.CX0 X.prog X.w X.K X.mg X.base Ng x sg g cdg X.A X.stack s H C8.E0).nox.env = (false, eval e (cxOf C8.CX0 X.prog X.w X.K X.mg X.base Ng x sg g cdg X.A X.stack s H C8.E0).nox.env) :: starEach [] (cxOf C8.CX0 X.prog X.w X.K X.mg X.base Ng x sg g cdg X.A X.stack s H C8.E0).nox.env →
      PE (cxOf C8.CX0 X.prog X.w X.K X.mg X.base Ng x sg g cdg X.A X.stack s H C8.E0).nox (.Call (.Name a p1) [e] [] p2) (fun σZ HZ Q => σZ[1]? = some (some (.ref f)) ∧ t σZ HZ fun vs H1 => ∃ v, vs = [v] ∧ H1 c' = some (CodeO c' q) ∧ tl v H1 Q)) →
    Room k (X.A.deeper (envOfC x sg s.heap.objs.size g cdg)) → H c' = some (CodeO c' q) → TT tl v0 H Q →
    ∃ t, PSs (cxOf C8.CX0 X.prog X.w X.K X.mg X.base Ng x sg g cdg X.A X.stack s H C8.E0).nox bg t ∧ t { nx := fun _ H' => Q .non H', rt := Q } (L2.start Ng [v0, .ref f]) H
def tLam2 (T : List (Addr × Str)) (TT : (V → Hp → VK → Prop) → V → Hp → VK → Prop) (t0 t : TE) : TE := fun σ H Q => t0 σ H fun v0 H0 => Tabs T H0 ∧ ∀ H1, ExtN H0 H1 → Tabs T H1 → TT (fun v H' Q' => t (σ ++ [some v]) H' Q') v0 H1 Q
section
variable {X : Cx}
/-- x(e, lambda n: body) -/
theorem pe_lamcall2 {T : List (Addr × Str)} {TT : (V → Hp → VK → Prop) → V → Hp → VK → Prop} {x a0 a pn : Str} {g c P : Addr} {k : Nat} {pg : Arguments} {bg : List Stmt} {sg : Scope} {dV kV doc pm cdv ct oc : Value} {an od : Option Addr} {osl : Array (Option Value)} {Ng : List Str}
    {params : Arguments} {e : Expr} {body : Expr} {scope : Scope} {t0 t : TE} {p lpos pos : Pos} (he : PE X e t0) (hg : Gl X x) (hm : X.mg x = some (.ref g)) (hk : PySem.W.keepIn X.K (.ref g) = true)
    (lk : X.K.lookup g = some ⟨oc, od, .func (PySem.W.fnOf x x pg bg sg dV kV doc pm an cdv ct), osl⟩) (hcg : PySem.W.codeIn X.K cdv x = true) (hb : L2.Binds X.K (PySem.W.fnOf x x pg bg sg dV kV doc pm an cdv ct) [a0, a] []) (Sg : FnScope Ng [a0, a] sg) (hNg : Ng[1]? = some a) (hva : Vis sg a)
    (hG : GivesTo2 X Ng x sg g cdv bg a (X.env.qual ++ "<lambda>") (k + 1) TT)
    (TB : TabB X.base X.mg c P) (hcode : X.env.code = .ref c) (hmT : (P, X.env.qual ++ "<lambda>") ∈ T) (hu : ∀ p ∈ T, p.1 = P → p.2 = X.env.qual ++ "<lambda>") (hr : Room (k + 2) X.A) (L : LamS1 X.env.scope scope X.N pn) (hdef : defaultsOf params X.env = ([], []))
    (hbind : ∀ (q : Str) (cl : List (Str × Addr)) (pm cv ctv u : Value), bindArgs (PySem.W.kla_fn "<lambda>" q params body scope cl pm cv ctv) ⟨[u], []⟩ = pure [(pn, u)])
    (hbody : ∀ (A : Around) (outer : List Env) (s : Shared) (H : Hp) (f c' : Addr), Room k (A.deeper (lamEnv X scope s.heap.objs.size f c')) → PE (lamCx1 X pn A outer s H C8.E0 scope f c') body t)
    (hst : starEach [e, .Lambda params body scope lpos] X.env = (false, eval e X.env) :: starEach [.Lambda params body scope lpos] X.env := by rfl)
    (hdb : (x == ("__debug__" : Str)) = false := by decide) (hd : (a == ("__debug__" : Str)) = false := by decide) (hcd : (a == ("__classdict__" : Str)) = false := by decide) :
    PE X (.Call (.Name x p) [e, .Lambda params body scope lpos] [] pos) (tLam2 T TT t0 t) := by
  refine ⟨fun pins s σ H Q I h => ?_⟩
  refine wpAny_Call_Name_kw (ld_glob I hg hm ?_ hdb)
  refine PySem.W.callWith_K (h₀ := X.base) I.ok.mod.kin hk ?_ hst (by rfl)
  rw [hst]
  show wpAny _ _ (spliced ((false, eval e X.env) :: (false, eval (.Lambda params body scope lpos) X.env) :: backTo pos (starEach [] X.env))) _ _ s
  refine Calls.spliced_cons (thn (he.run pins s σ H _ I h) fun u0 s0 ⟨v0, H0, I0, r0, hT, h⟩ => ?_)
  refine Calls.spliced_cons (lam_make2 I0 TB hcode hmT hu hT hdef (L.has I.ok) fun f c' pm' ctv H1 s' I1 eN T1 hf hfn hfr hco => ?_)
  refine Calls.spliced_nil ⟨I1.kIn, ?_⟩
  have rc : codeAny (model X.prog X.w) X.A (.call (.ref g) ⟨[u0, .ref f], []⟩) (CR C8.CX0 X.stack X.prog X.w H1 s' Q C8.E0) s' := by
    refine run_ofS (k := k + 1) (N := Ng) (ps := [a0, a]) (us := [u0, .ref f]) (vs := [v0, .ref f]) lk hcg Sg hr I1.env0 (hb s' [u0, .ref f] I1.kIn rfl) (.cons r0 (.cons rfl .nil)) rfl fun hr' => ?_
    obtain ⟨t', ht', hq'⟩ := hG f c' s' H1 v0 Q (fun v H' Q' => t (σ ++ [some v]) H' Q') (fun e t p1 p2 ha he => pe_act1 (i := 1) I1 L hf hfn hfr (hbind _ _ _ _ _) hr' (fun A outer s H hr2 => hbody A outer s H f c' hr2) hNg hva ha he hd hcd) hr' hco (h H1 eN T1)
    exact ⟨t', ht'.nox, hq'⟩
  refine wpAny_call (codeAny_mono rc fun r s2 hq => ?_)
  cases r with
  | error e => exact (show False from hq).elim
  | ok fl =>
    cases fl with
    | ret u => exact I1.after hq
    | next => exact False.elim hq
    | brk => exact False.elim hq
    | cont => exact False.elim hq
end
end LamY

/-! the defs that check what they are passed -/
namespace KV
open PySem PySem.Spec PyProof.Rows L2 KC
/-- a change of n states, as a value -/
def Good (n : Nat) (H : Hp) (v : V) (c : List Nat) : Prop := ∃ a : Addr, v = .ref a ∧ H a = some (.tup (vi c)) ∧ Chg n c ∧ 1 ≤ n ∧ n ≤ 16
theorem Good.same {n : Nat} {H H' : Hp} {v : V} {c : List Nat} (s : Same H H') (g : Good n H v c) : Good n H' v c := let ⟨a, e, h, r⟩ := g; ⟨a, e, s _ _ h, r⟩
theorem Good.val {K : PySem.W.Frag} {n : Nat} {H : Hp} {v : V} {c : List Nat} (g : Good n H v c) : ValT K H v (some (vi c)) := by
  obtain ⟨a, rfl, h, hc, _, hn⟩ := g
  exact ⟨a, rfl, h, fun x hx => by
    obtain ⟨m, _, rfl⟩ := List.mem_map.mp hx
    exact .inl ⟨_, rfl⟩, by rw [List.length_map, hc.len]; exact hn⟩
theorem chB_chg {n : Nat} {c : List Nat} (h : Chg n c) (h1 : 1 ≤ n) : chB (vi c) = true := by
  have l : (vi c).length = n := by rw [List.length_map]; exact h.len
  unfold chB
  rw [l, decide_eq_true h1, Bool.true_and, Bool.and_eq_true]
  constructor
  · rw [List.all_eq_true]
    intro x hx
    obtain ⟨m, hm, rfl⟩ := List.mem_map.mp hx
    have := h.lt m hm
    show (decide (0 ≤ ((m : Nat) : Int)) && decide (((m : Nat) : Int) < (n : Int))) = true
    rw [decide_eq_true (by omega), decide_eq_true (by omega)]
    rfl
  · rw [vi_zi, decide_eq_true_eq, nodup_ints]
    unfold zi List.Nodup
    rw [List.pairwise_map]
    exact h.nd.imp fun z e => z (by omega)
theorem Good.isC {n : Nat} {H : Hp} {v : V} {c : List Nat} (g : Good n H v c) : KV.isC (some (vi c)) = true := by
  obtain ⟨a, rfl, h, hc, h1, hn⟩ := g
  exact chB_chg hc h1
theorem Good.isCh {n : Nat} {H : Hp} {v : V} {c : List Nat} (g : Good n H v c) : KV.isCh (n : Int) (some (vi c)) = true := by
  obtain ⟨a, rfl, h, hc, h1, hn⟩ := g
  show (decide ((((vi c).length : Nat) : Int) = (n : Int)) && chB (vi c)) = true
  rw [chB_chg hc h1, decide_eq_true (by rw [List.length_map, hc.len]), Bool.true_and]
/-- two values are refused -/
def Ref2 (ms us : Option (List V)) : Prop := isC ms = false ∨ ∃ xs, ms = some xs ∧ isC ms = true ∧ isCh ((xs.length : Nat) : Int) us = false
section
variable {P : Program} {w : World} {K : PySem.W.Frag} {mg : Str → Option Value} {base : Heap} {C fI : Addr}
def spFol (K : PySem.W.Frag) (C : Addr) : Sp := fun vs H Q E => (∃ (v u : V) (n : Nat) (c e : List Nat), vs = [v, u] ∧ Good n H v c ∧ Good n H u e ∧ ∀ t H', Same H H' → H t = none → H' t = some (.tup (vi (comp c e))) → Q (.ref t) H') ∨
  ∃ (v u : V) (ms us : Option (List V)), vs = [v, u] ∧ ValT K H v ms ∧ ValT K H u us ∧ Ref2 ms us ∧ Bad C H E
theorem sk20 : FnScope ["one", "other"] ["one", "other"] (defScope (top 23)) := ⟨rfl, rfl, rfl, by decide +kernel, rfl, by decide +kernel, by decide +kernel⟩
theorem ok_Fol {f : Addr} {fd : FuncData} (C2 : Cal P w K mg base (L2.CX P w) 6 "_check_two" ["one", "other"] (spTwo K C)) (CC : Cal P w K mg base CX0 1 "composed" ["one", "other"] spComp) (F : Fun K "followed" "followed" (top 23) f fd) :
    FnOk P w K mg base (L2.CX P w) 7 f fd ["one", "other"] (spFol K C) := by
  refine F.okX sk20 (fun vs H Q E h => ?_) (fun cdv A outer s H vs Q E hr h => ⟨_, pss_cons (ps_expr (by exact (pe_calX C2 hr (by decide) (takes_of rfl rfl rfl rfl) (fun _ _ _ _ z => z) (pa_cons (pv 0) (pa_cons (pv 1) pa_nil)))))
    (pss_one (ps_ret (by exact (pe_cal CC hr (by decide) (pa_cons (pv 0) (pa_cons (pv 1) pa_nil)))))), ?_⟩)
  · rcases h with ⟨v, u, n, c, e, rfl, _⟩ | ⟨v, u, ms, us, rfl, _⟩ <;> rfl
  rcases h with ⟨v, u, n, c, e, rfl, g1, g2, q⟩ | ⟨v, u, ms, us, rfl, h1, h2, bad, b⟩
  · refine ⟨_, rfl, _, rfl, v, u, some (vi c), some (vi e), rfl, g1.val, g2.val, .inr ⟨vi c, rfl, g1.isC, fun _ H1 s1 => ?_, fun z => ?_⟩⟩
    · obtain ⟨a, rfl, ha, hc, h1, hn⟩ := g1
      obtain ⟨b, rfl, hb, he, _, _⟩ := g2
      exact ⟨_, rfl, _, rfl, a, b, c, e, rfl, s1 _ _ ha, s1 _ _ hb, fun x hx => by rw [he.len]; exact hc.lt x hx, by rw [hc.len]; exact hn, fun t H2 s2 tn ht => q t H2 (s1.trans s2) (s1.free tn) ht⟩
    · have l : (vi c).length = n := by
        obtain ⟨a, rfl, ha, hc, h1, hn⟩ := g1
        rw [List.length_map]
        exact hc.len
      rw [l, g2.isCh] at z
      cases z
  · refine ⟨_, rfl, _, rfl, v, u, ms, us, rfl, h1, h2, ?_⟩
    rcases bad with z | ⟨xs, z1, z2, z3⟩
    · exact .inl ⟨z, b⟩
    · exact .inr ⟨xs, z1, z2, fun z => absurd (z3.symm.trans z) (by decide), fun _ => b⟩
def spCp (K : PySem.W.Frag) (C : Addr) : Sp := fun vs H Q E => (∃ (v u : V) (n : Nat) (c e : List Nat), vs = [v, u] ∧ Good n H v c ∧ Good n H u e ∧ ∀ H', Same H H' → Q (.bl (decide (comp c e = comp e c))) H') ∨
  ∃ (v u : V) (ms us : Option (List V)), vs = [v, u] ∧ ValT K H v ms ∧ ValT K H u us ∧ Ref2 ms us ∧ Bad C H E
def spLp (K : PySem.W.Frag) (C : Addr) : Sp := fun vs H Q E => (∃ (v u : V) (n : Nat) (c e : List Nat) (k : Int), vs = [v, u, .int k] ∧ Good n H v c ∧ Good n H u e ∧ ∀ t H', Same H H' → H t = none → H' t = some (.tup (vi (pw n (comp c e) k))) → Q (.ref t) H') ∨
  ∃ (v u : V) (ms us : Option (List V)) (k : Int), vs = [v, u, .int k] ∧ ValT K H v ms ∧ ValT K H u us ∧ Ref2 ms us ∧ Bad C H E
theorem sk25 : FnScope ["one", "other", "count"] ["one", "other", "count"] (defScope (top 24)) := ⟨rfl, rfl, rfl, by decide +kernel, rfl, by decide +kernel, by decide +kernel⟩
theorem ok_Lp {f : Addr} {fd : FuncData} (C2 : Cal P w K mg base (L2.CX P w) 6 "_check_two" ["one", "other"] (spTwo K C)) (CC : Cal P w K mg base CX0 4 "looped" ["one", "other", "count"] spLoo) (F : Fun K "loop" "loop" (top 24) f fd) :
    FnOk P w K mg base (L2.CX P w) 7 f fd ["one", "other", "count"] (spLp K C) := by
  refine F.okX sk25 (fun vs H Q E h => ?_) (fun cdv A outer s H vs Q E hr h => ⟨_, pss_cons (ps_expr (by exact (pe_calX C2 hr (by decide) (takes_of rfl rfl rfl rfl) (fun _ _ _ _ z => z) (pa_cons (pv 0) (pa_cons (pv 1) pa_nil)))))
    (pss_one (ps_ret (by exact (pe_cal CC hr (by decide) (pa_cons (pv 0) (pa_cons (pv 1) (pa_cons (pv 2) pa_nil))))))), ?_⟩)
  · rcases h with ⟨v, u, n, c, e, k, rfl, _⟩ | ⟨v, u, ms, us, k, rfl, _⟩ <;> rfl
  rcases h with ⟨v, u, n, c, e, k, rfl, g1, g2, q⟩ | ⟨v, u, ms, us, k, rfl, h1, h2, bad, b⟩
  · refine ⟨_, rfl, _, rfl, v, u, some (vi c), some (vi e), rfl, g1.val, g2.val, .inr ⟨vi c, rfl, g1.isC, fun _ H1 s1 => ?_, fun z => ?_⟩⟩
    · obtain ⟨a, rfl, ha, hc, h1, hn⟩ := g1
      obtain ⟨b, rfl, hb, he, _, _⟩ := g2
      exact ⟨_, rfl, _, rfl, _, rfl, a, b, n, c, e, k, rfl, s1 _ _ ha, s1 _ _ hb, hc, he, hn, fun t H2 s2 tn ht => q t H2 (s1.trans s2) (s1.free tn) ht⟩
    · have l : (vi c).length = n := by
        obtain ⟨a, rfl, ha, hc, h1, hn⟩ := g1
        rw [List.length_map]
        exact hc.len
      rw [l, g2.isCh] at z
      cases z
  · refine ⟨_, rfl, _, rfl, v, u, ms, us, rfl, h1, h2, ?_⟩
    rcases bad with z | ⟨xs, z1, z2, z3⟩
    · exact .inl ⟨z, b⟩
    · exact .inr ⟨xs, z1, z2, fun z => absurd (z3.symm.trans z) (by decide), fun _ => b⟩
def spSp (K : PySem.W.Frag) (C : Addr) : Sp := fun vs H Q E => (∃ (v u : V) (n : Nat) (c e : List Nat) (k : Int), vs = [v, u, .int k] ∧ Good n H v c ∧ Good n H u e ∧ ∀ t H', Same H H' → H t = none → H' t = some (.tup (vi (comp (pw n c k) (pw n e k)))) → Q (.ref t) H') ∨
  ∃ (v u : V) (ms us : Option (List V)) (k : Int), vs = [v, u, .int k] ∧ ValT K H v ms ∧ ValT K H u us ∧ Ref2 ms us ∧ Bad C H E
theorem sk26 : FnScope ["one", "other", "count"] ["one", "other", "count"] (defScope (top 25)) := ⟨rfl, rfl, rfl, by decide +kernel, rfl, by decide +kernel, by decide +kernel⟩
theorem ok_Sp {f : Addr} {fd : FuncData} (C2 : Cal P w K mg base (L2.CX P w) 6 "_check_two" ["one", "other"] (spTwo K C)) (CC : Cal P w K mg base CX0 4 "split_looped" ["one", "other", "count"] spSpl) (F : Fun K "split_loop" "split_loop" (top 25) f fd) :
    FnOk P w K mg base (L2.CX P w) 7 f fd ["one", "other", "count"] (spSp K C) := by
  refine F.okX sk26 (fun vs H Q E h => ?_) (fun cdv A outer s H vs Q E hr h => ⟨_, pss_cons (ps_expr (by exact (pe_calX C2 hr (by decide) (takes_of rfl rfl rfl rfl) (fun _ _ _ _ z => z) (pa_cons (pv 0) (pa_cons (pv 1) pa_nil)))))
    (pss_one (ps_ret (by exact (pe_cal CC hr (by decide) (pa_cons (pv 0) (pa_cons (pv 1) (pa_cons (pv 2) pa_nil))))))), ?_⟩)
  · rcases h with ⟨v, u, n, c, e, k, rfl, _⟩ | ⟨v, u, ms, us, k, rfl, _⟩ <;> rfl
  rcases h with ⟨v, u, n, c, e, k, rfl, g1, g2, q⟩ | ⟨v, u, ms, us, k, rfl, h1, h2, bad, b⟩
  · refine ⟨_, rfl, _, rfl, v, u, some (vi c), some (vi e), rfl, g1.val, g2.val, .inr ⟨vi c, rfl, g1.isC, fun _ H1 s1 => ?_, fun z => ?_⟩⟩
    · obtain ⟨a, rfl, ha, hc, h1, hn⟩ := g1
      obtain ⟨b, rfl, hb, he, _, _⟩ := g2
      exact ⟨_, rfl, _, rfl, _, rfl, a, b, n, c, e, k, rfl, s1 _ _ ha, s1 _ _ hb, hc, he, hn, fun t H2 s2 tn ht => q t H2 (s1.trans s2) (s1.free tn) ht⟩
    · have l : (vi c).length = n := by
        obtain ⟨a, rfl, ha, hc, h1, hn⟩ := g1
        rw [List.length_map]
        exact hc.len
      rw [l, g2.isCh] at z
      cases z
  · refine ⟨_, rfl, _, rfl, v, u, ms, us, rfl, h1, h2, ?_⟩
    rcases bad with z | ⟨xs, z1, z2, z3⟩
    · exact .inl ⟨z, b⟩
    · exact .inr ⟨xs, z1, z2, fun z => absurd (z3.symm.trans z) (by decide), fun _ => b⟩
def spBk (K : PySem.W.Frag) (C : Addr) : Sp := fun vs H Q E => (∃ (v : V) (n : Nat) (c : List Nat), vs = [v] ∧ Good n H v c ∧ ∀ t H' e, Same H H' → H t = none → H' t = some (.tup (vi e)) → Und n c e → Q (.ref t) H') ∨
  ∃ (v : V) (ms : Option (List V)), vs = [v] ∧ ValT K H v ms ∧ isC ms = false ∧ Bad C H E
def spPw (K : PySem.W.Frag) (C : Addr) : Sp := fun vs H Q E => (∃ (v : V) (n : Nat) (c : List Nat) (k : Int), vs = [v, .int k] ∧ Good n H v c ∧ ∀ t H', Same H H' → H t = none → H' t = some (.tup (vi (pw n c k))) → Q (.ref t) H') ∨
  ∃ (v : V) (ms : Option (List V)) (k : Int), vs = [v, .int k] ∧ ValT K H v ms ∧ isC ms = false ∧ Bad C H E
def spOr (K : PySem.W.Frag) (C : Addr) : Sp := fun vs H Q E => (∃ (v : V) (n : Nat) (c : List Nat), vs = [v] ∧ Good n H v c ∧ ∀ H' L, Same H H' → OrdOf n c L → Q (.int (L : Nat)) H') ∨
  ∃ (v : V) (ms : Option (List V)), vs = [v] ∧ ValT K H v ms ∧ isC ms = false ∧ Bad C H E
end
end KV

/-! powers: of counts below 0, of powers; periods -/
namespace KC
section
variable {n : Nat} {c : List Nat}
theorem Und.to (h : Chg n c) {e : List Nat} (a : Und n c e) {y : Nat} (hy : y < n) : c.getD (e.getD y 0) 0 = y := by
  obtain ⟨i, hi, rfl⟩ := h.mem hy
  rw [a.at h hi]
theorem it_one (i : Nat) : it c 1 i = c.getD i 0 := rfl
theorem Und.it (h : Chg n c) {e : List Nat} (a : Und n c e) {i : Nat} (hi : i < n) : ∀ K, KC.it c K (KC.it e K i) = i
  | 0 => rfl
  | K + 1 => by
    rw [it_add, it_one]
    show KC.it c K (c.getD (e.getD (KC.it e K i) 0) 0) = i
    rw [a.to h (it_lt (a.chg h) hi K), a.it h hi K]
theorem it_zero (i : Nat) : it c 0 i = i := rfl
theorem pw_zero (h : Chg n c) : pw n c 0 = tab n id := by
  have z := pw_nat h 0
  rw [show ((0 : Nat) : Int) = 0 from rfl] at z
  rw [z]
  exact tab_congr fun i _ => rfl
theorem pw_get {k : Int} {i : Nat} (hi : i < n) : (pw n c k).getD i 0 = it c (k % (fac n : Int)).toNat i := tab_getD hi
theorem pw_neg (h : Chg n c) {e : List Nat} (a : Und n c e) (K : Nat) : pw n c (-(K : Int)) = tab n (it e K) := by
  have z := pw_add h (-(K : Int)) (K : Int)
  rw [show -(K : Int) + K = 0 by omega, pw_zero h, pw_nat h] at z
  unfold pw at z ⊢
  rw [comp_tab (fun i hi => it_lt h hi _)] at z
  have z2 := tab_inj z
  refine tab_congr fun i hi => ?_
  have l1 : it c K (it c ((-(K : Int)) % (fac n : Int)).toNat i) = i := z2 i hi
  exact it_inj h (it_lt h hi _) (it_lt (a.chg h) hi _) K (l1.trans (a.it h hi K).symm)
theorem und_pw (h : Chg n c) {e : List Nat} (a : Und n c e) : pw n c (-1) = e := by
  have z := pw_neg h a 1
  rw [show -((1 : Nat) : Int) = -1 from rfl] at z
  rw [z, eq_tab a.1]
  exact tab_congr fun i hi => by rw [it_one, ← eq_tab a.1]
theorem it_pw (h : Chg n c) (a : Nat) {i : Nat} (hi : i < n) : ∀ m, it (tab n (it c a)) m i = it c (a * m) i
  | 0 => by rw [Nat.mul_zero]; rfl
  | m + 1 => by
    have ih := it_pw h a hi m
    show (tab n (it c a)).getD (it (tab n (it c a)) m i) 0 = _
    rw [ih, tab_getD (it_lt h hi _), Nat.mul_succ, Nat.add_comm, it_add]
theorem pw_pw (h : Chg n c) (a b : Nat) : pw n (pw n c a) b = pw n c ((a * b : Nat) : Int) := by
  rw [pw_nat (pw_chg h _), pw_nat h, pw_nat h]
  exact tab_congr fun i hi => it_pw h a hi b
theorem comp_len {e : List Nat} : (comp c e).length = c.length := List.length_map ..
theorem comp_pw_comm (h : Chg n c) (a b : Int) : comp (pw n c a) (pw n c b) = comp (pw n c b) (pw n c a) := by
  rw [pw_add h, pw_add h, Int.add_comm]
theorem pw_one (h : Chg n c) : pw n c 1 = c := by
  have z := pw_nat h 1
  rw [show ((1 : Nat) : Int) = 1 from rfl] at z
  rw [z]
  have e : c = tab n fun i => c.getD i 0 := eq_tab h.len
  exact (tab_congr fun i _ => rfl).trans e.symm
theorem pw_period (h : Chg n c) {L : Nat} (e : pw n c L = tab n id) (k : Int) : pw n c (k + L) = pw n c k := by
  rw [← pw_add h, e]
  unfold pw
  rw [comp_tab (fun i hi => it_lt h hi _)]
  exact tab_congr fun i _ => rfl
theorem pw_periods (h : Chg n c) {L : Nat} (e : pw n c L = tab n id) (k : Int) (m : Nat) : pw n c (k + L * m) = pw n c k := by
  induction m with
  | zero => simp
  | succ m ih =>
    have : k + (L : Int) * ((m + 1 : Nat) : Int) = (k + L * m) + L := by
      rw [Int.natCast_add, Int.mul_add]
      simp only [Int.natCast_one, Int.mul_one]
      omega
    rw [this, pw_period h e, ih]
theorem pw_mod (h : Chg n c) {L : Nat} (l0 : 0 < L) (e : pw n c L = tab n id) (k : Int) : pw n c (k % L) = pw n c k := by
  have L0 : (0 : Int) < L := by omega
  rcases Int.le_total 0 (k / L) with z | z
  · have := pw_periods h e (k % L) (k / L).toNat
    rw [Int.toNat_of_nonneg z, Int.emod_add_mul_ediv] at this
    exact this.symm
  · have := pw_periods h e k (-(k / L)).toNat
    rw [Int.toNat_of_nonneg (by omega)] at this
    rw [← this]
    congr 1
    have z2 := Int.emod_add_mul_ediv k L
    have z3 : (L : Int) * -(k / L) = -(L * (k / L)) := Int.mul_neg ..
    rw [z3]
    omega
end
end KC

/-! calls by keywords alone; asked -/
namespace KV
open PySem PySem.Spec PyProof.Rows L2 KC
def rv {α : Type} (b : Bool) (l : List α) : List α := if b = true then l.reverse else l
theorem vals_app : ∀ {vs zs : List V} {us ws : List Value}, Vals vs us → Vals zs ws → Vals (vs ++ zs) (us ++ ws)
  | [], _, _, _, .nil, k => k
  | _ :: _, _, _, _, .cons r h, k => .cons r (vals_app h k)
theorem vals_rev : ∀ {vs : List V} {us : List Value}, Vals vs us → Vals vs.reverse us.reverse
  | [], _, .nil => .nil
  | _ :: _, _, .cons r h => by
    rw [List.reverse_cons, List.reverse_cons]
    exact vals_app (vals_rev h) (.cons r .nil)
theorem vals_rv {b : Bool} {vs : List V} {us : List Value} (h : Vals vs us) : Vals (rv b vs) (rv b us) := by
  cases b with
  | false => exact h
  | true => exact vals_rev h
/-- how a call with keywords alone binds: the names ks stand in the parameters' order, or the other way round (b) -/
def KB (K : PySem.W.Frag) (fd : FuncData) (ps ks : List Str) (b : Bool) : Prop := ∀ (s : Shared) (ws : List Value), K.In s.heap → (rv b ws).length = ps.length → BindsTo s fd ⟨[], ks.zip ws⟩ (ps.zip (rv b ws))
theorem KB.mk {K : PySem.W.Frag} {x qual : Str} {st : Stmt} {f : Addr} {fd : FuncData} {ps ks : List Str} {b : Bool} (F : Fun K x qual st f fd)
    (h : ∀ (kV doc pm : Value) (an : Option Addr) (cdv ct : Value) (us : List Value), us.length = ps.length → bindArgs (PySem.W.fnOf x qual (defArgs st) (defBody st) (defScope st) .none kV doc pm an cdv ct) ⟨[], ks.zip us⟩ = pure (ps.zip (rv b us))) : KB K fd ps ks b := by
  obtain ⟨oc, od, kV, doc, pm, an, cdv, ct, osl, rfl, lk, hcd⟩ := F.ex
  intro s ws _ hl
  refine .of_eq (h kV doc pm an cdv ct ws ?_)
  cases b with
  | false => exact hl
  | true => exact (List.length_reverse (as := ws)).symm.trans hl
/-- a def of the module that may be called with keywords alone -/
def CalK (P : Program) (w : World) (K : PySem.W.Frag) (mg : Str → Option Value) (base : Heap) (Z : CXT) (k : Nat) (x : Str) (ps ks : List Str) (b : Bool) (sp : Sp) : Prop :=
  ∃ (f : Addr) (fd : FuncData), FnOk P w K mg base Z k f fd ps sp ∧ mg x = some (.ref f) ∧ PySem.W.keepIn K (.ref f) = true ∧ KB K fd ps ks b
section
variable {X : Cx} {Z : CXT} {k j : Nat} {f : Addr} {fd : FuncData} {x : Str} {ps ks : List Str} {b : Bool} {sp : Sp} {p pos : Pos} {kws : List Keyword} {tk : TA} {E : L2.St → XK}
theorem run_fnSK {pins : List (Addr × Obj)} {σ : L2.St} {H : Hp} {s : Shared} {Q : VK} {ws : List Value} {zs : List V} (F : FnOk X.prog X.w X.K X.mg X.base Z k f fd ps sp) (hr : Room k X.A) (hb : KB X.K fd ps ks b) (hx : PassesAt Z X σ (E σ))
    (I : L2.Inv X pins σ H s) (rz : Vals zs ws) (h : sp (rv b zs) H Q (E σ)) : wpAny (model X.prog X.w) X.A (call (.ref f) [] (ks.zip ws)) (EP X pins σ Q) X.xe s := by
  have r2 := vals_rv (b := b) rz
  have hl : (rv b ws).length = ps.length := by rw [← r2.length]; exact F.len _ _ _ _ h
  refine wpAny_call (codeAny_mono (F.run X.A X.stack s H ⟨[], ks.zip ws⟩ (rv b ws) (rv b zs) Q (E σ) hr I.env0 (hb s ws I.kIn hl) r2 h) fun r s' hq => ?_)
  cases r with
  | error e => exact hx pins H s e s' I hq
  | ok fl =>
    cases fl with
    | ret u => exact I.after hq
    | next => exact False.elim hq
    | brk => exact False.elim hq
    | cont => exact False.elim hq
def tCallSK (sp : Sp) (b : Bool) (E : L2.St → XK) (tk : TA) : TE := fun σ H Q => tk σ H fun zs H1 => sp (rv b zs) H1 Q (E σ)
theorem pe_calSK (C : CalK X.prog X.w X.K X.mg X.base Z k x ps ks b sp) (hr : Room j X.A) (hj : k ≤ j) (hx : ∀ σ, PassesAt Z X σ (E σ)) (hkw : PK X kws tk) (hg : Gl X x := by rfl)
    (hall : (backToKw pos (keywordEach kws X.env)).all (·.1.isSome) = true := by rfl) (hks : (backToKw pos (keywordEach kws X.env)).filterMap (·.1) = ks := by rfl)
    (hdb : (x == ("__debug__" : Str)) = false := by decide)
    (hpl : ((backTo pos (starEach [] X.env)).any (·.1) || (backToKw pos (keywordEach kws X.env)).any (·.1.isNone)) = false := by rfl) :
    PE X (.Call (.Name x p) [] kws pos) (tCallSK sp b E tk) := by
  obtain ⟨f, fd, F, hm, hk, hb⟩ := C
  refine ⟨fun pins s σ H Q I h => ?_⟩
  refine wpAny_Call_Name_kw (ld_glob I hg hm ?_ hdb)
  refine PySem.W.callWith_KW0 (first := []) (h₀ := X.base) I.ok.mod.kin hk hall (thn (hkw.run pos pins s σ H _ I h) fun ws s2 ⟨zs, H2, I2, rz, q2⟩ => ⟨I2.kIn, ?_⟩) hpl
  rw [hks]
  exact run_fnSK F (hr.mono hj) hb (hx σ) I2 rz q2
theorem pe_calS {e : Expr} {es : List Expr} {t : TA} (C : Cal X.prog X.w X.K X.mg X.base Z k x ps sp) (hr : Room j X.A) (hj : k ≤ j) (hx : ∀ σ, PassesAt Z X σ (E σ)) (ha : PA X (e :: es) t)
    (hg : Gl X x := by rfl) (hdb : (x == ("__debug__" : Str)) = false := by decide)
    (he : starEach (e :: es) X.env = (false, eval e X.env) :: starEach es X.env := by rfl)
    (hpl : (backTo pos (starEach es X.env)).any (·.1) = false := by rfl) :
    PE X (.Call (.Name x p) (e :: es) [] pos) (tCallS sp E t) := by
  obtain ⟨f, fd, F, h1, h2, h3⟩ := C
  exact pe_callS F (hr.mono hj) hg h1 h2 h3 hx ha hdb he hpl
end
theorem passL {X : Cx} (σ : L2.St) : PassesAt (L2.CX X.prog X.w) X σ E0 := fun _ _ _ _ _ _ ⟨_, _, _, _, _, _, _, _, _, _, _, _, h⟩ => h.elim
end KV
/-! the law's arithmetic -/
namespace KV
open PySem PySem.Spec PyProof.Rows L2 KC
theorem shownAll_ints : ∀ ns : List Int, PyData.shownAll (ns.map PyData.int) = ns.map fun n => Str.ofString (toString n)
  | [] => rfl
  | n :: r => by
    show (PyData.int n).shown :: PyData.shownAll (r.map PyData.int) = _
    rw [shownAll_ints r]
    rfl
theorem piled_le : ∀ ts : List Str, (∀ t ∈ ts, t.length ≤ 1921) → piled ts ≤ 1923 * ts.length
  | [], _ => Nat.le_refl _
  | t :: r, h => by
    have h1 := h t (by simp)
    have h2 := piled_le r fun x hx => h x (by simp [hx])
    rw [piled_cons, List.length_cons]
    omega
theorem shown_len {ns : List Int} (hb : ∀ n ∈ ns, n.natAbs.log2 < 1920) (hl : ns.length ≤ 1000) : (PyData.tuple (ns.map PyData.int)).shown.length ≤ sizeLine := by
  show (tupleText (PyData.shownAll (ns.map PyData.int))).length ≤ sizeLine
  rw [shownAll_ints]
  have hp := piled_le (ns.map fun n => Str.ofString (toString n)) fun t ht => by
    obtain ⟨n, hn, rfl⟩ := List.mem_map.mp ht
    exact int_text_len_1921 (hb n hn)
  rw [List.length_map] at hp
  have hj : (Str.join ", " (ns.map fun n => Str.ofString (toString n))).length ≤ 1923 * 1000 := by
    cases e : ns with
    | nil => show 0 ≤ _; omega
    | cons n r =>
      have := join_length_add (ns.map fun n => Str.ofString (toString n)) (by rw [e]; simp)
      rw [e] at this hp hl
      omega
  unfold tupleText
  rw [strLen_append, strLen_append]
  have e1 : (("(" : String) : Str).length = 1 := rfl
  have e2 : (((if ((ns.map fun n => Str.ofString (toString n)).length == 1) = true then ",)" else ")" : String)) : Str).length ≤ 2 := by
    split <;> decide
  have e3 : 1923 * 1000 + 3 ≤ sizeLine := by decide
  omega
theorem log_sm {k : Nat} {n : Int} (h : sm k n) (hk : k ≤ 1920) (h0 : 0 < k) : n.natAbs.log2 < 1920 := by
  by_cases z : n.natAbs = 0
  · rw [z]
    show Nat.log2 0 < 1920
    decide
  · exact Nat.lt_of_lt_of_le ((Nat.log2_lt z).mpr h) hk
end KV
/-! mathematics for the law -/
namespace KC
section
variable {n : Nat} {c : List Nat}
theorem und_of_comp {e : List Nat} (h : Chg n c) (le : e.length = n) (z : comp c e = tab n id) : Und n c e := by
  refine ⟨le, fun i hi => ?_⟩
  have l1 : c.getD i 0 < e.length := by rw [le]; exact h.at_lt hi
  rw [at_getD l1]
  have hi' : i < c.length := by rw [h.len]; exact hi
  have g := tab_get (n := n) (f := id) hi
  rw [← z] at g
  unfold comp at g
  rw [List.getElem?_map, at_getD hi'] at g
  exact g
theorem und_pws (h : Chg n c) (s : Nat) : Und n (pw n c s) (pw n c (-(s : Int))) := by
  refine und_of_comp (pw_chg h _) (pw_chg h _).len ?_
  rw [pw_add h, show (s : Int) + -(s : Int) = 0 by omega, pw_zero h]
theorem chg_perm {ms : List Nat} (h : ms.Perm (tab n id)) : Chg n ms := by
  have z : tab n id = List.range n := by unfold tab; simp
  rw [z] at h
  refine ⟨by rw [h.length_eq, List.length_range], fun x hx => List.mem_range.mp (h.mem_iff.mp hx), (h.nodup_iff).mpr List.nodup_range⟩
theorem tab_id_iff {m : Nat} : tab n (it c m) = tab n id ↔ ∀ i, i < n → it c m i = i :=
  ⟨fun e i hi => tab_inj e i hi, fun e => tab_congr fun i hi => e i hi⟩
theorem comp_step (h : Chg n c) (m : Nat) : comp (tab n (it c m)) c = tab n (it c (m + 1)) := by
  have e : c = tab n (it c 1) := by
    rw [← pw_nat h]
    exact (pw_one h).symm
  have z : comp (tab n (it c m)) c = comp (tab n (it c m)) (tab n (it c 1)) := by rw [← e]
  rw [z, comp_tab (fun i hi => it_lt h hi m)]
  refine tab_congr fun i hi => ?_
  rw [← it_add, Nat.add_comm]
theorem comp_self (h : Chg n c) (k : Int) : comp c (pw n c k) = comp (pw n c k) c := by
  have z := comp_pw_comm h 1 k
  rw [pw_one h] at z
  exact z
end
end KC

/-! two members of a group: which powers of their product are the product of their powers -/
namespace GP
/-- a group, as far as powers want it -/
structure Gp (G : Type) where
  mul : G → G → G
  one : G
  assoc : ∀ x y z, mul (mul x y) z = mul x (mul y z)
  one_mul : ∀ x, mul one x = x
  mul_one : ∀ x, mul x one = x
structure Hom {G : Type} (g : Gp G) (A : Int → G) : Prop where
  zero : A 0 = g.one
  add : ∀ i j, A (i + j) = g.mul (A i) (A j)
section
variable {G : Type} {g : Gp G} {A B C E : Int → G}
theorem Hom.inv (h : Hom g A) (i : Int) : g.mul (A i) (A (-i)) = g.one := by rw [← h.add, Int.add_right_neg, h.zero]
theorem Hom.inv' (h : Hom g A) (i : Int) : g.mul (A (-i)) (A i) = g.one := by rw [← h.add, Int.add_left_neg, h.zero]
theorem Hom.canL (h : Hom g A) {i : Int} {x y : G} (e : g.mul (A i) x = g.mul (A i) y) : x = y := by
  have z := congrArg (g.mul (A (-i))) e
  rw [← g.assoc, ← g.assoc, h.inv', g.one_mul, g.one_mul] at z
  exact z
theorem Hom.canR (h : Hom g A) {i : Int} {x y : G} (e : g.mul x (A i) = g.mul y (A i)) : x = y := by
  have z := congrArg (fun w => g.mul w (A (-i))) e
  simp only [g.assoc, h.inv, g.mul_one] at z
  exact z
theorem Hom.comm (h : Hom g A) {x : G} (e : g.mul (A 1) x = g.mul x (A 1)) : ∀ k, g.mul (A k) x = g.mul x (A k) := by
  have nat : ∀ k : Nat, g.mul (A (k : Int)) x = g.mul x (A (k : Int)) := fun k => by
    induction k with
    | zero => rw [show ((0 : Nat) : Int) = 0 from rfl, h.zero, g.one_mul, g.mul_one]
    | succ k ih => rw [show ((k + 1 : Nat) : Int) = (k : Int) + 1 from rfl, h.add, g.assoc, e, ← g.assoc, ih, g.assoc]
  intro k
  by_cases hk : 0 ≤ k
  · have := nat k.toNat
    rw [show ((k.toNat : Nat) : Int) = k by omega] at this
    exact this
  · have := nat (-k).toNat
    rw [show (((-k).toNat : Nat) : Int) = -k by omega] at this
    refine h.canL (i := -k) ?_
    rw [← g.assoc, h.inv' , g.one_mul, ← g.assoc, this, g.assoc, h.inv', g.mul_one]
theorem Hom.same (h : Hom g A) (h2 : Hom g B) (e : A 1 = B 1) : ∀ k, A k = B k := by
  have nat : ∀ k : Nat, A (k : Int) = B (k : Int) := fun k => by
    induction k with
    | zero => rw [show ((0 : Nat) : Int) = 0 from rfl, h.zero, h2.zero]
    | succ k ih => rw [show ((k + 1 : Nat) : Int) = (k : Int) + 1 from rfl, h.add, h2.add, ih, e]
  intro k
  by_cases hk : 0 ≤ k
  · have := nat k.toNat
    rw [show ((k.toNat : Nat) : Int) = k by omega] at this
    exact this
  · have := nat (-k).toNat
    rw [show (((-k).toNat : Nat) : Int) = -k by omega] at this
    refine h.canL (i := -k) ?_
    rw [h.inv', this, h2.inv']
/-- the powers A and B of two members, C those of their product -/
structure Tri (g : Gp G) (A B C : Int → G) : Prop where
  a : Hom g A
  b : Hom g B
  c : Hom g C
  one : C 1 = g.mul (A 1) (B 1)
def Sui (g : Gp G) (A B C : Int → G) (k : Int) : Prop := C k = g.mul (A k) (B k)
theorem Tri.s0 (t : Tri g A B C) : Sui g A B C 0 := by
  unfold Sui
  rw [t.a.zero, t.b.zero, t.c.zero, g.one_mul]
theorem Tri.s1 (t : Tri g A B C) : Sui g A B C 1 := t.one
/-- who suits with its neighbour is a period -/
theorem Tri.per (t : Tri g A B C) {d : Int} (h : Sui g A B C d) (h1 : Sui g A B C (d + 1)) (k : Int) : Sui g A B C (k + d) ↔ Sui g A B C k := by
  have e2 : g.mul (B 1) (A d) = g.mul (A d) (B 1) := by
    have x1 : C (d + 1) = g.mul (A 1) (g.mul (B 1) (g.mul (A d) (B d))) := by rw [Int.add_comm, t.c.add, t.one, h, g.assoc]
    have x2 : C (d + 1) = g.mul (A 1) (g.mul (A d) (g.mul (B 1) (B d))) := by rw [h1, Int.add_comm, t.a.add, t.b.add, g.assoc]
    have x3 := t.a.canL (x1.symm.trans x2)
    rw [← g.assoc, ← g.assoc] at x3
    exact t.b.canR x3
  have e3 := t.b.comm e2 k
  unfold Sui
  have l : C (k + d) = g.mul (C k) (g.mul (A d) (B d)) := by rw [t.c.add, h]
  have r : g.mul (A (k + d)) (B (k + d)) = g.mul (g.mul (A k) (B k)) (g.mul (A d) (B d)) := by
    rw [t.a.add, t.b.add, g.assoc, g.assoc, ← g.assoc (A d), ← e3, g.assoc]
  rw [l, r, ← g.assoc, ← g.assoc]
  constructor
  · exact fun e => t.a.canR (t.b.canR e)
  · exact fun e => by rw [e]
/-- it and its neighbour suit -/
def Dbl (g : Gp G) (A B C : Int → G) (d : Int) : Prop := Sui g A B C d ∧ Sui g A B C (d + 1)
theorem Tri.dbl (t : Tri g A B C) {d : Int} : Dbl g A B C d ↔ ∀ k, Sui g A B C (k + d) ↔ Sui g A B C k := by
  constructor
  · exact fun h k => t.per h.1 h.2 k
  · intro h
    refine ⟨?_, ?_⟩
    · have := (h 0).mpr t.s0
      rw [Int.zero_add] at this
      exact this
    · have := (h 1).mpr t.s1
      rw [Int.add_comm] at this
      exact this
theorem Tri.d0 (t : Tri g A B C) : Dbl g A B C 0 := t.dbl.mpr fun k => by rw [Int.add_zero]
theorem Tri.dadd (t : Tri g A B C) {a b : Int} (ha : Dbl g A B C a) (hb : Dbl g A B C b) : Dbl g A B C (a + b) := t.dbl.mpr fun k => by rw [← Int.add_assoc, t.dbl.mp hb, t.dbl.mp ha]
theorem Tri.dneg (t : Tri g A B C) {a : Int} (ha : Dbl g A B C a) : Dbl g A B C (-a) := t.dbl.mpr fun k => by
  have := t.dbl.mp ha (k + -a)
  rw [Int.neg_add_cancel_right] at this
  exact this.symm
theorem Tri.dmul (t : Tri g A B C) {a : Int} (ha : Dbl g A B C a) (k : Int) : Dbl g A B C (a * k) := by
  have nat : ∀ k : Nat, Dbl g A B C (a * (k : Int)) := fun k => by
    induction k with
    | zero => rw [show ((0 : Nat) : Int) = 0 from rfl, Int.mul_zero]; exact t.d0
    | succ k ih => rw [show ((k + 1 : Nat) : Int) = (k : Int) + 1 from rfl, Int.mul_add, Int.mul_one]; exact t.dadd ih ha
  by_cases hk : 0 ≤ k
  · have := nat k.toNat
    rw [show ((k.toNat : Nat) : Int) = k by omega] at this
    exact this
  · have := t.dneg (nat (-k).toNat)
    rw [show (((-k).toNat : Nat) : Int) = -k by omega, Int.mul_neg, Int.neg_neg] at this
    exact this
/-- the least of them divides all -/
theorem Tri.ddvd (t : Tri g A B C) {d : Nat} (d0 : 0 < d) (hd : Dbl g A B C (d : Int)) (least : ∀ m : Nat, 0 < m → m < d → ¬ Dbl g A B C (m : Int)) (a : Int) : Dbl g A B C a ↔ (d : Int) ∣ a := by
  constructor
  · intro ha
    have e : a % (d : Int) = a + -((d : Int) * (a / (d : Int))) := by
      have := Int.emod_add_mul_ediv a (d : Int)
      omega
    have h := t.dadd ha (t.dneg (t.dmul hd (a / (d : Int))))
    rw [← e] at h
    have l0 : 0 ≤ a % (d : Int) := Int.emod_nonneg _ (by omega)
    have l1 : a % (d : Int) < (d : Int) := Int.emod_lt_of_pos _ (by omega)
    refine Int.dvd_of_emod_eq_zero (Classical.byContradiction fun z => ?_)
    refine least (a % (d : Int)).toNat (by omega) (by omega) ?_
    rw [show (((a % (d : Int)).toNat : Nat) : Int) = a % (d : Int) by omega]
    exact h
  · rintro ⟨k, rfl⟩
    exact t.dmul hd k
theorem Tri.mod (t : Tri g A B C) {d : Int} (hd : Dbl g A B C d) (k : Int) : Sui g A B C (k % d) ↔ Sui g A B C k := by
  have h := t.dbl.mp (t.dmul hd (k / d)) (k % d)
  rw [Int.emod_add_mul_ediv] at h
  exact h.symm
/-- order does not matter -/
theorem Tri.com_d1 (t : Tri g A B C) : Dbl g A B C 1 ↔ g.mul (A 1) (B 1) = g.mul (B 1) (A 1) := by
  constructor
  · rintro ⟨_, h⟩
    unfold Sui at h
    rw [t.c.add, t.a.add, t.b.add, t.one, g.assoc, g.assoc] at h
    have h := t.a.canL h
    rw [← g.assoc, ← g.assoc] at h
    exact (t.b.canR h).symm
  · intro h
    refine ⟨t.s1, ?_⟩
    unfold Sui
    rw [t.c.add, t.a.add, t.b.add, t.one, g.assoc, g.assoc, ← g.assoc (B 1) (A 1), ← h, g.assoc]
theorem Tri.two (t : Tri g A B C) (h : Sui g A B C 2) : Dbl g A B C 1 := ⟨t.s1, h⟩
theorem Tri.neg_inv (t : Tri g A B C) (k : Int) : Sui g A B C k ↔ C (-k) = g.mul (B (-k)) (A (-k)) := by
  unfold Sui
  constructor
  · intro h
    refine t.c.canL (i := k) ?_
    rw [t.c.inv, h, g.assoc, ← g.assoc (B k), t.b.inv, g.one_mul, t.a.inv]
  · intro h
    refine t.c.canR (i := -k) ?_
    rw [t.c.inv, h, g.assoc, ← g.assoc (B k), t.b.inv, g.one_mul, t.a.inv]
theorem Tri.minus (t : Tri g A B C) (h : Sui g A B C (-1)) : Dbl g A B C 1 := by
  refine t.com_d1.mpr ?_
  have h2 := (t.neg_inv (-1)).mp h
  rw [Int.neg_neg, t.one] at h2
  exact h2
theorem Tri.conj (t : Tri g A B C) (u : Tri g B A E) (k : Int) : E k = g.mul (A (-1)) (g.mul (C k) (A 1)) := by
  have hE : Hom g fun k => g.mul (A (-1)) (g.mul (C k) (A 1)) := ⟨by rw [t.c.zero, g.one_mul, t.a.inv'], fun i j => by
    show g.mul (A (-1)) (g.mul (C (i + j)) (A 1)) = g.mul (g.mul (A (-1)) (g.mul (C i) (A 1))) (g.mul (A (-1)) (g.mul (C j) (A 1)))
    rw [t.c.add, g.assoc, g.assoc (A (-1)), g.assoc (C i), ← g.assoc (A 1), t.a.inv, g.one_mul]⟩
  exact u.c.same hE (by
    show E 1 = g.mul (A (-1)) (g.mul (C 1) (A 1))
    rw [u.one, t.one, g.assoc, ← g.assoc (A (-1)), t.a.inv', g.one_mul]) k
/-- the other way round -/
theorem Tri.swap (t : Tri g A B C) (u : Tri g B A E) (n : Int) : Sui g B A E (1 - n) ↔ Sui g A B C n := by
  have hE : Hom g fun k => g.mul (A (-1)) (g.mul (C k) (A 1)) := ⟨by rw [t.c.zero, g.one_mul, t.a.inv'], fun i j => by
    show g.mul (A (-1)) (g.mul (C (i + j)) (A 1)) = g.mul (g.mul (A (-1)) (g.mul (C i) (A 1))) (g.mul (A (-1)) (g.mul (C j) (A 1)))
    rw [t.c.add, g.assoc, g.assoc (A (-1)), g.assoc (C i), ← g.assoc (A 1), t.a.inv, g.one_mul]⟩
  have e := u.c.same hE (by
    show E 1 = g.mul (A (-1)) (g.mul (C 1) (A 1))
    rw [u.one, t.one, g.assoc, ← g.assoc (A (-1)), t.a.inv', g.one_mul])
  rw [t.neg_inv]
  unfold Sui
  rw [e]
  have c1 : C (1 - n) = g.mul (A 1) (g.mul (B 1) (C (-n))) := by rw [show 1 - n = 1 + -n from rfl, t.c.add, t.one, g.assoc]
  have b1 : B (1 - n) = g.mul (B 1) (B (-n)) := by rw [show 1 - n = 1 + -n from rfl, t.b.add]
  have a1 : A (1 - n) = g.mul (A (-n)) (A 1) := by rw [show 1 - n = -n + 1 by omega, t.a.add]
  show g.mul (A (-1)) (g.mul (C (1 - n)) (A 1)) = _ ↔ _
  rw [c1, b1, a1, g.assoc (A 1), ← g.assoc (A (-1)), t.a.inv', g.one_mul, ← g.assoc (g.mul (B 1) (B (-n))), g.assoc (B 1) (B (-n))]
  constructor
  · exact fun h => t.b.canL (t.a.canR h)
  · exact fun h => by rw [h]
theorem Tri.backs (t : Tri g A B C) : Tri g (fun k => B (-k)) (fun k => A (-k)) (fun k => C (-k)) :=
  ⟨⟨by rw [Int.neg_zero, t.b.zero], fun i j => by show B (-(i + j)) = _; rw [Int.neg_add, t.b.add]⟩, ⟨by rw [Int.neg_zero, t.a.zero], fun i j => by show A (-(i + j)) = _; rw [Int.neg_add, t.a.add]⟩, ⟨by rw [Int.neg_zero, t.c.zero], fun i j => by show C (-(i + j)) = _; rw [Int.neg_add, t.c.add]⟩,
    (t.neg_inv 1).mp t.s1⟩
theorem Tri.backs_sui (t : Tri g A B C) (k : Int) : Sui g (fun k => B (-k)) (fun k => A (-k)) (fun k => C (-k)) k ↔ Sui g A B C k := (t.neg_inv k).symm
end
end GP

/-! two changes: which counts suit them -/
namespace KC
open GP
section
variable {n : Nat} {c e : List Nat}
theorem comp_getD (hc : Chg n c) {i : Nat} (hi : i < n) : (comp c e).getD i 0 = e.getD (c.getD i 0) 0 := by
  refine getD_at ?_
  unfold comp
  rw [List.getElem?_map, at_getD (by rw [hc.len]; exact hi)] <;> rfl
theorem comp_assoc {f : List Nat} (hc : Chg n c) (he : Chg n e) : comp (comp c e) f = comp c (comp e f) := by
  unfold comp
  rw [List.map_map]
  refine List.map_congr_left fun x hx => ?_
  show f.getD (e.getD x 0) 0 = (List.map (fun x => f.getD x 0) e).getD x 0
  have hx' : x < n := hc.lt x hx
  have : (List.map (fun x => f.getD x 0) e)[x]? = some (f.getD (e.getD x 0) 0) := by
    rw [List.getElem?_map, at_getD (by rw [he.len]; exact hx')] <;> rfl
  exact (getD_at this).symm
theorem chg_id (n : Nat) : Chg n (tab n id) := chg_tab (fun i hi => hi) fun i _ j _ e => e
theorem comp_id (hc : Chg n c) : comp c (tab n id) = c := by
  unfold comp
  have : c.map (fun x => (tab n id).getD x 0) = c.map id := List.map_congr_left fun x hx => tab_getD (hc.lt x hx)
  rw [this, List.map_id]
theorem id_comp (hc : Chg n c) : comp (tab n id) c = c := by
  rw [eq_tab hc.len]
  exact comp_tab (f := id) fun i hi => hi
def Pm (n : Nat) := {c : List Nat // Chg n c}
def gpm (n : Nat) : Gp (Pm n) := ⟨fun c e => ⟨comp c.1 e.1, chg_comp c.2 e.2⟩, ⟨tab n id, chg_id n⟩, fun x y _ => Subtype.ext (comp_assoc x.2 y.2), fun x => Subtype.ext (id_comp x.2), fun x => Subtype.ext (comp_id x.2)⟩
def pwm (h : Chg n c) (k : Int) : Pm n := ⟨pw n c k, pw_chg h k⟩
theorem hom_pw (h : Chg n c) : Hom (gpm n) (pwm h) := ⟨Subtype.ext (pw_zero h), fun i j => Subtype.ext (pw_add h i j).symm⟩
theorem tri_pw (hc : Chg n c) (he : Chg n e) : Tri (gpm n) (pwm hc) (pwm he) (pwm (chg_comp hc he)) :=
  ⟨hom_pw hc, hom_pw he, hom_pw _, Subtype.ext (by show pw n (comp c e) 1 = comp (pw n c 1) (pw n e 1); rw [pw_one hc, pw_one he, pw_one (chg_comp hc he)])⟩
/-- the count suits them -/
def sui (n : Nat) (c e : List Nat) (k : Int) : Bool := decide (pw n (comp c e) k = comp (pw n c k) (pw n e k))
theorem sui_iff (hc : Chg n c) (he : Chg n e) {k : Int} : sui n c e k = true ↔ Sui (gpm n) (pwm hc) (pwm he) (pwm (chg_comp hc he)) k := by
  unfold sui Sui
  rw [decide_eq_true_eq]
  exact ⟨fun h => Subtype.ext h, fun h => congrArg Subtype.val h⟩
def dbl (n : Nat) (c e : List Nat) (k : Int) : Bool := sui n c e k && sui n c e (k + 1)
theorem dbl_iff (hc : Chg n c) (he : Chg n e) {k : Int} : dbl n c e k = true ↔ Dbl (gpm n) (pwm hc) (pwm he) (pwm (chg_comp hc he)) k := by
  unfold dbl Dbl
  rw [Bool.and_eq_true, sui_iff hc he, sui_iff hc he]
/-- the least count from 1 on that suits them with the next one -/
structure Rnd (n : Nat) (c e : List Nat) (d : Nat) : Prop where
  d0 : 0 < d
  is : dbl n c e (d : Int) = true
  least : ∀ m : Nat, 0 < m → m < d → dbl n c e (m : Int) = false
theorem Rnd.dvd (h : Rnd n c e d) (hc : Chg n c) (he : Chg n e) (k : Int) : dbl n c e k = true ↔ (d : Int) ∣ k := by
  rw [dbl_iff hc he]
  refine (tri_pw hc he).ddvd h.d0 ((dbl_iff hc he).mp h.is) (fun m m0 md z => ?_) k
  have := h.least m m0 md
  rw [(dbl_iff hc he).mpr z] at this
  cases this
theorem Rnd.uniq {d d' : Nat} (h : Rnd n c e d) (g : Rnd n c e d') (hc : Chg n c) (he : Chg n e) : d = d' := by
  have a := Int.natCast_dvd_natCast.mp ((h.dvd hc he _).mp g.is)
  have b := Int.natCast_dvd_natCast.mp ((g.dvd hc he _).mp h.is)
  exact Nat.dvd_antisymm a b
theorem Rnd.mod {d : Nat} (h : Rnd n c e d) (hc : Chg n c) (he : Chg n e) (k : Int) : sui n c e (k % (d : Int)) = sui n c e k := by
  rw [Bool.eq_iff_iff, sui_iff hc he, sui_iff hc he]
  exact (tri_pw hc he).mod ((dbl_iff hc he).mp h.is) k
/-- all three are idle at the count -/
def Idl (n : Nat) (c e : List Nat) (M : Nat) : Prop := pw n (comp c e) (M : Int) = tab n id ∧ pw n c (M : Int) = tab n id ∧ pw n e (M : Int) = tab n id
theorem Idl.dblM (h : Idl n c e M) (hc : Chg n c) (he : Chg n e) : dbl n c e (M : Int) = true := by
  obtain ⟨h1, h2, h3⟩ := h
  unfold dbl
  rw [Bool.and_eq_true]
  unfold sui
  rw [decide_eq_true_eq, decide_eq_true_eq]
  have a := pw_add (chg_comp hc he) (M : Int) 1
  have b := pw_add hc (M : Int) 1
  have d := pw_add he (M : Int) 1
  rw [h1, id_comp (pw_chg (chg_comp hc he) _)] at a
  rw [h2, id_comp (pw_chg hc _)] at b
  rw [h3, id_comp (pw_chg he _)] at d
  refine ⟨by rw [h1, h2, h3, comp_id (chg_id n)], ?_⟩
  rw [← a, ← b, ← d, pw_one hc, pw_one he, pw_one (chg_comp hc he)]
theorem Idl.mod (h : Idl n c e M) (hc : Chg n c) (he : Chg n e) (k : Int) : sui n c e (k % (M : Int)) = sui n c e k := by
  rw [Bool.eq_iff_iff, sui_iff hc he, sui_iff hc he]
  exact (tri_pw hc he).mod ((dbl_iff hc he).mp (h.dblM hc he)) k
theorem exists_least {p : Nat → Bool} : ∀ M : Nat, 0 < M → p M = true → ∃ d, 0 < d ∧ d ≤ M ∧ p d = true ∧ ∀ m, 0 < m → m < d → p m = false
  | 0, h, _ => absurd h (by decide)
  | M + 1, _, h => by
    by_cases z : ∃ m, 0 < m ∧ m < M + 1 ∧ p m = true
    · obtain ⟨m, m0, m1, hm⟩ := z
      obtain ⟨d, a, b, e, f⟩ := exists_least m m0 hm
      exact ⟨d, a, by omega, e, f⟩
    · refine ⟨M + 1, by omega, Nat.le_refl _, h, fun m m0 m1 => ?_⟩
      cases q : p m with
      | false => rfl
      | true => exact absurd ⟨m, m0, m1, q⟩ z
theorem Idl.rnd (h : Idl n c e M) (M0 : 0 < M) (hc : Chg n c) (he : Chg n e) : ∃ d, Rnd n c e d ∧ d ∣ M := by
  obtain ⟨d, d0, _, hd, least⟩ := exists_least (p := fun m => dbl n c e (m : Int)) M M0 (h.dblM hc he)
  have r : Rnd n c e d := ⟨d0, hd, least⟩
  exact ⟨d, r, Int.natCast_dvd_natCast.mp ((r.dvd hc he _).mp (h.dblM hc he))⟩
/-- the rests below d -/
def rsts (n : Nat) (c e : List Nat) (d : Nat) : List Nat := (List.range d).filter fun k => sui n c e (k : Int)
theorem sui0 (hc : Chg n c) (he : Chg n e) : sui n c e 0 = true := (sui_iff hc he).mpr (tri_pw hc he).s0
theorem sui1 (hc : Chg n c) (he : Chg n e) : sui n c e 1 = true := (sui_iff hc he).mpr (tri_pw hc he).s1
theorem dbl_one (hc : Chg n c) (he : Chg n e) : dbl n c e 1 = true ↔ comp c e = comp e c := by
  rw [dbl_iff hc he, (tri_pw hc he).com_d1]
  have l : ∀ {c : List Nat} (h : Chg n c), pwm h 1 = ⟨c, h⟩ := fun h => Subtype.ext (pw_one h)
  rw [l hc, l he]
  exact ⟨fun h => congrArg Subtype.val h, fun h => Subtype.ext h⟩
theorem Rnd.one (h : Rnd n c e d) (hc : Chg n c) (he : Chg n e) : d = 1 ↔ comp c e = comp e c := by
  rw [← dbl_one hc he, h.dvd hc he]
  constructor
  · rintro rfl
    exact Int.dvd_refl 1
  · intro z
    have := Int.le_of_dvd (by decide) z
    have := h.d0
    omega
theorem Rnd.two (h : Rnd n c e d) (hc : Chg n c) (he : Chg n e) : d ≠ 2 := by
  rintro rfl
  have := h.is
  unfold dbl at this
  rw [Bool.and_eq_true] at this
  have z := (dbl_iff hc he).mpr ((tri_pw hc he).two ((sui_iff hc he).mp this.1))
  have := h.least 1 (by decide) (by decide)
  rw [show ((1 : Nat) : Int) = 1 from rfl, z] at this
  cases this
/-- no two neighbours but 0 and 1 -/
theorem Rnd.nb (h : Rnd n c e d) {k : Nat} (hk : 1 < k) (kd : k < d) : ¬ (sui n c e (k : Int) = true ∧ sui n c e ((k - 1 : Nat) : Int) = true) := by
  rintro ⟨a, b⟩
  have := h.least (k - 1) (by omega) (by omega)
  unfold dbl at this
  rw [show ((k - 1 : Nat) : Int) + 1 = (k : Int) by omega, a, b] at this
  cases this
theorem Rnd.last (h : Rnd n c e d) (hc : Chg n c) (he : Chg n e) (d2 : 1 < d) : sui n c e ((d - 1 : Nat) : Int) = false := by
  cases q : sui n c e ((d - 1 : Nat) : Int) with
  | false => rfl
  | true =>
    have e1 : ((d - 1 : Nat) : Int) = -1 + (d : Int) := by omega
    have m := (tri_pw hc he).dbl.mp ((dbl_iff hc he).mp h.is) (-1)
    rw [e1] at q
    have z := (dbl_iff hc he).mpr ((tri_pw hc he).minus (m.mp ((sui_iff hc he).mp q)))
    have := h.least 1 (by decide) d2
    rw [show ((1 : Nat) : Int) = 1 from rfl, z] at this
    cases this
theorem sui_swap (hc : Chg n c) (he : Chg n e) (k : Int) : sui n e c (1 - k) = sui n c e k := by
  rw [Bool.eq_iff_iff, sui_iff he hc, sui_iff hc he]
  exact (tri_pw hc he).swap (tri_pw he hc) k
theorem Rnd.swap (h : Rnd n c e d) (hc : Chg n c) (he : Chg n e) : Rnd n e c d := by
  have key : ∀ k : Int, dbl n e c k = true ↔ (d : Int) ∣ k := fun k => by
    have e1 : dbl n e c k = dbl n c e (-k) := by
      unfold dbl
      rw [← sui_swap hc he (-k), ← sui_swap hc he (-k + 1), Bool.and_comm, show 1 - -k = k + 1 by omega, show 1 - (-k + 1) = k by omega]
    rw [e1, h.dvd hc he, Int.dvd_neg]
  refine ⟨h.d0, (key _).mpr (Int.dvd_refl _), fun m m0 md => ?_⟩
  cases q : dbl n e c (m : Int) with
  | false => rfl
  | true =>
    have := Int.le_of_dvd (by omega) ((key _).mp q)
    omega
theorem pw_und {c c' : List Nat} (hc : Chg n c) (uc : Und n c c') (k : Int) : pw n c' k = pw n c (-k) := by
  have a := (hom_pw (uc.chg hc)).same (B := fun k => pwm hc (-k)) ⟨by rw [Int.neg_zero]; exact (hom_pw hc).zero, fun i j => by show pwm hc (-(i + j)) = _; rw [Int.neg_add]; exact (hom_pw hc).add _ _⟩ (Subtype.ext (by show pw n c' 1 = pw n c (-1); rw [pw_one (uc.chg hc), und_pw hc uc])) k
  exact congrArg Subtype.val a
theorem und_comp {c' e' : List Nat} (hc : Chg n c) (he : Chg n e) (uc : Und n c c') (ue : Und n e e') : Und n (comp c e) (comp e' c') := by
  have hc' := uc.chg hc
  have he' := ue.chg he
  have a : comp (comp c e) (comp e' c') = tab n id := by
    have x1 : comp e e' = tab n id := by
      have := congrArg Subtype.val ((hom_pw he).inv 1)
      have z : comp (pw n e 1) (pw n e (-1)) = tab n id := this
      rw [pw_one he, und_pw he ue] at z
      exact z
    have x2 : comp c c' = tab n id := by
      have := congrArg Subtype.val ((hom_pw hc).inv 1)
      have z : comp (pw n c 1) (pw n c (-1)) = tab n id := this
      rw [pw_one hc, und_pw hc uc] at z
      exact z
    rw [comp_assoc hc he, ← comp_assoc he he', x1, id_comp hc', x2]
  have hcc := chg_comp hc he
  have hee := chg_comp he' hc'
  refine ⟨hee.len, fun i hi => ?_⟩
  have z : (comp (comp c e) (comp e' c')).getD i 0 = (tab n id).getD i 0 := by rw [a]
  rw [comp_getD hcc hi, tab_getD hi] at z
  have := at_getD (c := comp e' c') (i := (comp c e).getD i 0) (by rw [hee.len]; exact hcc.at_lt hi)
  rw [this, z]
  rfl
theorem Idl.swap (h : Idl n c e M) (hc : Chg n c) (he : Chg n e) : Idl n e c M := by
  obtain ⟨h1, h2, h3⟩ := h
  refine ⟨?_, h3, h2⟩
  have z := congrArg Subtype.val ((tri_pw hc he).conj (tri_pw he hc) (M : Int))
  have z : pw n (comp e c) (M : Int) = comp (pw n c (-1)) (comp (pw n (comp c e) (M : Int)) (pw n c 1)) := z
  rw [z, h1, id_comp (pw_chg hc _), pw_add hc, show (-1 : Int) + 1 = 0 from rfl, pw_zero hc]
theorem Idl.backs {c' e' : List Nat} (h : Idl n c e M) (hc : Chg n c) (he : Chg n e) (uc : Und n c c') (ue : Und n e e') : Idl n e' c' M := by
  obtain ⟨h1, h2, h3⟩ := h
  have go : ∀ {c : List Nat}, Chg n c → pw n c (M : Int) = tab n id → pw n c (-(M : Int)) = tab n id := fun {c} hc h => by
    have z := pw_add hc (M : Int) (-(M : Int))
    rw [h, id_comp (pw_chg hc _), Int.add_right_neg, pw_zero hc] at z
    exact z
  exact ⟨by rw [pw_und (chg_comp hc he) (und_comp hc he uc ue)]; exact go (chg_comp hc he) h1, by rw [pw_und he ue]; exact go he h3, by rw [pw_und hc uc]; exact go hc h2⟩
theorem sui_backs {c' e' : List Nat} (hc : Chg n c) (he : Chg n e) (uc : Und n c c') (ue : Und n e e') (k : Int) : sui n e' c' k = sui n c e k := by
  have hc' := uc.chg hc
  have he' := ue.chg he
  have pn : ∀ {c c' : List Nat} (hc : Chg n c) (uc : Und n c c') (k : Int), pw n c' k = pw n c (-k) := fun {c c'} hc uc k => by
    have a := (hom_pw (uc.chg hc)).same (B := fun k => pwm hc (-k)) ⟨by rw [Int.neg_zero]; exact (hom_pw hc).zero, fun i j => by show pwm hc (-(i + j)) = _; rw [Int.neg_add]; exact (hom_pw hc).add _ _⟩ (Subtype.ext (by show pw n c' 1 = pw n c (-1); rw [pw_one (uc.chg hc), und_pw hc uc])) k
    exact congrArg Subtype.val a
  have t := (tri_pw hc he)
  have u : Und n (comp c e) (comp e' c') := by
    have a : comp (comp c e) (comp e' c') = tab n id := by
      have x1 : comp e e' = tab n id := by
        have := congrArg Subtype.val ((hom_pw he).inv 1)
        have z : comp (pw n e 1) (pw n e (-1)) = tab n id := this
        rw [pw_one he, und_pw he ue] at z
        exact z
      have x2 : comp c c' = tab n id := by
        have := congrArg Subtype.val ((hom_pw hc).inv 1)
        have z : comp (pw n c 1) (pw n c (-1)) = tab n id := this
        rw [pw_one hc, und_pw hc uc] at z
        exact z
      rw [comp_assoc hc he, ← comp_assoc he he', x1, id_comp hc', x2]
    have hcc := chg_comp hc he
    have hee := chg_comp he' hc'
    refine ⟨hee.len, fun i hi => ?_⟩
    have z : (comp (comp c e) (comp e' c')).getD i 0 = (tab n id).getD i 0 := by rw [a]
    rw [comp_getD hcc hi, tab_getD hi] at z
    have := at_getD (c := comp e' c') (i := (comp c e).getD i 0) (by rw [hee.len]; exact hcc.at_lt hi)
    rw [this, z]
    rfl
  rw [Bool.eq_iff_iff, sui_iff hc he, ← t.backs_sui]
  unfold sui Sui
  rw [decide_eq_true_eq, pn hc uc, pn he ue, pn (chg_comp hc he) u]
  exact ⟨fun h => Subtype.ext h, fun h => congrArg Subtype.val h⟩
theorem Rnd.backs {c' e' : List Nat} (h : Rnd n c e d) (hc : Chg n c) (he : Chg n e) (uc : Und n c c') (ue : Und n e e') : Rnd n e' c' d := by
  have e1 : ∀ k, dbl n e' c' k = dbl n c e k := fun k => by
    unfold dbl
    rw [sui_backs hc he uc ue, sui_backs hc he uc ue]
  exact ⟨h.d0, by rw [e1]; exact h.is, fun m m0 md => by rw [e1]; exact h.least m m0 md⟩
theorem rsts_backs {c' e' : List Nat} (hc : Chg n c) (he : Chg n e) (uc : Und n c c') (ue : Und n e e') (d : Nat) : rsts n e' c' d = rsts n c e d := by
  unfold rsts
  exact List.filter_congr fun k _ => sui_backs hc he uc ue k
theorem mem_rsts {d k : Nat} : k ∈ rsts n c e d ↔ k < d ∧ sui n c e (k : Int) = true := by
  unfold rsts
  rw [List.mem_filter, List.mem_range]
theorem rsts_lt (d : Nat) : (rsts n c e d).Pairwise (· < ·) := List.pairwise_lt_range.sublist List.filter_sublist
theorem mem_swap (h : Rnd n c e d) (hc : Chg n c) (he : Chg n e) (k : Nat) : k ∈ rsts n e c d ↔ ∃ m ∈ rsts n c e d, (k : Int) = (1 - (m : Int)) % (d : Int) := by
  have d0 := h.d0
  have flip : ∀ {c e : List Nat} {k : Nat}, Chg n c → Chg n e → Rnd n c e d → k < d → sui n e c (k : Int) = true → sui n c e ((1 - (k : Int)) % (d : Int)) = true := fun {c e k} hc he h _ z => by
    rw [h.mod hc he, ← sui_swap hc he, show 1 - (1 - (k : Int)) = (k : Int) by omega]
    exact z
  have inv : ∀ k : Nat, k < d → (1 - (1 - (k : Int)) % (d : Int)) % (d : Int) = (k : Int) := fun k hk => by
    have a : (1 - (1 - (k : Int)) % (d : Int)) % (d : Int) = (1 - (1 - (k : Int))) % (d : Int) := by
      rw [Int.sub_emod, Int.emod_emod_of_dvd _ (Int.dvd_refl _), ← Int.sub_emod]
    rw [a, show 1 - (1 - (k : Int)) = (k : Int) by omega, Int.emod_eq_of_lt (by omega) (by omega)]
  have rg : ∀ x : Int, ∃ m : Nat, (m : Int) = x % (d : Int) ∧ m < d := fun x => by
    have a := Int.emod_nonneg x (show (d : Int) ≠ 0 by omega)
    have b := Int.emod_lt_of_pos x (show (0 : Int) < (d : Int) by omega)
    exact ⟨(x % (d : Int)).toNat, by omega, by omega⟩
  rw [mem_rsts]
  constructor
  · rintro ⟨kd, z⟩
    obtain ⟨m, em, md⟩ := rg (1 - (k : Int))
    refine ⟨m, mem_rsts.mpr ⟨md, ?_⟩, ?_⟩
    · rw [em]
      exact flip hc he h kd z
    · rw [em, inv k kd]
  · rintro ⟨m, hm, e1⟩
    obtain ⟨md, z⟩ := mem_rsts.mp hm
    have kd : k < d := by
      have b := Int.emod_lt_of_pos (1 - (m : Int)) (show (0 : Int) < (d : Int) by omega)
      omega
    refine ⟨kd, ?_⟩
    rw [e1]
    exact flip he hc (h.swap hc he) md z
end
end KC

/-! the program: idle changes, common orders, least divisors, what suits two changes -/
namespace KV
open PySem PySem.Spec PyProof.Rows L2 KC KP LamX LamY
/-- changes, as tuples side by side -/
inductive TN (H : Hp) : List Addr → List (List Nat) → Prop
  | nil : TN H [] []
  | cons {t : Addr} {c : List Nat} {ts : List Addr} {cs : List (List Nat)} (h : H t = some (.tup (vi c))) (r : TN H ts cs) : TN H (t :: ts) (c :: cs)
theorem TN.at {H : Hp} {ts : List Addr} {cs : List (List Nat)} (h : TN H ts cs) : ∀ {i : Nat} {t : Addr}, ts[i]? = some t → ∃ c, cs[i]? = some c ∧ H t = some (.tup (vi c)) := by
  induction h with
  | nil => exact fun e => by simp at e
  | cons h _ ih =>
    intro i t e
    cases i with
    | zero =>
      cases e
      exact ⟨_, rfl, h⟩
    | succ i => exact ih e
theorem TN.len {H : Hp} {ts : List Addr} {cs : List (List Nat)} (h : TN H ts cs) : ts.length = cs.length := by
  induction h with
  | nil => rfl
  | cons _ _ ih => rw [List.length_cons, List.length_cons, ih]
theorem TN.same {H H' : Hp} {ts : List Addr} {cs : List (List Nat)} (s : ∀ b xs, H b = some (.tup xs) → H' b = some (.tup xs)) (h : TN H ts cs) : TN H' ts cs := by
  induction h with
  | nil => exact .nil
  | cons h _ ih => exact .cons (s _ _ h) ih
theorem vi_rg (n : Nat) : rgV 0 (n : Int) = vi (tab n id) := by
  unfold rgV vi tab
  rw [List.map_map, show ((n : Int) - 0).toNat = n by omega]
  refine List.map_congr_left fun i _ => ?_
  show V.int (0 + (i : Int)) = V.int (i : Int)
  rw [Int.zero_add]
theorem rv_at {ts : List Addr} {i : Nat} {x : V} (h : (ts.map V.ref)[i]? = some x) : ∃ t, ts[i]? = some t ∧ x = .ref t := by
  rw [List.getElem?_map] at h
  cases e : ts[i]? with
  | none => rw [e] at h; cases h
  | some t => rw [e] at h; exact ⟨t, rfl, (Option.some.inj h).symm⟩
theorem tk_at {α : Type} {l : List α} {i : Nat} {x : α} (h : l[i]? = some x) : l.take (i + 1) = l.take i ++ [x] := by
  rw [List.take_add_one, h]
  rfl
/-- L tells which counts leave all of them as they were -/
def OrdAll (n : Nat) (cs : List (List Nat)) (L : Nat) : Prop := 0 < L ∧ ∀ m, (∀ c ∈ cs, ∀ x, x < n → it c m x = x) ↔ L ∣ m
theorem ord_fac {n : Nat} {c : List Nat} {L : Nat} (hc : Chg n c) (h : OrdOf n c L) : L ∣ fac n := (h.2 _).mp fun _ hx => it_fac hc hx
section
variable {P : Program} {w : World} {K : PySem.W.Frag} {mg : Str → Option Value} {base : Heap}
def spId : Sp := fun vs H Q _ => ∃ n : Nat, vs = [.int (n : Int)] ∧ n ≤ 1000 ∧ ∀ t H', Same H H' → H t = none → H' t = some (.tup (vi (tab n id))) → Q (.ref t) H'

theorem sj14 : FnScope ["states"] ["states"] (defScope (top 14)) := ⟨rfl, rfl, rfl, by decide +kernel, rfl, by decide +kernel, by decide +kernel⟩
theorem ok_id {f : Addr} {fd : FuncData} (B : Bl mg) (F : Fun K "idle_change" "idle_change" (top 14) f fd) : FnOk P w K mg base CX0 1 f fd ["states"] spId := by
  refine F.ok sj14 (fun vs H Q E h => ?_) (fun cdv A outer s H vs Q E hr h => ⟨_,
    (pss_one (ps_ret (pe_tupRg rfl (by rfl) B.tuple (prg_1 (by rfl) B.range (pv 0))))), ?_⟩)
  · obtain ⟨n, rfl, _⟩ := h
    rfl
  obtain ⟨n, rfl, hn, q⟩ := h
  exact ⟨_, rfl, _, rfl, RgOk.of_le (Int.le_refl 0) (by omega) (by decide) (by omega), fun t ht => q t _ (Same.new ht) ht (by rw [upd_same, vi_rg])⟩

def spCoO : Sp := fun vs H Q _ => ∃ (a : Addr) (n : Nat) (ts : List Addr) (cs : List (List Nat)), vs = [.ref a] ∧ H a = some (.lst (ts.map V.ref)) ∧ TN H ts cs ∧ (∀ c ∈ cs, Chg n c) ∧ n ≤ 16 ∧ ∀ H' L, Same H H' → OrdAll n cs L → L ∣ fac n → Q (.int (L : Nat)) H'

theorem sj20 : FnScope ["group", "least", "change"] ["group"] (defScope (top 20)) := ⟨rfl, rfl, rfl, by decide +kernel, rfl, by decide +kernel, by decide +kernel⟩
theorem ok_coO {f : Addr} {fd : FuncData} (B : Bl mg) (CO : Cal P w K mg base CX0 3 "order_of" ["change"] spOrd) (F : Fun K "common_order" "common_order" (top 20) f fd) : FnOk P w K mg base CX0 4 f fd ["group"] spCoO := by
  refine F.ok sj20 (fun vs H Q E h => ?_) (fun cdv A outer s H vs Q E hr h => ⟨_,
    (pss_cons (ps_set (i := 1) sj20.nd rfl (.inl rfl) pe_int)
    (pss_cons (ps_for PassesOwn.never rfl (pi_list (pv 0)) (pg_name (i := 2) sj20.nd rfl (.inl rfl)) (pss_one (ps_set (i := 1) sj20.nd rfl (.inl rfl) (pe_callBfun cr_lcm (by rfl) B.lcm (pa_cons (pv 1) (pa_cons (pe_cal (X := L2.Cx.nox _) CO hr (by decide) (pa_cons (pv 2) pa_nil)) pa_nil))))))
    (pss_one (ps_ret (pv 1))))), ?_⟩)
  · obtain ⟨a, n, ts, cs, rfl, _⟩ := h
    rfl
  obtain ⟨a, n, ts, cs, rfl, ha, hT, hc, hn, q⟩ := h
  have f60 := fac_small hn
  refine ⟨_, rfl, a, rfl, ⟨_, SqL.of ha⟩, for_list (K := K) (a := a) (xs := ts.map V.ref) (fun i σ H' => Same H H' ∧ ∃ (l : Nat) (u : Option V), σ = [some (.ref a), some (.int (l : Int)), u] ∧ l ∣ fac n ∧ OrdAll n (cs.take i) l) ⟨Same.refl H, 1, none, rfl, Nat.one_dvd _, by decide, fun m => ⟨fun _ => Nat.one_dvd _, fun _ c hc => by simp at hc⟩⟩ (fun i σ H' _ z => SqL.of (z.1 _ _ ha)) ?_ ?_⟩
  · rintro i x σ H2 hx ⟨s2, l, u, rfl, l1, l0, l2⟩
    obtain ⟨t, ht, rfl⟩ := rv_at hx
    obtain ⟨c, hci, hct⟩ := hT.at ht
    have hcc := hc c (List.mem_of_getElem? hci)
    refine ⟨_, rfl, _, rfl, t, n, c, rfl, s2 _ _ hct, hcc, hn, fun H3 L s3 hL => ?_⟩
    have Lf := ord_fac hcc hL
    have lf := Nat.le_of_dvd (fac_pos n) l1
    have Lf2 := Nat.le_of_dvd (fac_pos n) Lf
    refine ⟨_, _, rfl, ?_, ?_, s2.trans s3, Nat.lcm l L, some (.ref t), ?_, Nat.lcm_dvd l1 Lf, Nat.lcm_pos l0 hL.1, fun m => ?_⟩
    · show ((l : Nat) : Int).natAbs < 2 ^ 64
      rw [Int.natAbs_natCast]
      omega
    · show ((L : Nat) : Int).natAbs < 2 ^ 64
      rw [Int.natAbs_natCast]
      omega
    · rw [Int.natAbs_natCast, Int.natAbs_natCast]
      rfl
    · rw [Nat.lcm_dvd_iff, ← l2, ← hL.2, tk_at hci]
      constructor
      · exact fun z => ⟨fun d hd => z d (List.mem_append_left _ hd), z c (by simp)⟩
      · rintro ⟨z1, z2⟩ d hd
        rcases List.mem_append.mp hd with y | y
        · exact z1 d y
        · rw [List.mem_singleton.mp y]
          exact z2
  · rintro σ H2 ⟨s2, l, u, rfl, l1, l0⟩
    rw [List.length_map, hT.len, List.take_length] at l0
    exact ⟨_, rfl, q _ l s2 l0 l1⟩

/-- what least_divisor wants of the lambda that it gets, and what it tells -/
def TLd (tl : V → Hp → VK → Prop) (v0 : V) (H : Hp) (Q : VK) : Prop := ∃ N d : Nat, v0 = .int (N : Int) ∧ 0 < N ∧ N < 2 ^ 60 ∧ d ∣ N ∧ (∀ (m : Nat) (H1 : Hp) (Q1 : VK), 0 < m → m ∣ N → Same H H1 → (∀ H2, Same H1 H2 → Q1 (.bl (decide (d ∣ m))) H2) → tl (.int (m : Int)) H1 Q1) ∧ ∀ H', Same H H' → Q (.int (d : Int)) H'

theorem sj8 : FnScope ["number", "is_good", "least", "prime", "_"] ["number", "is_good"] (defScope (top 8)) := ⟨rfl, rfl, rfl, by decide +kernel, rfl, by decide +kernel, by decide +kernel⟩
theorem ld_gives {X : Cx} {g : Addr} {cdg : Value} {q : Str} {k : Nat} (B : Bl X.mg) (CPP : Cal X.prog X.w X.K X.mg X.base CX0 1 "prime_powers" ["number"] spPP) : GivesTo2 X ["number", "is_good", "least", "prime", "_"] "least_divisor" (defScope (top 8)) g cdg (defBody (top 8)) "is_good" q (k + 1) TLd := by
  intro f c' s H v0 Q tl act hr hc h
  refine ⟨_, (pss_cons (ps_set (i := 2) sj8.nd rfl (.inl rfl) (pv 0))
    (pss_cons (ps_for PassesOwn.never rfl (pi_list (by exact (pe_cal (X := L2.Cx.nox _) CPP hr (by omega) (pa_cons (pv 0) pa_nil)))) (pg_tup rfl (pgs_cons (pg_name (i := 3) sj8.nd rfl (.inl rfl)) (pgs_cons (pg_name (i := 4) sj8.nd rfl (.inl rfl)) pgs_nil))) (pss_one (ps_while PassesOwn.never (PW.pt (pw_and (pt_cmpR op_eq (pe_op op_mod (pv 2) (pv 3)) pe_int (nomark _)) (pw_and1 (pt_val (act _ _ _ _ (pa_cons (pe_op op_fdivW (pv 2) (pv 3)) pa_nil) rfl))))) (pss_one (ps_aug (i := 2) sj8.nd rfl (.inl rfl) (pv 3) iop_fdivW)))))
    (pss_one (ps_ret (pv 2))))), ?_⟩
  obtain ⟨N, d, rfl, N0, Nb, dN, good, qd⟩ := h
  refine ⟨_, rfl, ?_⟩
  refine ⟨_, rfl, N, rfl, N0, Nb, fun l ts qs H1 s1 hl0 hl pl pps ql => ⟨l, rfl, ⟨_, SqL.of hl⟩, for_list (xs := ts.map V.ref) (fun i σ H' => Same H1 H' ∧ ∃ (l' : Nat) (v3 v4 : Option V), σ = [some (.int (N : Int)), some (.ref f), some (.int (l' : Int)), v3, v4] ∧ LD N d l' ((qs.take i).map (·.1))) ⟨Same.refl H1, N, none, none, rfl, LD.start N0 dN⟩ (fun i σ H' _ z => SqL.of (z.1 _ _ hl)) ?_ ?_⟩⟩
  · rintro i x σ H2 hx ⟨s2, l', v3, v4, rfl, ld⟩
    obtain ⟨t, ht, rfl⟩ := rv_at hx
    obtain ⟨z, hz, hzt⟩ := pl.at ht
    have hz2 := s2 _ _ hzt
    refine ⟨t, _, rfl, SqT.of hz2, rfl, _, _, rfl, _, _, rfl, rfl, ?_⟩
    dsimp only [gName]
    rw [tk_at hz, List.map_append]
    have z2 : 2 ≤ z.1 := (pps.pr z (List.mem_of_getElem? hz)).1.1
    have zN : z.1 ≤ N := Nat.le_of_dvd N0 (pps.dvd z (List.mem_of_getElem? hz))
    refine ⟨fun μ σ H' => Same H1 H' ∧ ∃ l' : Nat, l' = μ ∧ σ = [some (.int (N : Int)), some (.ref f), some (.int (l' : Int)), some (.int (z.1 : Int)), some (.int (z.2 : Int))] ∧ LD N d l' ((qs.take i).map (·.1)), ⟨_, s2, l', rfl, rfl, ld⟩, ?_⟩
    clear ld s2 hz2 H2 l'
    rintro μ σ H2 ⟨s2, l', rfl, rfl, ld⟩
    have lN : l' ≤ N := Nat.le_of_dvd N0 ld.ln
    have l0 := ld.l0
    refine ⟨_, rfl, _, rfl, _, _, rfl, rfl, (by show (0 : Int) < (z.1 : Int); omega), rfl, _, rfl, ?_⟩
    have stop : ¬ (z.1 ∣ l' ∧ d ∣ l' / z.1) → ∃ (v3 v4 : Option V), ([some (V.int (N : Int)), some (V.ref f), some (V.int (l' : Int)), some (V.int (z.1 : Int)), some (V.int (z.2 : Int))] : L2.St) = [some (V.int (N : Int)), some (V.ref f), some (V.int (l' : Int)), v3, v4] ∧ LD N d l' ((qs.take i).map (·.1) ++ [z].map (·.1)) := fun no => ⟨_, _, rfl, ld.next no⟩
    by_cases y : z.1 ∣ l'
    · obtain ⟨m, em⟩ := y
      have m0 : ((l' : Nat) : Int) % (z.1 : Int) = 0 := Int.emod_eq_zero_of_dvd (Int.natCast_dvd_natCast.mpr ⟨m, em⟩)
      have ex : ((l' : Nat) : Int) / (z.1 : Int) = (m : Int) := by
        rw [← Int.natCast_ediv, em, Nat.mul_div_cancel_left m (by omega)]
      have mp : 0 < m := Nat.pos_of_ne_zero fun y => by rw [y, Nat.mul_zero] at em; omega
      have sp : sm 61 (z.1 : Int) := sm_nat (by omega)
      have ed : l' / z.1 = m := by rw [em, Nat.mul_div_cancel_left m (by omega)]
      refine iteP (decide_eq_true (congrArg V.int m0)) ⟨rfl, _, rfl, _, rfl, _, _, rfl, rfl, wide_div (by omega) sp (by decide) (by decide), _, rfl, (s1.trans s2) _ _ hc, ?_⟩
      show tl (.int ((l' : Int) / (z.1 : Int))) H2 _
      rw [ex]
      refine good m H2 _ mp (Nat.dvd_trans ⟨z.1, by rw [em, Nat.mul_comm]⟩ ld.ln) (s1.trans s2) fun H3 s3 => ⟨_, rfl, ?_⟩
      by_cases dm : d ∣ m
      · refine iteP (decide_eq_true dm) ⟨fun σ' H' => Same H1 H' ∧ σ' = [some (.int (N : Int)), some (.ref f), some (.int (m : Int)), some (.int (z.1 : Int)), some (.int (z.2 : Int))], fun σ' H' ⟨s4, e4⟩ => ⟨m, ?_, s4, m, rfl, e4, ?_⟩, _, rfl, _, rfl, _, _, rfl, rfl, wide_div (by omega) sp (by decide) (by decide), s2.trans s3, ?_⟩
        · have := Nat.mul_le_mul_right m z2
          omega
        · rw [← ed]
          exact ld.step ⟨m, em⟩ (by rw [ed]; exact dm)
        · show ([some (V.int (N : Int)), some (V.ref f), some (V.int ((l' : Int) / (z.1 : Int))), some (V.int (z.1 : Int)), some (V.int (z.2 : Int))] : L2.St) = _
          rw [ex]
      · exact iteN (by rw [decide_eq_true_eq]; exact dm) ⟨s2.trans s3, l', stop fun y => dm (by rw [← ed]; exact y.2)⟩
    · have m1 : ¬ ((l' : Nat) : Int) % (z.1 : Int) = 0 := fun e => y (Int.natCast_dvd_natCast.mp (Int.dvd_of_emod_eq_zero e))
      exact iteN (fun e => m1 (V.int.inj (of_decide_eq_true e))) ⟨s2, l', stop fun x => y x.1⟩
  · rintro σ H2 ⟨s2, l', v3, v4, rfl, ld⟩
    rw [List.length_map, pl.len, List.take_length] at ld
    refine ⟨_, rfl, ?_⟩
    rw [ld.done pps]
    exact qd _ (s1.trans s2)
/-- least_divisor, as it stands -/
def LdD (K : PySem.W.Frag) (mg : Str → Option Value) : Prop := ∃ (g : Addr) (fd : FuncData), Fun K "least_divisor" "least_divisor" (top 8) g fd ∧ mg "least_divisor" = some (.ref g)
theorem pe_ld {X : Cx} {Tt : List (Addr × Str)} {c P : Addr} {k : Nat} {pn : Str} {params : Arguments} {e body : Expr} {scope : Scope} {t0 t : TE} {p lpos pos : Pos} (B : Bl X.mg) (CPP : Cal X.prog X.w X.K X.mg X.base CX0 1 "prime_powers" ["number"] spPP) (R : LdD X.K X.mg)
    (TB : TabB X.base X.mg c P) (hcode : X.env.code = .ref c) (hmT : (P, X.env.qual ++ "<lambda>") ∈ Tt) (hu : ∀ p ∈ Tt, p.1 = P → p.2 = X.env.qual ++ "<lambda>") (hr : Room (k + 2) X.A) (L : LamS1 X.env.scope scope X.N pn) (hdef : defaultsOf params X.env = ([], []))
    (hbind : ∀ (q : Str) (cl : List (Str × Addr)) (pm cv ctv u : Value), bindArgs (PySem.W.kla_fn "<lambda>" q params body scope cl pm cv ctv) ⟨[u], []⟩ = pure [(pn, u)]) (he : PE X e t0)
    (hbody : ∀ (A : Around) (outer : List Env) (s : Shared) (H : Hp) (f c' : Addr), Room k (A.deeper (lamEnv X scope s.heap.objs.size f c')) → PE (lamCx1 X pn A outer s H C8.E0 scope f c') body t) (hg : Gl X "least_divisor" := by rfl)
    (hst : starEach [e, .Lambda params body scope lpos] X.env = (false, eval e X.env) :: starEach [.Lambda params body scope lpos] X.env := by rfl) :
    PE X (.Call (.Name "least_divisor" p) [e, .Lambda params body scope lpos] [] pos) (tLam2 Tt TLd t0 t) := by
  obtain ⟨g, fd, F, hm⟩ := R
  have hk := F.kp
  have hb : L2.Binds X.K fd ["number", "is_good"] [] := F.binds fun _ _ _ _ _ _ us hl => match us, hl with | [_, _], _ => rfl
  obtain ⟨oc, od, kV, doc, pm, an, cdv, ct, osl, rfl, lk, hcd⟩ := F.ex
  exact pe_lamcall2 (x := "least_divisor") (a0 := "number") (a := "is_good") (Ng := ["number", "is_good", "least", "prime", "_"]) he hg hm hk lk hcd hb sj8 rfl (.inl rfl) (ld_gives B CPP) TB hcode hmT hu hr L hdef hbind hbody hst
end
end KV

/-! the program: what suits two changes, their round, their rests -/
namespace KV
open PySem PySem.Spec PyProof.Rows L2 KC KP LamX LamY
theorem Dl.ext {H H' : Hp} {d c : Addr} (h : Dl H d c) (s : ExtN H H') : Dl H' d c := by
  obtain ⟨n, cs, b, h1, h2, r⟩ := h
  exact ⟨n, cs, b, s _ _ h1 (fun _ z => by cases z), s _ _ h2 (fun _ z => by cases z), r⟩
theorem Good.ext {n : Nat} {H H' : Hp} {v : V} {c : List Nat} (s : ExtN H H') (g : Good n H v c) : Good n H' v c := let ⟨a, e, h, r⟩ := g; ⟨a, e, s _ _ h (fun _ z => by cases z), r⟩
theorem Tabs.but {T : List (Addr × Str)} {G G' : Hp} {l : Addr} {xs : List V} (hT : Tabs T G) (hl : G l = some (.lst xs)) (k : ∀ b o, b ≠ l → G b = some o → G' b = some o) : Tabs T G' := fun p hp => by
  obtain ⟨ps, h1, h2, h3⟩ := hT p hp
  refine ⟨ps, k _ _ (fun z => by rw [z, hl] at h1; cases h1) h1, h2, fun pos cv hc => ?_⟩
  obtain ⟨c, e1, e2⟩ := h3 pos cv hc
  refine ⟨c, e1, k _ _ (fun z => ?_) e2⟩
  rw [z, hl] at e2
  unfold CodeO at e2
  cases e2
theorem idl_of {n L : Nat} {c e : List Nat} (hc : Chg n c) (he : Chg n e) (h : OrdAll n [comp c e, c, e] L) : Idl n c e L := by
  have z := (h.2 L).mpr (Nat.dvd_refl L)
  have go : ∀ {c : List Nat}, Chg n c → (∀ x, x < n → it c L x = x) → pw n c (L : Int) = tab n id := fun hc z => by
    rw [pw_nat hc]
    exact tab_congr fun i hi => z i hi
  exact ⟨go (chg_comp hc he) (z _ (by simp)), go hc (z _ (by simp)), go he (z _ (by simp))⟩
theorem pw_next {n : Nat} {c : List Nat} (hc : Chg n c) (i : Nat) : comp (pw n c (i : Int)) c = pw n c ((i + 1 : Nat) : Int) := by
  have z := pw_add hc (i : Int) 1
  rw [pw_one hc] at z
  exact z
section
variable {P : Program} {w : World} {K : PySem.W.Frag} {mg : Str → Option Value} {base : Heap} {C : Addr}
def spSuit (K : PySem.W.Frag) (C : Addr) : Sp := fun vs H Q E => (∃ (v u : V) (n : Nat) (c e : List Nat) (k : Int), vs = [v, u, .int k] ∧ Good n H v c ∧ Good n H u e ∧ ∀ H', Same H H' → Q (.bl (sui n c e k)) H') ∨
  ∃ (v u : V) (ms us : Option (List V)) (k : Int), vs = [v, u, .int k] ∧ ValT K H v ms ∧ ValT K H u us ∧ Ref2 ms us ∧ Bad C H E

theorem sj27 : FnScope ["one", "other", "count"] ["one", "other", "count"] (defScope (top 31)) := ⟨rfl, rfl, rfl, by decide +kernel, rfl, by decide +kernel, by decide +kernel⟩
theorem ok_suit {f : Addr} {fd : FuncData} (CLp : Cal P w K mg base (L2.CX P w) 7 "loop" ["one", "other", "count"] (spLp K C)) (CSp : Cal P w K mg base (L2.CX P w) 7 "split_loop" ["one", "other", "count"] (spSp K C)) (F : Fun K "suits" "suits" (top 31) f fd) : FnOk P w K mg base (L2.CX P w) 8 f fd ["one", "other", "count"] (spSuit K C) := by
  refine F.okX sj27 (fun vs H Q E h => ?_) (fun cdv A outer s H vs Q E hr h => ⟨_,
    (pss_one (ps_ret (pe_cmpR (op_eqD hr.units) (by exact (pe_calX CLp hr (by decide) (takes_of rfl rfl rfl rfl) (fun _ _ _ _ z => z) (pa_cons (pv 0) (pa_cons (pv 1) (pa_cons (pv 2) pa_nil))))) (by exact (pe_calX CSp hr (by decide) (takes_of rfl rfl rfl rfl) (fun _ _ _ _ z => z) (pa_cons (pv 0) (pa_cons (pv 1) (pa_cons (pv 2) pa_nil))))) (nomark _)))), ?_⟩)
  · rcases h with ⟨v, u, n, c, e, k, rfl, _⟩ | ⟨v, u, ms, us, k, rfl, _⟩ <;> rfl
  rcases h with ⟨v, u, n, c, e, k, rfl, g1, g2, q⟩ | ⟨v, u, ms, us, k, rfl, h1, h2, bad, b⟩
  · exact ⟨_, rfl, _, rfl, _, rfl, .inl ⟨v, u, n, c, e, k, rfl, g1, g2, fun t H1 s1 tn ht => ⟨_, rfl, _, rfl, _, rfl, .inl ⟨v, u, n, c, e, k, rfl, g1.same s1, g2.same s1, fun t2 H2 s2 t2n ht2 => eqT (s2 _ _ ht) ht2 (q _ (s1.trans s2))⟩⟩⟩⟩
  · exact ⟨_, rfl, _, rfl, _, rfl, .inr ⟨v, u, ms, us, k, rfl, h1, h2, bad, b⟩⟩

/-- the lambda's name -/
def qR : Str := (envOfC "couple_round" (defScope (top 32)) 0 0 .none).qual ++ "<lambda>"
def spCRd (K : PySem.W.Frag) (C Pt : Addr) : Sp := fun vs H Q E => (∃ (v u : V) (n : Nat) (c e : List Nat), vs = [v, u] ∧ Good n H v c ∧ Good n H u e ∧ Tabs [(Pt, qR)] H ∧ ∀ H' d, ExtN H H' → Tabs [(Pt, qR)] H' → Rnd n c e d → Q (.int (d : Nat)) H') ∨
  ∃ (v u : V) (ms us : Option (List V)), vs = [v, u] ∧ ValT K H v ms ∧ ValT K H u us ∧ Ref2 ms us ∧ Bad C H E
theorem sj28 : FnScope ["one", "other", "most"] ["one", "other"] (defScope (top 32)) := ⟨rfl, rfl, rfl, by decide +kernel, rfl, by decide +kernel, by decide +kernel⟩
theorem ok_cr {f : Addr} {fd : FuncData} {cc Pt : Addr} (B : Bl mg) (CFo : Cal P w K mg base (L2.CX P w) 7 "followed" ["one", "other"] (spFol K C)) (CCo : Cal P w K mg base CX0 4 "common_order" ["group"] spCoO) (CPP : Cal P w K mg base CX0 1 "prime_powers" ["number"] spPP)
    (CSu : Cal P w K mg base (L2.CX P w) 8 "suits" ["one", "other", "count"] (spSuit K C)) (R : LdD K mg) (F : Fun K "couple_round" "couple_round" (top 32) f fd) (hco : fd.code = .ref cc) (TB : TabB base mg cc Pt) : FnOk P w K mg base (L2.CX P w) 11 f fd ["one", "other"] (spCRd K C Pt) := by
  obtain ⟨oc, od, kV, doc, pm, an, cdv, ct, osl, rfl, lk, hcd⟩ := F.ex
  have ecd : cdv = .ref cc := hco
  subst ecd
  refine fn_of (k := 10) lk hcd sj28 (fun vs H Q E h => ?_) fun A outer s H vs Q E hr h => ⟨_,
    (pss_cons (ps_set (i := 2) sj28.nd rfl (.inl rfl) (by exact (pe_cal CCo hr (by decide) (pa_cons (pe_lst (pa_cons (by exact (pe_calX CFo hr (by decide) (takes_of rfl rfl rfl rfl) (fun _ _ _ _ z => z) (pa_cons (pv 0) (pa_cons (pv 1) pa_nil)))) (pa_cons (pv 0) (pa_cons (pv 1) pa_nil)))) pa_nil))))
    (pss_one (ps_ret (pe_ld (pn := "count") (Tt := [(Pt, qR)]) (k := 8) B CPP R TB rfl (List.mem_singleton.mpr rfl) (fun p hp _ => congrArg Prod.snd (List.mem_singleton.mp hp)) hr (lamS1_by (sc := defScope (top 32)) (N := ["one", "other", "most"]) (by decide +kernel)) rfl (fun _ _ _ _ _ _ => rfl) (pv 2) (fun A outer s H f c' hr => (by exact (pe_and (pe_calX (E := C8.E0) CSu hr (by decide) L2.takes0 (fun _ _ _ _ z => z) (pa_cons (pv 0) (pa_cons (pv 1) (pa_cons (pv 3) pa_nil)))) (pe_one (pe_calX (E := C8.E0) CSu hr (by decide) L2.takes0 (fun _ _ _ _ z => z) (pa_cons (pv 0) (pa_cons (pv 1) (pa_cons (pe_op op_add (pv 3) pe_int) pa_nil)))))))))))), ?_⟩
  · rcases h with ⟨v, u, n, c, e, rfl, _⟩ | ⟨v, u, ms, us, rfl, _⟩ <;> rfl
  rcases h with ⟨v, u, n, c, e, rfl, g1, g2, hT, q⟩ | ⟨v, u, ms, us, rfl, h1, h2, bad, b⟩
  · refine ⟨_, rfl, _, rfl, .inl ⟨v, u, n, c, e, rfl, g1, g2, fun t H1 s1 tn ht => ⟨_, rfl, _, rfl, (by show 3 ≤ sizeLine; decide), fun l hl => ?_⟩⟩⟩
    obtain ⟨a, rfl, ha, hc, n1, n16⟩ := g1
    obtain ⟨b, rfl, hb, he, _, _⟩ := g2
    have s2 : Same H1 (upd H1 l (.lst [.ref t, .ref a, .ref b])) := Same.new hl
    have hl2 : upd H1 l (.lst [.ref t, .ref a, .ref b]) l = some (.lst ([t, a, b].map V.ref)) := upd_same
    generalize upd H1 l (.lst [.ref t, .ref a, .ref b]) = H2 at s2 hl2
    have ha2 := s2 _ _ (s1 _ _ ha)
    have hb2 := s2 _ _ (s1 _ _ hb)
    refine ⟨l, n, [t, a, b], [comp c e, c, e], rfl, hl2, .cons (s2 _ _ ht) (.cons ha2 (.cons hb2 .nil)), fun x hx => ?_, n16, fun H3 L s3 hL Lf => ?_⟩
    · simp only [List.mem_cons, List.not_mem_nil, or_false] at hx
      rcases hx with rfl | rfl | rfl
      · exact chg_comp hc he
      · exact hc
      · exact he
    obtain ⟨d, rd, dL⟩ := (idl_of hc he hL).rnd hL.1 hc he
    have Lb := Nat.le_of_dvd (fac_pos n) Lf
    have f60 := fac_small n16
    have s13 : Same H H3 := (s1.trans s2).trans s3
    refine ⟨_, rfl, hT.ext s13, fun H4 e4 T4 => ⟨L, d, rfl, hL.1, by omega, dL, fun m H5 Q1 m0 mL s5 q1 => ?_, fun H5 s5 => q _ d (((ExtN.of s13).trans e4).trans (ExtN.of s5)) (T4.ext s5) rd⟩⟩
    have E5 : ExtN H H5 := ((ExtN.of s13).trans e4).trans (ExtN.of s5)
    have ga : Good n H5 (.ref a) c := ⟨a, rfl, E5 _ _ ha (fun _ z => by cases z), hc, n1, n16⟩
    have gb : Good n H5 (.ref b) e := ⟨b, rfl, E5 _ _ hb (fun _ z => by cases z), he, n1, n16⟩
    have eq : dbl n c e (m : Int) = decide (d ∣ m) := by
      rw [Bool.eq_iff_iff, decide_eq_true_eq, rd.dvd hc he]
      exact Int.natCast_dvd_natCast
    refine ⟨_, rfl, _, rfl, _, rfl, .inl ⟨.ref a, .ref b, n, c, e, (m : Int), rfl, ga, gb, fun H6 s6 => ⟨_, rfl, ?_⟩⟩⟩
    unfold dbl at eq
    cases z : sui n c e (m : Int) with
    | false =>
      rw [z, Bool.false_and] at eq
      have := q1 H6 s6
      rw [← eq] at this
      exact iteF this
    | true =>
      rw [z, Bool.true_and] at eq
      refine iteT ⟨_, rfl, _, rfl, _, rfl, _, _, rfl, rfl, .inl ⟨.ref a, .ref b, n, c, e, (m : Int) + 1, rfl, ga.same s6, gb.same s6, fun H7 s7 => ?_⟩⟩
      have := q1 H7 (s6.trans s7)
      rw [← eq] at this
      exact this
  · exact ⟨_, rfl, _, rfl, .inr ⟨v, u, ms, us, rfl, h1, h2, bad, b⟩⟩
def spCRs (K : PySem.W.Frag) (C Pt : Addr) : Sp := fun vs H Q E => (∃ (v u : V) (n : Nat) (c e : List Nat) (M : Nat), vs = [v, u] ∧ Good n H v c ∧ Good n H u e ∧ Idl n c e M ∧ 0 < M ∧ M ≤ 1000 ∧ Tabs [(Pt, qR)] H ∧ ∀ H' d t, ExtN H H' → Tabs [(Pt, qR)] H' → Rnd n c e d → H' t = some (.tup (vi (rsts n c e d))) → Q (.ref t) H') ∨
  ∃ (v u : V) (ms us : Option (List V)), vs = [v, u] ∧ ValT K H v ms ∧ ValT K H u us ∧ Ref2 ms us ∧ Bad C H E
theorem rsts_next (n : Nat) (c e : List Nat) (i : Nat) : rsts n c e (i + 1) = rsts n c e i ++ (if sui n c e (i : Int) = true then [i] else []) := by
  unfold rsts
  rw [List.range_succ, List.filter_append]
  by_cases z : sui n c e (i : Int) = true
  · simp [z]
  · simp [z]
theorem sj29 : FnScope ["one", "other", "both", "rests", "together", "first", "second", "count"] ["one", "other"] (defScope (top 33)) := ⟨rfl, rfl, rfl, by decide +kernel, rfl, by decide +kernel, by decide +kernel⟩
theorem ok_crs {f : Addr} {fd : FuncData} {Pt : Addr} (B : Bl mg) (CFo : Cal P w K mg base (L2.CX P w) 7 "followed" ["one", "other"] (spFol K C)) (CId : Cal P w K mg base CX0 1 "idle_change" ["states"] spId) (CCR : Cal P w K mg base (L2.CX P w) 11 "couple_round" ["one", "other"] (spCRd K C Pt)) (CC : Cal P w K mg base CX0 1 "composed" ["one", "other"] spComp) (F : Fun K "couple_rests" "couple_rests" (top 33) f fd) : FnOk P w K mg base (L2.CX P w) 12 f fd ["one", "other"] (spCRs K C Pt) := by
  refine F.okX sj29 (fun vs H Q E h => ?_) (fun cdv A outer s H vs Q E hr h => ⟨_,
    (pss_cons (ps_set (i := 2) sj29.nd rfl (.inl rfl) (by exact (pe_calX CFo hr (by decide) (takes_of rfl rfl rfl rfl) (fun _ _ _ _ z => z) (pa_cons (pv 0) (pa_cons (pv 1) pa_nil)))))
    (pss_cons (ps_set (i := 3) sj29.nd rfl (.inl rfl) (pe_lst pa_nil))
    (pss_cons (ps_asg3 (by exact (pe_cal CId hr (by decide) (pa_cons (pe_callB call_len_seq (by rfl) B.len PySem.boot_len (pa_cons (pv 2) pa_nil)) pa_nil))) (pg_name (i := 4) sj29.nd rfl (.inl rfl)) (pg_name (i := 5) sj29.nd rfl (.inl rfl)) (pg_name (i := 6) sj29.nd rfl (.inl rfl)))
    (pss_cons (ps_for (passes_of rfl) rfl (pi_range1 (by rfl) B.range (pa_cons (by exact (pe_calX CCR hr (by decide) (takes_of rfl rfl rfl rfl) (fun _ _ _ _ z => z) (pa_cons (pv 0) (pa_cons (pv 1) pa_nil)))) pa_nil)) (pg_name (i := 7) sj29.nd rfl (.inl rfl)) (pss_cons (ps_if (pt_cmpR (op_eqD hr.units) (pv 4) (by exact (pe_cal CC hr (by decide) (pa_cons (pv 5) (pa_cons (pv 6) pa_nil)))) (nomark _)) (pss_one (ps_expr (pe_bm PySem.F.plainAttrs_list PySem.F.slot_list_append PySem.F.type_list_append mt_append (pv 3) (pa_cons (pv 7) pa_nil)))) pss_nil)
    (pss_one (ps_par3 (i := 4) (j := 5) (l := 6) rfl sj29.nd rfl rfl rfl (by decide) (by decide) (by decide) rfl rfl rfl (pa_cons (by exact (pe_cal CC hr (by decide) (pa_cons (pv 4) (pa_cons (pv 2) pa_nil)))) (pa_cons (by exact (pe_cal CC hr (by decide) (pa_cons (pv 5) (pa_cons (pv 0) pa_nil)))) (pa_cons (by exact (pe_cal CC hr (by decide) (pa_cons (pv 6) (pa_cons (pv 1) pa_nil)))) pa_nil))) (by rfl)))))
    (pss_one (ps_ret (pe_callTy call_tuple_of (by rfl) B.tuple (by decide +kernel) (pa_cons (pv 3) pa_nil)))))))), ?_⟩)
  · rcases h with ⟨v, u, n, c, e, M, rfl, _⟩ | ⟨v, u, ms, us, rfl, _⟩ <;> rfl
  rcases h with ⟨v, u, n, c, e, M, rfl, g1, g2, hI, M0, Mb, hT, q⟩ | ⟨v, u, ms, us, rfl, h1, h2, bad, b⟩
  · refine ⟨_, rfl, _, rfl, .inl ⟨v, u, n, c, e, rfl, g1, g2, fun t H1 s1 tn ht => ?_⟩⟩
    obtain ⟨a, rfl, ha, hc, n1, n16⟩ := g1
    obtain ⟨b, rfl, hb, he, _, _⟩ := g2
    have hce := chg_comp hc he
    refine ⟨(by show 0 ≤ sizeLine; decide), fun r hr0 => ?_⟩
    have s2 : Same H1 (upd H1 r (.lst [])) := Same.new hr0
    have r2 : upd H1 r (.lst []) r = some (.lst (vi [])) := upd_same
    have rH : H r = none := s1.free hr0
    generalize upd H1 r (.lst []) = H2 at s2 r2
    have lt : (vi (comp c e)).length = n := by rw [List.length_map, hce.len]
    refine ⟨_, rfl, t, vi (comp c e), rfl, .inr (SqT.of (s2 _ _ ht)), n, by rw [lt]; rfl, by omega, fun i0 H3 s3 i0n hi0 => ?_⟩
    dsimp only [gName]
    have s13 : Same H H3 := (s1.trans s2).trans s3
    refine ⟨_, rfl, _, rfl, .inl ⟨.ref a, .ref b, n, c, e, rfl, ⟨a, rfl, s13 _ _ ha, hc, n1, n16⟩, ⟨b, rfl, s13 _ _ hb, he, n1, n16⟩, hT.ext s13, fun H4 d e4 T4 rd => ⟨(d : Int), rfl, by omega, ?_, ?_⟩⟩⟩
    · have dM := Nat.le_of_dvd M0 (Int.natCast_dvd_natCast.mp ((rd.dvd hc he _).mp (hI.dblM hc he)))
      exact Int.lt_of_le_of_lt (show (d : Int) ≤ 1000 by omega) (by decide)
    have dM := Nat.le_of_dvd M0 (Int.natCast_dvd_natCast.mp ((rd.dvd hc he _).mp (hI.dblM hc he)))
    have X4 : ∀ {x : Addr} {xs : List V}, H3 x = some (.tup xs) → H4 x = some (.tup xs) := fun h => e4 _ _ h (fun _ z => by cases z)
    have a4 := X4 (s13 _ _ ha)
    have b4 := X4 (s13 _ _ hb)
    have t4 := X4 (s3 _ _ (s2 _ _ ht))
    have i4 := X4 hi0
    have r4 : H4 r = some (.lst (vi [])) := e4 _ _ (s3 _ _ r2) (fun _ z => by cases z)
    have E4 : ExtN H H4 := (ExtN.of s13).trans e4
    refine for_range (n := d) (fun i σ H' => ∃ (x y z : Addr) (v7 : Option V), σ = [some (.ref a), some (.ref b), some (.ref t), some (.ref r), some (.ref x), some (.ref y), some (.ref z), v7] ∧ H' x = some (.tup (vi (pw n (comp c e) (i : Int)))) ∧ H' y = some (.tup (vi (pw n c (i : Int)))) ∧ H' z = some (.tup (vi (pw n e (i : Int)))) ∧ H' r = some (.lst (vi (rsts n c e i))) ∧ ∀ b o, b ≠ r → H4 b = some o → H' b = some o) ⟨i0, i0, i0, none, rfl, ?_, ?_, ?_, r4, fun _ _ _ h => h⟩ ?_ ?_
    · rw [show ((0 : Nat) : Int) = 0 from rfl, pw_zero hce]; exact i4
    · rw [show ((0 : Nat) : Int) = 0 from rfl, pw_zero hc]; exact i4
    · rw [show ((0 : Nat) : Int) = 0 from rfl, pw_zero he]; exact i4
    · rintro i σ H5 hi ⟨x, y, z, v7, rfl, hx, hy, hz, hr5, k5⟩
      have ne : ∀ {p : Addr} {xs : List V}, H4 p = some (.tup xs) → p ≠ r := fun h z => by rw [z, r4] at h; cases h
      have pl : ∀ {c : List Nat} (h : Chg n c) (k : Int), (pw n c k).length ≤ 16 := fun h k => by rw [(pw_chg h k).len]; exact n16
      have lr : (rsts n c e i).length ≤ 1000 := by
        have := List.length_filter_le (fun k : Nat => sui n c e (k : Int)) (List.range i)
        rw [List.length_range] at this
        have : (rsts n c e i).length ≤ i := this
        omega
      dsimp only [gName]
      refine sq_cut (fun σ H' => σ = [some (.ref a), some (.ref b), some (.ref t), some (.ref r), some (.ref x), some (.ref y), some (.ref z), some (.int (0 + (i : Int)))] ∧ H' x = some (.tup (vi (pw n (comp c e) (i : Int)))) ∧ H' y = some (.tup (vi (pw n c (i : Int)))) ∧ H' z = some (.tup (vi (pw n e (i : Int)))) ∧ H' r = some (.lst (vi (rsts n c e (i + 1)))) ∧ ∀ b o, b ≠ r → H4 b = some o → H' b = some o) (fun Z hZ => ?_) ?_
      · refine ⟨_, rfl, _, rfl, _, rfl, y, z, _, _, rfl, hy, hz, fun w hw => by rw [(pw_chg he _).len]; exact (pw_chg hc _).lt w hw, pl hc _, fun p H6 s6 pn hp => eqT (s6 _ _ hx) hp ⟨_, rfl, ?_⟩⟩
        have hr6 := s6 _ _ hr5
        rw [rsts_next] at hZ
        cases w : sui n c e (i : Int) with
        | true =>
          rw [if_pos w] at hZ
          refine iteP (by unfold sui at w; exact w) ⟨_, rfl, .inl ⟨rfl, _, SqL.of hr6⟩, _, rfl, r, _, _, rfl, rfl, hr6, len_lt (by rw [List.length_map]; exact lr), hZ _ _ ⟨rfl, ?_, ?_, ?_, ?_, fun b o h1 h2 => ?_⟩⟩
          · rw [upd_ne (fun e => by rw [e, hr5] at hx; cases hx)]; exact s6 _ _ hx
          · rw [upd_ne (fun e => by rw [e, hr5] at hy; cases hy)]; exact s6 _ _ hy
          · rw [upd_ne (fun e => by rw [e, hr5] at hz; cases hz)]; exact s6 _ _ hz
          · rw [upd_same]
            show some (HO.lst (vi (rsts n c e i) ++ [V.int (0 + (i : Int))])) = some (HO.lst (vi (rsts n c e i ++ [i])))
            rw [Int.zero_add]
            unfold vi
            rw [List.map_append]
            rfl
          · rw [upd_ne h1]
            exact s6 _ _ (k5 b o h1 h2)
        | false =>
          rw [if_neg (by rw [w]; decide), List.append_nil] at hZ
          exact iteN (by unfold sui at w; rw [w]; decide) (hZ _ _ ⟨rfl, s6 _ _ hx, s6 _ _ hy, s6 _ _ hz, hr6, fun b o h1 h2 => s6 _ _ (k5 b o h1 h2)⟩)
      clear hx hy hz hr5 k5 H5
      rintro σ H5 ⟨rfl, hx, hy, hz, hr5, k5⟩
      have cl : ∀ {c e : List Nat} (h : Chg n c) (g : Chg n e) (k : Int), ∀ w ∈ pw n c k, w < e.length := fun h g k w hw => by rw [g.len]; exact (pw_chg h k).lt w hw
      refine ⟨_, rfl, _, rfl, x, t, _, _, rfl, hx, k5 _ _ (ne t4) t4, cl hce hce _, pl hce _, fun x' H6 s6 xn hx' => ⟨_, rfl, _, rfl, y, a, _, _, rfl, s6 _ _ hy, s6 _ _ (k5 _ _ (ne a4) a4), cl hc hc _, pl hc _, fun y' H7 s7 yn hy' => ⟨_, rfl, _, rfl, z, b, _, _, rfl, s7 _ _ (s6 _ _ hz), s7 _ _ (s6 _ _ (k5 _ _ (ne b4) b4)), cl he he _, pl he _, fun z' H8 s8 zn hz' => ⟨_, _, _, rfl, x', y', z', _, rfl, ?_, ?_, ?_, s8 _ _ (s7 _ _ (s6 _ _ hr5)), fun b o h1 h2 => s8 _ _ (s7 _ _ (s6 _ _ (k5 b o h1 h2)))⟩⟩⟩⟩
      · rw [← pw_next hce]; exact s8 _ _ (s7 _ _ hx')
      · rw [← pw_next hc]; exact s8 _ _ hy'
      · rw [← pw_next he]; exact hz'
    · rintro σ H5 ⟨x, y, z, v7, rfl, hx, hy, hz, hr5, k5⟩
      refine ⟨_, rfl, r, _, rfl, .inl ⟨SqL.of hr5, fun p hp => q _ d p (fun b o h n => Same.new hp _ _ (k5 b o (fun z => by rw [z, rH] at h; cases h) (E4 b o h n))) ((Tabs.but T4 r4 k5).ext (Same.new hp)) rd upd_same⟩⟩
  · exact ⟨_, rfl, _, rfl, .inr ⟨v, u, ms, us, rfl, h1, h2, bad, b⟩⟩

end
end KV

/-! the law: marks -/
namespace KV
open PySem PySem.Spec PyProof.Rows L2 KC KP
/-- pairs of what comes of the loop and of the split loops, for the counts from 0 on -/
def MkL (H : Hp) (n : Nat) (c e : List Nat) (ps : List Addr) : Prop := ∀ (i : Nat) (p : Addr), ps[i]? = some p → ∃ x y : Addr, H p = some (.tup [.ref x, .ref y]) ∧ H x = some (.tup (vi (pw n (comp c e) (i : Int)))) ∧ H y = some (.tup (vi (comp (pw n c (i : Int)) (pw n e (i : Int)))))
theorem MkL.same {H H' : Hp} {n : Nat} {c e : List Nat} {ps : List Addr} (s : ∀ b xs, H b = some (.tup xs) → H' b = some (.tup xs)) (h : MkL H n c e ps) : MkL H' n c e ps := fun i p hp => by
  obtain ⟨x, y, a, b, d⟩ := h i p hp
  exact ⟨x, y, s _ _ a, s _ _ b, s _ _ d⟩
theorem MkL.app {H : Hp} {n : Nat} {c e : List Nat} {ps : List Addr} {p x y : Addr} (h : MkL H n c e ps) (hp : H p = some (.tup [.ref x, .ref y])) (hx : H x = some (.tup (vi (pw n (comp c e) (ps.length : Int))))) (hy : H y = some (.tup (vi (comp (pw n c (ps.length : Int)) (pw n e (ps.length : Int)))))) : MkL H n c e (ps ++ [p]) := fun i q hq => by
  by_cases hi : i < ps.length
  · rw [List.getElem?_append_left hi] at hq
    exact h i q hq
  · rw [List.getElem?_append_right (by omega)] at hq
    have hl := (List.getElem?_eq_some_iff.mp hq).1
    simp at hl
    have e0 : i = ps.length := by omega
    subst e0
    rw [Nat.sub_self] at hq
    cases hq
    exact ⟨x, y, hp, hx, hy⟩
/-- the least count from 1 on at which all three are idle -/
def IdlM (n : Nat) (c e : List Nat) (M : Nat) : Prop := 0 < M ∧ Idl n c e M ∧ ∀ m, 0 < m → m < M → ¬ Idl n c e m
section
variable {P : Program} {w : World} {K : PySem.W.Frag} {mg : Str → Option Value} {base : Heap}
def spMk : Sp := fun vs H Q _ => ∃ (a b : Addr) (n : Nat) (c e : List Nat) (most : Nat), vs = [.ref a, .ref b, .int (most : Int)] ∧ H a = some (.tup (vi c)) ∧ H b = some (.tup (vi e)) ∧ Chg n c ∧ Chg n e ∧ n ≤ 16 ∧ most ≤ 900 ∧
  ∀ l H' ps, Same H H' → H l = none → H' l = some (.lst (ps.map V.ref)) → MkL H' n c e ps → ps.length ≤ most + 1 → (ps.length ≤ most → IdlM n c e ps.length) → (∀ m, 0 < m → m < ps.length → ¬ Idl n c e m) → Q (.ref l) H'

theorem sj37 : FnScope ["_law_one", "_law_other", "_law_most", "_law_begin", "_law_both", "_law_found", "_law_whole", "_law_first", "_law_second", "_law_n"] ["_law_one", "_law_other", "_law_most"] (defScope (top 43)) := ⟨rfl, rfl, rfl, by decide +kernel, rfl, by decide +kernel, by decide +kernel⟩
theorem ok_mk {f : Addr} {fd : FuncData} (B : Bl mg) (CT : Cal P w K mg base CX0 1 "_law_then" ["_law_one", "_law_other"] spComp) (F : Fun K "_law_marks" "_law_marks" (top 43) f fd) : FnOk P w K mg base CX0 2 f fd ["_law_one", "_law_other", "_law_most"] spMk := by
  refine F.ok sj37 (fun vs H Q E h => ?_) (fun cdv A outer s H vs Q E hr h => ⟨_,
    (pss_cons (ps_par3 (i := 3) (j := 4) (l := 5) rfl sj37.nd rfl rfl rfl (by decide) (by decide) (by decide) rfl rfl rfl (pa_cons (pe_callTy call_tuple_of (by rfl) B.tuple (by decide +kernel) (pa_cons (pe_listRg rfl (by rfl) B.list (prg_1 (by rfl) B.range (pe_callB call_len_seq (by rfl) B.len PySem.boot_len (pa_cons (pv 0) pa_nil)))) pa_nil)) (pa_cons (by exact (pe_cal (X := L2.Cx.nox _) CT hr (by decide) (pa_cons (pv 0) (pa_cons (pv 1) pa_nil)))) (pa_cons (pe_lst pa_nil) pa_nil))) (by rfl))
    (pss_cons (ps_par3 (i := 6) (j := 7) (l := 8) rfl sj37.nd rfl rfl rfl (by decide) (by decide) (by decide) rfl rfl rfl (pa_cons (pv 3) (pa_cons (pv 3) (pa_cons (pv 3) pa_nil))) (by rfl))
    (pss_cons (ps_for PassesOwn.never rfl (pi_range1 (by rfl) B.range (pa_cons (pe_op op_add (pv 2) pe_int) pa_nil)) (pg_name (i := 9) sj37.nd rfl (.inl rfl)) (pss_cons (ps_if (PW.pt (pw_and (pt_cmpR op_gt (pv 9) pe_int (nomark _)) (pw_and (pt_cmpR (op_eqD hr.units) (pv 6) (pv 3) (nomark _)) (pw_and (pt_cmpR (op_eqD hr.units) (pv 7) (pv 3) (nomark _)) (pw_and1 (pt_cmpR (op_eqD hr.units) (pv 8) (pv 3) (nomark _))))))) (pss_one ps_break) pss_nil)
    (pss_cons (ps_expr (pe_bm PySem.F.plainAttrs_list PySem.F.slot_list_append PySem.F.type_list_append mt_append (pv 5) (pa_cons (pe_tup (pa_cons (pv 6) (pa_cons (by exact (pe_cal (X := L2.Cx.nox _) CT hr (by decide) (pa_cons (pv 7) (pa_cons (pv 8) pa_nil)))) pa_nil))) pa_nil)))
    (pss_one (ps_par3 (i := 6) (j := 7) (l := 8) rfl sj37.nd rfl rfl rfl (by decide) (by decide) (by decide) rfl rfl rfl (pa_cons (by exact (pe_cal (X := L2.Cx.nox _) CT hr (by decide) (pa_cons (pv 6) (pa_cons (pv 4) pa_nil)))) (pa_cons (by exact (pe_cal (X := L2.Cx.nox _) CT hr (by decide) (pa_cons (pv 7) (pa_cons (pv 0) pa_nil)))) (pa_cons (by exact (pe_cal (X := L2.Cx.nox _) CT hr (by decide) (pa_cons (pv 8) (pa_cons (pv 1) pa_nil)))) pa_nil))) (by rfl))))))
    (pss_one (ps_ret (pv 5)))))), ?_⟩)
  · obtain ⟨a, b, n, c, e, most, rfl, _⟩ := h
    rfl
  obtain ⟨a, b, n, c, e, most, rfl, ha, hb, hc, he, n16, mb, q⟩ := h
  have hce := chg_comp hc he
  have ok0 : RgOk 0 (n : Int) := RgOk.of_le (Int.le_refl 0) (by omega) (by decide) (by omega)
  have lc : (vi c).length = n := by rw [List.length_map, hc.len]
  refine ⟨_, rfl, a, vi c, rfl, .inr (SqT.of ha), (n : Int), by rw [lc], ok0, fun q3 hq3 => ⟨q3, _, rfl, .inl ⟨SqL.of upd_same, fun a3 ha3 => ?_⟩⟩⟩
  have s1 : Same H (upd (upd H q3 (.lst (rgV 0 (n : Int)))) a3 (.tup (rgV 0 (n : Int)))) := (Same.new hq3).trans (Same.new ha3)
  have a3e : upd (upd H q3 (.lst (rgV 0 (n : Int)))) a3 (.tup (rgV 0 (n : Int))) a3 = some (.tup (vi (tab n id))) := by rw [upd_same, vi_rg]
  generalize upd (upd H q3 (.lst (rgV 0 (n : Int)))) a3 (.tup (rgV 0 (n : Int))) = H1 at s1 a3e
  have cl : ∀ {c e : List Nat} (h : Chg n c) (g : Chg n e), ∀ w ∈ c, w < e.length := fun h g w hw => by rw [g.len]; exact h.lt w hw
  have pl : ∀ {c : List Nat}, Chg n c → c.length ≤ 16 := fun h => by rw [h.len]; exact n16
  refine ⟨_, rfl, _, rfl, a, b, c, e, rfl, s1 _ _ ha, s1 _ _ hb, cl hc he, pl hc, fun t H2 s2 tn ht => ⟨(by show 0 ≤ sizeLine; decide), fun l hl0 => ⟨_, _, _, rfl, ?_⟩⟩⟩
  have s3 : Same H2 (upd H2 l (.lst [])) := Same.new hl0
  have l3 : upd H2 l (.lst []) l = some (.lst (([] : List Addr).map V.ref)) := upd_same
  have lH : H l = none := (s1.trans s2).free hl0
  generalize upd H2 l (.lst []) = H3 at s3 l3
  have s13 : Same H H3 := (s1.trans s2).trans s3
  have a4 := s13 _ _ ha
  have b4 := s13 _ _ hb
  have t4 := s3 _ _ ht
  have i4 := s3 _ _ (s2 _ _ a3e)
  dsimp only [gName]
  refine ⟨_, rfl, _, rfl, _, rfl, _, _, _, rfl, ?_⟩
  dsimp only [gName]
  clear s1 s2 s3 hl0 ht tn a3e ha3 hq3 ok0
  have ne : ∀ {p : Addr} {xs : List V}, H3 p = some (.tup xs) → p ≠ l := fun h z => by rw [z, l3] at h; cases h
  refine sq_cut (fun σ H' => ∃ (x y z : Addr) (v9 : Option V) (ps : List Addr), σ = [some (.ref a), some (.ref b), some (.int (most : Int)), some (.ref a3), some (.ref t), some (.ref l), some (.ref x), some (.ref y), some (.ref z), v9] ∧ Same H H' ∧ H' l = some (.lst (ps.map V.ref)) ∧ MkL H' n c e ps ∧ ps.length ≤ most + 1 ∧ (ps.length ≤ most → IdlM n c e ps.length) ∧ ∀ m, 0 < m → m < ps.length → ¬ Idl n c e m) (fun Z hZ => ?_) ?_
  · refine ⟨_, rfl, _, _, rfl, rfl, ((most + 1 : Nat) : Int), by simp, by omega, by exact Int.lt_of_le_of_lt (show ((most + 1 : Nat) : Int) ≤ 1000 by omega) (by decide), for_range (n := most + 1) (fun i σ H' => ∃ (x y z : Addr) (v9 : Option V) (ps : List Addr), σ = [some (.ref a), some (.ref b), some (.int (most : Int)), some (.ref a3), some (.ref t), some (.ref l), some (.ref x), some (.ref y), some (.ref z), v9] ∧ H' x = some (.tup (vi (pw n (comp c e) (i : Int)))) ∧ H' y = some (.tup (vi (pw n c (i : Int)))) ∧ H' z = some (.tup (vi (pw n e (i : Int)))) ∧ H' l = some (.lst (ps.map V.ref)) ∧ MkL H' n c e ps ∧ ps.length = i ∧ (∀ m, 0 < m → m < i → ¬ Idl n c e m) ∧ ∀ b o, b ≠ l → H3 b = some o → H' b = some o)
      ⟨a3, a3, a3, none, [], rfl, ?_, ?_, ?_, l3, fun i p hp => by simp at hp, rfl, fun m _ h => by omega, fun _ _ _ h => h⟩ ?_ ?_⟩
    · rw [show ((0 : Nat) : Int) = 0 from rfl, pw_zero hce]; exact i4
    · rw [show ((0 : Nat) : Int) = 0 from rfl, pw_zero hc]; exact i4
    · rw [show ((0 : Nat) : Int) = 0 from rfl, pw_zero he]; exact i4
    · rintro i σ H5 hi ⟨x, y, z, v9, ps, rfl, hx, hy, hz, hl, mk, pli, no, k5⟩
      dsimp only [gName]
      have i5 := k5 _ _ (ne i4) i4
      -- all idle
      refine sq_cut (fun σ H' => σ = [some (.ref a), some (.ref b), some (.int (most : Int)), some (.ref a3), some (.ref t), some (.ref l), some (.ref x), some (.ref y), some (.ref z), some (.int (0 + (i : Int)))] ∧ H5 = H' ∧ ¬ (0 < i ∧ Idl n c e i)) (fun Y hY => ?_) ?_
      · have sF : Same H H5 := fun b o h => k5 b o (fun z => by rw [z, lH] at h; cases h) (s13 _ _ h)
        have stop : 0 < i → Idl n c e i → Z [some (.ref a), some (.ref b), some (.int (most : Int)), some (.ref a3), some (.ref t), some (.ref l), some (.ref x), some (.ref y), some (.ref z), some (.int (0 + (i : Int)))] H5 := fun i0 h => hZ _ _ ⟨x, y, z, _, ps, rfl, sF, hl, mk, by omega, fun _ => by rw [pli]; exact ⟨i0, h, no⟩, by rw [pli]; exact no⟩
        refine ⟨_, rfl, _, _, rfl, rfl, _, rfl, ?_⟩
        by_cases i0 : 0 < i
        · refine iteP (decide_eq_true (by omega)) ⟨_, rfl, _, rfl, eqT hx i5 ⟨_, rfl, ?_⟩⟩
          by_cases h1 : pw n (comp c e) (i : Int) = tab n id
          · refine iteP (decide_eq_true h1) ⟨_, rfl, _, rfl, eqT hy i5 ⟨_, rfl, ?_⟩⟩
            by_cases h2 : pw n c (i : Int) = tab n id
            · refine iteP (decide_eq_true h2) ⟨_, rfl, _, rfl, eqT hz i5 ⟨_, rfl, ?_⟩⟩
              by_cases h3 : pw n e (i : Int) = tab n id
              · exact iteP (decide_eq_true h3) (stop i0 ⟨h1, h2, h3⟩)
              · exact iteN (by rw [decide_eq_true_eq]; exact h3) (hY _ _ ⟨rfl, rfl, fun w => h3 w.2.2.2⟩)
            · exact iteN (by simp [h2]) (hY _ _ ⟨rfl, rfl, fun w => h2 w.2.2.1⟩)
          · exact iteN (by simp [h1]) (hY _ _ ⟨rfl, rfl, fun w => h1 w.2.1⟩)
        · exact iteN (by rw [decide_eq_true_eq]; omega) (hY _ _ ⟨rfl, rfl, fun w => i0 w.1⟩)
      rintro σ H5' ⟨rfl, rfl, go⟩
      have lp : (ps.map V.ref).length ≤ 1000 := by rw [List.length_map]; omega
      have pc := pw_chg hc (i : Int)
      have pe := pw_chg he (i : Int)
      have pce := pw_chg hce (i : Int)
      refine ⟨_, rfl, .inl ⟨rfl, _, SqL.of hl⟩, _, rfl, _, rfl, _, rfl, y, z, _, _, rfl, hy, hz, cl pc pe, pl pc, fun u H6 s6 un hu => ⟨(by show 2 ≤ sizeLine; decide), fun p hp0 => ⟨l, _, _, rfl, rfl, Same.new hp0 _ _ (s6 _ _ hl), len_lt lp, ?_⟩⟩⟩
      have s7 : Same H5 (upd H6 p (.tup [.ref x, .ref u])) := s6.trans (Same.new hp0)
      have hp : upd H6 p (.tup [.ref x, .ref u]) p = some (.tup [.ref x, .ref u]) := upd_same
      have hu7 := Same.new hp0 (o := .tup [.ref x, .ref u]) _ _ hu
      generalize upd H6 p (.tup [.ref x, .ref u]) = H7 at s7 hp hu7
      have hl7 := s7 _ _ hl
      have kT : ∀ b xs, H7 b = some (.tup xs) → upd H7 l (.lst (ps.map V.ref ++ [.ref p])) b = some (.tup xs) := fun b xs e => by
        rw [upd_ne (fun z => by rw [z, hl7] at e; cases e)]
        exact e
      have kA : ∀ b o, b ≠ l → H3 b = some o → upd H7 l (.lst (ps.map V.ref ++ [.ref p])) b = some o := fun b o h1 h2 => by
        rw [upd_ne h1]
        exact s7 _ _ (k5 b o h1 h2)
      have hl8 : upd H7 l (.lst (ps.map V.ref ++ [.ref p])) l = some (.lst ((ps ++ [p]).map V.ref)) := by
        rw [upd_same, List.map_append]
        rfl
      have mk8 : MkL (upd H7 l (.lst (ps.map V.ref ++ [.ref p]))) n c e (ps ++ [p]) := MkL.same kT (MkL.app (mk.same fun b xs e => s7 _ _ e) hp (by rw [pli]; exact s7 _ _ hx) (by rw [pli]; exact hu7))
      have hx8 := kT _ _ (s7 _ _ hx)
      have hy8 := kT _ _ (s7 _ _ hy)
      have hz8 := kT _ _ (s7 _ _ hz)
      generalize upd H7 l (.lst (ps.map V.ref ++ [.ref p])) = H8 at kA hl8 mk8 hx8 hy8 hz8
      refine ⟨_, rfl, _, rfl, x, t, _, _, rfl, hx8, kA _ _ (ne t4) t4, cl pce hce, pl pce, fun x' H6 s6 xn hx' => ⟨_, rfl, _, rfl, y, a, _, _, rfl, s6 _ _ hy8, s6 _ _ (kA _ _ (ne a4) a4), cl pc hc, pl pc, fun y' H7 s7 yn hy' => ⟨_, rfl, _, rfl, z, b, _, _, rfl, s7 _ _ (s6 _ _ hz8), s7 _ _ (s6 _ _ (kA _ _ (ne b4) b4)), cl pe he, pl pe, fun z' H9 s9 zn hz' => ⟨_, _, _, rfl, x', y', z', _, ps ++ [p], rfl, ?_, ?_, ?_, s9 _ _ (s7 _ _ (s6 _ _ hl8)), mk8.same fun b xs e => s9 _ _ (s7 _ _ (s6 _ _ e)), ?_, ?_, fun b o h1 h2 => s9 _ _ (s7 _ _ (s6 _ _ (kA b o h1 h2)))⟩⟩⟩⟩
      · rw [← pw_next hce]; exact s9 _ _ (s7 _ _ hx')
      · rw [← pw_next hc]; exact s9 _ _ hy'
      · rw [← pw_next he]; exact hz'
      · rw [List.length_append, pli]; rfl
      · intro m m0 mi
        by_cases e1 : m = i
        · rw [e1]
          exact fun w => go ⟨by omega, w⟩
        · exact no m m0 (by omega)
    · rintro σ H5 ⟨x, y, z, v9, ps, rfl, hx, hy, hz, hl, mk, pli, no, k5⟩
      exact hZ _ _ ⟨x, y, z, v9, ps, rfl, fun b o h => k5 b o (fun z => by rw [z, lH] at h; cases h) (s13 _ _ h), hl, mk, by omega, fun h => by omega, by rw [pli]; exact no⟩
  rintro σ H' ⟨x, y, z, v9, ps, rfl, sF, hl, mk, le, id, no⟩
  exact ⟨_, rfl, q l H' ps sF lH hl mk le id no⟩

end
end KV

/-! the law's machines: a small piece -/
namespace KV
open PySem PySem.Spec PyProof.Rows L2 KC
theorem chg_dec {n : Nat} {c : List Nat} (h : (decide (c.length = n) && c.all (fun x => decide (x < n)) && decide c.Nodup) = true) : Chg n c := by
  rw [Bool.and_eq_true, Bool.and_eq_true, decide_eq_true_eq, decide_eq_true_eq, List.all_eq_true] at h
  exact ⟨h.1.1, fun x hx => of_decide_eq_true (h.1.2 x hx), h.2⟩
/-- a list of changes of n states -/
structure Gens (H : Hp) (l : Addr) (n : Nat) (bs : List Addr) (cs : List (List Nat)) : Prop where
  lst : H l = some (.lst (bs.map V.ref))
  tups : Paired (fun b c => H b = some (.tup (vi c))) bs cs
  chg : ∀ c ∈ cs, Chg n c
  n0 : 0 < n
  c0 : 0 < cs.length
theorem tups_keep {H H' : Hp} (k : ∀ b xs, H b = some (.tup xs) → H' b = some (.tup xs)) {bs : List Addr} {cs : List (List Nat)} (h : Paired (fun b c => H b = some (.tup (vi c))) bs cs) : Paired (fun b c => H' b = some (.tup (vi c))) bs cs := by
  induction h with
  | nil => exact .nil
  | cons h t ih => exact .cons (k _ _ h) ih
theorem Gens.same {H H' : Hp} {l : Addr} {n : Nat} {bs : List Addr} {cs : List (List Nat)} (h : Gens H l n bs cs) (s : Same H H') : Gens H' l n bs cs := ⟨s _ _ h.lst, tups_keep (fun b xs e => s _ _ e) h.tups, h.chg, h.n0, h.c0⟩
theorem Gens.kp {H H' : Hp} {d c l : Addr} {n : Nat} {bs : List Addr} {cs : List (List Nat)} (h : Gens H l n bs cs) (D : Dl H d c) (k : Kp d c H H') (ld : l ≠ d ∧ l ≠ c) : Gens H' l n bs cs := ⟨k _ _ ld.1 ld.2 h.lst, tups_keep (fun b xs e => D.kT k e) h.tups, h.chg, h.n0, h.c0⟩
theorem g_one {H : Hp} {l t : Addr} {n : Nat} {c : List Nat} (hl : H l = some (.lst [V.ref t])) (ht : H t = some (.tup (vi c))) (h : Chg n c) (n0 : 0 < n) : Gens H l n [t] [c] := ⟨hl, .cons ht .nil, fun x hx => by rw [show x = c from by simpa using hx]; exact h, n0, (by show 0 < 1; decide)⟩
theorem g_two {H : Hp} {l t u : Addr} {n : Nat} {c e : List Nat} (hl : H l = some (.lst [V.ref t, V.ref u])) (ht : H t = some (.tup (vi c))) (hu : H u = some (.tup (vi e))) (h : Chg n c) (h2 : Chg n e) (n0 : 0 < n) : Gens H l n [t, u] [c, e] :=
  ⟨hl, .cons ht (.cons hu .nil), fun x hx => by
    have : x = c ∨ x = e := by simpa using hx
    rcases this with rfl | rfl
    · exact h
    · exact h2, n0, (by show 0 < 2; decide)⟩
section
variable {P : Program} {w : World} {K : PySem.W.Frag} {mg : Str → Option Value} {base : Heap}
def spPiece : Sp := fun vs H Q _ => ∃ fm : Int, vs = [.int fm] ∧ 0 ≤ fm ∧ fm < 12 ∧ ∀ l n bs cs H', Same H H' → H l = none → Gens H' l n bs cs → n ≤ 9 → cs.length ≤ 2 → Q (.ref l) H'
theorem sy22 : FnScope ["_law_form", "_law_many", "_law_state", "_law_s"] ["_law_form"] (defScope (top 42)) := ⟨rfl, rfl, rfl, by decide +kernel, rfl, by decide +kernel, by decide +kernel⟩
theorem ok_piece {f : Addr} {fd : FuncData} (B : Bl mg) (F : Fun K "_law_piece" "_law_piece" (top 42) f fd) : FnOk P w K mg base CX0 1 f fd ["_law_form"] spPiece := by
  refine F.ok sy22 (fun vs H Q E h => ?_) (fun cdv A outer s H vs Q E hr h => ⟨_,
    (pss_cons (ps_if (pt_cmpR op_lt (pv 0) pe_int (nomark _)) (pss_one (ps_ret (pe_ifExp (pt_cmpR op_eq (pv 0) pe_int (nomark _)) (pe_lst (pa_cons (pe_tup (pa_cons pe_int pa_nil)) pa_nil)) (pe_ifExp (pt_cmpR op_eq (pv 0) pe_int (nomark _)) (pe_lst (pa_cons (pe_tup (pa_cons pe_int (pa_cons pe_int pa_nil))) pa_nil)) (pe_lst (pa_cons (pe_tup (pa_cons pe_int (pa_cons pe_int (pa_cons pe_int pa_nil)))) pa_nil)))))) pss_nil)
    (pss_cons (ps_if (pt_cmpR op_lt (pv 0) pe_int (nomark _)) (pss_cons (ps_set (i := 1) sy22.nd rfl (.inr rfl) (pe_ifExp (pt_cmpR op_lt (pv 0) pe_int (nomark _)) (pv 0) pe_int))
    (pss_one (ps_ret (pe_lst (pa_cons (pe_callTy call_tuple_of (by rfl) B.tuple (by decide +kernel) (pa_cons (pe_lc (own := [("_law_state", 2)]) (g := gName 2) (tt := tYes) rfl sy22.nd (pi_range1 (by rfl) B.range (pa_cons (pv 1) pa_nil)) (blkOk_by (N := ["_law_form", "_law_many", "_law_state", "_law_s"]) (sc := defScope (top 42)) (by decide +kernel))
        (fun _ _ _ _ _ => (pg_name (i := 2) sy22.nd rfl (Or.inl rfl))) (fun _ _ _ _ _ => pts_nil) (fun _ _ _ _ _ => (pe_op op_mod (pe_callTy call_int1 (by rfl) B.int PyProof.Rows.boot_int (pa_cons (pe_op op_add (pv 2) pe_int) pa_nil)) (pv 1)))) pa_nil)) (pa_cons (pe_callTy call_tuple_of (by rfl) B.tuple (by decide +kernel) (pa_cons (pe_lc (own := [("_law_state", 2)]) (g := gName 2) (tt := tYes) rfl sy22.nd (pi_range1 (by rfl) B.range (pa_cons (pv 1) pa_nil)) (blkOk_by (N := ["_law_form", "_law_many", "_law_state", "_law_s"]) (sc := defScope (top 42)) (by decide +kernel))
        (fun _ _ _ _ _ => (pg_name (i := 2) sy22.nd rfl (Or.inl rfl))) (fun _ _ _ _ _ => pts_nil) (fun _ _ _ _ _ => (pe_op op_mod (pe_callTy call_int1 (by rfl) B.int PyProof.Rows.boot_int (pa_cons (pe_op op_sub pe_int (pv 2)) pa_nil)) (pv 1)))) pa_nil)) pa_nil)))))) pss_nil)
    (pss_cons (ps_if (pt_cmpR op_eq (pv 0) pe_int (nomark _)) (pss_one (ps_ret (pe_lst (pa_cons (pe_tup (pa_cons pe_int (pa_cons pe_int (pa_cons pe_int (pa_cons pe_int pa_nil))))) (pa_cons (pe_tup (pa_cons pe_int (pa_cons pe_int (pa_cons pe_int (pa_cons pe_int pa_nil))))) pa_nil))))) pss_nil)
    (pss_cons (ps_if (pt_cmpR op_eq (pv 0) pe_int (nomark _)) (pss_one (ps_ret (pe_lst (pa_cons (pe_callTy call_tuple_of (by rfl) B.tuple (by decide +kernel) (pa_cons (pe_lc (own := [("_law_state", 2)]) (g := gName 2) (tt := tYes) rfl sy22.nd (pi_range1 (by rfl) B.range (pa_cons pe_int pa_nil)) (blkOk_by (N := ["_law_form", "_law_many", "_law_state", "_law_s"]) (sc := defScope (top 42)) (by decide +kernel))
        (fun _ _ _ _ _ => (pg_name (i := 2) sy22.nd rfl (Or.inl rfl))) (fun _ _ _ _ _ => pts_nil) (fun _ _ _ _ _ => (pe_op op_mod (pe_callTy call_int1 (by rfl) B.int PyProof.Rows.boot_int (pa_cons (pe_op op_add (pv 2) pe_int) pa_nil)) pe_int))) pa_nil)) (pa_cons (pe_callTy call_tuple_of (by rfl) B.tuple (by decide +kernel) (pa_cons (pe_lc (own := [("_law_state", 2)]) (g := gName 2) (tt := tYes) rfl sy22.nd (pi_range1 (by rfl) B.range (pa_cons pe_int pa_nil)) (blkOk_by (N := ["_law_form", "_law_many", "_law_state", "_law_s"]) (sc := defScope (top 42)) (by decide +kernel))
        (fun _ _ _ _ _ => (pg_name (i := 2) sy22.nd rfl (Or.inl rfl))) (fun _ _ _ _ _ => pts_nil) (fun _ _ _ _ _ => (pe_op op_mod (pe_callTy call_int1 (by rfl) B.int PyProof.Rows.boot_int (pa_cons (pe_op op_mulW pe_int (pv 2)) pa_nil)) pe_int))) pa_nil)) pa_nil))))) pss_nil)
    (pss_cons (ps_if (pt_cmpR op_eq (pv 0) pe_int (nomark _)) (pss_one (ps_ret (pe_lst (pa_cons (pe_callTy call_tuple_of (by rfl) B.tuple (by decide +kernel) (pa_cons (pe_lc (own := [("_law_s", 3)]) (g := gName 3) (tt := tYes) rfl sy22.nd (pi_range1 (by rfl) B.range (pa_cons pe_int pa_nil)) (blkOk_by (N := ["_law_form", "_law_many", "_law_state", "_law_s"]) (sc := defScope (top 42)) (by decide +kernel))
        (fun _ _ _ _ _ => (pg_name (i := 3) sy22.nd rfl (Or.inl rfl))) (fun _ _ _ _ _ => pts_nil) (fun _ _ _ _ _ => (pe_op op_add (pe_op op_mulW pe_int (pe_op op_mod (pe_callTy call_int1 (by rfl) B.int PyProof.Rows.boot_int (pa_cons (pe_op op_add (pe_op op_fdivW (pv 3) pe_int) pe_int) pa_nil)) pe_int)) (pe_op op_mod (pv 3) pe_int)))) pa_nil)) (pa_cons (pe_callTy call_tuple_of (by rfl) B.tuple (by decide +kernel) (pa_cons (pe_lc (own := [("_law_s", 3)]) (g := gName 3) (tt := tYes) rfl sy22.nd (pi_range1 (by rfl) B.range (pa_cons pe_int pa_nil)) (blkOk_by (N := ["_law_form", "_law_many", "_law_state", "_law_s"]) (sc := defScope (top 42)) (by decide +kernel))
        (fun _ _ _ _ _ => (pg_name (i := 3) sy22.nd rfl (Or.inl rfl))) (fun _ _ _ _ _ => pts_nil) (fun _ _ _ _ _ => (pe_op op_add (pe_op op_mulW pe_int (pe_op op_fdivW (pv 3) pe_int)) (pe_op op_mod (pe_callTy call_int1 (by rfl) B.int PyProof.Rows.boot_int (pa_cons (pe_op op_add (pe_op op_mod (pv 3) pe_int) (pe_op op_fdivW (pv 3) pe_int)) pa_nil)) pe_int)))) pa_nil)) pa_nil))))) pss_nil)
    (pss_cons (ps_if (pt_cmpR op_eq (pv 0) pe_int (nomark _)) (pss_one (ps_ret (pe_lst (pa_cons (pe_tup (pa_cons pe_int (pa_cons pe_int (pa_cons pe_int (pa_cons pe_int pa_nil))))) (pa_cons (pe_tup (pa_cons pe_int (pa_cons pe_int (pa_cons pe_int (pa_cons pe_int pa_nil))))) pa_nil))))) pss_nil)
    (pss_cons (ps_if (pt_cmpR op_eq (pv 0) pe_int (nomark _)) (pss_one (ps_ret (pe_lst (pa_cons (pe_tup (pa_cons pe_int (pa_cons pe_int (pa_cons pe_int (pa_cons pe_int pa_nil))))) pa_nil)))) pss_nil)
    (pss_one (ps_ret (pe_lst (pa_cons (pe_tup (pa_cons pe_int (pa_cons pe_int (pa_cons pe_int (pa_cons pe_int (pa_cons pe_int (pa_cons pe_int (pa_cons pe_int (pa_cons pe_int pa_nil))))))))) (pa_cons (pe_tup (pa_cons pe_int (pa_cons pe_int (pa_cons pe_int (pa_cons pe_int (pa_cons pe_int (pa_cons pe_int (pa_cons pe_int (pa_cons pe_int pa_nil))))))))) pa_nil)))))))))))), ?_⟩)
  · obtain ⟨fm, rfl, _⟩ := h
    rfl
  obtain ⟨fm, rfl, f0, f1, q⟩ := h
  refine ⟨_, rfl, _, _, rfl, rfl, _, rfl, ?_⟩
  by_cases z3 : fm < 3
  · refine iteP (by simp [z3]) ?_
    have : fm = 0 ∨ fm = 1 ∨ fm = 2 := by omega
    rcases this with rfl | rfl | rfl
    · refine ⟨_, rfl, rfl, _, rfl, iteT ?_⟩
      refine ⟨(by show 1 ≤ sizeLine; decide), fun t0 h0 => ⟨(by show 1 ≤ sizeLine; decide), fun l hl => ?_⟩⟩
      have s0 : Same H (upd H t0 (.tup [V.int 0])) := Same.new h0
      exact q l 1 [t0] [[0]] _ (s0.trans (Same.new hl)) (s0.free hl) (g_one upd_same (Same.new hl _ _ upd_same) (chg_dec (by decide)) (by decide)) (by decide) (by decide)
    · refine ⟨_, rfl, rfl, _, rfl, iteF ⟨_, rfl, rfl, _, rfl, iteT ?_⟩⟩
      refine ⟨(by show 2 ≤ sizeLine; decide), fun t0 h0 => ⟨(by show 1 ≤ sizeLine; decide), fun l hl => ?_⟩⟩
      have s0 : Same H (upd H t0 (.tup [V.int 1, V.int 0])) := Same.new h0
      exact q l 2 [t0] [[1, 0]] _ (s0.trans (Same.new hl)) (s0.free hl) (g_one upd_same (Same.new hl _ _ upd_same) (chg_dec (by decide)) (by decide)) (by decide) (by decide)
    · refine ⟨_, rfl, rfl, _, rfl, iteF ⟨_, rfl, rfl, _, rfl, iteF ?_⟩⟩
      refine ⟨(by show 3 ≤ sizeLine; decide), fun t0 h0 => ⟨(by show 1 ≤ sizeLine; decide), fun l hl => ?_⟩⟩
      have s0 : Same H (upd H t0 (.tup [V.int 1, V.int 2, V.int 0])) := Same.new h0
      exact q l 3 [t0] [[1, 2, 0]] _ (s0.trans (Same.new hl)) (s0.free hl) (g_one upd_same (Same.new hl _ _ upd_same) (chg_dec (by decide)) (by decide)) (by decide) (by decide)
  refine iteN (by simp [z3]) ⟨_, rfl, _, _, rfl, rfl, _, rfl, ?_⟩
  by_cases z6 : fm < 6
  · refine iteP (by simp [z6]) ?_
    have : fm = 3 ∨ fm = 4 ∨ fm = 5 := by omega
    rcases this with rfl | rfl | rfl
    · refine ⟨_, rfl, _, _, rfl, rfl, _, rfl, ?_⟩
      refine iteT ⟨_, rfl, ?_⟩
      dsimp only [gName]
      refine ⟨_, rfl, 3, rfl, by decide, by decide, fun D0 hD0 => lc_range (n := 3) (fun i H' => Same H H' ∧ H' D0 = some (.lst (vi ((List.range i).map fun i => (i + 1) % 3)))) ⟨Same.new hD0, upd_same⟩ ?_ ?_⟩
      · rintro i H2 hi ⟨p1, p2⟩
        refine ⟨rfl, _, rfl, _, _, rfl, rfl, .inl ⟨_, rfl, _, rfl, _, _, rfl, rfl, (by show (0 : Int) < 3; decide), _, p2, len_lt (by simp only [vi, List.length_map, List.length_range]; omega), Same.upd p1 hD0, ?_⟩⟩
        rw [upd_same, List.range_succ, List.map_append, vi, vi, List.map_append]
        refine congrArg (fun z => some (HO.lst (_ ++ [V.int z]))) ?_
        dsimp only
        omega
      rintro G0 ⟨p1, p2⟩
      refine ⟨D0, _, rfl, .inl ⟨SqL.of p2, fun t0 ht0 => ?_⟩⟩
      have s0 := p1.trans (Same.new (o := .tup (vi ((List.range 3).map fun i => (i + 1) % 3))) ht0)
      have e0 : upd G0 t0 (.tup (vi ((List.range 3).map fun i => (i + 1) % 3))) t0 = some (.tup (vi ((List.range 3).map fun i => (i + 1) % 3))) := upd_same
      generalize upd G0 t0 (.tup (vi ((List.range 3).map fun i => (i + 1) % 3))) = J0 at s0 e0
      clear p1 p2
      refine ⟨_, rfl, 3, rfl, by decide, by decide, fun D1 hD1 => lc_range (n := 3) (fun i H' => Same J0 H' ∧ H' D1 = some (.lst (vi ((List.range i).map fun i => (3 - i) % 3)))) ⟨Same.new hD1, upd_same⟩ ?_ ?_⟩
      · rintro i H2 hi ⟨p1, p2⟩
        refine ⟨rfl, _, rfl, _, _, rfl, rfl, .inl ⟨_, rfl, _, rfl, _, _, rfl, rfl, (by show (0 : Int) < 3; decide), _, p2, len_lt (by simp only [vi, List.length_map, List.length_range]; omega), Same.upd p1 hD1, ?_⟩⟩
        rw [upd_same, List.range_succ, List.map_append, vi, vi, List.map_append]
        refine congrArg (fun z => some (HO.lst (_ ++ [V.int z]))) ?_
        dsimp only
        omega
      rintro G1 ⟨p1, p2⟩
      refine ⟨D1, _, rfl, .inl ⟨SqL.of p2, fun t1 ht1 => ?_⟩⟩
      have s1 := p1.trans (Same.new (o := .tup (vi ((List.range 3).map fun i => (3 - i) % 3))) ht1)
      have e1 : upd G1 t1 (.tup (vi ((List.range 3).map fun i => (3 - i) % 3))) t1 = some (.tup (vi ((List.range 3).map fun i => (3 - i) % 3))) := upd_same
      generalize upd G1 t1 (.tup (vi ((List.range 3).map fun i => (3 - i) % 3))) = J1 at s1 e1
      clear p1 p2
      refine ⟨(by show 2 ≤ sizeLine; decide), fun l hl => ?_⟩
      exact q l 3 [t0, t1] [(List.range 3).map fun i => (i + 1) % 3, (List.range 3).map fun i => (3 - i) % 3] _ ((s0.trans s1).trans (Same.new hl)) ((s0.trans s1).free hl) (g_two upd_same (Same.new hl _ _ (s1 _ _ e0)) (Same.new hl _ _ e1) (chg_dec (by decide)) (chg_dec (by decide)) (by decide)) (by decide) (by decide)
    · refine ⟨_, rfl, _, _, rfl, rfl, _, rfl, ?_⟩
      refine iteT ⟨_, rfl, ?_⟩
      dsimp only [gName]
      refine ⟨_, rfl, 4, rfl, by decide, by decide, fun D0 hD0 => lc_range (n := 4) (fun i H' => Same H H' ∧ H' D0 = some (.lst (vi ((List.range i).map fun i => (i + 1) % 4)))) ⟨Same.new hD0, upd_same⟩ ?_ ?_⟩
      · rintro i H2 hi ⟨p1, p2⟩
        refine ⟨rfl, _, rfl, _, _, rfl, rfl, .inl ⟨_, rfl, _, rfl, _, _, rfl, rfl, (by show (0 : Int) < 4; decide), _, p2, len_lt (by simp only [vi, List.length_map, List.length_range]; omega), Same.upd p1 hD0, ?_⟩⟩
        rw [upd_same, List.range_succ, List.map_append, vi, vi, List.map_append]
        refine congrArg (fun z => some (HO.lst (_ ++ [V.int z]))) ?_
        dsimp only
        omega
      rintro G0 ⟨p1, p2⟩
      refine ⟨D0, _, rfl, .inl ⟨SqL.of p2, fun t0 ht0 => ?_⟩⟩
      have s0 := p1.trans (Same.new (o := .tup (vi ((List.range 4).map fun i => (i + 1) % 4))) ht0)
      have e0 : upd G0 t0 (.tup (vi ((List.range 4).map fun i => (i + 1) % 4))) t0 = some (.tup (vi ((List.range 4).map fun i => (i + 1) % 4))) := upd_same
      generalize upd G0 t0 (.tup (vi ((List.range 4).map fun i => (i + 1) % 4))) = J0 at s0 e0
      clear p1 p2
      refine ⟨_, rfl, 4, rfl, by decide, by decide, fun D1 hD1 => lc_range (n := 4) (fun i H' => Same J0 H' ∧ H' D1 = some (.lst (vi ((List.range i).map fun i => (4 - i) % 4)))) ⟨Same.new hD1, upd_same⟩ ?_ ?_⟩
      · rintro i H2 hi ⟨p1, p2⟩
        refine ⟨rfl, _, rfl, _, _, rfl, rfl, .inl ⟨_, rfl, _, rfl, _, _, rfl, rfl, (by show (0 : Int) < 4; decide), _, p2, len_lt (by simp only [vi, List.length_map, List.length_range]; omega), Same.upd p1 hD1, ?_⟩⟩
        rw [upd_same, List.range_succ, List.map_append, vi, vi, List.map_append]
        refine congrArg (fun z => some (HO.lst (_ ++ [V.int z]))) ?_
        dsimp only
        omega
      rintro G1 ⟨p1, p2⟩
      refine ⟨D1, _, rfl, .inl ⟨SqL.of p2, fun t1 ht1 => ?_⟩⟩
      have s1 := p1.trans (Same.new (o := .tup (vi ((List.range 4).map fun i => (4 - i) % 4))) ht1)
      have e1 : upd G1 t1 (.tup (vi ((List.range 4).map fun i => (4 - i) % 4))) t1 = some (.tup (vi ((List.range 4).map fun i => (4 - i) % 4))) := upd_same
      generalize upd G1 t1 (.tup (vi ((List.range 4).map fun i => (4 - i) % 4))) = J1 at s1 e1
      clear p1 p2
      refine ⟨(by show 2 ≤ sizeLine; decide), fun l hl => ?_⟩
      exact q l 4 [t0, t1] [(List.range 4).map fun i => (i + 1) % 4, (List.range 4).map fun i => (4 - i) % 4] _ ((s0.trans s1).trans (Same.new hl)) ((s0.trans s1).free hl) (g_two upd_same (Same.new hl _ _ (s1 _ _ e0)) (Same.new hl _ _ e1) (chg_dec (by decide)) (chg_dec (by decide)) (by decide)) (by decide) (by decide)
    · refine ⟨_, rfl, _, _, rfl, rfl, _, rfl, ?_⟩
      refine iteF ?_
      dsimp only [gName]
      refine ⟨_, rfl, 5, rfl, by decide, by decide, fun D0 hD0 => lc_range (n := 5) (fun i H' => Same H H' ∧ H' D0 = some (.lst (vi ((List.range i).map fun i => (i + 1) % 5)))) ⟨Same.new hD0, upd_same⟩ ?_ ?_⟩
      · rintro i H2 hi ⟨p1, p2⟩
        refine ⟨rfl, _, rfl, _, _, rfl, rfl, .inl ⟨_, rfl, _, rfl, _, _, rfl, rfl, (by show (0 : Int) < 5; decide), _, p2, len_lt (by simp only [vi, List.length_map, List.length_range]; omega), Same.upd p1 hD0, ?_⟩⟩
        rw [upd_same, List.range_succ, List.map_append, vi, vi, List.map_append]
        refine congrArg (fun z => some (HO.lst (_ ++ [V.int z]))) ?_
        dsimp only
        omega
      rintro G0 ⟨p1, p2⟩
      refine ⟨D0, _, rfl, .inl ⟨SqL.of p2, fun t0 ht0 => ?_⟩⟩
      have s0 := p1.trans (Same.new (o := .tup (vi ((List.range 5).map fun i => (i + 1) % 5))) ht0)
      have e0 : upd G0 t0 (.tup (vi ((List.range 5).map fun i => (i + 1) % 5))) t0 = some (.tup (vi ((List.range 5).map fun i => (i + 1) % 5))) := upd_same
      generalize upd G0 t0 (.tup (vi ((List.range 5).map fun i => (i + 1) % 5))) = J0 at s0 e0
      clear p1 p2
      refine ⟨_, rfl, 5, rfl, by decide, by decide, fun D1 hD1 => lc_range (n := 5) (fun i H' => Same J0 H' ∧ H' D1 = some (.lst (vi ((List.range i).map fun i => (5 - i) % 5)))) ⟨Same.new hD1, upd_same⟩ ?_ ?_⟩
      · rintro i H2 hi ⟨p1, p2⟩
        refine ⟨rfl, _, rfl, _, _, rfl, rfl, .inl ⟨_, rfl, _, rfl, _, _, rfl, rfl, (by show (0 : Int) < 5; decide), _, p2, len_lt (by simp only [vi, List.length_map, List.length_range]; omega), Same.upd p1 hD1, ?_⟩⟩
        rw [upd_same, List.range_succ, List.map_append, vi, vi, List.map_append]
        refine congrArg (fun z => some (HO.lst (_ ++ [V.int z]))) ?_
        dsimp only
        omega
      rintro G1 ⟨p1, p2⟩
      refine ⟨D1, _, rfl, .inl ⟨SqL.of p2, fun t1 ht1 => ?_⟩⟩
      have s1 := p1.trans (Same.new (o := .tup (vi ((List.range 5).map fun i => (5 - i) % 5))) ht1)
      have e1 : upd G1 t1 (.tup (vi ((List.range 5).map fun i => (5 - i) % 5))) t1 = some (.tup (vi ((List.range 5).map fun i => (5 - i) % 5))) := upd_same
      generalize upd G1 t1 (.tup (vi ((List.range 5).map fun i => (5 - i) % 5))) = J1 at s1 e1
      clear p1 p2
      refine ⟨(by show 2 ≤ sizeLine; decide), fun l hl => ?_⟩
      exact q l 5 [t0, t1] [(List.range 5).map fun i => (i + 1) % 5, (List.range 5).map fun i => (5 - i) % 5] _ ((s0.trans s1).trans (Same.new hl)) ((s0.trans s1).free hl) (g_two upd_same (Same.new hl _ _ (s1 _ _ e0)) (Same.new hl _ _ e1) (chg_dec (by decide)) (chg_dec (by decide)) (by decide)) (by decide) (by decide)
  refine iteN (by simp [z6]) ?_
  have : fm = 6 ∨ fm = 7 ∨ fm = 8 ∨ fm = 9 ∨ fm = 10 ∨ fm = 11 := by omega
  rcases this with rfl | rfl | rfl | rfl | rfl | rfl
  · refine ⟨_, rfl, rfl, _, rfl, iteT ?_⟩
    refine ⟨(by show 4 ≤ sizeLine; decide), fun t0 h0 => ⟨(by show 4 ≤ sizeLine; decide), fun t1 h1 => ⟨(by show 2 ≤ sizeLine; decide), fun l hl => ?_⟩⟩⟩
    have s0 : Same H (upd H t0 (.tup [V.int 1, V.int 2, V.int 0, V.int 3])) := Same.new h0
    have s1 : Same (upd H t0 (.tup [V.int 1, V.int 2, V.int 0, V.int 3])) (upd (upd H t0 (.tup [V.int 1, V.int 2, V.int 0, V.int 3])) t1 (.tup [V.int 1, V.int 0, V.int 3, V.int 2])) := Same.new h1
    exact q l 4 [t0, t1] [[1, 2, 0, 3], [1, 0, 3, 2]] _ ((s0.trans s1).trans (Same.new hl)) ((s0.trans s1).free hl) (g_two upd_same (Same.new hl _ _ (s1 _ _ upd_same)) (Same.new hl _ _ upd_same) (chg_dec (by decide)) (chg_dec (by decide)) (by decide)) (by decide) (by decide)
  · refine ⟨_, rfl, rfl, _, rfl, iteF ⟨_, rfl, rfl, _, rfl, iteT ?_⟩⟩
    refine ⟨7, rfl, by decide, by decide, fun D0 hD0 => lc_range (n := 7) (fun i H' => Same H H' ∧ H' D0 = some (.lst (vi ((List.range i).map fun i => (i + 1) % 7)))) ⟨Same.new hD0, upd_same⟩ ?_ ?_⟩
    · rintro i H2 hi ⟨p1, p2⟩
      refine ⟨rfl, _, rfl, _, _, rfl, rfl, .inl ⟨_, rfl, _, _, rfl, rfl, (by show (0 : Int) < 7; decide), _, p2, len_lt (by simp only [vi, List.length_map, List.length_range]; omega), Same.upd p1 hD0, ?_⟩⟩
      rw [upd_same, List.range_succ, List.map_append, vi, vi, List.map_append]
      refine congrArg (fun z => some (HO.lst (_ ++ [V.int z]))) ?_
      dsimp only
      omega
    rintro G0 ⟨p1, p2⟩
    refine ⟨D0, _, rfl, .inl ⟨SqL.of p2, fun t0 ht0 => ?_⟩⟩
    have s0 := p1.trans (Same.new (o := .tup (vi ((List.range 7).map fun i => (i + 1) % 7))) ht0)
    have e0 : upd G0 t0 (.tup (vi ((List.range 7).map fun i => (i + 1) % 7))) t0 = some (.tup (vi ((List.range 7).map fun i => (i + 1) % 7))) := upd_same
    generalize upd G0 t0 (.tup (vi ((List.range 7).map fun i => (i + 1) % 7))) = J0 at s0 e0
    clear p1 p2
    refine ⟨7, rfl, by decide, by decide, fun D1 hD1 => lc_range (n := 7) (fun i H' => Same J0 H' ∧ H' D1 = some (.lst (vi ((List.range i).map fun i => (2 * i) % 7)))) ⟨Same.new hD1, upd_same⟩ ?_ ?_⟩
    · rintro i H2 hi ⟨p1, p2⟩
      refine ⟨rfl, _, rfl, _, _, rfl, rfl, mulW (j := 10) (k := 10) (by decide) (sm_of (by omega) (Int.lt_of_lt_of_le (show (0 : Int) + (i : Int) < 9 by omega) (by decide))) (by decide) (by decide) (by decide), .inl ⟨_, rfl, _, _, rfl, rfl, (by show (0 : Int) < 7; decide), _, p2, len_lt (by simp only [vi, List.length_map, List.length_range]; omega), Same.upd p1 hD1, ?_⟩⟩
      rw [upd_same, List.range_succ, List.map_append, vi, vi, List.map_append]
      refine congrArg (fun z => some (HO.lst (_ ++ [V.int z]))) ?_
      dsimp only
      omega
    rintro G1 ⟨p1, p2⟩
    refine ⟨D1, _, rfl, .inl ⟨SqL.of p2, fun t1 ht1 => ?_⟩⟩
    have s1 := p1.trans (Same.new (o := .tup (vi ((List.range 7).map fun i => (2 * i) % 7))) ht1)
    have e1 : upd G1 t1 (.tup (vi ((List.range 7).map fun i => (2 * i) % 7))) t1 = some (.tup (vi ((List.range 7).map fun i => (2 * i) % 7))) := upd_same
    generalize upd G1 t1 (.tup (vi ((List.range 7).map fun i => (2 * i) % 7))) = J1 at s1 e1
    clear p1 p2
    refine ⟨(by show 2 ≤ sizeLine; decide), fun l hl => ?_⟩
    exact q l 7 [t0, t1] [(List.range 7).map fun i => (i + 1) % 7, (List.range 7).map fun i => (2 * i) % 7] _ ((s0.trans s1).trans (Same.new hl)) ((s0.trans s1).free hl) (g_two upd_same (Same.new hl _ _ (s1 _ _ e0)) (Same.new hl _ _ e1) (chg_dec (by decide)) (chg_dec (by decide)) (by decide)) (by decide) (by decide)
  · refine ⟨_, rfl, rfl, _, rfl, iteF ⟨_, rfl, rfl, _, rfl, iteF ⟨_, rfl, rfl, _, rfl, iteT ?_⟩⟩⟩
    refine ⟨9, rfl, by decide, by decide, fun D0 hD0 => lc_range (n := 9) (fun i H' => Same H H' ∧ H' D0 = some (.lst (vi ((List.range i).map fun i => 3 * ((i / 3 + 1) % 3) + i % 3)))) ⟨Same.new hD0, upd_same⟩ ?_ ?_⟩
    · rintro i H2 hi ⟨p1, p2⟩
      refine ⟨rfl, _, rfl, _, _, rfl, rfl, divW (by decide) (show sm 10 3 by decide) (by decide) (by decide), _, _, rfl, rfl, .inl ⟨_, rfl, _, _, rfl, rfl, (by show (0 : Int) < 3; decide), _, _, rfl, rfl, mulW (j := 10) (k := 10) (by decide) (sm_of (by omega) (Int.lt_of_lt_of_le (show _ < (9 : Int) by omega) (by decide))) (by decide) (by decide) (by decide), _, rfl, _, _, rfl, rfl, (by show (0 : Int) < 3; decide), _, _, rfl, rfl, _, p2, len_lt (by simp only [vi, List.length_map, List.length_range]; omega), Same.upd p1 hD0, ?_⟩⟩
      rw [upd_same, List.range_succ, List.map_append, vi, vi, List.map_append]
      refine congrArg (fun z => some (HO.lst (_ ++ [V.int z]))) ?_
      dsimp only
      omega
    rintro G0 ⟨p1, p2⟩
    refine ⟨D0, _, rfl, .inl ⟨SqL.of p2, fun t0 ht0 => ?_⟩⟩
    have s0 := p1.trans (Same.new (o := .tup (vi ((List.range 9).map fun i => 3 * ((i / 3 + 1) % 3) + i % 3))) ht0)
    have e0 : upd G0 t0 (.tup (vi ((List.range 9).map fun i => 3 * ((i / 3 + 1) % 3) + i % 3))) t0 = some (.tup (vi ((List.range 9).map fun i => 3 * ((i / 3 + 1) % 3) + i % 3))) := upd_same
    generalize upd G0 t0 (.tup (vi ((List.range 9).map fun i => 3 * ((i / 3 + 1) % 3) + i % 3))) = J0 at s0 e0
    clear p1 p2
    refine ⟨9, rfl, by decide, by decide, fun D1 hD1 => lc_range (n := 9) (fun i H' => Same J0 H' ∧ H' D1 = some (.lst (vi ((List.range i).map fun i => 3 * (i / 3) + (i % 3 + i / 3) % 3)))) ⟨Same.new hD1, upd_same⟩ ?_ ?_⟩
    · rintro i H2 hi ⟨p1, p2⟩
      refine ⟨rfl, _, rfl, _, _, rfl, rfl, divW (by decide) (show sm 10 3 by decide) (by decide) (by decide), _, _, rfl, rfl, mulW (j := 10) (k := 10) (by decide) (sm_of (by omega) (Int.lt_of_lt_of_le (show _ < (9 : Int) by omega) (by decide))) (by decide) (by decide) (by decide), _, rfl, _, _, rfl, rfl, (by show (0 : Int) < 3; decide), _, rfl, _, _, rfl, rfl, divW (by decide) (show sm 10 3 by decide) (by decide) (by decide), _, _, rfl, rfl, .inl ⟨_, rfl, _, _, rfl, rfl, (by show (0 : Int) < 3; decide), _, _, rfl, rfl, _, p2, len_lt (by simp only [vi, List.length_map, List.length_range]; omega), Same.upd p1 hD1, ?_⟩⟩
      rw [upd_same, List.range_succ, List.map_append, vi, vi, List.map_append]
      refine congrArg (fun z => some (HO.lst (_ ++ [V.int z]))) ?_
      dsimp only
      omega
    rintro G1 ⟨p1, p2⟩
    refine ⟨D1, _, rfl, .inl ⟨SqL.of p2, fun t1 ht1 => ?_⟩⟩
    have s1 := p1.trans (Same.new (o := .tup (vi ((List.range 9).map fun i => 3 * (i / 3) + (i % 3 + i / 3) % 3))) ht1)
    have e1 : upd G1 t1 (.tup (vi ((List.range 9).map fun i => 3 * (i / 3) + (i % 3 + i / 3) % 3))) t1 = some (.tup (vi ((List.range 9).map fun i => 3 * (i / 3) + (i % 3 + i / 3) % 3))) := upd_same
    generalize upd G1 t1 (.tup (vi ((List.range 9).map fun i => 3 * (i / 3) + (i % 3 + i / 3) % 3))) = J1 at s1 e1
    clear p1 p2
    refine ⟨(by show 2 ≤ sizeLine; decide), fun l hl => ?_⟩
    exact q l 9 [t0, t1] [(List.range 9).map fun i => 3 * ((i / 3 + 1) % 3) + i % 3, (List.range 9).map fun i => 3 * (i / 3) + (i % 3 + i / 3) % 3] _ ((s0.trans s1).trans (Same.new hl)) ((s0.trans s1).free hl) (g_two upd_same (Same.new hl _ _ (s1 _ _ e0)) (Same.new hl _ _ e1) (chg_dec (by decide)) (chg_dec (by decide)) (by decide)) (by decide) (by decide)
  · refine ⟨_, rfl, rfl, _, rfl, iteF ⟨_, rfl, rfl, _, rfl, iteF ⟨_, rfl, rfl, _, rfl, iteF ⟨_, rfl, rfl, _, rfl, iteT ?_⟩⟩⟩⟩
    refine ⟨(by show 4 ≤ sizeLine; decide), fun t0 h0 => ⟨(by show 4 ≤ sizeLine; decide), fun t1 h1 => ⟨(by show 2 ≤ sizeLine; decide), fun l hl => ?_⟩⟩⟩
    have s0 : Same H (upd H t0 (.tup [V.int 1, V.int 2, V.int 3, V.int 0])) := Same.new h0
    have s1 : Same (upd H t0 (.tup [V.int 1, V.int 2, V.int 3, V.int 0])) (upd (upd H t0 (.tup [V.int 1, V.int 2, V.int 3, V.int 0])) t1 (.tup [V.int 1, V.int 0, V.int 2, V.int 3])) := Same.new h1
    exact q l 4 [t0, t1] [[1, 2, 3, 0], [1, 0, 2, 3]] _ ((s0.trans s1).trans (Same.new hl)) ((s0.trans s1).free hl) (g_two upd_same (Same.new hl _ _ (s1 _ _ upd_same)) (Same.new hl _ _ upd_same) (chg_dec (by decide)) (chg_dec (by decide)) (by decide)) (by decide) (by decide)
  · refine ⟨_, rfl, rfl, _, rfl, iteF ⟨_, rfl, rfl, _, rfl, iteF ⟨_, rfl, rfl, _, rfl, iteF ⟨_, rfl, rfl, _, rfl, iteF ⟨_, rfl, rfl, _, rfl, iteT ?_⟩⟩⟩⟩⟩
    refine ⟨(by show 4 ≤ sizeLine; decide), fun t0 h0 => ⟨(by show 1 ≤ sizeLine; decide), fun l hl => ?_⟩⟩
    have s0 : Same H (upd H t0 (.tup [V.int 1, V.int 2, V.int 3, V.int 0])) := Same.new h0
    exact q l 4 [t0] [[1, 2, 3, 0]] _ (s0.trans (Same.new hl)) (s0.free hl) (g_one upd_same (Same.new hl _ _ upd_same) (chg_dec (by decide)) (by decide)) (by decide) (by decide)
  · refine ⟨_, rfl, rfl, _, rfl, iteF ⟨_, rfl, rfl, _, rfl, iteF ⟨_, rfl, rfl, _, rfl, iteF ⟨_, rfl, rfl, _, rfl, iteF ⟨_, rfl, rfl, _, rfl, iteF ?_⟩⟩⟩⟩⟩
    refine ⟨(by show 8 ≤ sizeLine; decide), fun t0 h0 => ⟨(by show 8 ≤ sizeLine; decide), fun t1 h1 => ⟨(by show 2 ≤ sizeLine; decide), fun l hl => ?_⟩⟩⟩
    have s0 : Same H (upd H t0 (.tup [V.int 1, V.int 2, V.int 3, V.int 0, V.int 5, V.int 6, V.int 7, V.int 4])) := Same.new h0
    have s1 : Same (upd H t0 (.tup [V.int 1, V.int 2, V.int 3, V.int 0, V.int 5, V.int 6, V.int 7, V.int 4])) (upd (upd H t0 (.tup [V.int 1, V.int 2, V.int 3, V.int 0, V.int 5, V.int 6, V.int 7, V.int 4])) t1 (.tup [V.int 4, V.int 7, V.int 6, V.int 5, V.int 2, V.int 1, V.int 0, V.int 3])) := Same.new h1
    exact q l 8 [t0, t1] [[1, 2, 3, 0, 5, 6, 7, 4], [4, 7, 6, 5, 2, 1, 0, 3]] _ ((s0.trans s1).trans (Same.new hl)) ((s0.trans s1).free hl) (g_two upd_same (Same.new hl _ _ (s1 _ _ upd_same)) (Same.new hl _ _ upd_same) (chg_dec (by decide)) (chg_dec (by decide)) (by decide)) (by decide) (by decide)

end
end KV

/-! the law: a drawn couple -/
namespace KC
theorem set_ren {n i : Nat} {nm es : List Nat} {g : Nat → Nat} (h : Chg n nm) (hi : i < n) (l : es.length = n) (w : ∀ j, j < i → es[nm.getD j 0]? = some (g j)) : ∀ j, j < i + 1 → (es.set (nm.getD i 0) (g i))[nm.getD j 0]? = some (g j) := fun j hj => by
  by_cases e : j = i
  · subst e
    rw [List.getElem?_set_self (by rw [l]; exact h.at_lt hi)]
  · have jn : j < n := by omega
    rw [List.getElem?_set_ne (fun z => e (h.at_inj hi jn z).symm)]
    exact w j (by omega)
theorem chg_ren {n : Nat} {nm c es : List Nat} (h : Chg n nm) (hc : Chg n c) (l : es.length = n) (w : ∀ j, j < n → es[nm.getD j 0]? = some (nm.getD (c.getD j 0) 0)) : Chg n es := by
  rw [eq_tab l]
  have key : ∀ x, x < n → ∃ j, j < n ∧ x = nm.getD j 0 ∧ es.getD x 0 = nm.getD (c.getD j 0) 0 := fun x hx => by
    obtain ⟨j, hj, e⟩ := h.mem hx
    exact ⟨j, hj, e.symm, by rw [← e]; exact getD_at (w j hj)⟩
  refine chg_tab (fun x hx => ?_) fun x hx y hy e => ?_
  · obtain ⟨j, hj, _, e⟩ := key x hx
    rw [e]
    exact h.at_lt (hc.at_lt hj)
  · obtain ⟨j, hj, e1, e2⟩ := key x hx
    obtain ⟨k, hk, e3, e4⟩ := key y hy
    rw [e2, e4] at e
    have := hc.at_inj hj hk (h.at_inj (hc.at_lt hj) (hc.at_lt hk) e)
    rw [e1, e3, this]
end KC
namespace KV
open PySem PySem.Spec PyProof.Rows L2 KC KP
theorem paired_at {α β : Type} {F : α → β → Prop} {as : List α} {bs : List β} (h : Paired F as bs) : ∀ {i : Nat} {a : α}, as[i]? = some a → ∃ b, bs[i]? = some b ∧ F a b := by
  induction h with
  | nil => exact fun e => by simp at e
  | cons h _ ih =>
    intro i a e
    cases i with
    | zero =>
      cases e
      exact ⟨_, rfl, h⟩
    | succ i => exact ih e
theorem paired_len {α β : Type} {F : α → β → Prop} {as : List α} {bs : List β} (h : Paired F as bs) : as.length = bs.length := by
  induction h with
  | nil => rfl
  | cons _ _ ih => rw [List.length_cons, List.length_cons, ih]
/-- two changes at two places -/
structure Two (H : Hp) (a b : Addr) (n : Nat) (ch eh : List Nat) : Prop where
  ha : H a = some (.tup (vi ch))
  hb : H b = some (.tup (vi eh))
  c : Chg n ch
  e : Chg n eh
  n1 : 1 ≤ n
  n9 : n ≤ 9
theorem Two.keep {H H' : Hp} {a b : Addr} {n : Nat} {ch eh : List Nat} (h : Two H a b n ch eh) (k : ∀ b xs, H b = some (.tup xs) → H' b = some (.tup xs)) : Two H' a b n ch eh := ⟨k _ _ h.ha, k _ _ h.hb, h.c, h.e, h.n1, h.n9⟩
theorem Two.same {H H' : Hp} {a b : Addr} {n : Nat} {ch eh : List Nat} (h : Two H a b n ch eh) (s : Same H H') : Two H' a b n ch eh := h.keep fun b xs e => s _ _ e
theorem Two.kp {H H' : Hp} {d c a b : Addr} {n : Nat} {ch eh : List Nat} (h : Two H a b n ch eh) (D : Dl H d c) (k : Kp d c H H') : Two H' a b n ch eh := h.keep fun b xs e => D.kT k e
theorem Two.goodA {H : Hp} {a b : Addr} {n : Nat} {ch eh : List Nat} (h : Two H a b n ch eh) : Good n H (.ref a) ch := ⟨a, rfl, h.ha, h.c, h.n1, by have := h.n9; omega⟩
theorem Two.goodB {H : Hp} {a b : Addr} {n : Nat} {ch eh : List Nat} (h : Two H a b n ch eh) : Good n H (.ref b) eh := ⟨b, rfl, h.hb, h.e, h.n1, by have := h.n9; omega⟩
section
variable {P : Program} {w : World} {K : PySem.W.Frag} {mg : Str → Option Value} {base : Heap}
def spCpl : Sp := fun vs H Q _ => ∃ (d c : Addr), vs = [.ref d] ∧ Dl H d c ∧ ∀ (p a b : Addr) (n : Nat) (ch eh : List Nat) (M : Nat) (H' : Hp), H' p = some (.tup [.ref a, .ref b]) → Two H' a b n ch eh → 0 < M → M ≤ 300 → Idl n ch eh M → Dl H' d c → Kp d c H H' → Q (.ref p) H'

theorem sj38 : FnScope ["_law_deal", "_law_turn", "_law_form", "_law_one", "_law_other", "_law_some", "_law_again", "_law_many", "_law_names", "_law_first", "_law_second", "_law_state"] ["_law_deal"] (defScope (top 44)) := ⟨rfl, rfl, rfl, by decide +kernel, rfl, by decide +kernel, by decide +kernel⟩
theorem ok_cpl {f : Addr} {fd : FuncData} (B : Bl mg) (CA : Cal P w K mg base CX0 1 "_law_any" ["_law_deal", "_law_bound"] spAny) (CO : Cal P w K mg base CX0 2 "_law_of" ["_law_deal", "_law_some"] (spOf K)) (CP : Cal P w K mg base CX0 1 "_law_piece" ["_law_form"] spPiece) (CT : Cal P w K mg base CX0 1 "_law_then" ["_law_one", "_law_other"] spComp) (CM : Cal P w K mg base CX0 2 "_law_mixed" ["_law_deal", "_law_some"] spMix) (CK : Cal P w K mg base CX0 2 "_law_marks" ["_law_one", "_law_other", "_law_most"] spMk) (F : Fun K "_law_couple" "_law_couple" (top 44) f fd) : FnOk P w K mg base CX0 3 f fd ["_law_deal"] spCpl := by
  refine F.ok sj38 (fun vs H Q E h => ?_) (fun cdv A outer s H vs Q E hr h => ⟨_,
    (pss_cons (ps_for PassesOwn.never rfl (pi_range1 (by rfl) B.range (pa_cons pe_int pa_nil)) (pg_name (i := 1) sj38.nd rfl (.inl rfl)) (pss_cons (ps_set (i := 2) sj38.nd rfl (.inl rfl) (by exact (pe_cal (X := L2.Cx.nox _) CA hr (by decide) (pa_cons (pv 0) (pa_cons pe_int pa_nil)))))
    (pss_cons (ps_if (pt_cmpR op_eq (pv 2) pe_int (nomark _)) (pss_one (ps_asg (by exact (pe_cal (X := L2.Cx.nox _) CO hr (by decide) (pa_cons (pv 0) (pa_cons (pe_lst (pa_cons (pe_tup (pa_cons (pe_tup (pa_cons pe_int (pa_cons pe_int (pa_cons pe_int (pa_cons pe_int (pa_cons pe_int (pa_cons pe_int (pa_cons pe_int (pa_cons pe_int pa_nil))))))))) (pa_cons (pe_tup (pa_cons pe_int (pa_cons pe_int (pa_cons pe_int (pa_cons pe_int (pa_cons pe_int (pa_cons pe_int (pa_cons pe_int (pa_cons pe_int pa_nil))))))))) pa_nil))) (pa_cons (pe_tup (pa_cons (pe_tup (pa_cons pe_int (pa_cons pe_int (pa_cons pe_int (pa_cons pe_int (pa_cons pe_int (pa_cons pe_int (pa_cons pe_int (pa_cons pe_int pa_nil))))))))) (pa_cons (pe_tup (pa_cons pe_int (pa_cons pe_int (pa_cons pe_int (pa_cons pe_int (pa_cons pe_int (pa_cons pe_int (pa_cons pe_int (pa_cons pe_int pa_nil))))))))) pa_nil))) (pa_cons (pe_tup (pa_cons (pe_tup (pa_cons pe_int (pa_cons pe_int (pa_cons pe_int (pa_cons pe_int (pa_cons pe_int (pa_cons pe_int (pa_cons pe_int (pa_cons pe_int (pa_cons pe_int pa_nil)))))))))) (pa_cons (pe_tup (pa_cons pe_int (pa_cons pe_int (pa_cons pe_int (pa_cons pe_int (pa_cons pe_int (pa_cons pe_int (pa_cons pe_int (pa_cons pe_int (pa_cons pe_int pa_nil)))))))))) pa_nil))) (pa_cons (pe_tup (pa_cons (pe_tup (pa_cons pe_int (pa_cons pe_int (pa_cons pe_int (pa_cons pe_int (pa_cons pe_int (pa_cons pe_int pa_nil))))))) (pa_cons (pe_tup (pa_cons pe_int (pa_cons pe_int (pa_cons pe_int (pa_cons pe_int (pa_cons pe_int (pa_cons pe_int pa_nil))))))) pa_nil))) (pa_cons (pe_tup (pa_cons (pe_tup (pa_cons pe_int (pa_cons pe_int (pa_cons pe_int (pa_cons pe_int (pa_cons pe_int pa_nil)))))) (pa_cons (pe_tup (pa_cons pe_int (pa_cons pe_int (pa_cons pe_int (pa_cons pe_int (pa_cons pe_int pa_nil)))))) pa_nil))) (pa_cons (pe_tup (pa_cons (pe_tup (pa_cons pe_int (pa_cons pe_int (pa_cons pe_int (pa_cons pe_int (pa_cons pe_int (pa_cons pe_int (pa_cons pe_int pa_nil)))))))) (pa_cons (pe_tup (pa_cons pe_int (pa_cons pe_int (pa_cons pe_int (pa_cons pe_int (pa_cons pe_int (pa_cons pe_int (pa_cons pe_int pa_nil)))))))) pa_nil))) pa_nil))))))) pa_nil)))) (pg_tup rfl (pgs_cons (pg_name (i := 3) sj38.nd rfl (.inl rfl)) (pgs_cons (pg_name (i := 4) sj38.nd rfl (.inl rfl)) pgs_nil))))) (pss_one (ps_if (pt_cmpR op_eq (pv 2) pe_int (nomark _)) (pss_cons (ps_set (i := 5) sj38.nd rfl (.inl rfl) (by exact (pe_cal (X := L2.Cx.nox _) CP hr (by decide) (pa_cons (pe_op op_add pe_int (by exact (pe_cal (X := L2.Cx.nox _) CA hr (by decide) (pa_cons (pv 0) (pa_cons pe_int pa_nil))))) pa_nil))))
    (pss_cons (ps_par (i := 3) (j := 4) rfl sj38.nd rfl rfl (by decide) rfl rfl (pa_cons (pe_ix ix_list (pv 5) (by exact (pe_cal (X := L2.Cx.nox _) CA hr (by decide) (pa_cons (pv 0) (pa_cons (pe_callB call_len_seq (by rfl) B.len PySem.boot_len (pa_cons (pv 5) pa_nil)) pa_nil)))) (fun _ _ => rfl)) (pa_cons (pe_ix ix_list (pv 5) (by exact (pe_cal (X := L2.Cx.nox _) CA hr (by decide) (pa_cons (pv 0) (pa_cons (pe_callB call_len_seq (by rfl) B.len PySem.boot_len (pa_cons (pv 5) pa_nil)) pa_nil)))) (fun _ _ => rfl)) pa_nil)) (by rfl))
    (pss_one (ps_for PassesOwn.never rfl (pi_range1 (by rfl) B.range (pa_cons (by exact (pe_cal (X := L2.Cx.nox _) CA hr (by decide) (pa_cons (pv 0) (pa_cons pe_int pa_nil)))) pa_nil)) (pg_name (i := 6) sj38.nd rfl (.inl rfl)) (pss_one (ps_par (i := 3) (j := 4) rfl sj38.nd rfl rfl (by decide) rfl rfl (pa_cons (by exact (pe_cal (X := L2.Cx.nox _) CT hr (by decide) (pa_cons (pv 3) (pa_cons (pv 4) pa_nil)))) (pa_cons (by exact (pe_cal (X := L2.Cx.nox _) CT hr (by decide) (pa_cons (by exact (pe_cal (X := L2.Cx.nox _) CO hr (by decide) (pa_cons (pv 0) (pa_cons (pv 5) pa_nil)))) (pa_cons (pv 4) pa_nil)))) pa_nil)) (by rfl))))))) (pss_cons (ps_set (i := 7) sj38.nd rfl (.inl rfl) (pe_op op_add pe_int (by exact (pe_cal (X := L2.Cx.nox _) CA hr (by decide) (pa_cons (pv 0) (pa_cons pe_int pa_nil))))))
    (pss_one (ps_par (i := 3) (j := 4) rfl sj38.nd rfl rfl (by decide) rfl rfl (pa_cons (pe_callTy call_tuple_of (by rfl) B.tuple (by decide +kernel) (pa_cons (by exact (pe_cal (X := L2.Cx.nox _) CM hr (by decide) (pa_cons (pv 0) (pa_cons (pe_listRg rfl (by rfl) B.list (prg_1 (by rfl) B.range (pv 7))) pa_nil)))) pa_nil)) (pa_cons (pe_callTy call_tuple_of (by rfl) B.tuple (by decide +kernel) (pa_cons (by exact (pe_cal (X := L2.Cx.nox _) CM hr (by decide) (pa_cons (pv 0) (pa_cons (pe_listRg rfl (by rfl) B.list (prg_1 (by rfl) B.range (pv 7))) pa_nil)))) pa_nil)) pa_nil)) (by rfl)))))))
    (pss_cons (ps_set (i := 8) sj38.nd rfl (.inl rfl) (by exact (pe_cal (X := L2.Cx.nox _) CM hr (by decide) (pa_cons (pv 0) (pa_cons (pe_listRg rfl (by rfl) B.list (prg_1 (by rfl) B.range (pe_callB call_len_seq (by rfl) B.len PySem.boot_len (pa_cons (pv 3) pa_nil)))) pa_nil)))))
    (pss_cons (ps_par (i := 9) (j := 10) rfl sj38.nd rfl rfl (by decide) rfl rfl (pa_cons (pe_op op_rep (pe_lst (pa_cons pe_int pa_nil)) (pe_callB call_len_seq (by rfl) B.len PySem.boot_len (pa_cons (pv 8) pa_nil))) (pa_cons (pe_op op_rep (pe_lst (pa_cons pe_int pa_nil)) (pe_callB call_len_seq (by rfl) B.len PySem.boot_len (pa_cons (pv 8) pa_nil))) pa_nil)) (by rfl))
    (pss_cons (ps_for PassesOwn.never rfl (pi_range1 (by rfl) B.range (pa_cons (pe_callB call_len_seq (by rfl) B.len PySem.boot_len (pa_cons (pv 8) pa_nil)) pa_nil)) (pg_name (i := 11) sj38.nd rfl (.inl rfl)) (pss_one (ps_asg (pe_tup (pa_cons (pe_ix ix_list (pv 8) (pe_ix ix_tup (pv 3) (pv 11) (fun _ _ => rfl)) (fun _ _ => rfl)) (pa_cons (pe_ix ix_list (pv 8) (pe_ix ix_tup (pv 4) (pv 11) (fun _ _ => rfl)) (fun _ _ => rfl)) pa_nil))) (pg_tup rfl (pgs_cons (pg_sub (pv 9) (pe_ix ix_list (pv 8) (pv 11) (fun _ _ => rfl)) set_list) (pgs_cons (pg_sub (pv 10) (pe_ix ix_list (pv 8) (pv 11) (fun _ _ => rfl)) set_list) pgs_nil))))))
    (pss_one (ps_if (pt_cmpR op_le (pe_callB call_len_seq (by rfl) B.len PySem.boot_len (pa_cons (by exact (pe_cal (X := L2.Cx.nox _) CK hr (by decide) (pa_cons (pe_callTy call_tuple_of (by rfl) B.tuple (by decide +kernel) (pa_cons (pv 9) pa_nil)) (pa_cons (pe_callTy call_tuple_of (by rfl) B.tuple (by decide +kernel) (pa_cons (pv 10) pa_nil)) (pa_cons pe_int pa_nil))))) pa_nil)) pe_int (nomark _)) (pss_one (ps_ret (pe_tup (pa_cons (pe_callTy call_tuple_of (by rfl) B.tuple (by decide +kernel) (pa_cons (pv 9) pa_nil)) (pa_cons (pe_callTy call_tuple_of (by rfl) B.tuple (by decide +kernel) (pa_cons (pv 10) pa_nil)) pa_nil))))) pss_nil))))))))
    (pss_one (ps_ret (pe_tup (pa_cons (pe_tup (pa_cons pe_int (pa_cons pe_int (pa_cons pe_int pa_nil)))) (pa_cons (pe_tup (pa_cons pe_int (pa_cons pe_int (pa_cons pe_int pa_nil)))) pa_nil)))))), ?_⟩)
  · obtain ⟨d, c, rfl, _⟩ := h
    rfl
  obtain ⟨d, c, rfl, hD, q⟩ := h
  have cl : ∀ {m : Nat} {c e : List Nat} (h : Chg m c) (g : Chg m e), ∀ w ∈ c, w < e.length := fun h g w hw => by rw [g.len]; exact h.lt w hw
  refine ⟨6, rfl, by decide, by decide, for_range (n := 6) (fun i σ H' => ∃ v1 v2 v3 v4 v5 v6 v7 v8 v9 v10 v11 : Option V, σ = [some (.ref d), v1, v2, v3, v4, v5, v6, v7, v8, v9, v10, v11] ∧ Dl H' d c ∧ Kp d c H H') ⟨none, none, none, none, none, none, none, none, none, none, none, rfl, hD, Kp.refl⟩ ?_ ?_⟩
  · rintro i σ G hi ⟨v1, v2, v3, v4, v5, v6, v7, v8, v9, v10, v11, rfl, D, k0⟩
    dsimp only [gName]
    refine ⟨_, rfl, d, c, 5, rfl, D, by decide, by decide, fun r G0 r0 r1 D0 k1 => ?_⟩
    replace k0 := k0.trans k1
    clear k1 D
    dsimp only [gName]
    -- the couple
    refine sq_cut (fun σ H' => ∃ (a b : Addr) (n : Nat) (ch eh : List Nat) (v2 v5 v6 v7 v8 v9 v10 v11 : Option V), σ = [some (.ref d), some (.int (0 + (i : Int))), v2, some (.ref a), some (.ref b), v5, v6, v7, v8, v9, v10, v11] ∧ Two H' a b n ch eh ∧ Dl H' d c ∧ Kp d c H H') (fun Z hZ => ?_) ?_
    · refine ⟨_, rfl, rfl, _, rfl, ?_⟩
      by_cases e0 : r = 0
      · refine iteP (by simp [e0]) ?_
        refine ⟨_, rfl, (by show 8 ≤ sizeLine; decide), fun t0a ht0a => ?_⟩
        have s0 : Same G0 (upd G0 t0a (.tup [.int 0, .int 3, .int 6, .int 2, .int 5, .int 7, .int 4, .int 1])) := Same.new ht0a
        have ft0a : upd G0 t0a (.tup [.int 0, .int 3, .int 6, .int 2, .int 5, .int 7, .int 4, .int 1]) t0a = some (.tup (vi [0, 3, 6, 2, 5, 7, 4, 1])) := upd_same
        have d1 := D0.same s0
        generalize upd G0 t0a (.tup [.int 0, .int 3, .int 6, .int 2, .int 5, .int 7, .int 4, .int 1]) = G1 at s0 ft0a d1
        have D1 := d1
        refine ⟨(by show 8 ≤ sizeLine; decide), fun t0b ht0b => ?_⟩
        have s1 : Same G1 (upd G1 t0b (.tup [.int 7, .int 6, .int 0, .int 3, .int 5, .int 1, .int 2, .int 4])) := Same.new ht0b
        have ft0b : upd G1 t0b (.tup [.int 7, .int 6, .int 0, .int 3, .int 5, .int 1, .int 2, .int 4]) t0b = some (.tup (vi [7, 6, 0, 3, 5, 1, 2, 4])) := upd_same
        have d2 := D1.same s1
        generalize upd G1 t0b (.tup [.int 7, .int 6, .int 0, .int 3, .int 5, .int 1, .int 2, .int 4]) = G2 at s1 ft0b d2
        have D2 := d2
        refine ⟨(by show 2 ≤ sizeLine; decide), fun p0 hp0 => ?_⟩
        have s2 : Same G2 (upd G2 p0 (.tup [.ref t0a, .ref t0b])) := Same.new hp0
        have fp0 : upd G2 p0 (.tup [.ref t0a, .ref t0b]) p0 = some (.tup [.ref t0a, .ref t0b]) := upd_same
        have d3 := D2.same s2
        generalize upd G2 p0 (.tup [.ref t0a, .ref t0b]) = G3 at s2 fp0 d3
        have D3 := d3
        refine ⟨(by show 8 ≤ sizeLine; decide), fun t1a ht1a => ?_⟩
        have s3 : Same G3 (upd G3 t1a (.tup [.int 2, .int 0, .int 1, .int 3, .int 5, .int 6, .int 7, .int 4])) := Same.new ht1a
        have ft1a : upd G3 t1a (.tup [.int 2, .int 0, .int 1, .int 3, .int 5, .int 6, .int 7, .int 4]) t1a = some (.tup (vi [2, 0, 1, 3, 5, 6, 7, 4])) := upd_same
        have d4 := D3.same s3
        generalize upd G3 t1a (.tup [.int 2, .int 0, .int 1, .int 3, .int 5, .int 6, .int 7, .int 4]) = G4 at s3 ft1a d4
        have D4 := d4
        refine ⟨(by show 8 ≤ sizeLine; decide), fun t1b ht1b => ?_⟩
        have s4 : Same G4 (upd G4 t1b (.tup [.int 1, .int 3, .int 2, .int 0, .int 7, .int 6, .int 5, .int 4])) := Same.new ht1b
        have ft1b : upd G4 t1b (.tup [.int 1, .int 3, .int 2, .int 0, .int 7, .int 6, .int 5, .int 4]) t1b = some (.tup (vi [1, 3, 2, 0, 7, 6, 5, 4])) := upd_same
        have d5 := D4.same s4
        generalize upd G4 t1b (.tup [.int 1, .int 3, .int 2, .int 0, .int 7, .int 6, .int 5, .int 4]) = G5 at s4 ft1b d5
        have D5 := d5
        refine ⟨(by show 2 ≤ sizeLine; decide), fun p1 hp1 => ?_⟩
        have s5 : Same G5 (upd G5 p1 (.tup [.ref t1a, .ref t1b])) := Same.new hp1
        have fp1 : upd G5 p1 (.tup [.ref t1a, .ref t1b]) p1 = some (.tup [.ref t1a, .ref t1b]) := upd_same
        have d6 := D5.same s5
        generalize upd G5 p1 (.tup [.ref t1a, .ref t1b]) = G6 at s5 fp1 d6
        have D6 := d6
        refine ⟨(by show 9 ≤ sizeLine; decide), fun t2a ht2a => ?_⟩
        have s6 : Same G6 (upd G6 t2a (.tup [.int 4, .int 3, .int 0, .int 5, .int 6, .int 1, .int 8, .int 7, .int 2])) := Same.new ht2a
        have ft2a : upd G6 t2a (.tup [.int 4, .int 3, .int 0, .int 5, .int 6, .int 1, .int 8, .int 7, .int 2]) t2a = some (.tup (vi [4, 3, 0, 5, 6, 1, 8, 7, 2])) := upd_same
        have d7 := D6.same s6
        generalize upd G6 t2a (.tup [.int 4, .int 3, .int 0, .int 5, .int 6, .int 1, .int 8, .int 7, .int 2]) = G7 at s6 ft2a d7
        have D7 := d7
        refine ⟨(by show 9 ≤ sizeLine; decide), fun t2b ht2b => ?_⟩
        have s7 : Same G7 (upd G7 t2b (.tup [.int 3, .int 5, .int 0, .int 4, .int 6, .int 7, .int 8, .int 2, .int 1])) := Same.new ht2b
        have ft2b : upd G7 t2b (.tup [.int 3, .int 5, .int 0, .int 4, .int 6, .int 7, .int 8, .int 2, .int 1]) t2b = some (.tup (vi [3, 5, 0, 4, 6, 7, 8, 2, 1])) := upd_same
        have d8 := D7.same s7
        generalize upd G7 t2b (.tup [.int 3, .int 5, .int 0, .int 4, .int 6, .int 7, .int 8, .int 2, .int 1]) = G8 at s7 ft2b d8
        have D8 := d8
        refine ⟨(by show 2 ≤ sizeLine; decide), fun p2 hp2 => ?_⟩
        have s8 : Same G8 (upd G8 p2 (.tup [.ref t2a, .ref t2b])) := Same.new hp2
        have fp2 : upd G8 p2 (.tup [.ref t2a, .ref t2b]) p2 = some (.tup [.ref t2a, .ref t2b]) := upd_same
        have d9 := D8.same s8
        generalize upd G8 p2 (.tup [.ref t2a, .ref t2b]) = G9 at s8 fp2 d9
        have D9 := d9
        refine ⟨(by show 6 ≤ sizeLine; decide), fun t3a ht3a => ?_⟩
        have s9 : Same G9 (upd G9 t3a (.tup [.int 4, .int 3, .int 2, .int 0, .int 1, .int 5])) := Same.new ht3a
        have ft3a : upd G9 t3a (.tup [.int 4, .int 3, .int 2, .int 0, .int 1, .int 5]) t3a = some (.tup (vi [4, 3, 2, 0, 1, 5])) := upd_same
        have d10 := D9.same s9
        generalize upd G9 t3a (.tup [.int 4, .int 3, .int 2, .int 0, .int 1, .int 5]) = G10 at s9 ft3a d10
        have D10 := d10
        refine ⟨(by show 6 ≤ sizeLine; decide), fun t3b ht3b => ?_⟩
        have s10 : Same G10 (upd G10 t3b (.tup [.int 1, .int 3, .int 4, .int 2, .int 0, .int 5])) := Same.new ht3b
        have ft3b : upd G10 t3b (.tup [.int 1, .int 3, .int 4, .int 2, .int 0, .int 5]) t3b = some (.tup (vi [1, 3, 4, 2, 0, 5])) := upd_same
        have d11 := D10.same s10
        generalize upd G10 t3b (.tup [.int 1, .int 3, .int 4, .int 2, .int 0, .int 5]) = G11 at s10 ft3b d11
        have D11 := d11
        refine ⟨(by show 2 ≤ sizeLine; decide), fun p3 hp3 => ?_⟩
        have s11 : Same G11 (upd G11 p3 (.tup [.ref t3a, .ref t3b])) := Same.new hp3
        have fp3 : upd G11 p3 (.tup [.ref t3a, .ref t3b]) p3 = some (.tup [.ref t3a, .ref t3b]) := upd_same
        have d12 := D11.same s11
        generalize upd G11 p3 (.tup [.ref t3a, .ref t3b]) = G12 at s11 fp3 d12
        have D12 := d12
        refine ⟨(by show 5 ≤ sizeLine; decide), fun t4a ht4a => ?_⟩
        have s12 : Same G12 (upd G12 t4a (.tup [.int 3, .int 1, .int 0, .int 4, .int 2])) := Same.new ht4a
        have ft4a : upd G12 t4a (.tup [.int 3, .int 1, .int 0, .int 4, .int 2]) t4a = some (.tup (vi [3, 1, 0, 4, 2])) := upd_same
        have d13 := D12.same s12
        generalize upd G12 t4a (.tup [.int 3, .int 1, .int 0, .int 4, .int 2]) = G13 at s12 ft4a d13
        have D13 := d13
        refine ⟨(by show 5 ≤ sizeLine; decide), fun t4b ht4b => ?_⟩
        have s13 : Same G13 (upd G13 t4b (.tup [.int 1, .int 4, .int 0, .int 2, .int 3])) := Same.new ht4b
        have ft4b : upd G13 t4b (.tup [.int 1, .int 4, .int 0, .int 2, .int 3]) t4b = some (.tup (vi [1, 4, 0, 2, 3])) := upd_same
        have d14 := D13.same s13
        generalize upd G13 t4b (.tup [.int 1, .int 4, .int 0, .int 2, .int 3]) = G14 at s13 ft4b d14
        have D14 := d14
        refine ⟨(by show 2 ≤ sizeLine; decide), fun p4 hp4 => ?_⟩
        have s14 : Same G14 (upd G14 p4 (.tup [.ref t4a, .ref t4b])) := Same.new hp4
        have fp4 : upd G14 p4 (.tup [.ref t4a, .ref t4b]) p4 = some (.tup [.ref t4a, .ref t4b]) := upd_same
        have d15 := D14.same s14
        generalize upd G14 p4 (.tup [.ref t4a, .ref t4b]) = G15 at s14 fp4 d15
        have D15 := d15
        refine ⟨(by show 7 ≤ sizeLine; decide), fun t5a ht5a => ?_⟩
        have s15 : Same G15 (upd G15 t5a (.tup [.int 0, .int 3, .int 6, .int 5, .int 2, .int 1, .int 4])) := Same.new ht5a
        have ft5a : upd G15 t5a (.tup [.int 0, .int 3, .int 6, .int 5, .int 2, .int 1, .int 4]) t5a = some (.tup (vi [0, 3, 6, 5, 2, 1, 4])) := upd_same
        have d16 := D15.same s15
        generalize upd G15 t5a (.tup [.int 0, .int 3, .int 6, .int 5, .int 2, .int 1, .int 4]) = G16 at s15 ft5a d16
        have D16 := d16
        refine ⟨(by show 7 ≤ sizeLine; decide), fun t5b ht5b => ?_⟩
        have s16 : Same G16 (upd G16 t5b (.tup [.int 6, .int 2, .int 5, .int 0, .int 4, .int 1, .int 3])) := Same.new ht5b
        have ft5b : upd G16 t5b (.tup [.int 6, .int 2, .int 5, .int 0, .int 4, .int 1, .int 3]) t5b = some (.tup (vi [6, 2, 5, 0, 4, 1, 3])) := upd_same
        have d17 := D16.same s16
        generalize upd G16 t5b (.tup [.int 6, .int 2, .int 5, .int 0, .int 4, .int 1, .int 3]) = G17 at s16 ft5b d17
        have D17 := d17
        refine ⟨(by show 2 ≤ sizeLine; decide), fun p5 hp5 => ?_⟩
        have s17 : Same G17 (upd G17 p5 (.tup [.ref t5a, .ref t5b])) := Same.new hp5
        have fp5 : upd G17 p5 (.tup [.ref t5a, .ref t5b]) p5 = some (.tup [.ref t5a, .ref t5b]) := upd_same
        have d18 := D17.same s17
        generalize upd G17 p5 (.tup [.ref t5a, .ref t5b]) = G18 at s17 fp5 d18
        have D18 := d18
        refine ⟨(by show 6 ≤ sizeLine; decide), fun l hl => ?_⟩
        have s18 : Same G18 (upd G18 l (.lst [.ref p0, .ref p1, .ref p2, .ref p3, .ref p4, .ref p5])) := Same.new hl
        have fl : upd G18 l (.lst [.ref p0, .ref p1, .ref p2, .ref p3, .ref p4, .ref p5]) l = some (.lst [.ref p0, .ref p1, .ref p2, .ref p3, .ref p4, .ref p5]) := upd_same
        have d19 := D18.same s18
        have ld := D18.ne hl
        generalize upd G18 l (.lst [.ref p0, .ref p1, .ref p2, .ref p3, .ref p4, .ref p5]) = G19 at s18 fl d19
        have D19 := d19
        have S19 := Same.refl G19
        have S18 := s18.trans S19
        have S17 := s17.trans S18
        have S16 := s16.trans S17
        have S15 := s15.trans S16
        have S14 := s14.trans S15
        have S13 := s13.trans S14
        have S12 := s12.trans S13
        have S11 := s11.trans S12
        have S10 := s10.trans S11
        have S9 := s9.trans S10
        have S8 := s8.trans S9
        have S7 := s7.trans S8
        have S6 := s6.trans S7
        have S5 := s5.trans S6
        have S4 := s4.trans S5
        have S3 := s3.trans S4
        have S2 := s2.trans S3
        have S1 := s1.trans S2
        have S0 := s0.trans S1
        refine ⟨d, c, l, _, rfl, D19, ld.1, ld.2, SqL.of fl, by show 0 < 6; decide, by show 6 ≤ 1000; decide, fun j x H9 hx D9 k9 => ?_⟩
        have hx2 := List.mem_of_getElem? hx
        obtain ⟨p, a, b, n, ch, eh, rfl, hp, T2⟩ : ∃ (p a b : Addr) (n : Nat) (ch eh : List Nat), x = .ref p ∧ G19 p = some (.tup [.ref a, .ref b]) ∧ Two G19 a b n ch eh := by
          simp only [List.mem_cons, List.not_mem_nil, or_false] at hx2
          rcases hx2 with rfl | rfl | rfl | rfl | rfl | rfl
          · exact ⟨p0, t0a, t0b, 8, [0, 3, 6, 2, 5, 7, 4, 1], [7, 6, 0, 3, 5, 1, 2, 4], rfl, S3 _ _ fp0, S1 _ _ ft0a, S2 _ _ ft0b, chg_dec (by decide), chg_dec (by decide), by decide, by decide⟩
          · exact ⟨p1, t1a, t1b, 8, [2, 0, 1, 3, 5, 6, 7, 4], [1, 3, 2, 0, 7, 6, 5, 4], rfl, S6 _ _ fp1, S4 _ _ ft1a, S5 _ _ ft1b, chg_dec (by decide), chg_dec (by decide), by decide, by decide⟩
          · exact ⟨p2, t2a, t2b, 9, [4, 3, 0, 5, 6, 1, 8, 7, 2], [3, 5, 0, 4, 6, 7, 8, 2, 1], rfl, S9 _ _ fp2, S7 _ _ ft2a, S8 _ _ ft2b, chg_dec (by decide), chg_dec (by decide), by decide, by decide⟩
          · exact ⟨p3, t3a, t3b, 6, [4, 3, 2, 0, 1, 5], [1, 3, 4, 2, 0, 5], rfl, S12 _ _ fp3, S10 _ _ ft3a, S11 _ _ ft3b, chg_dec (by decide), chg_dec (by decide), by decide, by decide⟩
          · exact ⟨p4, t4a, t4b, 5, [3, 1, 0, 4, 2], [1, 4, 0, 2, 3], rfl, S15 _ _ fp4, S13 _ _ ft4a, S14 _ _ ft4b, chg_dec (by decide), chg_dec (by decide), by decide, by decide⟩
          · exact ⟨p5, t5a, t5b, 7, [0, 3, 6, 5, 2, 1, 4], [6, 2, 5, 0, 4, 1, 3], rfl, S18 _ _ fp5, S16 _ _ ft5a, S17 _ _ ft5b, chg_dec (by decide), chg_dec (by decide), by decide, by decide⟩
        exact ⟨p, _, rfl, SqT.of (D19.kT k9 hp), rfl, _, _, rfl, _, _, rfl, rfl, hZ _ _ ⟨a, b, n, ch, eh, _, _, _, _, _, _, _, _, rfl, T2.kp D19 k9, D9, (k0.trans (Kp.of S0)).trans k9⟩⟩
      · refine iteN (by simp [e0]) ⟨_, rfl, rfl, _, rfl, ?_⟩
        by_cases e1 : r = 1
        · refine iteP (by simp [e1]) ⟨_, rfl, d, c, 7, rfl, D0, by decide, by decide, fun r2 G1 z0 z1 D1 k1 => ⟨_, _, rfl, rfl, 3 + r2, rfl, by omega, by omega, fun l n bs cs G2 s2 ln gen n9 c2 => ?_⟩⟩
          have D2 := D1.same s2
          have ld := D1.ne ln
          have k2 := (k0.trans k1).trans (Kp.of s2)
          have lb := paired_len gen.tups
          have c0 := gen.c0
          dsimp only [gName]
          have pick : ∀ (G' : Hp) (r : Int), Gens G' l n bs cs → 0 ≤ r → r < (((bs.map V.ref).length : Nat) : Int) → ∃ (t : Addr) (ch : List Nat), atI (bs.map V.ref) r = some (.ref t) ∧ G' t = some (.tup (vi ch)) ∧ Chg n ch := fun G' r g h0 h1 => by
            rw [List.length_map] at h1
            have hj : r.toNat < bs.length := by omega
            obtain ⟨ch, e1, e2⟩ := paired_at g.tups (List.getElem?_eq_getElem hj)
            refine ⟨bs[r.toNat], ch, ?_, e2, g.chg ch (List.mem_of_getElem? e1)⟩
            have hl : r < (((bs.map V.ref).length : Nat) : Int) := by rw [List.length_map]; omega
            unfold atI L2.ixN
            rw [if_pos h0, if_pos hl]
            show (bs.map V.ref)[r.toNat]? = _
            rw [List.getElem?_map, List.getElem?_eq_getElem hj]
            rfl
          refine ⟨_, rfl, _, rfl, _, rfl, l, _, rfl, .inl (SqL.of gen.lst), d, c, _, rfl, D2, by rw [List.length_map]; omega, sm_of (by omega) (Int.lt_of_le_of_lt (show (((bs.map V.ref).length : Nat) : Int) ≤ 2 by rw [List.length_map]; omega) (by decide)), fun j1 G3 j10 j11 D3 k3 => ?_⟩
          have gen3 := gen.kp D2 k3 ld
          obtain ⟨a1, ch1, ea1, ha1, hc1⟩ := pick _ j1 gen3 j10 j11
          refine ⟨l, _, _, _, rfl, rfl, SqL.of gen3.lst, ea1, ?_⟩
          refine ⟨_, rfl, _, rfl, _, rfl, l, _, rfl, .inl (SqL.of gen3.lst), d, c, _, rfl, D3, by rw [List.length_map]; omega, sm_of (by omega) (Int.lt_of_le_of_lt (show (((bs.map V.ref).length : Nat) : Int) ≤ 2 by rw [List.length_map]; omega) (by decide)), fun j2 G4 j20 j21 D4 k4 => ?_⟩
          have gen4 := gen3.kp D3 k4 ld
          obtain ⟨b1, eh1, eb1, hb1, he1⟩ := pick _ j2 gen4 j20 j21
          refine ⟨l, _, _, _, rfl, rfl, SqL.of gen4.lst, eb1, ⟨_, _, rfl, ?_⟩⟩
          have T4 : Two G4 a1 b1 n ch1 eh1 := ⟨D3.kT k4 ha1, hb1, hc1, he1, gen.n0, n9⟩
          have k4 := (k2.trans k3).trans k4
          refine ⟨_, rfl, d, c, 3, rfl, D4, by decide, by decide, fun m G5 m0 m1 D5 k5 => ⟨m, rfl, by omega, by omega, for_range (n := m.toNat) (fun j σ H' => ∃ (a b : Addr) (ch eh : List Nat) (v6 : Option V), σ = [some (.ref d), some (.int (0 + (i : Int))), some (.int r), some (.ref a), some (.ref b), some (.ref l), v6, v7, v8, v9, v10, v11] ∧ Two H' a b n ch eh ∧ Gens H' l n bs cs ∧ Dl H' d c ∧ Kp d c H H') ⟨a1, b1, ch1, eh1, v6, rfl, T4.kp D4 k5, gen4.kp D4 k5 ld, D5, k4.trans k5⟩ ?_ ?_⟩⟩
          · rintro j σ G6 hj ⟨a, b, ch, eh, v6, rfl, T6, gen6, D6, k6⟩
            have n16 : n ≤ 16 := by omega
            refine ⟨_, rfl, _, rfl, a, b, ch, eh, rfl, T6.ha, T6.hb, cl T6.c T6.e, by rw [T6.c.len]; exact n16, fun t G7 s7 tn ht => ?_⟩
            have D7 := D6.same s7
            have gen7 := gen6.same s7
            have T7 := T6.same s7
            refine ⟨_, rfl, _, rfl, d, c, l, _, rfl, D7, ld.1, ld.2, SqL.of gen7.lst, by rw [List.length_map]; omega, by rw [List.length_map]; omega, fun j2 x G8 hx D8 k8 => ?_⟩
            obtain ⟨t2, ht2, rfl⟩ := rv_at hx
            have gen8 := gen7.kp D7 k8 ld
            have T8 := T7.kp D7 k8
            obtain ⟨ch2, e2, hc2⟩ := paired_at gen8.tups ht2
            have cc2 := gen8.chg ch2 (List.mem_of_getElem? e2)
            refine ⟨_, rfl, t2, b, ch2, eh, rfl, hc2, T8.hb, cl cc2 T8.e, by rw [cc2.len]; exact n16, fun u G9 s9 un hu => ⟨_, _, rfl, t, u, comp ch eh, comp ch2 eh, _, rfl, ⟨s9 _ _ (D7.kT k8 ht), hu, chg_comp T8.c T8.e, chg_comp cc2 T8.e, T8.n1, T8.n9⟩, gen8.same s9, D8.same s9, ((k6.trans (Kp.of s7)).trans k8).trans (Kp.of s9)⟩⟩
          · rintro σ G6 ⟨a, b, ch, eh, v6, rfl, T6, gen6, D6, k6⟩
            exact hZ _ _ ⟨a, b, n, ch, eh, _, _, _, _, _, _, _, _, rfl, T6, D6, k6⟩
        · refine iteN (by simp [e1]) ⟨_, rfl, d, c, 6, rfl, D0, by decide, by decide, fun m G1 m0 m1 D1 k1 => ⟨_, _, rfl, rfl, ?_⟩⟩
          obtain ⟨n, en⟩ : ∃ n : Nat, 1 + m = (n : Int) := ⟨(1 + m).toNat, by omega⟩
          dsimp only [gName]
          rw [en]
          have ok0 : RgOk 0 (n : Int) := RgOk.of_le (Int.le_refl 0) (by omega) (by decide) (by omega)
          refine ⟨_, rfl, _, rfl, n, rfl, ok0, fun q1 hq1 => ⟨d, c, q1, tab n id, rfl, D1.same (Same.new hq1), by rw [upd_same, vi_rg], (D1.ne hq1).1, (D1.ne hq1).2, by rw [tab_len]; omega, fun l1 m1' G2 pe1 ln1 hl1 D2 k2 => ⟨l1, _, rfl, .inl ⟨SqL.of hl1, fun a1 ha1 => ?_⟩⟩⟩⟩
          have c1 := chg_perm pe1
          have s3 : Same G2 (upd G2 a1 (.tup (vi m1'))) := Same.new ha1
          have o3 : upd G2 a1 (.tup (vi m1')) a1 = some (.tup (vi m1')) := upd_same
          generalize upd G2 a1 (.tup (vi m1')) = G3 at s3 o3
          have D3 := D2.same s3
          refine ⟨_, rfl, _, rfl, n, rfl, ok0, fun q2 hq2 => ⟨d, c, q2, tab n id, rfl, D3.same (Same.new hq2), by rw [upd_same, vi_rg], (D3.ne hq2).1, (D3.ne hq2).2, by rw [tab_len]; omega, fun l2 m2 G4 pe2 ln2 hl2 D4 k4 => ⟨l2, _, rfl, .inl ⟨SqL.of hl2, fun a2 ha2 => ⟨_, _, rfl, ?_⟩⟩⟩⟩⟩
          have c2 := chg_perm pe2
          have o4 := (D3.same (Same.new hq2)).kT k4 (Same.new hq2 _ _ o3)
          refine hZ _ _ ⟨a1, a2, n, m1', m2, _, _, _, _, _, _, _, _, rfl, ⟨Same.new ha2 _ _ o4, upd_same, c1, c2, by omega, by omega⟩, D4.same (Same.new ha2), ?_⟩
          exact ((((k0.trans k1).new hq1).trans k2).trans (Kp.of s3)).trans (((Kp.of (Same.new hq2)).trans k4).new ha2)
    clear r0 r1 D0 k0
    rintro σ G0 ⟨a, b, n, ch, eh, v2, v5, v6, v7, v8, v9, v10, v11, rfl, T0, D0, k0⟩
    have n9 := T0.n9
    have n1 := T0.n1
    have n16 : n ≤ 16 := by omega
    have lc : (vi ch).length = n := by rw [List.length_map, T0.c.len]
    have ok0 : RgOk 0 (n : Int) := RgOk.of_le (Int.le_refl 0) (by omega) (by decide) (by omega)
    -- names
    refine ⟨_, rfl, _, rfl, a, vi ch, rfl, .inr (SqT.of T0.ha), (n : Int), by rw [lc], ok0, fun q1 hq1 => ⟨d, c, q1, tab n id, rfl, D0.same (Same.new hq1), by rw [upd_same, vi_rg], (D0.ne hq1).1, (D0.ne hq1).2, by rw [tab_len]; omega, fun nl nm G1 pe1 ln1 hl1 D1 k1 => ?_⟩⟩
    have cn := chg_perm pe1
    have T1 : Two G1 a b n ch eh := (T0.same (Same.new hq1)).kp (D0.same (Same.new hq1)) k1
    replace k1 := (k0.new hq1).trans k1
    have nd := (D0.same (Same.new hq1)).ne ln1
    clear T0 D0 k0 hq1 ln1
    dsimp only [gName]
    have lnm : (vi nm).length = n := by rw [List.length_map, cn.len]
    have e0 : (List.replicate (((vi nm).length : Nat) : Int).toNat [V.int 0]).flatten = vi (List.replicate n 0) := by
      rw [lnm, vi_rep, rep_v]
      rfl
    have bnd : 1 * (((vi nm).length : Nat) : Int).toNat ≤ sizeLine := by rw [lnm]; exact Nat.le_of_lt (len_lt (by omega))
    refine ⟨(by show 1 ≤ sizeLine; decide), fun z1 hz1 => ⟨_, rfl, nl, _, rfl, .inl (SqL.of (Same.new hz1 _ _ hl1)), z1, _, _, rfl, rfl, upd_same, by rw [lnm]; omega, by rw [lnm]; omega, bnd, fun f1 hf1 => ?_⟩⟩
    rw [e0]
    have s2 : Same G1 (upd (upd G1 z1 (.lst [.int 0])) f1 (.lst (vi (List.replicate n 0)))) := (Same.new hz1).trans (Same.new hf1)
    have f1e : upd (upd G1 z1 (.lst [.int 0])) f1 (.lst (vi (List.replicate n 0))) f1 = some (.lst (vi (List.replicate n 0))) := upd_same
    have f1n : G1 f1 = none := (Same.new hz1).free hf1
    generalize upd (upd G1 z1 (.lst [.int 0])) f1 (.lst (vi (List.replicate n 0))) = G2 at s2 f1e
    refine ⟨(by show 1 ≤ sizeLine; decide), fun z2 hz2 => ⟨_, rfl, nl, _, rfl, .inl (SqL.of (Same.new hz2 _ _ (s2 _ _ hl1))), z2, _, _, rfl, rfl, upd_same, by rw [lnm]; omega, by rw [lnm]; omega, bnd, fun f2 hf2 => ⟨_, _, rfl, ?_⟩⟩⟩
    rw [e0]
    have s3 : Same G2 (upd (upd G2 z2 (.lst [.int 0])) f2 (.lst (vi (List.replicate n 0)))) := (Same.new hz2).trans (Same.new hf2)
    have f2e : upd (upd G2 z2 (.lst [.int 0])) f2 (.lst (vi (List.replicate n 0))) f2 = some (.lst (vi (List.replicate n 0))) := upd_same
    have f2n : G2 f2 = none := (Same.new hz2).free hf2
    generalize upd (upd G2 z2 (.lst [.int 0])) f2 (.lst (vi (List.replicate n 0))) = G3 at s3 f2e
    have f12 : f1 ≠ f2 := fun e => by rw [← e, f1e] at f2n; cases f2n
    replace f1e := s3 _ _ f1e
    have s13 := s2.trans s3
    have T3 := T1.same s13
    have D3 := D1.same s13
    have k3 := k1.trans (Kp.of s13)
    have nl3 := s13 _ _ hl1
    have nf1 : nl ≠ f1 := fun e => by rw [← e, hl1] at f1n; cases f1n
    have nf2 : nl ≠ f2 := fun e => by rw [← e, s2 _ _ hl1] at f2n; cases f2n
    have fd1 := D1.ne f1n
    have fd2 := (D1.same s2).ne f2n
    have G1f2 : G1 f2 = none := s2.free f2n
    clear hz1 hz2 hf1 hf2 bnd e0
    dsimp only [gName]
    refine ⟨_, rfl, nl, _, rfl, .inl (SqL.of nl3), (n : Int), by rw [lnm], by omega, by exact Int.lt_of_le_of_lt (show (n : Int) ≤ 9 by omega) (by decide), for_range (n := n) (fun j σ H' => ∃ (v11 : Option V) (es fs : List Nat), σ = [some (.ref d), some (.int (0 + (i : Int))), v2, some (.ref a), some (.ref b), v5, v6, v7, some (.ref nl), some (.ref f1), some (.ref f2), v11] ∧ H' f1 = some (.lst (vi es)) ∧ H' f2 = some (.lst (vi fs)) ∧ es.length = n ∧ fs.length = n ∧ (∀ k, k < j → es[nm.getD k 0]? = some (nm.getD (ch.getD k 0) 0)) ∧ (∀ k, k < j → fs[nm.getD k 0]? = some (nm.getD (eh.getD k 0) 0)) ∧ ∀ b o, b ≠ f1 → b ≠ f2 → G3 b = some o → H' b = some o)
      ⟨v11, List.replicate n 0, List.replicate n 0, rfl, f1e, f2e, List.length_replicate, List.length_replicate, fun k hk => absurd hk (Nat.not_lt_zero k), fun k hk => absurd hk (Nat.not_lt_zero k), fun _ _ _ _ h => h⟩ ?_ ?_⟩
    · rintro j σ G4 hj ⟨v11, es, fs, rfl, h1, h2, le, lf, w1, w2, k4⟩
      have tne : ∀ {p : Addr} {xs : List V}, G3 p = some (.tup xs) → p ≠ f1 ∧ p ≠ f2 := fun h => ⟨fun z => (by rw [z, f1e] at h; cases h), fun z => (by rw [z, f2e] at h; cases h)⟩
      have a4 := k4 _ _ (tne T3.ha).1 (tne T3.ha).2 T3.ha
      have b4 := k4 _ _ (tne T3.hb).1 (tne T3.hb).2 T3.hb
      have n4 := k4 _ _ nf1 nf2 nl3
      have ej : (0 : Int) + (j : Int) = (j : Int) := Int.zero_add _
      have ix : ∀ {c : List Nat} {m : Nat}, Chg n c → m < n → atI (vi c) (m : Int) = some (.int ((c.getD m 0 : Nat) : Int)) := fun h hm => atI_nat (vi_get (at_getD (by rw [h.len]; exact hm)))
      refine ⟨_, rfl, _, rfl, _, rfl, a, _, _, _, rfl, rfl, SqT.of a4, by rw [ej]; exact ix T3.c hj, nl, _, _, _, rfl, rfl, SqL.of n4, ix cn (T3.c.at_lt hj), ?_⟩
      refine ⟨_, rfl, _, rfl, _, rfl, b, _, _, _, rfl, rfl, SqT.of b4, by rw [ej]; exact ix T3.e hj, nl, _, _, _, rfl, rfl, SqL.of n4, ix cn (T3.e.at_lt hj), (by show 2 ≤ sizeLine; decide), fun t ht => ?_⟩
      have s5 : Same G4 (upd G4 t (.tup [.int ((nm.getD (ch.getD j 0) 0 : Nat) : Int), .int ((nm.getD (eh.getD j 0) 0 : Nat) : Int)])) := Same.new ht
      have te : upd G4 t (.tup [.int ((nm.getD (ch.getD j 0) 0 : Nat) : Int), .int ((nm.getD (eh.getD j 0) 0 : Nat) : Int)]) t = some (.tup [.int ((nm.getD (ch.getD j 0) 0 : Nat) : Int), .int ((nm.getD (eh.getD j 0) 0 : Nat) : Int)]) := upd_same
      generalize upd G4 t (.tup [.int ((nm.getD (ch.getD j 0) 0 : Nat) : Int), .int ((nm.getD (eh.getD j 0) 0 : Nat) : Int)]) = G5 at s5 te
      have h15 := s5 _ _ h1
      have h25 := s5 _ _ h2
      have n5 := s5 _ _ n4
      have lt1 : nm.getD j 0 < es.length := by rw [le]; exact cn.at_lt hj
      have lt2 : nm.getD j 0 < fs.length := by rw [lf]; exact cn.at_lt hj
      refine ⟨t, _, rfl, SqT.of te, rfl, _, _, rfl, ?_⟩
      refine ⟨_, rfl, _, rfl, _, rfl, nl, _, _, _, rfl, rfl, SqL.of n5, by rw [ej]; exact ix cn hj, f1, _, _, _, rfl, rfl, h15, by rw [show (vi es).length = es.length from List.length_map ..]; exact ix_ok lt1, ?_⟩
      have f2x : upd G5 f1 (.lst ((vi es).set (nm.getD j 0) (.int ((nm.getD (ch.getD j 0) 0 : Nat) : Int)))) f2 = some (.lst (vi fs)) := by rw [upd_ne (Ne.symm f12)]; exact h25
      have f1x : upd G5 f1 (.lst ((vi es).set (nm.getD j 0) (.int ((nm.getD (ch.getD j 0) 0 : Nat) : Int)))) f1 = some (.lst (vi (es.set (nm.getD j 0) (nm.getD (ch.getD j 0) 0)))) := by
        rw [upd_same]
        show some (HO.lst ((es.map fun (n : Nat) => V.int (n : Int)).set _ (V.int _))) = some (HO.lst ((es.set _ _).map fun (n : Nat) => V.int (n : Int)))
        rw [List.map_set]
      have nx : upd G5 f1 (.lst ((vi es).set (nm.getD j 0) (.int ((nm.getD (ch.getD j 0) 0 : Nat) : Int)))) nl = some (.lst (vi nm)) := by rw [upd_ne nf1]; exact n5
      have kx : ∀ b o, b ≠ f1 → b ≠ f2 → G3 b = some o → upd G5 f1 (.lst ((vi es).set (nm.getD j 0) (.int ((nm.getD (ch.getD j 0) 0 : Nat) : Int)))) b = some o := fun b o z1 z2 h => by
        rw [upd_ne z1]
        exact s5 _ _ (k4 b o z1 z2 h)
      generalize upd G5 f1 (.lst ((vi es).set (nm.getD j 0) (.int ((nm.getD (ch.getD j 0) 0 : Nat) : Int)))) = G6 at f2x f1x nx kx
      refine ⟨_, _, rfl, _, rfl, _, rfl, _, rfl, nl, _, _, _, rfl, rfl, SqL.of nx, by rw [ej]; exact ix cn hj, f2, _, _, _, rfl, rfl, f2x, by rw [show (vi fs).length = fs.length from List.length_map ..]; exact ix_ok lt2, rfl, _, es.set (nm.getD j 0) (nm.getD (ch.getD j 0) 0), fs.set (nm.getD j 0) (nm.getD (eh.getD j 0) 0), rfl, ?_, ?_, by rw [List.length_set]; exact le, by rw [List.length_set]; exact lf, set_ren cn hj le w1, set_ren cn hj lf w2, fun b o z1 z2 h => ?_⟩
      · rw [upd_ne f12]
        exact f1x
      · rw [upd_same]
        show some (HO.lst ((fs.map fun (n : Nat) => V.int (n : Int)).set _ (V.int _))) = some (HO.lst ((fs.set _ _).map fun (n : Nat) => V.int (n : Int)))
        rw [List.map_set]
      · rw [upd_ne z2]
        exact kx b o z1 z2 h
    · rintro σ G4 ⟨v11, es, fs, rfl, h1, h2, le, lf, w1, w2, k4⟩
      have ces := chg_ren cn T1.c le w1
      have cfs := chg_ren cn T1.e lf w2
      have D4 : Dl G4 d c := by
        obtain ⟨dc, cs, b, e1, e2, r⟩ := D3
        exact ⟨dc, cs, b, k4 _ _ (Ne.symm fd1.1) (Ne.symm fd2.1) e1, k4 _ _ (Ne.symm fd1.2) (Ne.symm fd2.2) e2, r⟩
      have k5 : Kp d c H G4 := fun b o hb1 hb2 hb => by
        have z := k1 b o hb1 hb2 hb
        refine k4 b o (fun e => ?_) (fun e => ?_) (s13 _ _ z)
        · rw [e, f1n] at z; cases z
        · rw [e, G1f2] at z; cases z
      refine ⟨_, rfl, f1, _, rfl, .inl ⟨SqL.of h1, fun p1 hp1 => ⟨_, rfl, f2, _, rfl, .inl ⟨SqL.of (Same.new hp1 _ _ h2), fun p2 hp2 => ⟨p1, p2, n, es, fs, 300, rfl, Same.new hp2 _ _ upd_same, upd_same, ces, cfs, n16, by decide, fun l G5 ps s5 ln hl mk le id no => ⟨l, _, rfl, .inl (SqL.of hl), _, _, rfl, rfl, _, rfl, ?_⟩⟩⟩⟩⟩⟩
      have s45 : Same G4 G5 := ((Same.new hp1).trans (Same.new hp2)).trans s5
      by_cases e3 : ps.length ≤ 300
      · obtain ⟨M0, idl, _⟩ := id e3
        refine iteP (decide_eq_true (by rw [List.length_map]; omega)) ⟨_, rfl, f1, _, rfl, .inl ⟨SqL.of (s45 _ _ h1), fun p3 hp3 => ⟨_, rfl, f2, _, rfl, .inl ⟨SqL.of (Same.new hp3 _ _ (s45 _ _ h2)), fun p4 hp4 => ⟨(by show 2 ≤ sizeLine; decide), fun p hp => q p p3 p4 n es fs ps.length _ upd_same ⟨Same.new hp _ _ (Same.new hp4 _ _ upd_same), Same.new hp _ _ upd_same, ces, cfs, n1, n9⟩ M0 e3 idl ?_ ?_⟩⟩⟩⟩⟩
        · exact (((D4.same s45).same (Same.new hp3)).same (Same.new hp4)).same (Same.new hp)
        · exact k5.trans (Kp.of (((s45.trans (Same.new hp3)).trans (Same.new hp4)).trans (Same.new hp)))
      · exact iteN (by rw [decide_eq_true_eq, List.length_map]; omega) ⟨_, _, _, _, _, _, _, _, _, _, _, rfl, D4.same s45, k5.trans (Kp.of s45)⟩
  · rintro σ G ⟨v1, v2, v3, v4, v5, v6, v7, v8, v9, v10, v11, rfl, D, k0⟩
    refine ⟨(by show 3 ≤ sizeLine; decide), fun t1 h1 => ⟨(by show 3 ≤ sizeLine; decide), fun t2 h2 => ⟨(by show 2 ≤ sizeLine; decide), fun p hp => q p t1 t2 3 [1, 2, 0] [0, 2, 1] 6 _ upd_same ⟨Same.new hp _ _ (Same.new h2 _ _ upd_same), Same.new hp _ _ upd_same, chg_dec (by decide), chg_dec (by decide), by decide, by decide⟩ (by decide) (by decide) ⟨by decide, by decide, by decide⟩ ?_ ?_⟩⟩⟩
    · exact ((D.same (Same.new h1)).same (Same.new h2)).same (Same.new hp)
    · exact k0.trans (Kp.of (((Same.new h1).trans (Same.new h2)).trans (Same.new hp)))

end
end KV

/-! what the law's marks tell -/
namespace KC
section
variable {n M d : Nat} {c e : List Nat}
def bsM (n : Nat) (c e : List Nat) (M : Nat) : List Bool := (List.range M).map fun (k : Nat) => sui n c e (k : Int)
theorem bs_len : (bsM n c e M).length = M := by
  unfold bsM
  rw [List.length_map, List.length_range]
theorem bs_get {k : Nat} (h : k < M) : (bsM n c e M)[k]? = some (sui n c e (k : Int)) := by
  unfold bsM
  rw [List.getElem?_map, List.getElem?_range h] <;> rfl
theorem bs_at (hI : Idl n c e M) (M0 : 0 < M) (hc : Chg n c) (he : Chg n e) (k : Int) : (bsM n c e M)[(k % (M : Int)).toNat]? = some (sui n c e k) := by
  have a := Int.emod_nonneg k (show (M : Int) ≠ 0 by omega)
  have b := Int.emod_lt_of_pos k (show (0 : Int) < (M : Int) by omega)
  rw [bs_get (by omega), show (((k % (M : Int)).toNat : Nat) : Int) = k % (M : Int) by omega, hI.mod hc he]
theorem bs_take (h : d ≤ M) : (bsM n c e M).take d = bsM n c e d := by
  unfold bsM
  rw [← List.map_take, List.take_range, Nat.min_eq_left h]
theorem bs_rep (r : Rnd n c e d) (hc : Chg n c) (he : Chg n e) : ∀ q : Nat, bsM n c e (q * d) = (List.replicate q (bsM n c e d)).flatten
  | 0 => by rw [Nat.zero_mul]; rfl
  | q + 1 => by
    rw [Nat.succ_mul, List.replicate_succ', List.flatten_append, ← bs_rep r hc he q]
    unfold bsM
    rw [List.range_add, List.map_append, List.map_map]
    have : (List.range d).map ((fun (k : Nat) => sui n c e (k : Int)) ∘ fun x => q * d + x) = (List.range d).map fun (k : Nat) => sui n c e (k : Int) := List.map_congr_left fun j _ => by
      show sui n c e ((q * d + j : Nat) : Int) = sui n c e (j : Int)
      rw [← r.mod hc he ((q * d + j : Nat) : Int), ← r.mod hc he (j : Int)]
      have : ((q * d + j : Nat) : Int) = (j : Int) + (d : Int) * (q : Int) := by
        rw [Int.natCast_add, Int.natCast_mul, Int.mul_comm, Int.add_comm]
      rw [this, Int.add_mul_emod_self_left]
    rw [this]
    simp
/-- the marks come again with d -/
theorem bs_all (r : Rnd n c e d) (hc : Chg n c) (he : Chg n e) (dM : d ∣ M) (M0 : 0 < M) : (List.replicate (M / d) ((bsM n c e M).take d)).flatten = bsM n c e M := by
  rw [bs_take (Nat.le_of_dvd M0 dM), ← bs_rep r hc he, Nat.div_mul_cancel dM]
def zi' (c : List Nat) : List Int := c.map fun (n : Nat) => (n : Int)
/-- the rests exchanged, in order -/
theorem exch (r : Rnd n c e d) (hc : Chg n c) (he : Chg n e) {S : List Int} (so : S.Pairwise (· ≤ ·)) (pe : S.Perm ((rsts n c e d).map fun (m : Nat) => (1 - (m : Int)) % (d : Int))) : S = zi' (rsts n e c d) := by
  have d0 := r.d0
  have p2 : ((rsts n c e d).map fun (m : Nat) => (1 - (m : Int)) % (d : Int)).Perm (zi' (rsts n e c d)) := by
    refine (List.perm_ext_iff_of_nodup ?_ ?_).mpr fun x => ?_
    · unfold List.Nodup
      rw [List.pairwise_map]
      refine List.Pairwise.imp_of_mem ?_ (rsts_lt (n := n) (c := c) (e := e) d)
      intro a b ha hb lt z
      have ad := (mem_rsts.mp ha).1
      have bd := (mem_rsts.mp hb).1
      have : (d : Int) ∣ (b : Int) - (a : Int) := by
        have h := Int.emod_emod_of_dvd
        have e1 : ((1 - (a : Int)) - (1 - (b : Int))) % (d : Int) = 0 := by
          rw [Int.sub_emod, z, Int.sub_self, Int.zero_emod]
        have e2 : (1 - (a : Int)) - (1 - (b : Int)) = (b : Int) - (a : Int) := by omega
        rw [e2] at e1
        exact Int.dvd_of_emod_eq_zero e1
      have := Int.le_of_dvd (by omega) this
      omega
    · unfold zi' List.Nodup
      rw [List.pairwise_map]
      exact (rsts_lt (n := n) (c := e) (e := c) d).imp fun lt z => by omega
    · unfold zi'
      rw [List.mem_map, List.mem_map]
      constructor
      · rintro ⟨m, hm, rfl⟩
        have a := Int.emod_nonneg (1 - (m : Int)) (show (d : Int) ≠ 0 by omega)
        refine ⟨((1 - (m : Int)) % (d : Int)).toNat, (mem_swap r hc he _).mpr ⟨m, hm, ?_⟩, ?_⟩ <;> omega
      · rintro ⟨k, hk, rfl⟩
        obtain ⟨m, hm, e⟩ := (mem_swap r hc he _).mp hk
        exact ⟨m, hm, e.symm⟩
  refine (pe.trans p2).eq_of_pairwise (fun a b _ _ h1 h2 => by omega) so ?_
  unfold zi'
  rw [List.pairwise_map]
  exact (rsts_lt (n := n) (c := e) (e := c) d).imp fun lt => by omega
theorem rsts_two (r : Rnd n c e d) (hc : Chg n c) (he : Chg n e) (d2 : 2 ≤ d) : ∃ l, rsts n c e d = 0 :: 1 :: l := by
  have h0 := sui0 hc he
  have h1 := sui1 hc he
  unfold rsts
  obtain ⟨k, rfl⟩ : ∃ k, d = 2 + k := ⟨d - 2, by omega⟩
  rw [List.range_add]
  have : List.range 2 = [0, 1] := rfl
  rw [this, List.filter_append]
  refine ⟨((List.range k).map fun x => 2 + x).filter fun k => sui n c e (k : Int), ?_⟩
  rw [List.filter_cons_of_pos (by exact h0), List.filter_cons_of_pos (by exact h1)]
  rfl
theorem rsts_pos (r : Rnd n c e d) (hc : Chg n c) (he : Chg n e) : 0 ∈ rsts n c e d := mem_rsts.mpr ⟨r.d0, sui0 hc he⟩
end
end KC

/-! a text times an int -/
namespace KV
open PySem PySem.Spec PyProof.Rows L2
def rRepS : R2 := fun x y H Q => ∃ (z : Str) (k : Int), x = .str z ∧ y = .int k ∧ 1 ≤ k ∧ k ≤ 1000 ∧ z.length = 1 ∧ ∀ y', Q (.str y') H
theorem op_repS {X : Cx} : OpR X (binaryOp .Mult) rRepS := by
  intro pins s σ H x y v u Q I rx ry h
  obtain ⟨z, k, rfl, rfl, h1, h2, hz, q⟩ := h
  obtain ⟨t, rfl⟩ := rx
  obtain ⟨t2, rfl⟩ := ry
  have hm : z.length * k.toNat ≤ sizeLine := by
    rw [hz]
    exact Nat.le_trans (show 1 * k.toNat ≤ 1000 by omega) (by decide)
  have hT : PySem.Builtin.Str.tooLong (z.length * k.toNat) = false := by
    unfold PySem.Builtin.Str.tooLong
    exact decide_eq_false (by omega)
  refine PySem.P.mul_str ?_ (fun _ _ => ?_) (fun _ _ => hT) ?_
  · rw [decide_eq_false (by omega), decide_eq_false (by omega)]
    rfl
  · rw [hz]
    intro e
    have e1 : (2 ^ 63 - 1 : Int) / k < 1 := e
    have e2 : (1 : Int) ≤ (2 ^ 63 - 1) / k := (Int.le_ediv_iff_mul_le (by omega)).mpr (by omega)
    omega
  · rw [if_neg (by omega)]
    split
    · exact ⟨.str z, H, I, ⟨_, rfl⟩, q _⟩
    · exact ⟨fits_reps hT, .str _, H, I.tok _, ⟨_, rfl⟩, q _⟩
end KV

/-! tuples joined, cut, repeated: what comes out holds the items, at some address -/
namespace KV
open PySem PySem.Spec PyProof.Rows L2 KC
theorem mul_tuple1 (l : Addr) (items : Array Value) (n : Nat) (dd : Option Addr) (sl : Array (Option Value)) (u : Tok) (hne : items.isEmpty = false) :
    Meets (Builtin.«tuple.__mul__» ⟨[.ref l, .int 1 u], []⟩) (fun _ R s => s.heap.get? l = some { cls := .type "tuple", dict := dd, data := .seq items n, slots := sl } ∧ R (.ok (.ret (Value.ref l))) s) :=
  .of_wp fun prog w A R s h => by
    obtain ⟨hp, g, d, tk, os⟩ := s
    obtain ⟨hl, h⟩ := h
    have f1 := AutoSeq1.idx_int
    wp_walk using wpAny_loadPart' hl
    exact ⟨_, rfl, h⟩
section
variable {X : Cx}
def rRep1 : R2 := fun x y H Q => ∃ l xs, x = .ref l ∧ y = .int 1 ∧ H l = some (.tup xs) ∧ xs ≠ [] ∧ Q (.ref l) H
theorem op_rep1 : OpR X (binaryOp .Mult) rRep1 := by
  intro pins s σ H x y v u Q I rx ry h
  obtain ⟨l, xs, rfl, rfl, hT, hne, q⟩ := h
  cases rx
  obtain ⟨t, rfl⟩ := ry
  obtain ⟨its, r, ⟨⟨cls, dd, data, sl⟩, ho, hc, n, hd⟩, hs⟩ := I.tuple (SqT.of hT)
  simp only at hc hd
  subst hc hd
  have hle : its.length = xs.length := r.length.symm
  have hi : its.toArray.isEmpty = false := by
    cases its with
    | nil => exact absurd (List.eq_nil_of_length_eq_zero hle.symm) hne
    | cons a b => rfl
  exact wpAny_binaryOp_repeat_ref (T := "tuple") (U := "int") (by decide) ⟨_, ho, rfl⟩ (fun s' => typeIs_int s' 1 t) noFill_tuple_mul F.fills_int_mul F.slot_int_rmul repeat_tuple F.slot_int_index.lookup
    (call_meets F.slot_int_rmul (typeIs_int s 1 t) F.entry_int_rmul (F.args_int_rmul_2 _ _) (int_rmul_tuple 1 t l its.toArray n dd sl)
      ⟨ho, rfl, ⟨_, ho, rfl⟩, call_meets F.slot_tuple_mul ⟨_, ho, rfl⟩ F.entry_tuple_mul (F.args_tuple_mul_2 _ _) (mul_tuple1 l its.toArray n dd sl t hi) ⟨ho, .ref l, H, I, rfl, q⟩⟩)
def rRepP : R2 := fun x y H Q => ∃ (l : Addr) (k : Int) (xs : List V), x = .ref l ∧ y = .int k ∧ H l = some (.tup xs) ∧ xs ≠ [] ∧ 1 ≤ k ∧ k ≤ 1000 ∧ xs.length ≤ 1000 ∧ ∀ p H', Same H H' → H' p = some (.tup (List.replicate k.toNat xs).flatten) → Q (.ref p) H'
theorem op_repP : OpR X (binaryOp .Mult) rRepP := by
  intro pins s σ H x y v u Q I rx ry h
  obtain ⟨l, k, xs, rfl, rfl, hT, hne, h1, h2, hz, q⟩ := h
  by_cases e : k = 1
  · subst e
    exact op_rep1 pins s σ H _ _ v u Q I rx ry ⟨l, xs, rfl, rfl, hT, hne, q l H (Same.refl H) (by
      show H l = some (.tup (xs ++ []))
      rw [List.append_nil]
      exact hT)⟩
  · exact op_repT pins s σ H _ _ v u Q I rx ry ⟨l, k, xs, rfl, rfl, SqT.of hT, hne, by omega, h2, hz, fun p hp => q p _ (Same.new hp) upd_same⟩
def rCatP : R2 := fun x y H Q => ∃ (a b : Addr) (xs ys : List V), x = .ref a ∧ y = .ref b ∧ H a = some (.tup xs) ∧ H b = some (.tup ys) ∧ xs.length + ys.length ≤ 1000 ∧ ∀ p H', Same H H' → H' p = some (.tup (xs ++ ys)) → Q (.ref p) H'
theorem op_catP : OpR X (binaryOp .Add) rCatP := by
  intro pins s σ H x y v u Q I rx ry h
  obtain ⟨a, b, xs, ys, rfl, rfl, ha, hb, hz, q⟩ := h
  exact op_catA pins s σ H _ _ v u Q I rx ry ⟨a, b, xs, ys, rfl, rfl, SqT.of ha, SqT.of hb, Nat.le_of_lt (len_lt hz), fun e => q b H (Same.refl H) (by rw [e, hb]; rfl), fun _ e => q a H (Same.refl H) (by rw [e, ha, List.append_nil]),
    fun _ _ p hp => q p _ (Same.new hp) upd_same⟩
def rSlP : V → Option Int → Option Int → Hp → VK → Prop := fun x lo hi H Q => ∃ (a : Addr) (xs : List V), x = .ref a ∧ H a = some (.tup xs) ∧ ∀ p H', Same H H' → H' p = some (.tup (cutV xs lo hi)) → Q (.ref p) H'
theorem sl_tupP : SlR X rSlP := by
  intro pins s σ H x v vl vu lo hi sl Q I rx hs pl pu h
  obtain ⟨a, xs, rfl, hx, q⟩ := h
  refine sl_tupA pins s σ H _ v vl vu lo hi sl Q I rx hs pl pu ⟨a, xs, rfl, SqT.of hx, fun e => q a H (Same.refl H) ?_, fun _ p hp => q p _ (Same.new hp) upd_same⟩
  unfold cutV
  rw [e.1, e.2, List.drop_zero, Nat.sub_zero, List.take_length]
  exact hx
end
theorem cutV_from (xs : List V) (k : Nat) : cutV xs (some (k : Int)) none = xs.drop k := by
  unfold cutV
  have e1 : HT.sIx xs.length 0 (some (k : Int)) = min k xs.length := HT.sIx_nat _ _ k
  have e2 : HT.sIx xs.length xs.length none = xs.length := rfl
  rw [e1, e2]
  rcases Nat.le_total k xs.length with h | h
  · rw [Nat.min_eq_left h, ← List.length_drop, List.take_length]
  · rw [Nat.min_eq_right h, List.drop_eq_nil_of_le h, List.drop_eq_nil_of_le (Nat.le_refl _), List.take_nil]
theorem cutV_to (xs : List V) (k : Nat) : cutV xs none (some (k : Int)) = xs.take k := by
  unfold cutV
  have e1 : HT.sIx xs.length 0 none = 0 := rfl
  have e2 : HT.sIx xs.length xs.length (some (k : Int)) = min k xs.length := HT.sIx_nat _ _ k
  rw [e1, e2, List.drop_zero, Nat.sub_zero]
  exact List.take_eq_take_min.symm
/-- what is no change: its kind, and that it is none -/
def BadV (d c : Addr) (H : Hp) (v : V) : Prop := (∃ (a : Addr) (xs : List V), v = .ref a ∧ H a = some (.tup xs) ∧ (∀ x ∈ xs, Itm x) ∧ xs.length ≤ 16 ∧ chB xs = false) ∨ v = .non ∨ (∃ i, v = .int i) ∨ (∃ s, v = .str s) ∨ ∃ (a : Addr) (xs : List V), v = .ref a ∧ H a = some (.lst xs) ∧ a ≠ d ∧ a ≠ c
theorem BadV.same {d c : Addr} {H H' : Hp} {v : V} (s : Same H H') (h : BadV d c H v) : BadV d c H' v := by
  rcases h with ⟨a, xs, e, h, r⟩ | e | e | e | ⟨a, xs, e, h, r⟩
  · exact .inl ⟨a, xs, e, s _ _ h, r⟩
  · exact .inr (.inl e)
  · exact .inr (.inr (.inl e))
  · exact .inr (.inr (.inr (.inl e)))
  · exact .inr (.inr (.inr (.inr ⟨a, xs, e, s _ _ h, r⟩)))
theorem BadV.kp {d c : Addr} {H H' : Hp} {v : V} (D : Dl H d c) (k : Kp d c H H') (h : BadV d c H v) : BadV d c H' v := by
  rcases h with ⟨a, xs, e, h, r⟩ | e | e | e | ⟨a, xs, e, h, r⟩
  · exact .inl ⟨a, xs, e, k _ _ (D.neT h).1 (D.neT h).2 h, r⟩
  · exact .inr (.inl e)
  · exact .inr (.inr (.inl e))
  · exact .inr (.inr (.inr (.inl e)))
  · exact .inr (.inr (.inr (.inr ⟨a, xs, e, k _ _ r.1 r.2 h, r⟩)))
theorem BadV.val {K : PySem.W.Frag} {d c : Addr} {H : Hp} {v : V} (h : BadV d c H v) : ∃ ms, ValT K H v ms ∧ isC ms = false := by
  rcases h with ⟨a, xs, e, h, h1, h2, h3⟩ | e | ⟨i, e⟩ | ⟨t, e⟩ | ⟨a, xs, e, h, r⟩
  · exact ⟨some xs, ⟨a, e, h, h1, h2⟩, h3⟩
  · subst e
    exact ⟨none, ⟨"NoneType", .base .non, by simp⟩, rfl⟩
  · subst e
    exact ⟨none, ⟨"int", .base (.int i), by simp⟩, rfl⟩
  · subst e
    exact ⟨none, ⟨"str", .base (.str t), by simp⟩, rfl⟩
  · subst e
    exact ⟨none, ⟨"list", .base (.lst h), by simp⟩, rfl⟩
theorem chB_nd {xs : List V} (h : ¬ xs.Nodup) : chB xs = false := by
  unfold chB
  rw [decide_eq_false h, Bool.and_false, Bool.and_false]
theorem chB_bel {xs : List V} {x : V} (hx : x ∈ xs) (h : belB (xs.length : Int) x = false) : chB xs = false := by
  unfold chB
  have : xs.all (belB (xs.length : Int)) = false := by
    rw [List.all_eq_false]
    exact ⟨x, hx, by rw [h]; decide⟩
  rw [this, Bool.false_and, Bool.and_false]
theorem chB_nil : chB [] = false := rfl
theorem itm_vi {c : List Nat} : ∀ x ∈ vi c, Itm x := fun x hx => by
  obtain ⟨m, _, rfl⟩ := List.mem_map.mp hx
  exact .inl ⟨_, rfl⟩
end KV

/-! the law: what is no change -/
namespace KV
open PySem PySem.Spec PyProof.Rows L2 KC
section
variable {P : Program} {w : World} {K : PySem.W.Frag} {mg : Str → Option Value} {base : Heap}
def spWro : Sp := fun vs H Q _ => ∃ (d c a : Addr) (n : Nat) (ch : List Nat), vs = [.ref d, .ref a] ∧ Dl H d c ∧ H a = some (.tup (vi ch)) ∧ Chg n ch ∧ 1 ≤ n ∧ n ≤ 9 ∧ ∀ v H', BadV d c H' v → Dl H' d c → Kp d c H H' → Q v H'

theorem sj39 : FnScope ["_law_deal", "_law_one", "_law_form", "_law_at"] ["_law_deal", "_law_one"] (defScope (top 46)) := ⟨rfl, rfl, rfl, by decide +kernel, rfl, by decide +kernel, by decide +kernel⟩
theorem ok_wro {f : Addr} {fd : FuncData} (B : Bl mg) (CA : Cal P w K mg base CX0 1 "_law_any" ["_law_deal", "_law_bound"] spAny) (CO : Cal P w K mg base CX0 2 "_law_of" ["_law_deal", "_law_some"] (spOf K)) (F : Fun K "_law_wrong" "_law_wrong" (top 46) f fd) : FnOk P w K mg base CX0 3 f fd ["_law_deal", "_law_one"] spWro := by
  refine F.ok sj39 (fun vs H Q E h => ?_) (fun cdv A outer s H vs Q E hr h => ⟨_,
    (pss_cons (ps_par (i := 2) (j := 3) rfl sj39.nd rfl rfl (by decide) rfl rfl (pa_cons (by exact (pe_cal (X := L2.Cx.nox _) CA hr (by decide) (pa_cons (pv 0) (pa_cons pe_int pa_nil)))) (pa_cons (by exact (pe_cal (X := L2.Cx.nox _) CA hr (by decide) (pa_cons (pv 0) (pa_cons (pe_callB call_len_seq (by rfl) B.len PySem.boot_len (pa_cons (pv 1) pa_nil)) pa_nil)))) pa_nil)) (by rfl))
    (pss_cons (ps_if (pt_cmpR op_eq (pv 2) pe_int (nomark _)) (pss_one (ps_ret (by exact (pe_cal (X := L2.Cx.nox _) CO hr (by decide) (pa_cons (pv 0) (pa_cons (pe_lst (pa_cons pe_non (pa_cons (pe_callTy call_list_of (by rfl) B.list (by decide +kernel) (pa_cons (pv 1) pa_nil)) (pa_cons pe_int (pa_cons (pe_op op_repS pe_str (pe_callB call_len_seq (by rfl) B.len PySem.boot_len (pa_cons (pv 1) pa_nil))) pa_nil))))) pa_nil)))))) pss_nil)
    (pss_cons (ps_if (pt_cmpR op_eq (pv 2) pe_int (nomark _)) (pss_one (ps_ret (pe_op op_catP (pe_op op_catP (pe_slice sl_tupP (pv 1) po_none (po_some (pv 3))) (pe_tup (pa_cons (by exact (pe_cal (X := L2.Cx.nox _) CO hr (by decide) (pa_cons (pv 0) (pa_cons (pe_lst (pa_cons (pe_un un_neg pe_int) (pa_cons (pe_callB call_len_seq (by rfl) B.len PySem.boot_len (pa_cons (pv 1) pa_nil)) (pa_cons pe_non (pa_cons pe_bl (pa_cons pe_bl (pa_cons pe_str pa_nil))))))) pa_nil)))) pa_nil))) (pe_slice sl_tupP (pv 1) (po_some (pe_op op_add (pv 3) pe_int)) po_none)))) pss_nil)
    (pss_one (ps_ret (pe_op op_catP (pv 1) (pe_tup (pa_cons (by exact (pe_cal (X := L2.Cx.nox _) CA hr (by decide) (pa_cons (pv 0) (pa_cons (pe_callB call_len_seq (by rfl) B.len PySem.boot_len (pa_cons (pv 1) pa_nil)) pa_nil)))) pa_nil)))))))), ?_⟩)
  · obtain ⟨d, c, a, n, ch, rfl, _⟩ := h
    rfl
  obtain ⟨d, c, a, n, ch, rfl, hD, ha, hc, n1, n9, q⟩ := h
  have ln : (vi ch).length = n := by rw [List.length_map, hc.len]
  refine ⟨_, rfl, d, c, 3, rfl, hD, by decide, by decide, fun r H1 r0 r1 D1 k1 => ⟨_, rfl, _, rfl, a, _, rfl, .inr (SqT.of (hD.kT k1 ha)), d, c, _, rfl, D1, by rw [ln]; omega, sm_of (by omega) (Int.lt_of_le_of_lt (show (((vi ch).length : Nat) : Int) ≤ 9 by rw [ln]; omega) (by decide)), fun j H2 j0 j1 D2 k2 => ⟨_, _, rfl, ?_⟩⟩⟩
  have a2 := D1.kT k2 (hD.kT k1 ha)
  have k2 := k1.trans k2
  rw [ln] at j1
  clear k1 D1
  dsimp only [gName]
  refine ⟨_, rfl, rfl, _, rfl, ?_⟩
  by_cases e0 : r = 0
  · refine iteP (by simp [e0]) ⟨_, rfl, _, rfl, a, _, rfl, .inr (SqT.of a2), fun l0 hl0 => ?_⟩
    have s3 : Same H2 (upd H2 l0 (.lst (vi ch))) := Same.new hl0
    have l03 : upd H2 l0 (.lst (vi ch)) l0 = some (.lst (vi ch)) := upd_same
    have l0d := D2.ne hl0
    generalize upd H2 l0 (.lst (vi ch)) = H3 at s3 l03
    refine ⟨_, rfl, a, _, rfl, .inr (SqT.of (s3 _ _ a2)), "0", _, rfl, rfl, by rw [ln]; omega, by rw [ln]; omega, rfl, fun y' => ⟨(by show 4 ≤ sizeLine; decide), fun l hl => ?_⟩⟩
    have s4 : Same H3 (upd H3 l (.lst [.non, .ref l0, .int 0, .str y'])) := Same.new hl
    have l4 : upd H3 l (.lst [.non, .ref l0, .int 0, .str y']) l = some (.lst [.non, .ref l0, .int 0, .str y']) := upd_same
    have ldn := (D2.same s3).ne hl
    generalize upd H3 l (.lst [.non, .ref l0, .int 0, .str y']) = H4 at s4 l4
    have D4 := (D2.same s3).same s4
    refine ⟨d, c, l, _, rfl, D4, ldn.1, ldn.2, SqL.of l4, by show 0 < 4; decide, by show 4 ≤ 1000; decide, fun j x H5 hx D5 k5 => q x H5 (BadV.kp D4 k5 ?_) D5 ((k2.trans (Kp.of (s3.trans s4))).trans k5)⟩
    have hx2 := List.mem_of_getElem? hx
    simp only [List.mem_cons, List.not_mem_nil, or_false] at hx2
    rcases hx2 with rfl | rfl | rfl | rfl
    · exact .inr (.inl rfl)
    · exact .inr (.inr (.inr (.inr ⟨l0, _, rfl, s4 _ _ l03, l0d.1, l0d.2⟩)))
    · exact .inr (.inr (.inl ⟨_, rfl⟩))
    · exact .inr (.inr (.inr (.inl ⟨_, rfl⟩)))
  refine iteN (by simp [e0]) ⟨_, rfl, rfl, _, rfl, ?_⟩
  by_cases e1 : r = 1
  · obtain ⟨m, rfl⟩ : ∃ m : Nat, j = (m : Int) := ⟨j.toNat, by omega⟩
    have mn : m < n := by omega
    refine iteP (by simp [e1]) ⟨_, rfl, _, rfl, _, rfl, a, _, rfl, a2, fun p3 H3 s3 h3 => ?_⟩
    have a3 := s3 _ _ a2
    refine ⟨_, rfl, _, rfl, _, rfl, a, _, rfl, .inr (SqT.of a3), (by show 6 ≤ sizeLine; decide), fun l hl => ?_⟩
    have D3 := D2.same s3
    have s4 : Same H3 (upd H3 l (.lst [(fun i => V.int (-i)) 1, .int ((((vi ch).length : Nat) : Int)), .non, .bl true, .bl false, .str "0"])) := Same.new hl
    have l4 : upd H3 l (.lst [(fun i => V.int (-i)) 1, .int ((((vi ch).length : Nat) : Int)), .non, .bl true, .bl false, .str "0"]) l = some (.lst [.int (-1), .int ((((vi ch).length : Nat) : Int)), .non, .bl true, .bl false, .str "0"]) := upd_same
    have ldn := D3.ne hl
    generalize upd H3 l (.lst [(fun i => V.int (-i)) 1, .int ((((vi ch).length : Nat) : Int)), .non, .bl true, .bl false, .str "0"]) = H4 at s4 l4
    have D4 := D3.same s4
    refine ⟨d, c, l, _, rfl, D4, ldn.1, ldn.2, SqL.of l4, by show 0 < 6; decide, by show 6 ≤ 1000; decide, fun j x H5 hx D5 k5 => ?_⟩
    have hx2 := List.mem_of_getElem? hx
    obtain ⟨ix, bx⟩ : Itm x ∧ belB (n : Int) x = false := by
      simp only [List.mem_cons, List.not_mem_nil, or_false] at hx2
      rcases hx2 with rfl | rfl | rfl | rfl | rfl | rfl
      · exact ⟨.inl ⟨_, rfl⟩, rfl⟩
      · refine ⟨.inl ⟨_, rfl⟩, ?_⟩
        show (decide (0 ≤ (((vi ch).length : Nat) : Int)) && decide ((((vi ch).length : Nat) : Int) < (n : Int))) = false
        rw [ln, decide_eq_false (show ¬ ((n : Int) < (n : Int)) by omega), Bool.and_false]
      · exact ⟨.inr (.inr (.inl rfl)), rfl⟩
      · exact ⟨.inr (.inl ⟨_, rfl⟩), rfl⟩
      · exact ⟨.inr (.inl ⟨_, rfl⟩), rfl⟩
      · exact ⟨.inr (.inr (.inr ⟨_, rfl⟩)), rfl⟩
    have h5 := D4.kT k5 (s4 _ _ h3)
    have a5 := D4.kT k5 (s4 _ _ a3)
    refine ⟨(by show 1 ≤ sizeLine; decide), fun p6 hp6 => ⟨p3, p6, _, _, rfl, rfl, Same.new hp6 _ _ h5, upd_same, ?_, fun p7 H7 s7 h7 => ?_⟩⟩
    · rw [cutV_to, List.length_take, ln]
      show min m n + 1 ≤ 1000
      omega
    have s57 : Same H5 H7 := (Same.new hp6).trans s7
    refine ⟨_, rfl, _, rfl, _, _, rfl, rfl, _, rfl, a, _, rfl, s57 _ _ a5, fun p8 H8 s8 h8 => ⟨p7, p8, _, _, rfl, rfl, s8 _ _ h7, h8, ?_, fun p9 H9 s9 h9 => ?_⟩⟩
    · rw [cutV_to, show ((m : Int) + 1) = ((m + 1 : Nat) : Int) from rfl, cutV_from]
      simp only [List.length_append, List.length_take, List.length_drop, List.length_singleton, ln]
      omega
    rw [cutV_to, show ((m : Int) + 1) = ((m + 1 : Nat) : Int) from rfl, cutV_from] at h9
    have s59 := (s57.trans s8).trans s9
    refine q _ _ (.inl ⟨p9, _, rfl, h9, fun y hy => ?_, ?_, chB_bel (x := x) (by simp) ?_⟩) (D5.same s59) ((((k2.trans (Kp.of (s3.trans s4))).trans k5)).trans (Kp.of s59))
    · have iv := itm_vi (c := ch)
      rcases List.mem_append.mp hy with hy | hy
      · rcases List.mem_append.mp hy with hy | hy
        · exact iv y (List.mem_of_mem_take hy)
        · rw [List.mem_singleton.mp hy]; exact ix
      · exact iv y (List.mem_of_mem_drop hy)
    · simp only [List.length_append, List.length_take, List.length_drop, List.length_singleton, ln]
      omega
    · have le : ((vi ch).take m ++ [x] ++ (vi ch).drop (m + 1)).length = n := by
        simp only [List.length_append, List.length_take, List.length_drop, List.length_singleton, ln]
        omega
      rw [le]
      exact bx
  · refine iteN (by simp [e1]) ⟨_, rfl, _, rfl, _, rfl, a, _, rfl, .inr (SqT.of a2), d, c, _, rfl, D2, by rw [ln]; omega, sm_of (by omega) (Int.lt_of_le_of_lt (show (((vi ch).length : Nat) : Int) ≤ 9 by rw [ln]; omega) (by decide)), fun x H3 x0 x1 D3 k3 => ⟨(by show 1 ≤ sizeLine; decide), fun p6 hp6 => ⟨a, p6, _, _, rfl, rfl, Same.new hp6 _ _ (D2.kT k3 a2), upd_same, by rw [ln]; show n + 1 ≤ 1000; omega, fun p7 H7 s7 h7 => ?_⟩⟩⟩
    obtain ⟨m, rfl⟩ : ∃ m : Nat, x = (m : Int) := ⟨x.toNat, by omega⟩
    rw [ln] at x1
    have s37 : Same H3 H7 := (Same.new hp6).trans s7
    have mm : V.int (m : Int) ∈ vi ch := by
      obtain ⟨i, hi, ei⟩ := hc.mem (show m < n by omega)
      have e2 := List.mem_of_getElem? (at_getD (c := ch) (i := i) (by rw [hc.len]; exact hi))
      rw [ei] at e2
      exact List.mem_map.mpr ⟨m, e2, rfl⟩
    refine q _ _ (.inl ⟨p7, _, rfl, h7, fun y hy => ?_, ?_, chB_nd fun nd => ?_⟩) (D3.same s37) ((k2.trans k3).trans (Kp.of s37))
    · rcases List.mem_append.mp hy with hy | hy
      · exact itm_vi y hy
      · rw [List.mem_singleton.mp hy]; exact .inl ⟨_, rfl⟩
    · rw [List.length_append, ln, List.length_singleton]; omega
    · rw [List.nodup_append] at nd
      exact nd.2.2 (V.int (m : Int)) mm (V.int (m : Int)) (by simp) rfl

end
end KV

/-! what the laws of couples keep -/
namespace KV
open PySem PySem.Spec PyProof.Rows L2 KC KP LamX
theorem Dl.neO {H : Hp} {d c p : Addr} {o : HO} (h : Dl H d c) (hp : H p = some o) (no : ∀ xs, o ≠ .lst xs) : p ≠ d ∧ p ≠ c := by
  obtain ⟨_, cs, b, h1, h2, _⟩ := h
  exact ⟨fun e => no _ (by rw [e, h1] at hp; exact (Option.some.inj hp).symm), fun e => no _ (by rw [e, h2] at hp; exact (Option.some.inj hp).symm)⟩
theorem Tabs.kp {T : List (Addr × Str)} {H H' : Hp} {d c : Addr} (hT : Tabs T H) (D : Dl H d c) (k : Kp d c H H') : Tabs T H' := fun p hp => by
  obtain ⟨ps, h1, h2, h3⟩ := hT p hp
  have n1 := D.neO h1 (fun _ z => by cases z)
  refine ⟨ps, k _ _ n1.1 n1.2 h1, h2, fun pos cv hc => ?_⟩
  obtain ⟨c', e1, e2⟩ := h3 pos cv hc
  have n2 := D.neO e2 (fun xs z => by unfold CodeO at z; cases z)
  exact ⟨c', e1, k _ _ n2.1 n2.2 e2⟩
/-- what stands through a turn -/
structure LW9 (d c Pt a b m : Addr) (n : Nat) (ch eh : List Nat) (M : Nat) (H : Hp) : Prop where
  dl : Dl H d c
  two : Two H a b n ch eh
  mks : H m = some (.lst ((bsM n ch eh M).map V.bl))
  md : m ≠ d ∧ m ≠ c
  tb : Tabs [(Pt, qR)] H
theorem LW9.same {d c Pt a b m : Addr} {n : Nat} {ch eh : List Nat} {M : Nat} {H H' : Hp} (h : LW9 d c Pt a b m n ch eh M H) (s : Same H H') : LW9 d c Pt a b m n ch eh M H' := ⟨h.dl.same s, h.two.same s, s _ _ h.mks, h.md, h.tb.ext s⟩
theorem LW9.kp {d c Pt a b m : Addr} {n : Nat} {ch eh : List Nat} {M : Nat} {H H' : Hp} (h : LW9 d c Pt a b m n ch eh M H) (D : Dl H' d c) (k : Kp d c H H') : LW9 d c Pt a b m n ch eh M H' := ⟨D, h.two.kp h.dl k, k _ _ h.md.1 h.md.2 h.mks, h.md, Tabs.kp h.tb h.dl k⟩
theorem LW9.ext {d c Pt a b m : Addr} {n : Nat} {ch eh : List Nat} {M : Nat} {H H' : Hp} (h : LW9 d c Pt a b m n ch eh M H) (s : ExtN H H') (T : Tabs [(Pt, qR)] H') : LW9 d c Pt a b m n ch eh M H' := ⟨h.dl.ext s, h.two.keep fun b xs e => s _ _ e (fun _ z => by cases z), s _ _ h.mks (fun _ z => by cases z), h.md, T⟩
theorem take_bl {l : List Bool} {i : Nat} {x : Bool} (h : l[i]? = some x) : (l.take (i + 1)).map V.bl = (l.take i).map V.bl ++ [.bl x] := by
  rw [tk_at h, List.map_append]
  rfl
theorem bl_at {bs : List Bool} {k : Int} {x : Bool} (h0 : 0 ≤ k) (h : bs[k.toNat]? = some x) : atI (bs.map V.bl) k = some (.bl x) := by
  have hl := (List.getElem?_eq_some_iff.mp h).1
  unfold atI L2.ixN
  rw [if_pos h0, if_pos (by rw [List.length_map]; omega)]
  show (bs.map V.bl)[k.toNat]? = _
  rw [List.getElem?_map, h]
  rfl
/-- .. with the rests -/
structure LR (d c Pt a b m r : Addr) (n : Nat) (ch eh : List Nat) (M dd : Nat) (H : Hp) : Prop where
  w : LW9 d c Pt a b m n ch eh M H
  rs : H r = some (.lst (vi (rsts n ch eh dd)))
  rn : r ≠ d ∧ r ≠ c
theorem LR.same {d c Pt a b m r : Addr} {n : Nat} {ch eh : List Nat} {M dd : Nat} {H H' : Hp} (h : LR d c Pt a b m r n ch eh M dd H) (s : Same H H') : LR d c Pt a b m r n ch eh M dd H' := ⟨h.w.same s, s _ _ h.rs, h.rn⟩
theorem LR.kp {d c Pt a b m r : Addr} {n : Nat} {ch eh : List Nat} {M dd : Nat} {H H' : Hp} (h : LR d c Pt a b m r n ch eh M dd H) (D : Dl H' d c) (k : Kp d c H H') : LR d c Pt a b m r n ch eh M dd H' := ⟨h.w.kp D k, k _ _ h.rn.1 h.rn.2 h.rs, h.rn⟩
theorem LR.ext {d c Pt a b m r : Addr} {n : Nat} {ch eh : List Nat} {M dd : Nat} {H H' : Hp} (h : LR d c Pt a b m r n ch eh M dd H) (s : ExtN H H') (T : Tabs [(Pt, qR)] H') : LR d c Pt a b m r n ch eh M dd H' := ⟨h.w.ext s T, s _ _ h.rs (fun _ z => by cases z), h.rn⟩
theorem dp_bools {K : PySem.W.Frag} {H : Hp} : ∀ bs : List Bool, DpAll K H (bs.map V.bl) (bs.map PyData.bool)
  | [] => .nil
  | b :: r => .cons (.bl b) (dp_bools r)
theorem eqv_bools : ∀ bs : List Bool, PyData.eqvAll (bs.map PyData.bool) (bs.map PyData.bool) = true
  | [] => rfl
  | b :: r => by
    show (PyData.eqv (.bool b) (.bool b) && PyData.eqvAll (r.map PyData.bool) (r.map PyData.bool)) = true
    rw [eqv_bools r, Bool.and_true]
    cases b <;> decide
theorem lay_bools : ∀ bs : List Bool, PyData.canLayAll0 (bs.map PyData.bool) = true
  | [] => rfl
  | b :: r => by
    simp only [List.map_cons, PyData.canLayAll0]
    rw [lay_bools r]
    rfl
theorem depth_bools : ∀ bs : List Bool, PyData.depthAll (bs.map PyData.bool) = 0
  | [] => rfl
  | b :: r => by
    simp only [List.map_cons, PyData.depthAll, PyData.depth]
    rw [depth_bools r]
    rfl
theorem shaped_bools (bs : List Bool) : SeqAt.shaped (.list (bs.map PyData.bool)) = true := by
  unfold SeqAt.shaped
  rw [Bool.and_eq_true, decide_eq_true_eq]
  refine ⟨lay_bools bs, ?_⟩
  simp only [PyData.depth, depth_bools]
  omega
theorem neB {K : PySem.W.Frag} {H : Hp} {a b : Addr} {bs : List Bool} {Q : VK} (h1 : H a = some (.lst (bs.map V.bl))) (h2 : H b = some (.lst (bs.map V.bl))) (q : Q (.bl false) H) : rNeD K (.ref a) (.ref b) H Q := by
  refine ⟨_, _, .lst (SqL.of h1) (dp_bools bs), .lst (SqL.of h2) (dp_bools bs), shaped_bools bs, shaped_bools bs, ?_⟩
  have z : PyData.eqv (.list (bs.map PyData.bool)) (.list (bs.map PyData.bool)) = true := eqv_bools bs
  rw [z]
  exact q
theorem flat_bl (l : List Bool) : ∀ q : Nat, (List.replicate q (l.map V.bl)).flatten = ((List.replicate q l).flatten).map V.bl
  | 0 => rfl
  | q + 1 => by rw [List.replicate_succ, List.replicate_succ, List.flatten_cons, List.flatten_cons, List.map_append, flat_bl l q]
theorem flat_len {l : List V} : ∀ q : Nat, (List.replicate q l).flatten.length = l.length * q
  | 0 => rfl
  | q + 1 => by rw [List.replicate_succ, List.flatten_cons, List.length_append, flat_len q, Nat.mul_succ, Nat.add_comm]
theorem logN {k : Nat} (h : k < 2 ^ 100) : (k : Int).natAbs.log2 < 1920 := log_sm (sm_nat h) (by decide) (by decide)
theorem inV_no {L : List Nat} {i : Int} (h : ∀ m ∈ L, (m : Int) ≠ i) : inV (.int i) (vi L) = false := by
  unfold inV
  rw [List.any_eq_false]
  intro y hy
  obtain ⟨m, hm, rfl⟩ := List.mem_map.mp hy
  show ¬ (((m : Nat) : Int) == i) = true
  simp [h m hm]
theorem flat_vi (L : List Nat) : (vi L).all flatV = true := by
  rw [List.all_eq_true]
  intro y hy
  obtain ⟨m, _, rfl⟩ := List.mem_map.mp hy
  rfl
theorem vi_last {L : List Nat} (h : L ≠ []) : ∃ x ∈ L, atI (vi L) (-1) = some (.int (x : Int)) := by
  refine ⟨L.getLast h, List.getLast_mem h, ?_⟩
  have e := List.dropLast_concat_getLast h
  have z : vi L = ((zi L.dropLast) ++ [((L.getLast h : Nat) : Int)]).map V.int := by
    rw [vi_zi]
    congr 1
    have := congrArg zi e
    rw [← this]
    unfold zi
    rw [List.map_append]
    rfl
  rw [z]
  exact at_last
theorem isCh_of {ms : Option (List V)} (s : Int) (h : isC ms = false) : isCh s ms = false := by
  cases ms with
  | none => rfl
  | some xs =>
    show (decide ((xs.length : Int) = s) && chB xs) = false
    rw [show chB xs = false from h, Bool.and_false]
/-- the text of a tuple of numbers -/
def TX (c : List Nat) : Str := (PyData.tuple ((zi c).map PyData.int)).shown
theorem rpL {K : PySem.W.Frag} {σ : L2.St} {H : Hp} {t : Addr} {c : List Nat} {Q : VK} (h : H t = some (.tup (vi c))) (hb : ∀ x ∈ c, x < 2 ^ 100) (hl : c.length ≤ 1000) (q : Q (.str (TX c)) H) : tNil σ H fun xs H2 => rRepr K (V.ref t :: xs) H2 Q := by
  have logs : ∀ i ∈ zi c, i.natAbs.log2 < 1920 := fun i hi => by
    obtain ⟨m, hm, rfl⟩ := List.mem_map.mp hi
    exact logN (hb m hm)
  exact .inr (.inr ⟨t, zi c, rfl, SqT.of (by rw [← vi_zi]; exact h), logs, shown_len logs (by rw [show (zi c).length = c.length from List.length_map ..]; exact hl), q⟩)
end KV

/-! counts that suit: the next one, how many below -/
namespace KC
def rstF (f : Int → Bool) (m : Nat) : List Nat := (List.range m).filter fun k => f (k : Int)
def cntF (f : Int → Bool) (m : Nat) : Nat := (rstF f m).length
theorem rstF_next (f : Int → Bool) (i : Nat) : rstF f (i + 1) = rstF f i ++ (if f (i : Int) = true then [i] else []) := by
  unfold rstF
  rw [List.range_succ, List.filter_append]
  by_cases z : f (i : Int) = true
  · simp [z]
  · simp [z]
theorem cntF_next (f : Int → Bool) (i : Nat) : cntF f (i + 1) = cntF f i + (if f (i : Int) = true then 1 else 0) := by
  unfold cntF
  rw [rstF_next, List.length_append]
  by_cases z : f (i : Int) = true
  · rw [if_pos z, if_pos z]
    rfl
  · rw [if_neg z, if_neg z]
    rfl
def ziF (c : List Nat) : List Int := c.map fun (n : Nat) => (n : Int)
theorem rstF_below (f : Int → Bool) (j : Nat) : ∀ m : Nat, j ≤ m → ((ziF (rstF f m)).filter fun r => decide (r < (j : Int))).length = cntF f j
  | 0, h => by
    have : j = 0 := by omega
    subst this
    rfl
  | m + 1, h => by
    by_cases e : j = m + 1
    · subst e
      rw [List.filter_eq_self.mpr fun x hx => ?_]
      · unfold ziF cntF
        rw [List.length_map]
      · unfold ziF at hx
        obtain ⟨k, hk, rfl⟩ := List.mem_map.mp hx
        unfold rstF at hk
        have := List.mem_range.mp (List.mem_filter.mp hk).1
        exact decide_eq_true (by omega)
    · have z := rstF_below f j m (by omega)
      rw [rstF_next]
      unfold ziF at z ⊢
      rw [List.map_append, List.filter_append, List.length_append, z]
      have : (((if f (m : Int) = true then [m] else []).map fun (n : Nat) => (n : Int)).filter fun r => decide (r < (j : Int))) = [] := by
        refine List.filter_eq_nil_iff.mpr fun x hx => ?_
        obtain ⟨k, hk, rfl⟩ := List.mem_map.mp hx
        have : k = m := by
          by_cases z : f (m : Int) = true
          · rw [if_pos z] at hk
            exact List.mem_singleton.mp hk
          · rw [if_neg z] at hk
            cases hk
        rw [decide_eq_true_eq]
        omega
      rw [this]
      rfl
/-- how many from 0 on lie below b -/
def blw (f : Int → Bool) (m : Nat) (b : Int) : Int := b / (m : Int) * (cntF f m : Int) + (cntF f (b % (m : Int)).toNat : Int)
section
variable {f : Int → Bool} {m : Nat}
theorem blw_zero : blw f m 0 = 0 := by
  unfold blw
  rw [Int.zero_ediv, Int.zero_emod, Int.zero_mul]
  rfl
theorem blw_next (m0 : 0 < m) (per : ∀ k, f (k % (m : Int)) = f k) (b : Int) : blw f m (b + 1) = blw f m b + (if f b = true then 1 else 0) := by
  have a := Int.emod_nonneg b (show (m : Int) ≠ 0 by omega)
  have b1 := Int.emod_lt_of_pos b (show (0 : Int) < (m : Int) by omega)
  have e := Int.mul_ediv_add_emod b (m : Int)
  obtain ⟨j, hj⟩ : ∃ j : Nat, b % (m : Int) = (j : Int) := ⟨(b % (m : Int)).toNat, by omega⟩
  have fb : f b = f (j : Int) := by rw [← per b, hj]
  rw [hj] at b1 e
  unfold blw
  rw [hj, fb]
  by_cases z : j + 1 < m
  · have d1 : (b + 1) / (m : Int) = b / (m : Int) := by
      rw [show b + 1 = ((j + 1 : Nat) : Int) + (m : Int) * (b / (m : Int)) by omega, Int.add_mul_ediv_left _ _ (by omega), Int.ediv_eq_zero_of_lt (by omega) (by omega), Int.zero_add]
    have d2 : (b + 1) % (m : Int) = ((j + 1 : Nat) : Int) := by
      rw [show b + 1 = ((j + 1 : Nat) : Int) + (m : Int) * (b / (m : Int)) by omega, Int.add_mul_emod_self_left, Int.emod_eq_of_lt (by omega) (by omega)]
    rw [d1, d2, Int.toNat_natCast, Int.toNat_natCast, cntF_next]
    split <;> omega
  · have jm : j + 1 = m := by omega
    have d1 : (b + 1) / (m : Int) = b / (m : Int) + 1 := by
      rw [show b + 1 = 0 + (m : Int) * (b / (m : Int) + 1) by rw [Int.mul_add]; omega, Int.add_mul_ediv_left _ _ (by omega), Int.zero_ediv, Int.zero_add]
    have d2 : (b + 1) % (m : Int) = 0 := by
      rw [show b + 1 = 0 + (m : Int) * (b / (m : Int) + 1) by rw [Int.mul_add]; omega, Int.add_mul_emod_self_left, Int.zero_emod]
    have d3 : cntF f m = cntF f j + (if f (j : Int) = true then 1 else 0) := by rw [← jm, cntF_next]
    have d4 : cntF f (0 : Int).toNat = 0 := rfl
    rw [d1, d2, d4, Int.toNat_natCast, Int.add_mul]
    split at d3 <;> rename_i y <;> simp only [y, if_true, if_false, Bool.false_eq_true] <;> omega
theorem blw_eq {M : Nat} (m0 : 0 < m) (M0 : 0 < M) (per : ∀ k, f (k % (m : Int)) = f k) (perM : ∀ k, f (k % (M : Int)) = f k) (b : Int) : blw f m b = blw f M b := by
  have up : ∀ k : Nat, blw f m (k : Int) = blw f M (k : Int) ∧ blw f m (-(k : Int)) = blw f M (-(k : Int)) := fun k => by
    induction k with
    | zero => exact ⟨by rw [show ((0 : Nat) : Int) = 0 from rfl, blw_zero, blw_zero], by rw [show -((0 : Nat) : Int) = 0 from rfl, blw_zero, blw_zero]⟩
    | succ k ih =>
      refine ⟨?_, ?_⟩
      · rw [show ((k + 1 : Nat) : Int) = (k : Int) + 1 by omega, blw_next m0 per, blw_next M0 perM, ih.1]
      · have a := blw_next m0 per (-((k + 1 : Nat) : Int))
        have b := blw_next M0 perM (-((k + 1 : Nat) : Int))
        rw [show -((k + 1 : Nat) : Int) + 1 = -(k : Int) by omega] at a b
        have := ih.2
        omega
  rcases Int.le_total 0 b with h | h
  · have := (up b.toNat).1
    rwa [show ((b.toNat : Nat) : Int) = b by omega] at this
  · have := (up (-b).toNat).2
    rwa [show -(((-b).toNat : Nat) : Int) = b by omega] at this
theorem blw_mono (m0 : 0 < m) (per : ∀ k, f (k % (m : Int)) = f k) {a b : Int} (h : a ≤ b) : blw f m a ≤ blw f m b := by
  have up : ∀ k : Nat, blw f m a ≤ blw f m (a + (k : Int)) := fun k => by
    induction k with
    | zero => rw [show a + ((0 : Nat) : Int) = a by omega]; exact Int.le_refl _
    | succ k ih =>
      rw [show a + ((k + 1 : Nat) : Int) = a + (k : Int) + 1 by omega, blw_next m0 per]
      split <;> omega
  have := up (b - a).toNat
  rwa [show a + (((b - a).toNat : Nat) : Int) = b by omega] at this
/-- t is the least from n on -/
def Nxt (f : Int → Bool) (n t : Int) : Prop := n ≤ t ∧ f t = true ∧ ∀ k, n ≤ k → k < t → f k = false
theorem Nxt.uniq {n t u : Int} (h : Nxt f n t) (g : Nxt f n u) : t = u := by
  have a : ¬ t < u := fun z => by have := g.2.2 t h.1 z; rw [h.2.1] at this; cases this
  have b : ¬ u < t := fun z => by have := h.2.2 u g.1 z; rw [g.2.1] at this; cases this
  omega
theorem Nxt.lt {n t : Int} (h : Nxt f n t) (m0 : 0 < m) (per : ∀ k, f (k % (m : Int)) = f k) (f0 : f 0 = true) : t < n + (m : Int) := by
  have a := Int.emod_nonneg (-n) (show (m : Int) ≠ 0 by omega)
  have b := Int.emod_lt_of_pos (-n) (show (0 : Int) < (m : Int) by omega)
  have e := Int.mul_ediv_add_emod (-n) (m : Int)
  have fj : f (n + -n % (m : Int)) = true := by
    rw [← per, show n + -n % (m : Int) = 0 + (m : Int) * (-(-n / (m : Int))) by rw [Int.mul_neg]; omega, Int.add_mul_emod_self_left, Int.zero_emod]
    exact f0
  by_cases z : n + -n % (m : Int) < t
  · have := h.2.2 _ (by omega) z
    rw [fj] at this
    cases this
  · omega
def nextL (R : List Int) (m n : Int) : Int := n - n % m + ((R.find? fun r => decide (n % m ≤ r)).getD m)
theorem nxt_next (m0 : 0 < m) (per : ∀ k, f (k % (m : Int)) = f k) (f0 : f 0 = true) (n : Int) : Nxt f n (nextL (ziF (rstF f m)) (m : Int) n) := by
  have a := Int.emod_nonneg n (show (m : Int) ≠ 0 by omega)
  have b1 := Int.emod_lt_of_pos n (show (0 : Int) < (m : Int) by omega)
  have e := Int.mul_ediv_add_emod n (m : Int)
  have sh : ∀ j : Int, f (n - n % (m : Int) + j) = f j := fun j => by
    rw [← per (n - n % (m : Int) + j), show n - n % (m : Int) + j = j + (m : Int) * (n / (m : Int)) by omega, Int.add_mul_emod_self_left, per]
  have mem : ∀ r ∈ ziF (rstF f m), 0 ≤ r ∧ r < (m : Int) ∧ f r = true := fun r hr => by
    unfold ziF at hr
    obtain ⟨k, hk, rfl⟩ := List.mem_map.mp hr
    unfold rstF at hk
    obtain ⟨k1, k2⟩ := List.mem_filter.mp hk
    have := List.mem_range.mp k1
    exact ⟨by omega, by omega, k2⟩
  have mem2 : ∀ r : Int, 0 ≤ r → r < (m : Int) → f r = true → r ∈ ziF (rstF f m) := fun r r0 rm fr => by
    unfold ziF
    refine List.mem_map.mpr ⟨r.toNat, ?_, by omega⟩
    unfold rstF
    refine List.mem_filter.mpr ⟨List.mem_range.mpr (by omega), ?_⟩
    rw [show ((r.toNat : Nat) : Int) = r by omega]
    exact fr
  have so : (ziF (rstF f m)).Pairwise (· < ·) := by
    unfold ziF
    rw [List.pairwise_map]
    unfold rstF
    exact (List.pairwise_lt_range.sublist List.filter_sublist).imp fun lt => by omega
  unfold nextL
  cases h : (ziF (rstF f m)).find? fun r => decide (n % (m : Int) ≤ r) with
  | some r =>
    have hr : n % (m : Int) ≤ r := of_decide_eq_true (List.find?_some (p := fun r => decide (n % (m : Int) ≤ r)) h)
    obtain ⟨r0, rm, fr⟩ := mem r (List.mem_of_find?_eq_some h)
    refine ⟨by show n ≤ n - n % (m : Int) + r; omega, by show f (n - n % (m : Int) + r) = true; rw [sh]; exact fr, fun k k1 k2 => ?_⟩
    have k2 : k < n - n % (m : Int) + r := k2
    cases q : f k with
    | false => rfl
    | true =>
      have e2 := sh (k - (n - n % (m : Int)))
      rw [show n - n % (m : Int) + (k - (n - n % (m : Int))) = k by omega, q] at e2
      have km := mem2 (k - (n - n % (m : Int))) (by omega) (by omega) e2.symm
      obtain ⟨l1, l2, hl, hno⟩ := List.find?_eq_some_iff_append.mp h |>.2
      rw [hl] at km so
      rcases List.mem_append.mp km with y | y
      · have := hno _ y
        simp at this
        omega
      · rcases List.mem_cons.mp y with y | y
        · omega
        · have := (List.pairwise_cons.mp (List.pairwise_append.mp so).2.1).1 _ y
          omega
  | none =>
    have no := List.find?_eq_none.mp h
    refine ⟨by show n ≤ n - n % (m : Int) + (m : Int); omega, by show f (n - n % (m : Int) + (m : Int)) = true; rw [sh, ← per (m : Int), Int.emod_self]; exact f0, fun k k1 k2 => ?_⟩
    have k2 : k < n - n % (m : Int) + (m : Int) := k2
    cases q : f k with
    | false => rfl
    | true =>
      have e2 := sh (k - (n - n % (m : Int)))
      rw [show n - n % (m : Int) + (k - (n - n % (m : Int))) = k by omega, q] at e2
      have km := mem2 (k - (n - n % (m : Int))) (by omega) (by omega) e2.symm
      have := no _ km
      simp at this
      omega
end
def below (R : List Int) (Q b : Int) : Int := b / Q * (R.length : Int) + ((R.filter fun r => decide (r < b % Q)).length : Int)
theorem below_rst {f : Int → Bool} {m : Nat} (m0 : 0 < m) (b : Int) : below (ziF (rstF f m)) (m : Int) b = blw f m b := by
  have a := Int.emod_nonneg b (show (m : Int) ≠ 0 by omega)
  have b1 := Int.emod_lt_of_pos b (show (0 : Int) < (m : Int) by omega)
  unfold below blw
  have z := rstF_below f (b % (m : Int)).toNat m (by omega)
  rw [show (((b % (m : Int)).toNat : Nat) : Int) = b % (m : Int) by omega] at z
  rw [z]
  congr 2
  unfold ziF cntF
  rw [List.length_map]
end KC

/-! the program: the next count that suits, how many suit between -/
namespace KV
open PySem PySem.Spec PyProof.Rows L2 KC KP LamX
section
variable {P : Program} {w : World} {K : PySem.W.Frag} {mg : Str → Option Value} {base : Heap} {C : Addr}
theorem find_at {α : Type} {f : α → Bool} : ∀ {l : List α} {i : Nat} {x : α}, l[i]? = some x → f x = true → (∀ y ∈ l.take i, f y = false) → l.find? f = some x
  | [], i, x, h, _, _ => by simp at h
  | a :: l, 0, x, h, hx, _ => by
    have e : a = x := Option.some.inj h
    subst e
    rw [List.find?_cons, hx]
  | a :: l, i + 1, x, h, hx, hp => by
    have ha := hp a (by simp)
    rw [List.find?_cons, ha]
    exact find_at (l := l) (i := i) h hx fun y hy => hp y (by rw [List.take_succ_cons]; exact List.mem_cons_of_mem _ hy)
theorem div_sm {b m : Int} {k : Nat} (hm : 0 < m) (h : sm k b) : sm k (b / m) := by
  show (b / m).natAbs < 2 ^ k
  have h1 : b.natAbs < 2 ^ k := h
  have e : (b / m).natAbs ≤ b.natAbs := Int.natAbs_ediv_le_natAbs b m
  omega
/-- what a list filtered so far holds -/
theorem filt_at {f : Int → Bool} {l : List Int} {i : Nat} {x : Int} (h : l[i]? = some x) : (l.take (i + 1)).filter f = (l.take i).filter f ++ if f x = true then [x] else [] := by
  rw [take_at3 h, List.filter_append]
  congr 1
  by_cases z : f x = true
  · rw [if_pos z, List.filter_cons_of_pos z]
    rfl
  · rw [if_neg z, List.filter_cons_of_neg z]
    rfl
def spNextL (K : PySem.W.Frag) : Sp := fun vs H Q _ => ∃ (a : Addr) (R : List Int) (m n : Int), vs = [.ref a, .int m, .int n] ∧ SqT K H a (R.map V.int) ∧ 0 < m ∧ Q (.int (nextL R m n)) H
theorem sc27 : FnScope ["rests", "whole", "count", "start", "rest"] ["rests", "whole", "count"] (defScope (top 27)) := ⟨rfl, rfl, rfl, by decide +kernel, rfl, by decide +kernel, by decide +kernel⟩
theorem ok_nextL {f : Addr} {fd : FuncData} (F : Fun K "next_leaving" "next_leaving" (top 27) f fd) : FnOk P w K mg base CX0 1 f fd ["rests", "whole", "count"] (spNextL K) := by
  refine F.ok sc27 (fun vs H Q E h => ?_) (fun cdv A outer s H vs Q E hr h => ⟨_,
    pss_cons (ps_set (i := 3) sc27.nd rfl (.inl rfl) (pe_op op_sub (pv 2) (pe_op op_mod (pv 2) (pv 1))))
    (pss_cons (ps_for PassesOwn.never rfl (pi_tup (pv 0)) (pg_name (i := 4) sc27.nd rfl (.inl rfl))
      (pss_one (ps_if (pt_cmpR op_ge (pe_op op_add (pv 3) (pv 4)) (pv 2) (nomark _)) (pss_one (ps_ret (pe_op op_add (pv 3) (pv 4)))) pss_nil)))
    (pss_one (ps_ret (pe_op op_add (pv 3) (pv 1))))), ?_⟩)
  · obtain ⟨a, R, m, n, rfl, _⟩ := h
    rfl
  obtain ⟨a, R, m, n, rfl, hS, pp, q⟩ := h
  refine ⟨_, rfl, _, rfl, _, rfl, _, _, rfl, rfl, pp, _, _, rfl, rfl, ?_⟩
  refine ⟨_, rfl, a, rfl, ⟨_, hS⟩, for_tup (xs := R.map V.int) (fun i σ H2 => (∃ u : Option V, (∀ r ∈ R.take i, decide (n % m ≤ r) = false) ∧
      σ = [some (.ref a), some (.int m), some (.int n), some (.int (n - n % m)), u]) ∧ H2 = H) ⟨⟨none, fun r hr => by simp at hr, rfl⟩, rfl⟩ ?_ ?_ ?_⟩
  · rintro i σ H2 _ ⟨_, rfl⟩
    exact hS
  · rintro i x σ H2 hx ⟨⟨u, hu, rfl⟩, rfl⟩
    obtain ⟨r, hr', rfl⟩ := map_at hx
    refine ⟨_, rfl, _, rfl, _, _, rfl, rfl, _, rfl, _, _, rfl, rfl, _, rfl, ?_⟩
    by_cases z : n % m ≤ r
    · have e : decide (n ≤ n - n % m + r) = true := decide_eq_true (by omega)
      rw [e]
      refine iteT ⟨_, rfl, _, rfl, _, _, rfl, rfl, ?_⟩
      have e2 : nextL R m n = n - n % m + r := by
        unfold nextL
        rw [find_at hr' (decide_eq_true z) hu]
        rfl
      rw [e2] at q
      exact q
    · have e : decide (n ≤ n - n % m + r) = false := decide_eq_false (by omega)
      rw [e]
      refine iteF ⟨⟨some (.int r), fun r' h' => ?_, rfl⟩, rfl⟩
      rw [take_at3 hr'] at h'
      rcases List.mem_append.mp h' with h' | h'
      · exact hu r' h'
      · have : r' = r := by simpa using h'
        rw [this]
        exact decide_eq_false z
  · rintro σ H2 ⟨⟨u, hu, rfl⟩, rfl⟩
    rw [List.length_map, List.take_length] at hu
    refine ⟨_, rfl, _, rfl, _, _, rfl, rfl, ?_⟩
    have e2 : nextL R m n = n - n % m + m := by
      unfold nextL
      rw [List.find?_eq_none.mpr fun r hr => by rw [hu r hr]; exact Bool.false_ne_true]
      rfl
    rw [e2] at q
    exact q
def spLBel (K : PySem.W.Frag) : Sp := fun vs H Q _ => ∃ (a : Addr) (R : List Int) (m b : Int), vs = [.ref a, .int m, .int b] ∧ SqT K H a (R.map V.int) ∧ R.length ≤ 1000 ∧ 0 < m ∧ sm 401 m ∧ sm 500 b ∧ ∀ H', Same H H' → Q (.int (below R m b)) H'
theorem sc29 : FnScope ["rests", "whole", "bound", "rounds", "left", "rest"] ["rests", "whole", "bound"] (defScope (top 29)) := ⟨rfl, rfl, rfl, by decide +kernel, rfl, by decide +kernel, by decide +kernel⟩
theorem ok_lbel {f : Addr} {fd : FuncData} (B : Bl mg) (F : Fun K "_leaving_below" "_leaving_below" (top 29) f fd) : FnOk P w K mg base CX0 1 f fd ["rests", "whole", "bound"] (spLBel K) := by
  refine F.ok sc29 (fun vs H Q E h => ?_) (fun cdv A outer s H vs Q E hr h => ⟨_,
    pss_cons (ps_asg (pe_callB call_divmodW (by rfl) B.divmod (by decide +kernel) (pa_cons (pv 2) (pa_cons (pv 1) pa_nil))) (pg_tup rfl (pgs_cons (pg_name (i := 3) sc29.nd rfl (.inl rfl)) (pgs_cons (pg_name (i := 4) sc29.nd rfl (.inr rfl)) pgs_nil))))
    (pss_one (ps_ret (pe_op op_add (pe_op op_mulW (pv 3) (pe_callB call_len_seq (by rfl) B.len PySem.boot_len (pa_cons (pv 0) pa_nil)))
      (pe_callB call_len_seq (by rfl) B.len PySem.boot_len (pa_cons
        (pe_lc (own := [("rest", 5)]) (g := gName 5) rfl sc29.nd (pi_tup (pv 0)) (blkOk_by (N := ["rests", "whole", "bound", "rounds", "left", "rest"]) (sc := defScope (top 29)) (by decide +kernel))
          (fun _ _ _ _ _ => pg_name (i := 5) sc29.nd rfl (Or.inl rfl)) (fun _ _ _ _ _ => pts_one (pt_cmpR op_lt (pv 5) (pv 4) (nomark _))) (fun _ _ _ _ _ => pv 5)) pa_nil))))), ?_⟩)
  · obtain ⟨a, R, m, b, rfl, _⟩ := h
    rfl
  obtain ⟨a, R, m, b, rfl, hS, hl, hm, sm1, sb, q⟩ := h
  refine ⟨_, rfl, _, rfl, _, _, rfl, divp_ok hm ?_, fun p hp => ⟨_, _, rfl, SqT.of upd_same, rfl, _, _, rfl, _, _, rfl, rfl, ?_⟩⟩
  · have := PyProof.Rows.intBits_le (show b.natAbs < 2 ^ 500 from sb)
    omega
  have s1 : Same H (L2.upd H p (.tup [.int (b / m), .int (b % m)])) := Same.new hp
  refine ⟨_, rfl, _, rfl, a, _, rfl, .inr (Same.seqT s1 hS), _, _, rfl, rfl, mulW (div_sm hm sb) (show sm 10 _ from ?_) (by decide) (by decide) (by decide), ?_⟩
  · show (((R.map V.int).length : Nat) : Int).natAbs < 2 ^ 10
    rw [List.length_map]
    omega
  refine ⟨_, rfl, a, rfl, ⟨_, Same.seqT s1 hS⟩, fun D hD => lc_tup (xs := R.map V.int) (fun i H' => Same (L2.upd H p (.tup [.int (b / m), .int (b % m)])) H' ∧ H' D = some (.lst (((R.take i).filter fun r => decide (r < b % m)).map V.int)))
    ⟨Same.new hD, upd_same⟩ (fun i H' _ z => Same.seqT (s1.trans z.1) hS) ?_ ?_⟩
  · rintro i x H' hx ⟨p1, p2⟩
    obtain ⟨r, hr', rfl⟩ := map_at hx
    refine ⟨rfl, _, rfl, _, rfl, _, _, rfl, rfl, _, rfl, ?_⟩
    have fa := filt_at (f := fun r => decide (r < b % m)) hr'
    by_cases z : r < b % m
    · rw [if_pos (decide_eq_true z)] at fa
      rw [decide_eq_true z]
      refine iteT ⟨_, rfl, _, p2, ?_, Same.upd p1 hD, ?_⟩
      · refine len_lt ?_
        rw [List.length_map]
        have := List.length_filter_le (fun r => decide (r < b % m)) (R.take i)
        rw [List.length_take] at this
        omega
      · rw [upd_same, fa, List.map_append]
        rfl
    · rw [if_neg (by rw [decide_eq_false z]; exact Bool.false_ne_true), List.append_nil] at fa
      rw [decide_eq_false z]
      refine iteF ⟨p1, ?_⟩
      rw [fa]
      exact p2
  · rintro H' ⟨p1, p2⟩
    rw [List.length_map, List.take_length] at p2
    refine ⟨D, _, rfl, .inl (SqL.of p2), _, _, rfl, rfl, ?_⟩
    rw [List.length_map, List.length_map]
    exact q _ (s1.trans p1)
def spBetwL (K : PySem.W.Frag) : Sp := fun vs H Q _ => ∃ (a : Addr) (R : List Int) (m lo hi : Int), vs = [.ref a, .int m, .int lo, .int hi] ∧ SqT K H a (R.map V.int) ∧ R.length ≤ 1000 ∧ 0 < m ∧ sm 401 m ∧ sm 500 lo ∧ sm 500 hi ∧ ∀ H', Same H H' → Q (.int (if lo ≥ hi then 0 else below R m hi - below R m lo)) H'
theorem sc28 : FnScope ["rests", "whole", "low", "high"] ["rests", "whole", "low", "high"] (defScope (top 28)) := ⟨rfl, rfl, rfl, by decide +kernel, rfl, by decide +kernel, by decide +kernel⟩
theorem ok_betwL {f : Addr} {fd : FuncData} (CB : Cal P w K mg base CX0 1 "_leaving_below" ["rests", "whole", "bound"] (spLBel K)) (F : Fun K "leaving_between" "leaving_between" (top 28) f fd) : FnOk P w K mg base CX0 2 f fd ["rests", "whole", "low", "high"] (spBetwL K) := by
  refine F.ok sc28 (fun vs H Q E h => ?_) (fun cdv A outer s H vs Q E hr h => ⟨_,
    pss_cons (ps_if (pt_cmpR op_ge (pv 2) (pv 3) (nomark _)) (pss_one (ps_ret pe_int)) pss_nil)
    (pss_one (ps_ret (pe_op op_sub (by exact (pe_cal (X := L2.Cx.nox _) CB hr (by decide) (pa_cons (pv 0) (pa_cons (pv 1) (pa_cons (pv 3) pa_nil))))) (by exact (pe_cal (X := L2.Cx.nox _) CB hr (by decide) (pa_cons (pv 0) (pa_cons (pv 1) (pa_cons (pv 2) pa_nil)))))))), ?_⟩)
  · obtain ⟨a, R, m, lo, hi, rfl, _⟩ := h
    rfl
  obtain ⟨a, R, m, lo, hi, rfl, hS, hl, hm, sm1, slo, shi, q⟩ := h
  refine ⟨_, rfl, _, rfl, _, _, rfl, rfl, _, rfl, ?_⟩
  by_cases z : hi ≤ lo
  · rw [decide_eq_true z]
    refine iteT ?_
    have qq := q _ (Same.refl H)
    rw [if_pos z] at qq
    exact qq
  · rw [decide_eq_false z]
    refine iteF ⟨_, rfl, _, rfl, _, rfl, a, R, m, hi, rfl, hS, hl, hm, sm1, shi, fun H2 h2 => ?_⟩
    refine ⟨_, rfl, _, rfl, _, rfl, a, R, m, lo, rfl, Same.seqT h2 hS, hl, hm, sm1, slo, fun H3 h3 => ?_⟩
    refine ⟨_, _, rfl, rfl, ?_⟩
    have qq := q _ (h2.trans h3)
    rw [if_neg z] at qq
    exact qq
theorem vi_ziF (c : List Nat) : vi c = (ziF c).map V.int := by
  unfold vi ziF
  rw [List.map_map]
  rfl
theorem rsts_F (n : Nat) (c e : List Nat) (d : Nat) : rsts n c e d = rstF (sui n c e) d := rfl
theorem rsts_len (n : Nat) (c e : List Nat) (d : Nat) : (rsts n c e d).length ≤ d := by
  have := List.length_filter_le (fun k : Nat => sui n c e (k : Int)) (List.range d)
  rwa [List.length_range] at this
def spNS (K : PySem.W.Frag) (C Pt : Addr) : Sp := fun vs H Q E => (∃ (v u : V) (k : Int) (n : Nat) (c e : List Nat) (M : Nat), vs = [v, u, .int k] ∧ Good n H v c ∧ Good n H u e ∧ Idl n c e M ∧ 0 < M ∧ M ≤ 1000 ∧ Tabs [(Pt, qR)] H ∧ ∀ H' t, ExtN H H' → Tabs [(Pt, qR)] H' → Nxt (sui n c e) k t → k ≤ t → t < k + (M : Int) + 1 → Q (.int t) H') ∨
  ∃ (v u : V) (k : Int) (ms us : Option (List V)), vs = [v, u, .int k] ∧ ValT K H v ms ∧ ValT K H u us ∧ Ref2 ms us ∧ Bad C H E
theorem sc34 : FnScope ["one", "other", "count"] ["one", "other", "count"] (defScope (top 34)) := ⟨rfl, rfl, rfl, by decide +kernel, rfl, by decide +kernel, by decide +kernel⟩
theorem ok_ns {f : Addr} {fd : FuncData} {Pt : Addr} (CN : Cal P w K mg base CX0 1 "next_leaving" ["rests", "whole", "count"] (spNextL K)) (CRs : Cal P w K mg base (L2.CX P w) 12 "couple_rests" ["one", "other"] (spCRs K C Pt)) (CCR : Cal P w K mg base (L2.CX P w) 11 "couple_round" ["one", "other"] (spCRd K C Pt)) (F : Fun K "next_suiting" "next_suiting" (top 34) f fd) : FnOk P w K mg base (L2.CX P w) 13 f fd ["one", "other", "count"] (spNS K C Pt) := by
  refine F.okX sc34 (fun vs H Q E h => ?_) (fun cdv A outer s H vs Q E hr h => ⟨_,
    (pss_one (ps_ret (by exact (pe_cal CN hr (by decide) (pa_cons (by exact (pe_calX CRs hr (by decide) (takes_of rfl rfl rfl rfl) (fun _ _ _ _ z => z) (pa_cons (pv 0) (pa_cons (pv 1) pa_nil)))) (pa_cons (by exact (pe_calX CCR hr (by decide) (takes_of rfl rfl rfl rfl) (fun _ _ _ _ z => z) (pa_cons (pv 0) (pa_cons (pv 1) pa_nil)))) (pa_cons (pv 2) pa_nil))))))), ?_⟩)
  · rcases h with ⟨v, u, k, n, c, e, M, rfl, _⟩ | ⟨v, u, k, ms, us, rfl, _⟩ <;> rfl
  rcases h with ⟨v, u, k, n, c, e, M, rfl, g1, g2, hI, M0, Mb, hT, q⟩ | ⟨v, u, k, ms, us, rfl, h1, h2, bad, b⟩
  · refine ⟨_, rfl, _, rfl, .inl ⟨v, u, n, c, e, M, rfl, g1, g2, hI, M0, Mb, hT, fun H1 d t E1 T1 rd ht => ?_⟩⟩
    obtain ⟨_, _, _, hc, _⟩ := id g1
    obtain ⟨_, _, _, he, _⟩ := id g2
    refine ⟨_, rfl, _, rfl, .inl ⟨v, u, n, c, e, rfl, g1.ext E1, g2.ext E1, T1, fun H2 d2 E2 T2 rd2 => ?_⟩⟩
    rw [rd2.uniq rd hc he]
    have dM := Nat.le_of_dvd M0 (Int.natCast_dvd_natCast.mp ((rd.dvd hc he _).mp (hI.dblM hc he)))
    have nx := nxt_next rd.d0 (rd.mod hc he) (sui0 hc he) k
    have lt := nx.lt rd.d0 (rd.mod hc he) (sui0 hc he)
    exact ⟨_, rfl, t, ziF (rsts n c e d), (d : Int), k, rfl, by rw [← vi_ziF]; exact SqT.of (E2 _ _ ht (fun _ z => by cases z)), (by have := rd.d0; omega), q _ _ (E1.trans E2) T2 nx nx.1 (by rw [rsts_F]; omega)⟩
  · exact ⟨_, rfl, _, rfl, .inr ⟨v, u, ms, us, rfl, h1, h2, bad, b⟩⟩

/-- how many suit from lo on, below hi -/
def btw (n : Nat) (c e : List Nat) (M : Nat) (lo hi : Int) : Int := if lo ≥ hi then 0 else blw (sui n c e) M hi - blw (sui n c e) M lo
def spSB (K : PySem.W.Frag) (C Pt : Addr) : Sp := fun vs H Q E => (∃ (v u : V) (lo hi : Int) (n : Nat) (c e : List Nat) (M : Nat), vs = [v, u, .int lo, .int hi] ∧ Good n H v c ∧ Good n H u e ∧ Idl n c e M ∧ 0 < M ∧ M ≤ 1000 ∧ sm 500 lo ∧ sm 500 hi ∧ Tabs [(Pt, qR)] H ∧ ∀ H', ExtN H H' → Tabs [(Pt, qR)] H' → Q (.int (btw n c e M lo hi)) H') ∨
  ∃ (v u : V) (lo hi : Int) (ms us : Option (List V)), vs = [v, u, .int lo, .int hi] ∧ ValT K H v ms ∧ ValT K H u us ∧ Ref2 ms us ∧ Bad C H E
theorem sc35 : FnScope ["one", "other", "low", "high"] ["one", "other", "low", "high"] (defScope (top 35)) := ⟨rfl, rfl, rfl, by decide +kernel, rfl, by decide +kernel, by decide +kernel⟩
theorem ok_sb {f : Addr} {fd : FuncData} {Pt : Addr} (CN : Cal P w K mg base CX0 2 "leaving_between" ["rests", "whole", "low", "high"] (spBetwL K)) (CRs : Cal P w K mg base (L2.CX P w) 12 "couple_rests" ["one", "other"] (spCRs K C Pt)) (CCR : Cal P w K mg base (L2.CX P w) 11 "couple_round" ["one", "other"] (spCRd K C Pt)) (F : Fun K "suiting_between" "suiting_between" (top 35) f fd) : FnOk P w K mg base (L2.CX P w) 13 f fd ["one", "other", "low", "high"] (spSB K C Pt) := by
  refine F.okX sc35 (fun vs H Q E h => ?_) (fun cdv A outer s H vs Q E hr h => ⟨_,
    (pss_one (ps_ret (by exact (pe_cal CN hr (by decide) (pa_cons (by exact (pe_calX CRs hr (by decide) (takes_of rfl rfl rfl rfl) (fun _ _ _ _ z => z) (pa_cons (pv 0) (pa_cons (pv 1) pa_nil)))) (pa_cons (by exact (pe_calX CCR hr (by decide) (takes_of rfl rfl rfl rfl) (fun _ _ _ _ z => z) (pa_cons (pv 0) (pa_cons (pv 1) pa_nil)))) (pa_cons (pv 2) (pa_cons (pv 3) pa_nil)))))))), ?_⟩)
  · rcases h with ⟨v, u, lo, hi, n, c, e, M, rfl, _⟩ | ⟨v, u, lo, hi, ms, us, rfl, _⟩ <;> rfl
  rcases h with ⟨v, u, lo, hi, n, c, e, M, rfl, g1, g2, hI, M0, Mb, slo, shi, hT, q⟩ | ⟨v, u, lo, hi, ms, us, rfl, h1, h2, bad, b⟩
  · refine ⟨_, rfl, _, rfl, .inl ⟨v, u, n, c, e, M, rfl, g1, g2, hI, M0, Mb, hT, fun H1 d t E1 T1 rd ht => ?_⟩⟩
    obtain ⟨_, _, _, hc, _⟩ := id g1
    obtain ⟨_, _, _, he, _⟩ := id g2
    refine ⟨_, rfl, _, rfl, .inl ⟨v, u, n, c, e, rfl, g1.ext E1, g2.ext E1, T1, fun H2 d2 E2 T2 rd2 => ?_⟩⟩
    rw [rd2.uniq rd hc he]
    have dM := Nat.le_of_dvd M0 (Int.natCast_dvd_natCast.mp ((rd.dvd hc he _).mp (hI.dblM hc he)))
    have d0 := rd.d0
    have be : ∀ b, below (ziF (rsts n c e d)) (d : Int) b = blw (sui n c e) M b := fun b => by
      rw [rsts_F, below_rst d0, blw_eq d0 M0 (rd.mod hc he) (hI.mod hc he)]
    have ll : (ziF (rsts n c e d)).length ≤ 1000 := by
      have := rsts_len n c e d
      unfold ziF
      rw [List.length_map]
      omega
    refine ⟨_, rfl, _, rfl, t, ziF (rsts n c e d), (d : Int), lo, hi, rfl, by rw [← vi_ziF]; exact SqT.of (E2 _ _ ht (fun _ z => by cases z)), ll, by omega, sm_nat (by omega), slo, shi, fun H3 s3 => ?_⟩
    rw [be, be]
    exact q _ ((E1.trans E2).trans (ExtN.of s3)) (T2.ext s3)
  · exact ⟨_, rfl, _, rfl, .inr ⟨v, u, ms, us, rfl, h1, h2, bad, b⟩⟩

end
end KV

/-! the law: all refuse -/
namespace KV
open PySem PySem.Spec PyProof.Rows L2 KC KP LamX
section
variable {P : Program} {w : World} {K : PySem.W.Frag} {mg : Str → Option Value} {base : Heap} {C fI : Addr}
def spAsk (K : PySem.W.Frag) : Sp := fun vs H Q _ => ∃ (v u : V) (ms us : Option (List V)), vs = [v, u] ∧ ValT K H v ms ∧ ValT K H u us ∧ Ref2 ms us ∧ ∀ l H', Same H H' → H' l = some (.lst [.int 0, .int 0]) → Q (.ref l) H'
theorem sc47 : FnScope ["_law_one", "_law_other", "_law_found", "e", "how"] ["_law_one", "_law_other"] (defScope (top 47)) := ⟨rfl, rfl, rfl, by decide +kernel, rfl, by decide +kernel, by decide +kernel⟩
theorem ok_ask {f : Addr} {fd : FuncData} {Pt : Addr} (T : PySem.LowX.LowTxt K mg "InvalidChange" "InvalidChange.__init__" C fI) (CNS : Cal P w K mg base (L2.CX P w) 13 "next_suiting" ["one", "other", "count"] (spNS K C Pt)) (CSB : Cal P w K mg base (L2.CX P w) 13 "suiting_between" ["one", "other", "low", "high"] (spSB K C Pt)) (F : Fun K "_law_asked" "_law_asked" (top 47) f fd) : FnOk P w K mg base CX0 14 f fd ["_law_one", "_law_other"] (spAsk K) := by
  refine F.ok sc47 (fun vs H Q E h => ?_) (fun cdv A outer s H vs Q E hr h => ⟨_,
    (pss_cons (ps_set (i := 2) sc47.nd rfl (.inl rfl) (pe_lst pa_nil))
    (pss_cons (ps_try_as (i := 3) (Wout := fun _ _ _ _ => False) (ts := fun a cls d => tDrop (tBM K "list" rAppend (tVar 2) (tCons (tByLow C a cls d (tVar 3)) tNil))) rfl rfl sc47.nd rfl rfl ⟨rfl, by decide, Or.inl T.gC⟩ L2.takes0 (fun W pn xe tk _ => pss_one (ps_expr (pe_calS CNS hr (by decide) (fun σ => passAt tk σ) (pa_cons (pv 0) (pa_cons (pv 1) (pa_cons pe_int pa_nil)))))) (fun a oe cls d pn hz hf => by exact (pss_one (ps_expr (pe_bm PySem.F.plainAttrs_list PySem.F.slot_list_append PySem.F.type_list_append mt_append (pv 2) (pa_cons (pe_byLow T hz hf (pv 3)) pa_nil))))))
    (pss_cons (ps_try_as (i := 4) (Wout := fun _ _ _ _ => False) (ts := fun a cls d => tDrop (tBM K "list" rAppend (tVar 2) (tCons (tByLow C a cls d (tVar 4)) tNil))) rfl rfl sc47.nd rfl rfl ⟨rfl, by decide, Or.inl T.gC⟩ L2.takes0 (fun W pn xe tk _ => pss_one (ps_expr (pe_calS CSB hr (by decide) (fun σ => passAt tk σ) (pa_cons (pv 0) (pa_cons (pv 1) (pa_cons pe_int (pa_cons pe_int pa_nil))))))) (fun a oe cls d pn hz hf => by exact (pss_one (ps_expr (pe_bm PySem.F.plainAttrs_list PySem.F.slot_list_append PySem.F.type_list_append mt_append (pv 2) (pa_cons (pe_byLow T hz hf (pv 4)) pa_nil))))))
    (pss_one (ps_ret (pv 2)))))), ?_⟩)
  · obtain ⟨v, u, ms, us, rfl, _⟩ := h
    rfl
  obtain ⟨v, u, ms, us, rfl, hv, hu, bad, q⟩ := h
  refine ⟨(by show 0 ≤ sizeLine; decide), fun l hl => ?_⟩
  have s1 : Same H (upd H l (.lst [])) := Same.new hl
  have l1 : upd H l (.lst []) l = some (.lst []) := upd_same
  generalize upd H l (.lst []) = H1 at s1 l1
  have step : ∀ {G : Hp} {xs : List V} {d : Addr} {G' : Hp}, Same H G → G l = some (.lst xs) → Same G G' → G' d = none → Same H (upd (upd G' d (.xd [(("at" : Str), .int 0)])) l (.lst (xs ++ [.int 0]))) ∧ upd (upd G' d (.xd [(("at" : Str), .int 0)])) l (.lst (xs ++ [.int 0])) l = some (.lst (xs ++ [.int 0])) := fun a b c e => ⟨Same.upd ((a.trans c).trans (Same.new e)) hl, upd_same⟩
  refine ⟨_, rfl, _, rfl, .inr ⟨v, u, 5, ms, us, rfl, hv.same s1, hu.same s1, bad, fun G d s2 hd => ⟨true, T.te, fun _ a0 ha0 => ?_, fun z => Bool.noConfusion z⟩⟩⟩
  have g2 := (s2.trans (Same.new (o := .xd [(("at" : Str), .int 0)]) hd)) _ _ l1
  refine ⟨_, rfl, .inl ⟨rfl, _, SqL.of g2⟩, _, rfl, rfl, rfl, d, _, rfl, upd_same, l, _, _, rfl, rfl, g2, len_lt (by decide), ?_⟩
  obtain ⟨s2, l2⟩ := step s1 l1 s2 hd
  generalize upd (upd G d (.xd [(("at" : Str), .int 0)])) l (.lst ([] ++ [.int 0])) = H2 at s2 l2
  clear s1 l1 g2 hd ha0
  refine ⟨_, rfl, _, rfl, .inr ⟨v, u, 0, 5, ms, us, rfl, hv.same s2, hu.same s2, bad, fun G d s3 hd => ⟨true, T.te, fun _ a0 ha0 => ?_, fun z => Bool.noConfusion z⟩⟩⟩
  have g2 := (s3.trans (Same.new (o := .xd [(("at" : Str), .int 0)]) hd)) _ _ l2
  refine ⟨_, rfl, .inl ⟨rfl, _, SqL.of g2⟩, _, rfl, rfl, rfl, d, _, rfl, upd_same, l, _, _, rfl, rfl, g2, len_lt (by decide), ?_⟩
  obtain ⟨s3, l3⟩ := step s2 l2 s3 hd
  exact ⟨_, rfl, q l _ s3 l3⟩
end
end KV

/-! the law: a count, how many below -/
namespace KV
open PySem PySem.Spec PyProof.Rows L2 KC KP LamX
section
variable {P : Program} {w : World} {K : PySem.W.Frag} {mg : Str → Option Value} {base : Heap}
theorem smi {k : Nat} {i : Int} (h : i.natAbs < 2 ^ 10) (hk : 10 ≤ k) : sm k i := sm_mono h hk
def spCountF : Sp := fun vs H Q _ => ∃ (d c : Addr) (M : Nat), vs = [.ref d, .int (M : Int)] ∧ Dl H d c ∧ M ≤ 1000 ∧ ∀ n H', sm 120 n → Dl H' d c → Kp d c H H' → Q (.int n) H'
theorem sc48 : FnScope ["_law_deal", "_law_many", "_law_form"] ["_law_deal", "_law_many"] (defScope (top 48)) := ⟨rfl, rfl, rfl, by decide +kernel, rfl, by decide +kernel, by decide +kernel⟩
theorem ok_countF {f : Addr} {fd : FuncData} (B : Bl mg) (CA : Cal P w K mg base CX0 1 "_law_any" ["_law_deal", "_law_bound"] spAny) (CO : Cal P w K mg base CX0 2 "_law_of" ["_law_deal", "_law_some"] (spOf K)) (F : Fun K "_law_count" "_law_count" (top 48) f fd) : FnOk P w K mg base CX0 3 f fd ["_law_deal", "_law_many"] spCountF := by
  refine F.ok sc48 (fun vs H Q E h => ?_) (fun cdv A outer s H vs Q E hr h => ⟨_,
    (pss_cons (ps_set (i := 2) sc48.nd rfl (.inl rfl) (by exact (pe_cal (X := L2.Cx.nox _) CA hr (by decide) (pa_cons (pv 0) (pa_cons pe_int pa_nil)))))
    (pss_cons (ps_if (pt_cmpR op_eq (pv 2) pe_int (nomark _)) (pss_one (ps_ret (pe_op op_sub (by exact (pe_cal (X := L2.Cx.nox _) CA hr (by decide) (pa_cons (pv 0) (pa_cons pe_int pa_nil)))) pe_int))) pss_nil)
    (pss_cons (ps_if (pt_cmpR op_eq (pv 2) pe_int (nomark _)) (pss_one (ps_ret (pe_op op_sub (pe_op op_add (pe_op op_mulW (pv 1) (pe_op op_sub (by exact (pe_cal (X := L2.Cx.nox _) CA hr (by decide) (pa_cons (pv 0) (pa_cons pe_int pa_nil)))) pe_int)) (by exact (pe_cal (X := L2.Cx.nox _) CA hr (by decide) (pa_cons (pv 0) (pa_cons pe_int pa_nil))))) pe_int))) pss_nil)
    (pss_one (ps_ret (pe_op op_mulW (by exact (pe_cal (X := L2.Cx.nox _) CO hr (by decide) (pa_cons (pv 0) (pa_cons (pe_lst (pa_cons pe_int (pa_cons (pe_un un_neg pe_int) pa_nil))) pa_nil)))) (by exact (pe_cal (X := L2.Cx.nox _) CA hr (by decide) (pa_cons (pv 0) (pa_cons (pe_op op_pow pe_int pe_int) pa_nil)))))))))), ?_⟩)
  · obtain ⟨d, c, M, rfl, _⟩ := h
    rfl
  obtain ⟨d, c, M, rfl, hD, hM, q⟩ := h
  refine ⟨_, rfl, d, c, 3, rfl, hD, by decide, by decide, fun fm H1 f0 f1 hD1 k1 => ?_⟩
  dsimp only [gName]
  refine ⟨_, rfl, rfl, _, rfl, ?_⟩
  by_cases z0 : fm = 0
  · refine iteP (by simp [z0]) ⟨_, rfl, d, c, 121, rfl, hD1, by decide, by decide, fun r H2 r0 r1 hD2 k2 => ⟨_, _, rfl, rfl, q _ _ (smi (by show (r - 60).natAbs < 2 ^ 10; omega) (by decide)) hD2 (k1.trans k2)⟩⟩
  · refine iteN (by simp [z0]) ⟨_, rfl, rfl, _, rfl, ?_⟩
    by_cases z1 : fm = 1
    · refine iteP (by simp [z1]) ⟨_, rfl, _, rfl, d, c, 7, rfl, hD1, by decide, by decide, fun r H2 r0 r1 hD2 k2 => ⟨_, _, rfl, rfl, _, _, rfl, rfl, mulW (j := 10) (k := 10) (smi (by omega) (by decide)) (smi (by show (r - 3).natAbs < 2 ^ 10; omega) (by decide)) (by decide) (by decide) (by decide), _, rfl, d, c, 5, rfl, hD2, by decide, by decide, fun r3 H3 r30 r31 hD3 k3 => ⟨_, _, rfl, rfl, _, _, rfl, rfl, q _ _ ?_ hD3 ((k1.trans k2).trans k3)⟩⟩⟩
      have s1 : sm 20 ((M : Int) * (r - 3)) := sm_mul (show sm 10 _ from smi (by omega) (by decide)) (show sm 10 _ from smi (by show (r - 3).natAbs < 2 ^ 10; omega) (by decide))
      have s2 : sm 21 ((M : Int) * (r - 3) + r3) := sm_add s1 (smi (by show r3.natAbs < 2 ^ 10; omega) (by decide))
      have s3 : sm 22 ((M : Int) * (r - 3) + r3 - 2) := sm_sub s2 (smi (by decide) (by decide))
      exact sm_mono s3 (by decide)
    · refine iteN (by simp [z1]) ⟨_, rfl, _, rfl, (by show 2 ≤ sizeLine; decide), fun a ha => ⟨d, c, a, _, rfl, hD1.same (Same.new ha), (hD1.ne ha).1, (hD1.ne ha).2, SqL.of upd_same, by decide, by decide, fun j x H4 hx hD4 k4 => ?_⟩⟩
      obtain ⟨m, hm1, rfl⟩ := map_at (ns := [1, -1]) hx
      have hm2 := List.mem_of_getElem? hm1
      have hm3 : m.natAbs < 2 ^ 10 := by
        simp at hm2
        rcases hm2 with rfl | rfl <;> decide
      refine ⟨_, rfl, _, _, rfl, rfl, ⟨by decide, by decide, by decide⟩, d, c, _, rfl, hD4, by decide, by decide, fun r H5 r0 r1 hD5 k5 => ?_⟩
      have sr : sm 100 r := sm_of r0 (Int.lt_trans r1 (by decide))
      refine ⟨_, _, rfl, rfl, mulW (j := 10) (smi hm3 (by decide)) sr (by decide) (by decide) (by decide), q _ _ ?_ hD5 ((k1.new ha).trans (k4.trans k5))⟩
      exact sm_mono (sm_mul (show sm 10 m from smi hm3 (by decide)) sr) (by decide)

/-- the true ones of marks -/
theorem bs_true (n : Nat) (c e : List Nat) (M : Nat) : ((bsM n c e M).filter fun b => b).length = cntF (sui n c e) M := by
  unfold bsM cntF rstF
  rw [List.filter_map, List.length_map]
  rfl
theorem bl_fil {l : List Bool} {i : Nat} {b : Bool} (h : l[i]? = some b) : (l.take (i + 1)).filter (fun b => b) = (l.take i).filter (fun b => b) ++ (if b = true then [b] else []) := by
  rw [tk_at h, List.filter_append]
  cases b <;> rfl
theorem bl_map {l : List Bool} {i : Nat} {x : V} (h : (l.map V.bl)[i]? = some x) : ∃ b, l[i]? = some b ∧ x = .bl b := by
  rw [List.getElem?_map] at h
  cases e : l[i]? with
  | none => rw [e] at h; cases h
  | some t => rw [e] at h; exact ⟨t, rfl, (Option.some.inj h).symm⟩
def spLBw (K : PySem.W.Frag) : Sp := fun vs H Q _ => ∃ (a : Addr) (n : Nat) (c e : List Nat) (M : Nat) (b : Int), vs = [.ref a, .int b] ∧ H a = some (.lst ((bsM n c e M).map V.bl)) ∧ 0 < M ∧ M ≤ 1000 ∧ sm 500 b ∧ ∀ H', Same H H' → Q (.int (blw (sui n c e) M b)) H'
theorem sc45 : FnScope ["_law_marks_here", "_law_n", "_law_rounds", "_law_rest", "_law_mark"] ["_law_marks_here", "_law_n"] (defScope (top 45)) := ⟨rfl, rfl, rfl, by decide +kernel, rfl, by decide +kernel, by decide +kernel⟩
theorem ok_lbw {f : Addr} {fd : FuncData} (B : Bl mg) (F : Fun K "_law_below" "_law_below" (top 45) f fd) : FnOk P w K mg base CX0 1 f fd ["_law_marks_here", "_law_n"] (spLBw K) := by
  refine F.ok sc45 (fun vs H Q E h => ?_) (fun cdv A outer s H vs Q E hr h => ⟨_,
    (pss_cons (ps_set (i := 2) sc45.nd rfl (.inl rfl) (pe_op op_fdivW (pv 1) (pe_callB call_len_seq (by rfl) B.len PySem.boot_len (pa_cons (pv 0) pa_nil))))
    (pss_cons (ps_set (i := 3) sc45.nd rfl (.inl rfl) (pe_op op_sub (pv 1) (pe_op op_mulW (pv 2) (pe_callB call_len_seq (by rfl) B.len PySem.boot_len (pa_cons (pv 0) pa_nil)))))
    (pss_one (ps_ret (pe_op op_add (pe_op op_mulW (pv 2) (pe_callB call_len_seq (by rfl) B.len PySem.boot_len (pa_cons (pe_lc (own := [("_law_mark", 4)]) (g := gName 4) rfl sc45.nd (pi_list (pv 0)) (blkOk_by (N := ["_law_marks_here", "_law_n", "_law_rounds", "_law_rest", "_law_mark"]) (sc := defScope (top 45)) (by decide +kernel))
        (fun _ _ _ _ _ => (pg_name (i := 4) sc45.nd rfl (Or.inl rfl))) (fun _ _ _ _ _ => (pts_one (pt_val (pv 4)))) (fun _ _ _ _ _ => (pv 4))) pa_nil))) (pe_callB call_len_seq (by rfl) B.len PySem.boot_len (pa_cons (pe_lc (own := [("_law_mark", 4)]) (g := gName 4) rfl sc45.nd (pi_list (pe_slice sl_list (pv 0) po_none (po_some (pv 3)))) (blkOk_by (N := ["_law_marks_here", "_law_n", "_law_rounds", "_law_rest", "_law_mark"]) (sc := defScope (top 45)) (by decide +kernel))
        (fun _ _ _ _ _ => (pg_name (i := 4) sc45.nd rfl (Or.inl rfl))) (fun _ _ _ _ _ => (pts_one (pt_val (pv 4)))) (fun _ _ _ _ _ => (pv 4))) pa_nil))))))), ?_⟩)
  · obtain ⟨a, n, c, e, M, b, rfl, _⟩ := h
    rfl
  obtain ⟨a, n, c, e, M, b, rfl, ha, M0, Mb, sb, q⟩ := h
  have lm : ((bsM n c e M).map V.bl).length = M := by rw [List.length_map, bs_len]
  have M1 : (0 : Int) < (M : Int) := by omega
  refine ⟨_, rfl, _, rfl, a, _, rfl, .inl (SqL.of ha), _, _, rfl, rfl, ?_⟩
  rw [lm]
  refine ⟨divW M1 (sm_nat (k := 20) (by omega)) (by decide) (by decide), ?_⟩
  dsimp only [gName]
  refine ⟨_, rfl, _, rfl, _, rfl, a, _, rfl, .inl (SqL.of ha), _, _, rfl, rfl, ?_⟩
  rw [lm]
  refine ⟨mulW (div_sm M1 sb) (sm_nat (k := 20) (by omega)) (by decide) (by decide) (by decide), _, _, rfl, rfl, ?_⟩
  dsimp only [gName]
  have er : b - b / (M : Int) * (M : Int) = b % (M : Int) := by
    rw [Int.emod_def, Int.mul_comm]
  rw [er]
  refine ⟨_, rfl, _, rfl, a, rfl, ⟨_, SqL.of ha⟩, fun D hD => lc_list (xs := (bsM n c e M).map V.bl) (fun i H' => Same H H' ∧ H' D = some (.lst ((((bsM n c e M).take i).filter fun b => b).map V.bl))) ⟨Same.new hD, upd_same⟩ (fun i H' _ z => SqL.of (z.1 _ _ ha)) ?_ ?_⟩
  · rintro i x H' hx ⟨p1, p2⟩
    obtain ⟨t, ht, rfl⟩ := bl_map hx
    refine ⟨rfl, _, rfl, _, rfl, ?_⟩
    rw [bl_fil ht]
    cases t with
    | true =>
      refine iteP rfl ⟨_, rfl, _, p2, len_lt ?_, Same.upd p1 hD, ?_⟩
      · rw [List.length_map]
        have := List.length_filter_le (fun b => b) ((bsM n c e M).take i)
        rw [List.length_take] at this
        have := bs_len (n := n) (c := c) (e := e) (M := M)
        omega
      · rw [upd_same, if_pos rfl, List.map_append]
        rfl
    | false =>
      refine iteN (by decide) ⟨p1, ?_⟩
      rw [if_neg (by decide), List.append_nil]
      exact p2
  rintro H1 ⟨s1, p2⟩
  rw [List.length_map, List.take_length] at p2
  refine ⟨D, _, rfl, .inl (SqL.of p2), _, _, rfl, rfl, ?_⟩
  rw [List.length_map, bs_true]
  have cm : ∀ j, j ≤ M → cntF (sui n c e) j ≤ 1000 := fun j hj => by
    have := List.length_filter_le (fun k : Nat => sui n c e (k : Int)) (List.range j)
    rw [List.length_range] at this
    have : cntF (sui n c e) j ≤ j := this
    omega
  have c1 := cm M (Nat.le_refl _)
  refine ⟨mulW (div_sm M1 sb) (sm_nat (k := 20) (by omega)) (by decide) (by decide) (by decide), ?_⟩
  have r0 := Int.emod_nonneg b (show (M : Int) ≠ 0 by omega)
  have r1 := Int.emod_lt_of_pos b M1
  obtain ⟨j, hj⟩ : ∃ j : Nat, b % (M : Int) = (j : Int) := ⟨(b % (M : Int)).toNat, by omega⟩
  refine ⟨_, rfl, _, rfl, _, rfl, a, _, rfl, SqL.of (s1 _ _ ha), fun p hp => ?_⟩
  rw [hj]
  have sp : Same H1 (upd H1 p (.lst (cutV ((bsM n c e M).map V.bl) none (some (j : Int))))) := Same.new hp
  have hpe : upd H1 p (.lst (cutV ((bsM n c e M).map V.bl) none (some (j : Int)))) p = some (.lst ((bsM n c e j).map V.bl)) := by
    rw [upd_same, cutV_to, ← List.map_take, bs_take (by omega)]
  generalize upd H1 p (.lst (cutV ((bsM n c e M).map V.bl) none (some (j : Int)))) = H2 at sp hpe
  refine ⟨p, rfl, ⟨_, SqL.of hpe⟩, fun D2 hD2 => lc_list (xs := (bsM n c e j).map V.bl) (fun i H' => Same H2 H' ∧ H' D2 = some (.lst ((((bsM n c e j).take i).filter fun b => b).map V.bl))) ⟨Same.new hD2, upd_same⟩ (fun i H' _ z => SqL.of (z.1 _ _ hpe)) ?_ ?_⟩
  · rintro i x H' hx ⟨p1, p3⟩
    obtain ⟨t, ht, rfl⟩ := bl_map hx
    refine ⟨rfl, _, rfl, _, rfl, ?_⟩
    rw [bl_fil ht]
    cases t with
    | true =>
      refine iteP rfl ⟨_, rfl, _, p3, len_lt ?_, Same.upd p1 hD2, ?_⟩
      · rw [List.length_map]
        have := List.length_filter_le (fun b => b) ((bsM n c e j).take i)
        rw [List.length_take] at this
        have := bs_len (n := n) (c := c) (e := e) (M := j)
        omega
      · rw [upd_same, if_pos rfl, List.map_append]
        rfl
    | false =>
      refine iteN (by decide) ⟨p1, ?_⟩
      rw [if_neg (by decide), List.append_nil]
      exact p3
  rintro H3 ⟨s3, p3⟩
  rw [List.length_map, List.take_length] at p3
  refine ⟨D2, _, rfl, .inl (SqL.of p3), _, _, rfl, rfl, ?_⟩
  rw [List.length_map, bs_true]
  have qq := q H3 ((s1.trans sp).trans s3)
  unfold blw at qq
  rw [hj, Int.toNat_natCast] at qq
  exact qq

end
end KV

/-! the law -/
namespace KC
theorem later0 {f : Int → Bool} {m : Nat} (m0 : 0 < m) (per : ∀ k, f (k % (m : Int)) = f k) (f0 : f 0 = true) (n : Int) : ∃ (k : Nat) (l : List Nat), rstF (fun k => f (n + k)) m = k :: l ∧ Nxt f n (n + (k : Int)) := by
  have a := Int.emod_nonneg (-n) (show (m : Int) ≠ 0 by omega)
  have b := Int.emod_lt_of_pos (-n) (show (0 : Int) < (m : Int) by omega)
  have e := Int.mul_ediv_add_emod (-n) (m : Int)
  have fj : f (n + -n % (m : Int)) = true := by
    rw [← per, show n + -n % (m : Int) = 0 + (m : Int) * (-(-n / (m : Int))) by rw [Int.mul_neg]; omega, Int.add_mul_emod_self_left, Int.zero_emod]
    exact f0
  have mem : ∀ k : Nat, k ∈ rstF (fun k => f (n + k)) m ↔ k < m ∧ f (n + (k : Int)) = true := fun k => by
    unfold rstF
    rw [List.mem_filter, List.mem_range]
  have so : (rstF (fun k => f (n + k)) m).Pairwise (· < ·) := List.pairwise_lt_range.sublist List.filter_sublist
  cases h : rstF (fun k => f (n + k)) m with
  | nil =>
    have := (mem (-n % (m : Int)).toNat).mpr ⟨by omega, by rw [show (((-n % (m : Int)).toNat : Nat) : Int) = -n % (m : Int) by omega]; exact fj⟩
    rw [h] at this
    cases this
  | cons k l =>
    rw [h] at so mem
    obtain ⟨k1, k2⟩ := (mem k).mp (List.mem_cons_self)
    refine ⟨k, l, rfl, by omega, k2, fun j j1 j2 => ?_⟩
    cases q : f j with
    | false => rfl
    | true =>
      have := (mem (j - n).toNat).mpr ⟨by omega, by rw [show n + (((j - n).toNat : Nat) : Int) = j by omega]; exact q⟩
      rcases List.mem_cons.mp this with y | y
      · omega
      · have := (List.pairwise_cons.mp so).1 _ y
        omega
end KC
namespace KV
open PySem PySem.Spec PyProof.Rows L2 KC KP LamX
section
variable {P : Program} {w : World} {K : PySem.W.Frag} {mg : Str → Option Value} {base : Heap} {C Pt : Addr}
theorem vi_hd (k : Nat) (l : List Nat) : atI (vi (k :: l)) 0 = some (.int (k : Int)) := by
  unfold atI L2.ixN
  rw [if_pos (Int.le_refl 0), if_pos (by show (0 : Int) < _; simp [vi])]
  rfl
theorem bl_lastM {n M : Nat} {c e : List Nat} (hI : Idl n c e M) (M0 : 0 < M) (hc : Chg n c) (he : Chg n e) : atI ((bsM n c e M).map V.bl) (-1) = some (.bl (sui n c e (-1))) := by
  have z := bs_at hI M0 hc he (-1)
  have e1 : (-1 % (M : Int)).toNat = M - 1 := by
    have := Int.add_mul_emod_self_left (-1) (M : Int) 1
    rw [Int.mul_one, Int.emod_eq_of_lt (show 0 ≤ -1 + (M : Int) by omega) (by omega)] at this
    omega
  rw [e1] at z
  unfold atI L2.ixN
  have lm : ((bsM n c e M).map V.bl).length = M := by rw [List.length_map, bs_len]
  rw [lm, if_neg (by decide), if_pos (by omega)]
  show ((bsM n c e M).map V.bl)[(-1 + (M : Int)).toNat]? = _
  rw [show (-1 + (M : Int)).toNat = M - 1 by omega, List.getElem?_map, z]
  rfl
theorem blw_sm {n M : Nat} {c e : List Nat} {b : Int} (M0 : 0 < M) (Mb : M ≤ 1000) (sb : sm 120 b) : sm 132 (blw (sui n c e) M b) := by
  have cm : ∀ j, j ≤ M → cntF (sui n c e) j ≤ 1000 := fun j hj => by
    have := List.length_filter_le (fun k : Nat => sui n c e (k : Int)) (List.range j)
    rw [List.length_range] at this
    have : cntF (sui n c e) j ≤ j := this
    omega
  have c1 := cm M (Nat.le_refl _)
  have r0 := Int.emod_nonneg b (show (M : Int) ≠ 0 by omega)
  have r1 := Int.emod_lt_of_pos b (show (0 : Int) < (M : Int) by omega)
  have c2 := cm (b % (M : Int)).toNat (by omega)
  unfold blw
  have s1 : sm 130 (b / (M : Int) * (cntF (sui n c e) M : Int)) := sm_mul (div_sm (by omega) sb) (sm_nat (k := 10) (by omega))
  exact sm_mono (sm_add s1 (sm_mono (sm_nat (k := 10) (by omega)) (by decide))) (by decide)
theorem btw_max {n M : Nat} {c e : List Nat} {lo hi : Int} (M0 : 0 < M) (per : ∀ k, sui n c e (k % (M : Int)) = sui n c e k) : btw n c e M lo hi = if blw (sui n c e) M hi - blw (sui n c e) M lo > 0 then blw (sui n c e) M hi - blw (sui n c e) M lo else 0 := by
  unfold btw
  by_cases z : lo ≥ hi
  · have := blw_mono M0 per z
    rw [if_pos z, if_neg (by omega)]
  · have := blw_mono M0 per (show lo ≤ hi by omega)
    rw [if_neg z]
    split <;> omega
def spLaw (K : PySem.W.Frag) (Pt : Addr) : Sp := fun vs H Q _ => ∃ (a : Addr) (ns : List Int), vs = [.ref a] ∧ SqL K H a (ns.map V.int) ∧ H Pt = some (.tbl #[]) ∧ ∀ H', Q (.bl true) H'
theorem sc49 : FnScope ["_law_script", "_law_deal", "_law_turn", "_law_one", "_law_other", "_law_marks_here", "_law_many", "_law_again", "_law_n", "_law_m", "_law_later", "_law_told", "_law_due", "_law_pair", "_law_k"] ["_law_script"] (defScope (top 49)) := ⟨rfl, rfl, rfl, by decide +kernel, rfl, by decide +kernel, by decide +kernel⟩
set_option maxHeartbeats 16000000 in
theorem ok_law {f : Addr} {fd : FuncData} (B : Bl mg) (CDr : Cal P w K mg base CX0 1 "_law_draw" ["_law_script", "_law_salt"] (spDraw K)) (CCp : Cal P w K mg base CX0 3 "_law_couple" ["_law_deal"] spCpl) (CMk : Cal P w K mg base CX0 2 "_law_marks" ["_law_one", "_law_other", "_law_most"] spMk) (CCn : Cal P w K mg base CX0 3 "_law_count" ["_law_deal", "_law_many"] spCountF) (CLb : Cal P w K mg base CX0 1 "_law_below" ["_law_marks_here", "_law_n"] (spLBw K))
    (CNS : Cal P w K mg base (L2.CX P w) 13 "next_suiting" ["one", "other", "count"] (spNS K C Pt)) (CNSK : CalK P w K mg base (L2.CX P w) 13 "next_suiting" ["one", "other", "count"] ["count", "other", "one"] true (spNS K C Pt)) (CSB : Cal P w K mg base (L2.CX P w) 13 "suiting_between" ["one", "other", "low", "high"] (spSB K C Pt)) (CSBK : CalK P w K mg base (L2.CX P w) 13 "suiting_between" ["one", "other", "low", "high"] ["high", "low", "other", "one"] true (spSB K C Pt))
    (CSu : Cal P w K mg base (L2.CX P w) 8 "suits" ["one", "other", "count"] (spSuit K C)) (CW : Cal P w K mg base CX0 3 "_law_wrong" ["_law_deal", "_law_one"] spWro) (CAs : Cal P w K mg base CX0 14 "_law_asked" ["_law_one", "_law_other"] (spAsk K)) (F : Fun K "law" "law" (top 49) f fd) : FnOkG P w K mg base 15 f fd ["_law_script"] (spLaw K Pt) := by
  obtain ⟨oc, od, kV, doc, pm, an, cdv, ct, osl, rfl, lk, hcd⟩ := F.ex
  refine fn_ofG lk hcd sc49 (fun vs H Q E h => ?_) (fun A outer s H vs Q E hr gd h => ⟨_,
    (pss_cons (ps_set (i := 1) sc49.nd rfl (.inl rfl) (by exact (pe_cal CDr hr (by decide) (pa_cons (pv 0) (pa_cons pe_int pa_nil)))))
    (pss_cons (ps_for (passes_of rfl) rfl (pi_range1 (by rfl) B.range (pa_cons pe_int pa_nil)) (pg_name (i := 2) sc49.nd rfl (.inl rfl)) (pss_cons (ps_asg (by exact (pe_cal CCp hr (by decide) (pa_cons (pv 1) pa_nil))) (pg_tup rfl (pgs_cons (pg_name (i := 3) sc49.nd rfl (.inl rfl)) (pgs_cons (pg_name (i := 4) sc49.nd rfl (.inl rfl)) pgs_nil))))
    (pss_cons (ps_set (i := 5) sc49.nd rfl (.inr rfl) (pe_lc (own := [("_law_pair", 13)]) (g := gName 13) (tt := tYes) rfl sc49.nd (pi_list (by exact (pe_cal CMk hr (by decide) (pa_cons (pv 3) (pa_cons (pv 4) (pa_cons pe_int pa_nil)))))) (blkOk_by (N := ["_law_script", "_law_deal", "_law_turn", "_law_one", "_law_other", "_law_marks_here", "_law_many", "_law_again", "_law_n", "_law_m", "_law_later", "_law_told", "_law_due", "_law_pair", "_law_k"]) (sc := defScope (top 49)) (by decide +kernel))
        (fun _ _ _ _ _ => (pg_name (i := 13) sc49.nd rfl (Or.inl rfl))) (fun _ _ _ _ _ => pts_nil) (fun _ _ _ _ _ => (pe_cmpR (r := rEqD K) (op_eqD hr.units) (pe_ix (r := rIxT K) ix_tup (pv 13) pe_int (fun _ _ => rfl)) (pe_ix (r := rIxT K) ix_tup (pv 13) pe_int (fun _ _ => rfl)) (nomark _)))))
    (pss_cons (ps_set (i := 6) sc49.nd rfl (.inr rfl) (pe_callB call_len_seq (by rfl) B.len PySem.boot_len (pa_cons (pv 5) pa_nil)))
    (pss_cons (ps_for (passes_of rfl) rfl (pi_range1 (by rfl) B.range (pa_cons pe_int pa_nil)) (pg_name (i := 7) sc49.nd rfl (.inl rfl)) (pss_cons (ps_asg (pe_tup (pa_cons (by exact (pe_cal CCn hr (by decide) (pa_cons (pv 1) (pa_cons (pv 6) pa_nil)))) (pa_cons (by exact (pe_cal CCn hr (by decide) (pa_cons (pv 1) (pa_cons (pv 6) pa_nil)))) pa_nil))) (pg_tup rfl (pgs_cons (pg_name (i := 8) sc49.nd rfl (.inr rfl)) (pgs_cons (pg_name (i := 9) sc49.nd rfl (.inl rfl)) pgs_nil))))
    (pss_cons (ps_setLc (i := 10) (own := [("_law_k", 14)]) (g := gName 14) rfl sc49.nd rfl rfl (sw_true rfl rfl rfl (by decide +kernel)) (pi_range1 (by rfl) B.range (pa_cons (pv 6) pa_nil)) (blkOk_by (N := ["_law_script", "_law_deal", "_law_turn", "_law_one", "_law_other", "_law_marks_here", "_law_many", "_law_again", "_law_n", "_law_m", "_law_later", "_law_told", "_law_due", "_law_pair", "_law_k"]) (sc := defScope (top 49)) (by decide +kernel))
        (fun _ _ _ _ _ => (pg_name (i := 14) sc49.nd rfl (Or.inl rfl))) (fun _ _ _ _ _ => (pts_one (pt_val (pe_ix (r := rIxL K) ix_list (pv 5) (pe_op op_mod (pe_callTy call_int1 (by rfl) B.int PyProof.Rows.boot_int (pa_cons (pe_op op_add (pv 8) (pv 14)) pa_nil)) (pv 6)) (fun _ _ => rfl))))) (fun _ _ _ _ _ => (pv 14)))
    (pss_cons (ps_set (i := 11) sc49.nd rfl (.inl rfl) (by exact (pe_calSK CNSK hr (by decide) (fun σ => passL σ) (pk_cons (pv 8) (pk_cons (pv 4) (pk_cons (pv 3) pk_nil))))))
    (pss_cons (ps_if (PW.pt (pw_or (pt_cmpR op_ne (pe_callB (call_repr gd hr.units) (by rfl) B.repr (by decide +kernel) (pa_cons (pv 11) pa_nil)) (pe_callB (call_repr gd hr.units) (by rfl) B.repr (by decide +kernel) (pa_cons (pe_op op_add (pv 8) (pe_ix ix_list (pv 10) pe_int (fun _ _ => rfl))) pa_nil)) (nomark _)) (pw_or1 (pt_cmpR op_notBl (by exact (pe_calS CSu hr (by decide) (fun σ => passL σ) (pa_cons (pv 3) (pa_cons (pv 4) (pa_cons (pv 11) pa_nil))))) pe_bl (nomark _))))) (pss_one (ps_ret pe_bl)) pss_nil)
    (pss_cons (ps_set (i := 12) sc49.nd rfl (.inl rfl) (pe_callB (call_max2 rfl) (by rfl) B.max (by decide +kernel) (pa_cons pe_int (pa_cons (pe_op op_sub (by exact (pe_cal CLb hr (by decide) (pa_cons (pv 5) (pa_cons (pv 9) pa_nil)))) (by exact (pe_cal CLb hr (by decide) (pa_cons (pv 5) (pa_cons (pv 8) pa_nil))))) pa_nil))))
    (pss_one (ps_if (pt_cmpR op_ne (pe_callB (call_repr gd hr.units) (by rfl) B.repr (by decide +kernel) (pa_cons (by exact (pe_calSK CSBK hr (by decide) (fun σ => passL σ) (pk_cons (pv 9) (pk_cons (pv 8) (pk_cons (pv 4) (pk_cons (pv 3) pk_nil)))))) pa_nil)) (pe_callB (call_repr gd hr.units) (by rfl) B.repr (by decide +kernel) (pa_cons (pv 12) pa_nil)) (nomark _)) (pss_one (ps_ret pe_bl)) pss_nil))))))))
    (pss_cons (ps_if (pt_cmpR (op_neD hr.units) (by exact (pe_cal CAs hr (by decide) (pa_cons (pv 3) (pa_cons (by exact (pe_cal CW hr (by decide) (pa_cons (pv 1) (pa_cons (pv 3) pa_nil)))) pa_nil)))) (pe_lst (pa_cons pe_int (pa_cons pe_int pa_nil))) (nomark _)) (pss_one (ps_ret pe_bl)) pss_nil)
    (pss_one (ps_if (PW.pt (pw_or (pt_cmpR op_ne (by exact (pe_calS CSB hr (by decide) (fun σ => passL σ) (pa_cons (pv 3) (pa_cons (pv 4) (pa_cons (pv 8) (pa_cons (pv 8) pa_nil)))))) pe_int (nomark _)) (pw_or1 (pt_cmpR op_ne (pe_callB (call_repr gd hr.units) (by rfl) B.repr (by decide +kernel) (pa_cons (by exact (pe_calS CNS hr (by decide) (fun σ => passL σ) (pa_cons (pv 3) (pa_cons (pv 4) (pa_cons (pe_un un_neg pe_int) pa_nil))))) pa_nil)) (pe_callB (call_repr gd hr.units) (by rfl) B.repr (by decide +kernel) (pa_cons (pe_ifExp (pt_val (pe_ix ix_list (pv 5) (pe_un un_neg pe_int) (fun _ _ => rfl))) (pe_un un_neg pe_int) pe_int) pa_nil)) (nomark _))))) (pss_one (ps_ret pe_bl)) pss_nil))))))))
    (pss_one (ps_ret pe_bl)))), ?_⟩)
  · obtain ⟨a, ns, rfl, _⟩ := h
    rfl
  obtain ⟨a0, ns0, rfl, hS, hPt, q⟩ := h
  refine ⟨_, rfl, a0, ns0, 40, rfl, hS, by decide, by decide, fun H1 d c s1 hd hc hD1 => ?_⟩
  have T1 : Tabs [(Pt, qR)] H1 := fun p hp => by
    rw [List.mem_singleton.mp hp]
    exact TabS.nil (s1 _ _ hPt)
  dsimp only [gName]
  refine ⟨2, rfl, by decide, by decide, for_range (n := 2) (fun i σ H' => ∃ v2 v3 v4 v5 v6 v7 v8 v9 v10 v11 v12 : Option V, σ = [some (.ref a0), some (.ref d), v2, v3, v4, v5, v6, v7, v8, v9, v10, v11, v12, none, none] ∧ Dl H' d c ∧ Tabs [(Pt, qR)] H') ⟨none, none, none, none, none, none, none, none, none, none, none, rfl, hD1, T1⟩ ?_ ?_⟩
  · rintro i σ G0 hi ⟨v2, v3, v4, v5, v6, v7, v8, v9, v10, v11, v12, rfl, D0, T0⟩
    dsimp only [gName]
    -- a couple and its marks
    refine ⟨_, rfl, d, c, rfl, D0, fun p a b n ch eh M' G1 hp T M0' Mb' idl' D1 k1 => ⟨p, _, rfl, SqT.of hp, rfl, _, _, rfl, _, _, rfl, rfl, ?_⟩⟩
    have n9 := T.n9
    have n16 : n ≤ 16 := by omega
    have Tb1 := Tabs.kp T0 D0 k1
    dsimp only [gName]
    refine ⟨_, rfl, _, rfl, a, b, n, ch, eh, 300, rfl, T.ha, T.hb, T.c, T.e, n16, by decide, fun l G2 ps s2 ln hl mk le id no => ?_⟩
    have LM : ps.length ≤ 300 := Classical.byContradiction fun z => no M' M0' (by omega) idl'
    obtain ⟨M0, idl, _⟩ := id LM
    generalize eM : ps.length = M at M0 idl LM
    refine ⟨l, rfl, ⟨_, SqL.of hl⟩, fun m hm => lc_list (xs := ps.map V.ref) (fun j H' => Same G2 H' ∧ H' m = some (.lst (((bsM n ch eh M).take j).map V.bl))) ⟨Same.new hm, upd_same⟩ (fun j H' _ z => SqL.of (z.1 _ _ hl)) ?_ ?_⟩
    · rintro j x H' hx ⟨z1, z2⟩
      obtain ⟨t, ht, rfl⟩ := rv_at hx
      obtain ⟨x1, y1, e1, e2, e3⟩ := mk j t ht
      have jM : j < M := by rw [← eM]; exact (List.getElem?_eq_some_iff.mp ht).1
      refine ⟨rfl, _, rfl, t, _, _, _, rfl, rfl, SqT.of (z1 _ _ e1), rfl, _, rfl, t, _, _, _, rfl, rfl, SqT.of (z1 _ _ e1), rfl, eqT (z1 _ _ e2) (z1 _ _ e3) ⟨_, z2, len_lt ?_, Same.upd z1 hm, ?_⟩⟩
      · rw [List.length_map, List.length_take, bs_len]
        omega
      · rw [upd_same, take_bl (bs_get jM)]
        rfl
    rintro G3 ⟨z1, z2⟩
    rw [List.length_map, eM, List.take_of_length_le (by rw [bs_len]; exact Nat.le_refl _)] at z2
    have W : LW9 d c Pt a b m n ch eh M G3 := ⟨(D1.same s2).same z1, (T.same s2).same z1, z2, (D1.same s2).ne hm, (Tb1.ext s2).ext z1⟩
    have hc := T.c
    have he := T.e
    clear z1 z2 mk hl ln s2 no id idl' M0' Mb' hp k1 D1 Tb1 T T0 D0 hm
    dsimp only [gName]
    have lm : (List.map V.bl (bsM n ch eh M)).length = M := by rw [List.length_map, bs_len]
    refine ⟨_, rfl, m, _, rfl, .inl (SqL.of W.mks), ?_⟩
    rw [lm]
    have ixm : ∀ k : Int, atI ((bsM n ch eh M).map V.bl) (k % (M : Int)) = some (.bl (sui n ch eh k)) := fun k => bl_at (Int.emod_nonneg k (by omega)) (bs_at idl M0 hc he k)
    have M1 : (0 : Int) < (M : Int) := by omega
    have per := idl.mod hc he
    have f0 := sui0 hc he
    dsimp only [gName]
    -- the counts
    refine sq_cut (fun σ H' => ∃ (v7 v9 v10 v11 v12 : Option V) (n0 : Int), sm 120 n0 ∧ σ = [some (.ref a0), some (.ref d), some (.int (0 + (i : Int))), some (.ref a), some (.ref b), some (.ref m), some (.int (M : Int)), v7, some (.int n0), v9, v10, v11, v12, none, none] ∧ LW9 d c Pt a b m n ch eh M H') (fun Z hZ => ?_) ?_
    · refine ⟨4, rfl, by decide, by decide, for_range (n := 4) (fun j σ H' => ∃ v7 v8 v9 v10 v11 v12 : Option V, (0 < j → ∃ n0, sm 120 n0 ∧ v8 = some (.int n0)) ∧ σ = [some (.ref a0), some (.ref d), some (.int (0 + (i : Int))), some (.ref a), some (.ref b), some (.ref m), some (.int (M : Int)), v7, v8, v9, v10, v11, v12, none, none] ∧ LW9 d c Pt a b m n ch eh M H') ⟨_, _, _, _, _, _, fun h => absurd h (by decide), rfl, W⟩ ?_ ?_⟩
      · clear W
        rintro j σ G4 hj ⟨v7, v8, v9, v10, v11, v12, _, rfl, W⟩
        dsimp only [gName]
        refine ⟨_, rfl, _, rfl, d, c, M, rfl, W.dl, by omega, fun nn G5 sn D5 k5 => ⟨_, rfl, _, rfl, d, c, M, rfl, D5, by omega, fun mm G6 sm6 D6 k6 => ⟨(by show 2 ≤ sizeLine; decide), fun p2 hp2 => ⟨p2, _, rfl, SqT.of upd_same, rfl, _, _, rfl, _, _, rfl, rfl, ?_⟩⟩⟩⟩
        replace W := ((W.kp D5 k5).kp D6 k6).same (Same.new hp2 (o := .tup [.int nn, .int mm]))
        generalize upd G6 p2 (.tup [.int nn, .int mm]) = G7 at W
        clear hp2 k5 k6 D5 D6
        dsimp only [gName]
        -- the counts from it on
        refine ⟨_, rfl, (M : Int), rfl, by omega, by exact Int.lt_of_le_of_lt (show (M : Int) ≤ 300 by omega) (by decide), fun r hr0 => ?_⟩
        refine lc_range (lo := 0) (n := M) (fun j H' => Same G7 H' ∧ H' r = some (.lst (vi (rstF (fun k => sui n ch eh (nn + k)) j)))) ⟨Same.new hr0, upd_same⟩ ?_ ?_
        · rintro j2 G8 hj2 ⟨z1, z2⟩
          refine ⟨rfl, _, rfl, _, rfl, _, rfl, _, _, rfl, rfl, .inl ⟨_, rfl, _, rfl, _, _, rfl, rfl, M1, m, _, _, _, rfl, rfl, SqL.of (z1 _ _ W.mks), ixm _, _, rfl, ?_⟩⟩
          rw [rstF_next]
          have lr : (vi (rstF (fun k => sui n ch eh (nn + k)) j2)).length ≤ 1000 := by
            have := List.length_filter_le (fun k : Nat => sui n ch eh (nn + (k : Int))) (List.range j2)
            rw [List.length_range] at this
            have : (rstF (fun k => sui n ch eh (nn + k)) j2).length ≤ j2 := this
            rw [List.length_map]
            omega
          rw [show sui n ch eh (nn + (0 + (j2 : Int))) = sui n ch eh (nn + (j2 : Int)) by rw [Int.zero_add]]
          cases e3 : sui n ch eh (nn + (j2 : Int)) with
          | true =>
            refine iteP rfl ⟨_, rfl, _, z2, len_lt lr, Same.upd z1 hr0, ?_⟩
            rw [upd_same, if_pos rfl]
            show some (HO.lst (vi (rstF (fun k => sui n ch eh (nn + k)) j2) ++ [V.int (0 + (j2 : Int))])) = some (HO.lst (vi (rstF (fun k => sui n ch eh (nn + k)) j2 ++ [j2])))
            rw [Int.zero_add]
            unfold vi
            rw [List.map_append]
            rfl
          | false =>
            refine iteN (by decide) ⟨z1, ?_⟩
            rw [if_neg (by decide), List.append_nil]
            exact z2
        rintro G8 ⟨z1, z2⟩
        obtain ⟨k0, l0, hk0, nx⟩ := later0 M0 per f0 nn
        rw [hk0] at z2
        replace W := W.same z1
        clear z1 hr0 hk0
        dsimp only [gName]
        have sM : sm 120 (M : Int) := sm_nat (by omega)
        refine ⟨_, rfl, _, rfl, _, rfl, .inl ⟨.ref a, .ref b, nn, n, ch, eh, M, rfl, W.two.goodA, W.two.goodB, idl, M0, by omega, W.tb, fun G9 t e9 T9 nx9 le9 lt9 => ?_⟩⟩
        have et := nx9.uniq nx
        have lr0 : (k0 : Int) < 1000 := by omega
        subst et
        have W9 := W.ext e9 T9
        have r9 := e9 _ _ z2 (fun _ z => by cases z)
        clear W e9 T9 z2
        dsimp only [gName]
        have st : sm 122 (nn + (k0 : Int)) := sm_mono (sm_add sn (sm_mono (sm_nat (k := 10) (n := k0) (by omega)) (by decide))) (by decide)
        have tlog : (nn + (k0 : Int)).natAbs.log2 < 1920 := log_sm st (by decide) (by decide)
        refine ⟨_, rfl, .inr (.inl ⟨_, rfl, tlog, _, rfl, _, rfl, r, _, _, _, rfl, rfl, SqL.of r9, vi_hd _ _, _, _, rfl, rfl, .inr (.inl ⟨_, rfl, tlog, rfl, _, rfl, iteN (by simp) ?_⟩)⟩)⟩
        refine ⟨_, rfl, _, rfl, _, rfl, .inl ⟨.ref a, .ref b, n, ch, eh, nn + (k0 : Int), rfl, W9.two.goodA, W9.two.goodB, fun GA sA => ?_⟩⟩
        rw [nx.2.1]
        have WA := W9.same sA
        have sb : ∀ {x : Int}, sm 120 x → sm 500 x := fun h => sm_mono h (by decide)
        refine ⟨_, _, rfl, rfl, _, rfl, iteN (by simp) ?_⟩
        clear W9 sA r9
        dsimp only [tNext]
        refine ⟨_, rfl, _, rfl, m, n, ch, eh, M, mm, rfl, WA.mks, M0, by omega, sb sm6, fun GB sB => ⟨_, rfl, _, rfl, m, n, ch, eh, M, nn, rfl, sB _ _ WA.mks, M0, by omega, sb sn, fun GC sC => ⟨_, _, rfl, rfl, _, _, rfl, ?_⟩⟩⟩
        have WC := (WA.same sB).same sC
        clear WA sB sC
        rw [← btw_max M0 per]
        dsimp only [gName]
        have dsm : sm 134 (btw n ch eh M nn mm) := by
          unfold btw
          split
          · exact (show sm 134 (0 : Int) by decide)
          · exact sm_mono (sm_sub (blw_sm M0 (by omega) sm6) (blw_sm M0 (by omega) sn)) (by decide)
        have dlog := log_sm dsm (by decide) (by decide)
        refine ⟨_, rfl, _, rfl, _, rfl, _, rfl, .inl ⟨.ref a, .ref b, nn, mm, n, ch, eh, M, rfl, WC.two.goodA, WC.two.goodB, idl, M0, by omega, sb sn, sb sm6, WC.tb, fun GD eD TD => ?_⟩⟩
        have WD := WC.ext eD TD
        exact .inr (.inl ⟨_, rfl, dlog, _, rfl, .inr (.inl ⟨_, rfl, dlog, rfl, _, rfl, iteN (by simp) ⟨_, _, _, _, _, _, fun _ => ⟨nn, sn, rfl⟩, rfl, WD⟩⟩)⟩)
      · rintro σ G4 ⟨v7, v8, v9, v10, v11, v12, h8, rfl, W⟩
        obtain ⟨n0, sn, rfl⟩ := h8 (by decide)
        exact hZ _ _ ⟨_, _, _, _, _, _, sn, rfl, W⟩
    clear W
    rintro σ G4 ⟨v7, v9, v10, v11, v12, n0, sn, rfl, W⟩
    have R := W
    refine ⟨_, rfl, _, rfl, _, rfl, d, c, a, n, ch, rfl, R.dl, R.two.ha, hc, R.two.n1, n9, fun v G5 bad D5 k5 => ?_⟩
    have R2 := R.kp D5 k5
    obtain ⟨ms, hv, im⟩ := bad.val (K := K)
    refine ⟨.ref a, v, some (vi ch), ms, rfl, R2.two.goodA.val, hv, .inr ⟨vi ch, rfl, R2.two.goodA.isC, isCh_of _ im⟩, fun l G6 s6 hl => ⟨(by show 2 ≤ sizeLine; decide), fun p hp => neL (ns := [0, 0]) (ms := [0, 0]) (SqL.of (Same.new hp _ _ hl)) (SqL.of upd_same) ⟨_, rfl, iteN (by decide) ?_⟩⟩⟩
    have R4 := R2.same (s6.trans (Same.new hp (o := .lst [.int 0, .int 0])))
    generalize upd G6 p (.lst [.int 0, .int 0]) = G7 at R4
    clear W R R2 s6 hl hp hv bad D5 k5
    dsimp only [tNext]
    have s5 : sm 500 n0 := sm_mono sn (by decide)
    refine ⟨_, rfl, _, rfl, _, rfl, _, rfl, .inl ⟨.ref a, .ref b, n0, n0, n, ch, eh, M, rfl, R4.two.goodA, R4.two.goodB, idl, M0, by omega, s5, s5, R4.tb, fun G8 e8 T8 => ?_⟩⟩
    rw [show btw n ch eh M n0 n0 = 0 by unfold btw; rw [if_pos (Int.le_refl _)]]
    have R5 := R4.ext e8 T8
    clear R4 e8 T8
    refine ⟨rfl, _, rfl, iteN (by simp) ?_⟩
    refine ⟨_, rfl, _, rfl, _, rfl, .inl ⟨.ref a, .ref b, -1, n, ch, eh, M, rfl, R5.two.goodA, R5.two.goodB, idl, M0, by omega, R5.tb, fun G9 t e9 T9 nx le lt => ?_⟩⟩
    have R6 := R5.ext e9 T9
    clear R5 e9 T9
    have tlog : t.natAbs.log2 < 1920 := log_sm (k := 20) (show t.natAbs < 2 ^ 20 by omega) (by decide) (by decide)
    refine .inr (.inl ⟨_, rfl, tlog, _, rfl, _, rfl, m, _, _, _, rfl, rfl, SqL.of R6.mks, bl_lastM idl M0 hc he, _, rfl, ?_⟩)
    cases e3 : sui n ch eh (-1) with
    | true =>
      have et : t = -1 := nx.uniq ⟨by omega, e3, fun k k1 k2 => by omega⟩
      subst et
      refine iteP rfl ⟨_, rfl, .inr (.inl ⟨_, rfl, tlog, rfl, _, rfl, iteN (by simp) ⟨_, _, _, _, _, _, _, _, _, _, _, rfl, R6.dl, R6.tb⟩⟩)⟩
    | false =>
      have et : t = 0 := nx.uniq ⟨by omega, f0, fun k k1 k2 => by rw [show k = -1 by omega]; exact e3⟩
      subst et
      refine iteN (by decide) (.inr (.inl ⟨_, rfl, tlog, rfl, _, rfl, iteN (by simp) ⟨_, _, _, _, _, _, _, _, _, _, _, rfl, R6.dl, R6.tb⟩⟩))
  · rintro σ G0 ⟨v2, v3, v4, v5, v6, v7, v8, v9, v10, v11, v12, rfl, D0, T0⟩
    exact q G0
end
end KV

/-! the law's call behind the top, one table of code objects known -/
namespace KV
open PySem PySem.Spec PyProof.Rows L2 LamX
/-- the objects that an abstract heap may hold at the start: the script, the empty table -/
structure Begin (G : Hp) (a Pt : Addr) : Prop where
  tb : G Pt = some (.tbl #[])
  sort : ∀ b, b ≠ Pt → G b = none ∨ ∃ ob xs, G b = some (.frz ob (.lst xs))
  only : ∀ b, b ≠ a → b ≠ Pt → G b = none
def emptyO : Obj := { cls := .none, data := .fields #[] }
section
variable {P : Program} {w : World} {K : PySem.W.Frag} {mg mb : Str → Option Value} {k : Nat} {fa a ct Pt : Addr} {fd : FuncData} {x : Str} {sp : Sp} {st : Shared} {vs : List Value} {ns : List Int} {G : Hp}
/-- an object that is neither the script nor the table is not tracked -/
theorem Begin.clear (B : Begin G a Pt) (scr : st.heap.get? a = some { cls := .type "list", data := .seq vs.toArray }) (tab : st.heap.get? Pt = some emptyO) {b : Addr} {o : Obj} (h : st.heap.get? b = some o) (h1 : ∀ us m, o.data ≠ .seq us m) (h2 : o.data ≠ .fields #[]) : G b = none := by
  refine B.only b (fun e => ?_) fun e => ?_
  · rw [e, scr] at h
    cases h
    exact h1 _ _ rfl
  · rw [e, tab] at h
    cases h
    exact h2 rfl
theorem Begin.spaces (B : Begin G a Pt) (scr : st.heap.get? a = some { cls := .type "list", data := .seq vs.toArray }) (tab : st.heap.get? Pt = some emptyO) {b : Addr} {m : Str → Option Value} (h : st.heap.Ns b m) : (hidT st.heap G).Ns b m := by
  obtain ⟨o, es, ep, h1, h2, r⟩ := h
  exact ⟨o, es, ep, hidT_get h1 (B.clear scr tab h1 (fun us m z => by rw [h2] at z; cases z) fun z => by rw [h2] at z; cases z), h2, r⟩
theorem Begin.table (B : Begin G a Pt) (scr : st.heap.get? a = some { cls := .type "list", data := .seq vs.toArray }) (tab : st.heap.get? Pt = some emptyO) (gl : st.heap.Ns mainGlobals mg) (C : PySem.W.CodeHd st.heap ct Pt)
    (bm : ∃ (m : Addr) (ob : Obj), mg "__builtins__" = some (.ref m) ∧ m ≠ builtinsNs ∧ st.heap.get? m = some ob ∧ ob.cls = .type "module" ∧ ob.dict = some builtinsNs ∧ ob.data = .plain) : TabB (hidT st.heap G) mg ct Pt := by
  obtain ⟨og, es, ep, g1, g2, _⟩ := gl
  constructor
  · obtain ⟨o, us, file, tf, flags, tg, inF, text, tt, e1, r1, r2, r3, more⟩ := C
    refine ⟨o, us, file, tf, flags, tg, inF, text, tt, hidT_get e1 (B.clear scr tab e1 (fun us m z => ?_) fun z => ?_), r1, r2, r3, more⟩
    · rw [r2] at z
      cases z
    · rw [r2] at z
      cases z
      simp at r3
  · obtain ⟨m, ob, b1, b2, b3, b4, b5, b6⟩ := bm
    refine ⟨m, ob, b1, b2, fun e => ?_, fun e => ?_, hidT_get b3 (B.clear scr tab b3 (fun us n z => ?_) fun z => ?_), b4, b5, b6⟩
    · rw [e, g1] at b3
      cases b3
      rw [g2] at b6
      cases b6
    · rw [e, tab] at b3
      cases b3
      cases b6
    · rw [b6] at z
      cases z
    · rw [b6] at z
      cases z
  · intro e
    rw [e, tab] at g1
    cases g1
    cases g2
/-- the call, from such an abstract heap -/
theorem begin_run (inK : K.In st.heap) (gl : st.heap.Ns mainGlobals mg) (bl : st.heap.Ns builtinsNs mb) (blb : ∀ y : Str, y ≠ "__name__" → mb y = bootBuiltins y) (noLim : st.heap.NoLimit) (gens : st.gens = #[])
    (tab : st.heap.get? Pt = some emptyO) (nT : K.lookup Pt = none) (C : PySem.W.CodeHd st.heap ct Pt)
    (bm : ∃ (m : Addr) (ob : Obj), mg "__builtins__" = some (.ref m) ∧ m ≠ builtinsNs ∧ st.heap.get? m = some ob ∧ ob.cls = .type "module" ∧ ob.dict = some builtinsNs ∧ ob.data = .plain)
    (scr : st.heap.get? a = some { cls := .type "list", data := .seq vs.toArray }) (room : Room k callerA)
    (F : ∀ base : Heap, K.In base → base.Ns mainGlobals mg → TabB base mg ct Pt → FnOkG P w K mg base k fa fd [x] sp) (bnd : ∀ (s : Shared) (u : Value), BindsTo s fd ⟨[u], []⟩ [(x, u)])
    (B : Begin G a Pt) (ok : HOk P w G st.heap) (out : G a ≠ none → K.lookup a = none) (want : sp [.ref a] G (fun v _ => v = .bl true) fun _ _ _ => False) :
    codeAny (model P w) callerA (.call (.ref fa) ⟨[.ref a], []⟩) (fun r s' => r = .ok (.ret (.bool true)) ∧ OldK st.heap s'.heap ∧ s'.os = st.os ∧ AllBare s'.gens) st := by
  have inB : K.In (hidT st.heap G) := fun b o q => hidT_get (inK b o q) (by
    cases z : G b with
    | none => rfl
    | some u =>
      exfalso
      by_cases e1 : b = a
      · rw [e1] at q z
        rw [out (by rw [z]; simp)] at q
        cases q
      · by_cases e2 : b = Pt
        · rw [e2, nT] at q
          cases q
        · rw [B.only b e1 e2] at z
          cases z)
  have nsB := B.spaces scr tab gl
  have hm : L2.Mod K mg (hidT st.heap G) := ⟨inB, nsB, ⟨mb, B.spaces scr tab bl, blb⟩, let ⟨mc, h1, h2⟩ := noLim; ⟨mc, B.spaces scr tab h1, h2⟩⟩
  have e0 : Env0 P w K mg (hidT st.heap G) callerA [] st G := ⟨rfl, hm, fun b o q => of_hidT q, Nat.le_of_eq (hidT_size _ _), trivial, fun b hb => absurd (show b ∈ ([] : List Addr) from hb) (by simp), ok, .of_eq gens⟩
  refine codeAny_mono ((F _ inB nsB (B.table scr tab gl C bm)).go callerA [] st G ⟨[.ref a], []⟩ [.ref a] [.ref a] _ _ room rfl e0 (bnd st (.ref a)) (.cons rfl .nil) want) fun r s' h => ?_
  cases r with
  | error e => exact False.elim h
  | ok fl =>
    cases fl with
    | next => exact False.elim h
    | brk => exact False.elim h
    | cont => exact False.elim h
    | ret u =>
      obtain ⟨v, G', os, bare, un, ok', r', q⟩ := h
      have q2 : v = .bl true := q
      subst q2
      have u2 : u = Value.bool true := r'
      subst u2
      obtain ⟨more, tg⟩ := un.tbls Pt #[] B.tb
      have grown : s'.heap.get? Pt = some { cls := .none, data := .fields (#[] ++ more) } := ok' Pt _ tg
      have old : ∀ b o, b ≠ Pt → st.heap.get? b = some o → s'.heap.get? b = some o := fun b o nb e => by
        rcases B.sort b nb with z | ⟨ob, xs, z⟩
        · exact un.keep b o e z (by intro y; exact absurd (show b ∈ ([] : List Addr) from y) (by simp)) (by simp)
        · have f1 := (ok b _ z).1
          have f2 := (ok' b _ (un.frzs b ob _ z)).1
          rw [e] at f1
          cases f1
          exact f2
      refine ⟨rfl, ⟨fun b o e => ?_, fun b o e => ?_⟩, os, bare⟩
      · by_cases hb : b = Pt
        · rw [hb, tab] at e
          cases e
          rw [hb]
          exact .inr (.inl ⟨(C.tab tab).isCodeTable, rfl, #[], more, rfl, grown⟩)
        · exact .inl (old b o hb e)
      · by_cases hb : b = Pt
        · rw [hb]
          exact ⟨_, grown⟩
        · exact ⟨o, old b o hb e⟩
/-- the law's call -/
theorem law_callGT (inK : K.In st.heap) (gl : st.heap.Ns mainGlobals mg) (bl : st.heap.Ns builtinsNs mb) (blb : ∀ y : Str, y ≠ "__name__" → mb y = bootBuiltins y) (noLim : st.heap.NoLimit) (gens : st.gens = #[])
    (tab : st.heap.get? Pt = some emptyO) (nT : K.lookup Pt = none) (C : PySem.W.CodeHd st.heap ct Pt)
    (bm : ∃ (m : Addr) (ob : Obj), mg "__builtins__" = some (.ref m) ∧ m ≠ builtinsNs ∧ st.heap.get? m = some ob ∧ ob.cls = .type "module" ∧ ob.dict = some builtinsNs ∧ ob.data = .plain)
    (scr : st.heap.get? a = some { cls := .type "list", data := .seq vs.toArray }) (isI : IntsAre vs ns) (few : ns.length ≤ sizeLine) (room : Room k callerA)
    (F : ∀ base : Heap, K.In base → base.Ns mainGlobals mg → TabB base mg ct Pt → FnOkG P w K mg base k fa fd [x] sp) (bnd : ∀ (s : Shared) (u : Value), BindsTo s fd ⟨[u], []⟩ [(x, u)])
    (want : ∀ G : Hp, G Pt = some (.tbl #[]) → SqL K G a (ns.map V.int) → sp [.ref a] G (fun v _ => v = .bl true) fun _ _ _ => False) :
    codeAny (model P w) callerA (.call (.ref fa) ⟨[.ref a], []⟩) (fun r s' => r = .ok (.ret (.bool true)) ∧ OldK st.heap s'.heap ∧ s'.os = st.os ∧ AllBare s'.gens) st := by
  have rel := vals_ints isI
  have lens := isI.length
  have ap : a ≠ Pt := fun e => by
    rw [e, tab] at scr
    cases scr
  cases hk : K.lookup a with
  | none =>
    have fr : ∀ b, (if b = Pt then some (HO.tbl #[]) else if b = a then some (HO.frz { cls := .type "list", data := .seq vs.toArray } (.lst (ns.map V.int))) else none) = (fun b => if b = Pt then some (HO.tbl #[]) else if b = a then some (HO.frz { cls := .type "list", data := .seq vs.toArray } (.lst (ns.map V.int))) else none) b := fun _ => rfl
    have atA : (fun b : Addr => if b = Pt then some (HO.tbl #[]) else if b = a then some (HO.frz { cls := .type "list", data := .seq vs.toArray } (.lst (ns.map V.int))) else none) a = some (HO.frz { cls := .type "list", data := .seq vs.toArray } (.lst (ns.map V.int))) := (if_neg ap).trans (if_pos rfl)
    refine begin_run (G := fun b => if b = Pt then some (.tbl #[]) else if b = a then some (.frz { cls := .type "list", data := .seq vs.toArray } (.lst (ns.map V.int))) else none) inK gl bl blb noLim gens tab nT C bm scr room F bnd
      ⟨if_pos rfl, fun b nb => ?_, fun b n1 n2 => (if_neg n2).trans (if_neg n1)⟩ (fun b u z => ?_) (fun _ => hk) (want _ (if_pos rfl) (.inl (.inr ⟨_, atA⟩)))
    · by_cases e : b = a
      · exact .inr ⟨_, _, (if_neg nb).trans (if_pos e)⟩
      · exact .inl ((if_neg nb).trans (if_neg e))
    · by_cases e : b = Pt
      · have z2 := (if_pos e).symm.trans z
        cases z2
        rw [e]
        exact tab
      · have z1 := (if_neg e).symm.trans z
        by_cases e2 : b = a
        · have z2 := (if_pos e2).symm.trans z1
          cases z2
          subst e2
          exact ⟨scr, by rw [List.length_map]; exact few, vs, _, rel, scr⟩
        · have z2 := (if_neg e2).symm.trans z1
          cases z2
  | some o =>
    have e := inK a o hk
    rw [scr] at e
    cases e
    refine begin_run (G := fun b => if b = Pt then some (.tbl #[]) else none) inK gl bl blb noLim gens tab nT C bm scr room F bnd ⟨if_pos rfl, fun b nb => .inl (if_neg nb), fun b _ n2 => if_neg n2⟩ (fun b u z => ?_) (fun z => absurd (if_neg ap) z)
      (want _ (if_pos rfl) (.inr ⟨_, vs.toArray, _, hk, rfl, rfl, rfl, ?_, by simpa using rel⟩))
    · by_cases e : b = Pt
      · have z2 := (if_pos e).symm.trans z
        cases z2
        rw [e]
        exact tab
      · have z2 := (if_neg e).symm.trans z
        cases z2
    · rw [List.size_toArray, lens]
      exact few
end
/-- a law's end, over a head by facts with a table -/
theorem walk_ofGT {l : PySem.W.OpenLaw} {n k : Nat} {q : Program} {loose : List Str} {XP : (Str → Option Value) → Heap → Prop} {YP : World → Heap → Prop} {d : DefRec} {x : Str}
    (most : l.most = some n) (fits : n ≤ sizeLine) (plain : d.params.defaults = []) (room : Room k callerA)
    (F : ∀ (w : World) (mg : Str → Option Value) (fa : Addr) (h : Heap), YP w h → h.Ns mainGlobals mg → mg d.name = some (.ref fa) →
      ∃ (K : PySem.W.Frag) (fd : FuncData) (sp : Sp) (ct Pt : Addr), K.In h ∧ h.get? Pt = some emptyO ∧ K.lookup Pt = none ∧ PySem.W.CodeHd h ct Pt ∧ (∀ (s : Shared) (u : Value), BindsTo s fd ⟨[u], []⟩ [(x, u)]) ∧
        (∀ (G : Hp) (a : Addr) (ns : List Int), ns.length ≤ n → G Pt = some (.tbl #[]) → SqL K G a (ns.map V.int) → sp [.ref a] G (fun v _ => v = .bl true) fun _ _ _ => False) ∧
        ∀ base : Heap, K.In base → base.Ns mainGlobals mg → TabB base mg ct Pt → FnOkG l.prog w K mg base k fa fd [x] sp) :
    PySem.W.WalkO q loose XP YP l.row.toRowW d [] (fun f vs => PySem.call f vs) := by
  refine Att.attach_call most plain fun w s0 s1 mg mb fa o pm cd doc a vs ns G Y ho hd hcd hmg hobj hints hlen hg => ?_
  obtain ⟨K, fd, sp, ct, Pt, KX, tab, nT, C, hb, hsp, hF⟩ := F w mg fa _ Y G.T.g hmg
  exact law_callGT KX G.T.g G.T.b G.T.builtins G.T.nolimit hg tab nT C G.T.bmain hobj hints (Nat.le_trans hlen fits) room hF hb fun H hP hS => hsp H a ns hlen hP hS
end KV

/-! the end -/
namespace KV
open PySem PySem.Spec PyProof.Rows L2 He LamX KC KP
section
variable {P : Program} {w : World} {K : PySem.W.Frag} {mg : Str → Option Value} {base : Heap} {Z : CXT} {k : Nat} {x : Str} {st : Stmt} {f : Addr} {fd : FuncData} {ps ks : List Str} {sp : Sp}
theorem mkCal (F : Fun K x x st f fd) (ok : FnOk P w K mg base Z k f fd ps sp) (g : mg x = some (.ref f))
    (h : ∀ (kV doc pm : Value) (an : Option Addr) (cdv ct : Value) (us : List Value), us.length = ps.length → bindArgs (PySem.W.fnOf x x (defArgs st) (defBody st) (defScope st) .none kV doc pm an cdv ct) ⟨us, []⟩ = pure (ps.zip us)) :
    Cal P w K mg base Z k x ps sp := ⟨_, _, ok, g, F.kp, F.binds h⟩
theorem mkCalK {b : Bool} (F : Fun K x x st f fd) (ok : FnOk P w K mg base Z k f fd ps sp) (g : mg x = some (.ref f))
    (h : ∀ (kV doc pm : Value) (an : Option Addr) (cdv ct : Value) (us : List Value), us.length = ps.length → bindArgs (PySem.W.fnOf x x (defArgs st) (defBody st) (defScope st) .none kV doc pm an cdv ct) ⟨[], ks.zip us⟩ = pure (ps.zip (rv b us))) :
    CalK P w K mg base Z k x ps ks b sp := ⟨_, _, ok, g, F.kp, KB.mk F h⟩
end
/-! the hook: facts, defs, one more look, defs whose tables are empty -/
structure TabF (K : PySem.W.Frag) (h : Heap) (p : Defn) : Prop where
  hd : PySem.W.codeHdIn K (cT K p).1 (cT K p).2 = true
  out : K.lookup (cT K p).2 = none
  empty : h.get? (cT K p).2 = some emptyO
def obsW (n : Nat) (fa : List Fa) (fn : List FnD) (ex : PySem.W.Frag → Bool) (tf : List Defn) (g : Addr → Option Obj) : Al × Bool := (obsE fa fn (frT g (asG g n)), ex (frT g (asG g n)) && tabsB g tf (frT g (asG g n)))
theorem tabF_of {h : Heap} {as : List Addr} {tf : List Defn} (e : tabsB h.get? tf (frT h.get? as) = true) : ∀ p ∈ tf, TabF (frT h.get? as) h p := fun p hp => by
  obtain ⟨h3, h4⟩ := ba (List.all_eq_true.mp e p hp)
  cases q : h.get? (cT (frT h.get? as) p).2 with
  | none =>
    rw [q] at h4
    cases h4
  | some o =>
    rw [q] at h4
    exact ⟨h3, frT_none q h4, by rw [q, emptyTab_eq h4]; rfl⟩
def hookW (n : Nat) (fa : List Fa) (fn : List FnD) (ex : PySem.W.Frag → Bool) (tf : List Defn) : PySem.W.Hook where
  α := Al × Bool
  obs := fun s => obsW n fa fn ex tf s.heap.get?
  val := fun _ => (valE fn, true)
  says := fun _ h => ∃ K : PySem.W.Frag, K.In h ∧ SaysE fa fn K ∧ ex K = true ∧ ∀ p ∈ tf, TabF K h p
  of := fun _ _ e => ⟨_, frT_in, congrArg (fun z : Al × Bool => z.1) e, (ba (congrArg (fun z : Al × Bool => z.2) e)).1, tabF_of (ba (congrArg (fun z : Al × Bool => z.2) e)).2⟩
  keeps := fun _ _ _ ⟨K, hK, c, d, t⟩ k => ⟨K, PySem.W.Frag.In.keeps hK k, c, d, fun p hp => ⟨(t p hp).hd, (t p hp).out, k _ _ (t p hp).empty⟩⟩
theorem obsW_eq {n : Nat} {fa : List Fa} {fn : List FnD} {ex : PySem.W.Frag → Bool} {tf : List Defn} {g : Addr → Option Obj} {s : Shared} (h : ∀ a, g a = s.heap.get? a) : obsW n fa fn ex tf g = (hookW n fa fn ex tf).obs s := by
  have e : g = s.heap.get? := funext h
  rw [e] <;> rfl
def gN : List Str := (["is_integer", "is_below", "prime_powers", "least_divisor", "is_change", "checked_change", "_check_alone", "_check_two", "idle_change", "composed", "round_from", "_cycles"] : List Str) ++ (["raised", "order_of", "common_order", "looped", "split_looped", "followed", "loop", "split_loop", "next_leaving", "leaving_between", "_leaving_below", "suits"] : List Str) ++ (["couple_round", "couple_rests", "next_suiting", "suiting_between", "_law_draw", "_law_any", "_law_of", "_law_mixed", "_law_then", "_law_piece", "_law_marks", "_law_couple"] : List Str) ++ (["_law_below", "_law_wrong", "_law_asked", "_law_count", "law", "InvalidChange"] : List Str)
def fN : List Str := ["isinstance", "int", "bool", "tuple", "list", "set", "len", "range", "all", "abs", "repr", "sorted", "zip", "enumerate", "divmod", "max"]
def fa40 : List Fa := gN.map Fa.glo ++ fN.map Fa.free
def dI0 : FnD := ⟨("InvalidChange", some "__init__"), "__init__", "InvalidChange.__init__", PySem.LowX.iA ⟨7, 17, 7, 21⟩ ⟨7, 23, 7, 25⟩, PySem.LowX.iB ⟨8, 8, 8, 12⟩ ⟨8, 8, 8, 15⟩ ⟨8, 18, 8, 20⟩ ⟨8, 8, 8, 20⟩, PySem.LowX.iS⟩
def fn40 : List FnD := [dI0, dTop "is_integer" (top 5), dTop "is_below" (top 6), dTop "prime_powers" (top 7), dTop "least_divisor" (top 8), dTop "is_change" (top 10), dTop "checked_change" (top 11), dTop "_check_alone" (top 12), dTop "_check_two" (top 13), dTop "idle_change" (top 14), dTop "composed" (top 15), dTop "round_from" (top 16), dTop "_cycles" (top 17), dTop "raised" (top 18), dTop "order_of" (top 19), dTop "common_order" (top 20), dTop "looped" (top 21), dTop "split_looped" (top 22), dTop "followed" (top 23), dTop "loop" (top 24), dTop "split_loop" (top 25), dTop "next_leaving" (top 27), dTop "leaving_between" (top 28), dTop "_leaving_below" (top 29), dTop "suits" (top 31), dTop "couple_round" (top 32), dTop "couple_rests" (top 33), dTop "next_suiting" (top 34), dTop "suiting_between" (top 35), dTop "_law_draw" (top 37), dTop "_law_any" (top 38), dTop "_law_of" (top 39), dTop "_law_mixed" (top 40), dTop "_law_then" (top 41), dTop "_law_piece" (top 42), dTop "_law_marks" (top 43), dTop "_law_couple" (top 44), dTop "_law_below" (top 45), dTop "_law_wrong" (top 46), dTop "_law_asked" (top 47), dTop "_law_count" (top 48), dTop "law" (top 49)]
def ex40 (K : PySem.W.Frag) : Bool := (lowB K "InvalidChange" && bltB K "lcm" "math.lcm")
def tf40 : List Defn := [("couple_round", none)]
theorem factG {K : PySem.W.Frag} (c : SaysE fa40 fn40 K) {f : Fa} (hf : f ∈ fa40) : f.ok K = true := by
  have c1 := (ba (show ((fa40.all fun f => f.ok K) && fn40.all fun d => (Fa.code d.at_ d.qual).ok K) = true from congrArg (fun z : Al => z.1) c)).1
  exact List.all_eq_true.mp c1 f hf
theorem mem_g {x : Str} (h : x ∈ gN) : Fa.glo x ∈ fa40 := List.mem_append_left _ (List.mem_map_of_mem h)
theorem mem_f {x : Str} (h : x ∈ fN) : Fa.free x ∈ fa40 := List.mem_append_right _ (List.mem_map_of_mem h)
theorem end40 {P : Program} {w : World} {K : PySem.W.Frag} {h : Heap} {mg : Str → Option Value} {f : Addr} (X : K.In h) (G : h.Ns mainGlobals mg) (hfa : mg ("law" : Str) = some (.ref f)) (c : SaysE fa40 fn40 K) (b : ex40 K = true) (tb : ∀ p ∈ tf40, TabF K h p) :
    ∃ (fd : FuncData) (ct Pt : Addr), h.get? Pt = some emptyO ∧ K.lookup Pt = none ∧ PySem.W.CodeHd h ct Pt ∧ (∀ (s : Shared) (u : Value), BindsTo s fd ⟨[u], []⟩ [("_law_script", u)]) ∧ ∀ base : Heap, K.In base → base.Ns mainGlobals mg → TabB base mg ct Pt → FnOkG P w K mg base 15 f fd ["_law_script"] (spLaw K Pt) := by
  obtain ⟨z0, b⟩ := ba b
  have z1 := b
  have g : ∀ x : Str, x ∈ gN → mg x = some (.ref (ga K x)) := fun x hx => glo_ok X G (factG c (mem_g hx))
  have fr : ∀ x : Str, x ∈ fN → mg x = none := fun x hx => free_ok X G (factG c (mem_f hx))
  have B : Bl mg := ⟨fr _ (by decide), fr _ (by decide), fr _ (by decide), fr _ (by decide), fr _ (by decide), fr _ (by decide), fr _ (by decide), fr _ (by decide), fr _ (by decide), fr _ (by decide), fr _ (by decide), fr _ (by decide), fr _ (by decide), fr _ (by decide), fr _ (by decide), fr _ (by decide), bltB_ok X G z1⟩
  have T : PySem.LowX.LowTxt K mg "InvalidChange" "InvalidChange.__init__" (ga K "InvalidChange") (ma K (ga K "InvalidChange") "__init__") := low_of X G (d := dI0) rfl (saysFn c 0 rfl).1 (saysFn c 0 rfl).2 (factG c (mem_g (by decide))) z0
  obtain ⟨fd5, F5⟩ := saysFun c 1 rfl
  obtain ⟨fd6, F6⟩ := saysFun c 2 rfl
  obtain ⟨fd7, F7⟩ := saysFun c 3 rfl
  obtain ⟨fd8, F8⟩ := saysFun c 4 rfl
  obtain ⟨fd10, F10⟩ := saysFun c 5 rfl
  obtain ⟨fd11, F11⟩ := saysFun c 6 rfl
  obtain ⟨fd12, F12⟩ := saysFun c 7 rfl
  obtain ⟨fd13, F13⟩ := saysFun c 8 rfl
  obtain ⟨fd14, F14⟩ := saysFun c 9 rfl
  obtain ⟨fd15, F15⟩ := saysFun c 10 rfl
  obtain ⟨fd16, F16⟩ := saysFun c 11 rfl
  obtain ⟨fd17, F17⟩ := saysFun c 12 rfl
  obtain ⟨fd18, F18⟩ := saysFun c 13 rfl
  obtain ⟨fd19, F19⟩ := saysFun c 14 rfl
  obtain ⟨fd20, F20⟩ := saysFun c 15 rfl
  obtain ⟨fd21, F21⟩ := saysFun c 16 rfl
  obtain ⟨fd22, F22⟩ := saysFun c 17 rfl
  obtain ⟨fd23, F23⟩ := saysFun c 18 rfl
  obtain ⟨fd24, F24⟩ := saysFun c 19 rfl
  obtain ⟨fd25, F25⟩ := saysFun c 20 rfl
  obtain ⟨fd27, F27⟩ := saysFun c 21 rfl
  obtain ⟨fd28, F28⟩ := saysFun c 22 rfl
  obtain ⟨fd29, F29⟩ := saysFun c 23 rfl
  obtain ⟨fd31, F31⟩ := saysFun c 24 rfl
  obtain ⟨fd32, F32⟩ := saysFun c 25 rfl
  obtain ⟨fd33, F33⟩ := saysFun c 26 rfl
  obtain ⟨fd34, F34⟩ := saysFun c 27 rfl
  obtain ⟨fd35, F35⟩ := saysFun c 28 rfl
  obtain ⟨fd37, F37⟩ := saysFun c 29 rfl
  obtain ⟨fd38, F38⟩ := saysFun c 30 rfl
  obtain ⟨fd39, F39⟩ := saysFun c 31 rfl
  obtain ⟨fd40, F40⟩ := saysFun c 32 rfl
  obtain ⟨fd41, F41⟩ := saysFun c 33 rfl
  obtain ⟨fd42, F42⟩ := saysFun c 34 rfl
  obtain ⟨fd43, F43⟩ := saysFun c 35 rfl
  obtain ⟨fd44, F44⟩ := saysFun c 36 rfl
  obtain ⟨fd45, F45⟩ := saysFun c 37 rfl
  obtain ⟨fd46, F46⟩ := saysFun c 38 rfl
  obtain ⟨fd47, F47⟩ := saysFun c 39 rfl
  obtain ⟨fd48, F48⟩ := saysFun c 40 rfl
  obtain ⟨fd49, F49⟩ := saysFun c 41 rfl
  have e := hfa.symm.trans (g "law" (by decide))
  cases e
  have bL : ∀ (s : Shared) (u : Value), BindsTo s fd49 ⟨[u], []⟩ [("_law_script", u)] := by
    obtain ⟨oc, od, kV, doc, pm, an, cdv, ct, osl, rfl, lk, hcd⟩ := F49.ex
    exact fun s u => .of_eq rfl
  have t1 := tb ("couple_round", none) (List.mem_singleton.mpr rfl)
  have hco : fd32.code = .ref (cT K ("couple_round", none)).1 := by
    obtain ⟨oc, od, kV, doc, pm, an, cdv, ct, osl, rfl, lk, hcd⟩ := F32.ex
    obtain ⟨cc, e⟩ := codeIn_ref hcd
    have e2 : codeOf K ("couple_round", none) = cc := codeOf_eq (p := ("couple_round", none)) lk e
    show cdv = .ref (codeOf K ("couple_round", none))
    rw [e2]
    exact e
  refine ⟨fd49, (cT K ("couple_round", none)).1, (cT K ("couple_round", none)).2, t1.empty, t1.out, PySem.W.codeHd_of_K X t1.hd, bL, fun base _ _ TB => ?_⟩
  have o5 := ok_isInt (P := P) (w := w) (mg := mg) (base := base) B F5
  have c5 := mkCal (P := P) (w := w) (base := base) F5 o5 (g _ (by decide)) fun _ _ _ _ _ _ us hl => match us, hl with | [_], _ => rfl
  have o6 := ok_below (P := P) (w := w) (mg := mg) (base := base) c5 F6
  have c6 := mkCal (P := P) (w := w) (base := base) F6 o6 (g _ (by decide)) fun _ _ _ _ _ _ us hl => match us, hl with | [_, _], _ => rfl
  have o7 := ok_pp (P := P) (w := w) (mg := mg) (base := base) B F7
  have c7 := mkCal (P := P) (w := w) (base := base) F7 o7 (g _ (by decide)) fun _ _ _ _ _ _ us hl => match us, hl with | [_], _ => rfl
  have o10 := ok_isCh (P := P) (w := w) (mg := mg) (base := base) B c6 F10
  have c10 := mkCal (P := P) (w := w) (base := base) F10 o10 (g _ (by decide)) fun _ _ _ _ _ _ us hl => match us, hl with | [_, _], _ => rfl
  have o11 := ok_chk (P := P) (w := w) (mg := mg) (base := base) T c10 F11
  have c11 := mkCal (P := P) (w := w) (base := base) F11 o11 (g _ (by decide)) fun _ _ _ _ _ _ us hl => match us, hl with | [_, _], _ => rfl
  have o12 := ok_alone (P := P) (w := w) (mg := mg) (base := base) B T c11 F12
  have c12 := mkCal (P := P) (w := w) (base := base) F12 o12 (g _ (by decide)) fun _ _ _ _ _ _ us hl => match us, hl with | [_], _ => rfl
  have o13 := ok_two (P := P) (w := w) (mg := mg) (base := base) B c12 c11 F13
  have c13 := mkCal (P := P) (w := w) (base := base) F13 o13 (g _ (by decide)) fun _ _ _ _ _ _ us hl => match us, hl with | [_, _], _ => rfl
  have o14 := ok_id (P := P) (w := w) (mg := mg) (base := base) B F14
  have c14 := mkCal (P := P) (w := w) (base := base) F14 o14 (g _ (by decide)) fun _ _ _ _ _ _ us hl => match us, hl with | [_], _ => rfl
  have o15 := ok_comp (P := P) (w := w) (mg := mg) (base := base) B F15
  have c15 := mkCal (P := P) (w := w) (base := base) F15 o15 (g _ (by decide)) fun _ _ _ _ _ _ us hl => match us, hl with | [_, _], _ => rfl
  have o16 := ok_rf (P := P) (w := w) (mg := mg) (base := base) F16
  have c16 := mkCal (P := P) (w := w) (base := base) F16 o16 (g _ (by decide)) fun _ _ _ _ _ _ us hl => match us, hl with | [_, _], _ => rfl
  have o17 := ok_cyc (P := P) (w := w) (mg := mg) (base := base) B c16 F17
  have c17 := mkCal (P := P) (w := w) (base := base) F17 o17 (g _ (by decide)) fun _ _ _ _ _ _ us hl => match us, hl with | [_], _ => rfl
  have o18 := ok_rai (P := P) (w := w) (mg := mg) (base := base) B c17 F18
  have c18 := mkCal (P := P) (w := w) (base := base) F18 o18 (g _ (by decide)) fun _ _ _ _ _ _ us hl => match us, hl with | [_, _], _ => rfl
  have o19 := ok_ord (P := P) (w := w) (mg := mg) (base := base) B c17 F19
  have c19 := mkCal (P := P) (w := w) (base := base) F19 o19 (g _ (by decide)) fun _ _ _ _ _ _ us hl => match us, hl with | [_], _ => rfl
  have o20 := ok_coO (P := P) (w := w) (mg := mg) (base := base) B c19 F20
  have c20 := mkCal (P := P) (w := w) (base := base) F20 o20 (g _ (by decide)) fun _ _ _ _ _ _ us hl => match us, hl with | [_], _ => rfl
  have o21 := ok_loo (P := P) (w := w) (mg := mg) (base := base) c15 c18 F21
  have c21 := mkCal (P := P) (w := w) (base := base) F21 o21 (g _ (by decide)) fun _ _ _ _ _ _ us hl => match us, hl with | [_, _, _], _ => rfl
  have o22 := ok_spl (P := P) (w := w) (mg := mg) (base := base) c15 c18 F22
  have c22 := mkCal (P := P) (w := w) (base := base) F22 o22 (g _ (by decide)) fun _ _ _ _ _ _ us hl => match us, hl with | [_, _, _], _ => rfl
  have o23 := ok_Fol (P := P) (w := w) (mg := mg) (base := base) c13 c15 F23
  have c23 := mkCal (P := P) (w := w) (base := base) F23 o23 (g _ (by decide)) fun _ _ _ _ _ _ us hl => match us, hl with | [_, _], _ => rfl
  have o24 := ok_Lp (P := P) (w := w) (mg := mg) (base := base) c13 c21 F24
  have c24 := mkCal (P := P) (w := w) (base := base) F24 o24 (g _ (by decide)) fun _ _ _ _ _ _ us hl => match us, hl with | [_, _, _], _ => rfl
  have o25 := ok_Sp (P := P) (w := w) (mg := mg) (base := base) c13 c22 F25
  have c25 := mkCal (P := P) (w := w) (base := base) F25 o25 (g _ (by decide)) fun _ _ _ _ _ _ us hl => match us, hl with | [_, _, _], _ => rfl
  have o27 := ok_nextL (P := P) (w := w) (mg := mg) (base := base) F27
  have c27 := mkCal (P := P) (w := w) (base := base) F27 o27 (g _ (by decide)) fun _ _ _ _ _ _ us hl => match us, hl with | [_, _, _], _ => rfl
  have o29 := ok_lbel (P := P) (w := w) (mg := mg) (base := base) B F29
  have c29 := mkCal (P := P) (w := w) (base := base) F29 o29 (g _ (by decide)) fun _ _ _ _ _ _ us hl => match us, hl with | [_, _, _], _ => rfl
  have o28 := ok_betwL (P := P) (w := w) (mg := mg) (base := base) c29 F28
  have c28 := mkCal (P := P) (w := w) (base := base) F28 o28 (g _ (by decide)) fun _ _ _ _ _ _ us hl => match us, hl with | [_, _, _, _], _ => rfl
  have o31 := ok_suit (P := P) (w := w) (mg := mg) (base := base) c24 c25 F31
  have c31 := mkCal (P := P) (w := w) (base := base) F31 o31 (g _ (by decide)) fun _ _ _ _ _ _ us hl => match us, hl with | [_, _, _], _ => rfl
  have o32 := ok_cr (P := P) (w := w) (mg := mg) (base := base) B c23 c20 c7 c31 ⟨_, _, F8, g _ (by decide)⟩ F32 hco TB
  have c32 := mkCal (P := P) (w := w) (base := base) F32 o32 (g _ (by decide)) fun _ _ _ _ _ _ us hl => match us, hl with | [_, _], _ => rfl
  have o33 := ok_crs (P := P) (w := w) (mg := mg) (base := base) B c23 c14 c32 c15 F33
  have c33 := mkCal (P := P) (w := w) (base := base) F33 o33 (g _ (by decide)) fun _ _ _ _ _ _ us hl => match us, hl with | [_, _], _ => rfl
  have o34 := ok_ns (P := P) (w := w) (mg := mg) (base := base) c27 c33 c32 F34
  have c34 := mkCal (P := P) (w := w) (base := base) F34 o34 (g _ (by decide)) fun _ _ _ _ _ _ us hl => match us, hl with | [_, _, _], _ => rfl
  have o35 := ok_sb (P := P) (w := w) (mg := mg) (base := base) c28 c33 c32 F35
  have c35 := mkCal (P := P) (w := w) (base := base) F35 o35 (g _ (by decide)) fun _ _ _ _ _ _ us hl => match us, hl with | [_, _, _, _], _ => rfl
  have o37 := ok_draw (P := P) (w := w) (mg := mg) (base := base) B F37
  have c37 := mkCal (P := P) (w := w) (base := base) F37 o37 (g _ (by decide)) fun _ _ _ _ _ _ us hl => match us, hl with | [_, _], _ => rfl
  have o38 := ok_any (P := P) (w := w) (mg := mg) (base := base) B F38
  have c38 := mkCal (P := P) (w := w) (base := base) F38 o38 (g _ (by decide)) fun _ _ _ _ _ _ us hl => match us, hl with | [_, _], _ => rfl
  have o39 := ok_of (P := P) (w := w) (mg := mg) (base := base) B c38 F39
  have c39 := mkCal (P := P) (w := w) (base := base) F39 o39 (g _ (by decide)) fun _ _ _ _ _ _ us hl => match us, hl with | [_, _], _ => rfl
  have o40 := ok_mixed (P := P) (w := w) (mg := mg) (base := base) B c38 F40
  have c40 := mkCal (P := P) (w := w) (base := base) F40 o40 (g _ (by decide)) fun _ _ _ _ _ _ us hl => match us, hl with | [_, _], _ => rfl
  have o41 := ok_then (P := P) (w := w) (mg := mg) (base := base) B F41
  have c41 := mkCal (P := P) (w := w) (base := base) F41 o41 (g _ (by decide)) fun _ _ _ _ _ _ us hl => match us, hl with | [_, _], _ => rfl
  have o42 := ok_piece (P := P) (w := w) (mg := mg) (base := base) B F42
  have c42 := mkCal (P := P) (w := w) (base := base) F42 o42 (g _ (by decide)) fun _ _ _ _ _ _ us hl => match us, hl with | [_], _ => rfl
  have o43 := ok_mk (P := P) (w := w) (mg := mg) (base := base) B c41 F43
  have c43 := mkCal (P := P) (w := w) (base := base) F43 o43 (g _ (by decide)) fun _ _ _ _ _ _ us hl => match us, hl with | [_, _, _], _ => rfl
  have o44 := ok_cpl (P := P) (w := w) (mg := mg) (base := base) B c38 c39 c42 c41 c40 c43 F44
  have c44 := mkCal (P := P) (w := w) (base := base) F44 o44 (g _ (by decide)) fun _ _ _ _ _ _ us hl => match us, hl with | [_], _ => rfl
  have o45 := ok_lbw (P := P) (w := w) (mg := mg) (base := base) B F45
  have c45 := mkCal (P := P) (w := w) (base := base) F45 o45 (g _ (by decide)) fun _ _ _ _ _ _ us hl => match us, hl with | [_, _], _ => rfl
  have o46 := ok_wro (P := P) (w := w) (mg := mg) (base := base) B c38 c39 F46
  have c46 := mkCal (P := P) (w := w) (base := base) F46 o46 (g _ (by decide)) fun _ _ _ _ _ _ us hl => match us, hl with | [_, _], _ => rfl
  have o47 := ok_ask (P := P) (w := w) (mg := mg) (base := base) T c34 c35 F47
  have c47 := mkCal (P := P) (w := w) (base := base) F47 o47 (g _ (by decide)) fun _ _ _ _ _ _ us hl => match us, hl with | [_, _], _ => rfl
  have o48 := ok_countF (P := P) (w := w) (mg := mg) (base := base) B c38 c39 F48
  have c48 := mkCal (P := P) (w := w) (base := base) F48 o48 (g _ (by decide)) fun _ _ _ _ _ _ us hl => match us, hl with | [_, _], _ => rfl
  have k34 := mkCalK (ks := ["count", "other", "one"]) (b := true) F34 o34 (g _ (by decide)) fun _ _ _ _ _ _ us hl => match us, hl with | [_, _, _], _ => rfl
  have k35 := mkCalK (ks := ["high", "low", "other", "one"]) (b := true) F35 o35 (g _ (by decide)) fun _ _ _ _ _ _ us hl => match us, hl with | [_, _, _, _], _ => rfl
  exact ok_law B c37 c44 c43 c48 c45 c34 k34 c35 k35 c31 c46 c47 F49
abbrev R40 : PySem.W.OpenRow := PySem.W.OpenLaw.row PySem.Challenge.rw_batchnumbers_k40_whole_far_counts
abbrev hk40 : PySem.W.Hook := hookW 5 fa40 fn40 ex40 tf40
def ob40 (s : PySem.W.SharedT) : Al × Bool := obsW 5 fa40 fn40 ex40 tf40 (HandSHeadRun.getT s)
theorem ob40_eq (s : PySem.W.SharedT) : ob40 s = hk40.obs s.abs := obsW_eq (HandSHeadRun.getT_eq s)
def loose40 : List Str := (["BatchError", "InvalidChange", "is_integer", "is_below", "prime_powers", "least_divisor", "is_change", "checked_change", "_check_alone", "_check_two", "idle_change", "composed"] : List Str) ++ (["round_from", "_cycles", "raised", "order_of", "common_order", "looped", "split_looped", "followed", "loop", "split_loop", "next_leaving", "leaving_between"] : List Str) ++ (["_leaving_below", "suits", "couple_round", "couple_rests", "next_suiting", "suiting_between", "_law_draw", "_law_any", "_law_of", "_law_mixed", "_law_then", "_law_piece"] : List Str) ++ (["_law_marks", "_law_couple", "_law_below", "_law_wrong", "_law_asked", "_law_count"] : List Str)
theorem run40 (w : World) : HandSHeadRun.RunEqI R40 (PySem.W.view R40.prog [0, 49]) hk40 ob40 6000 loose40 w := by
  unfold HandSHeadRun.RunEqI
  kernel_rfl
end KV
open PySem PySem.W PySem.Calls PyProof.Rows
set_option maxRecDepth 100000 in
set_option maxHeartbeats 8000000 in
theorem PySem.Challenge.cw_batchnumbers_k40_whole_far_counts_holds : PySem.Challenge.rw_batchnumbers_k40_whole_far_counts.Holds := by
  w_on; o_law
  refine HandSHeadRun.head_imp (r := OpenLaw.row PySem.Challenge.rw_batchnumbers_k40_whole_far_counts) (q := view (OpenLaw.row PySem.Challenge.rw_batchnumbers_k40_whole_far_counts).prog [0, 49]) (H := KV.hk40) (ob := KV.ob40) (M := 6000) (loose := KV.loose40) (d := HandSHeadRun.topDef (OpenLaw.row PySem.Challenge.rw_batchnumbers_k40_whole_far_counts).prog 49) (kwd := []) KV.ob40_eq
    KV.run40 (by kernel_rfl) (by kernel_rfl) (by kernel_rfl) (by rfl) (by first | assumption | decide +kernel) (by decide +kernel) ⟨rfl, rfl, rfl, rfl, rfl, by decide +kernel⟩ ?hw ?hc
  case hw => w_witness2
  case hc =>
    refine KV.walk_ofGT (l := PySem.Challenge.rw_batchnumbers_k40_whole_far_counts) (n := 63) (k := 15) (x := "_law_script") rfl (by decide) (by kernel_rfl) ⟨rfl, by decide, by decide⟩ ?F
    intro w mg fa h Y G hmg0
    obtain ⟨K, KX, c, b, tb⟩ := Y
    have hmg : mg ("law" : PySem.Str) = some (.ref fa) := by
      have e : (HandSHeadRun.topDef (OpenLaw.row PySem.Challenge.rw_batchnumbers_k40_whole_far_counts).prog 49).name = ("law" : PySem.Str) := by kernel_rfl
      rw [← e]
      exact hmg0
    obtain ⟨fd, ct, Pt, tab, nT, C, hb, hF⟩ := KV.end40 (P := (PySem.Challenge.rw_batchnumbers_k40_whole_far_counts).prog) (w := w) KX G hmg c b tb
    exact ⟨K, fd, KV.spLaw K Pt, ct, Pt, KX, tab, nT, C, hb, fun H a ns _ hP hS => ⟨a, ns, rfl, hS, hP, fun _ => rfl⟩, hF⟩
