import PyProof.Rows.All
import Wide.All
import OpenK.AllK
import Wide.FinOn
import PySem.Challenge.RW_waitbolts_k10_whole_great_locks
import HandS.Evl
import HandS.Ends
import HandS.Words
import HandS.TupSets
import PyProof.ReprRoads
import PyProof.P3In
import KE.GoesEnum
import HandS.Walk
import HandS.Zip
import KE.GoesMore
import PyProof.EnumMake
import HandS.TupLe
import HandS.TupAny
import HandS.Deep
import HandS.DictComp
import HandS.IsInst
import HandS.RevRange
import HandS.Conv
import HandS.Style
import HandS.Wide
import HandS.WideMore
import HandS.Dict
import HandS.Comp
import HandS.Flow
import HandS.WordsList
import HandS.WordsDict
import HandS.Exc
import HandS.ExcOwn
import PyProof.DictFindH
import HandS.Sort
import HandS.Gcd
import PyProof.EqAt
import PyProof.ConsumeWalk
import PyProof.FactsTree
import HandS.SetBool
import HandS.Strs
import HandS.SetFor
import OpenK.KMake
import HandS.Keys
import HandS.RaiseMore
import HandS.Iter
import KE.KDictDisplayH
import HandS.ReCall
import HandS.TupLen
import KE.KDictPairs
import KE.KeyNested
import KE.KDictKeyed
import HandS.DictSub
set_option Elab.async false
set_option linter.all false
set_option maxRecDepth 100000
set_option maxHeartbeats 2000000
namespace Wb
open PySem PySem.Spec PyProof.Rows L2

/-! ### promises that know that no repr runs around them -/
structure FnG (P : Program) (w : World) (K : PySem.W.Frag) (mg : Str → Option Value) (base : Heap) (k : Nat) (f : Addr) (fd : FuncData) (ps : List Str) (sp : Sp) : Prop where
  len : ∀ vs H Q E, sp vs H Q E → vs.length = ps.length
  go : ∀ (A : Around) (outer : List Env) (s : Shared) (H : Hp) (args : Args) (us : List Value) (vs : List V) (Q : VK) (E : XK),
    A.guards = some [] → Room k A → Env0 P w K mg base A outer s H → BindsTo s fd args (ps.zip us) → Vals vs us → sp vs H Q E →
    codeAny (model P w) A (.call (.ref f) args) (CR CX0 outer P w H s Q E) s

section
variable {P : Program} {w : World} {K : PySem.W.Frag} {mg : Str → Option Value} {base : Heap}
theorem fnG_ok {x qual : Str} {st : Stmt} {f : Addr} {fd : FuncData} {N ps : List Str} {k : Nat} {sp : Sp} (F : Fun K x qual st f fd)
    (S : FnScope N ps (defScope st)) (len : ∀ vs H Q E, sp vs H Q E → vs.length = ps.length)
    (hbody : ∀ (cdv : Value) (A : Around) (outer : List Env) (s : Shared) (H : Hp) (vs : List V) (Q : VK) (E : XK), A.guards = some [] →
      Room k (A.deeper (envOfC qual (defScope st) s.heap.objs.size f cdv)) → sp vs H Q E →
      ∃ t, PSs (cxOf CX0 P w K mg base N qual (defScope st) f cdv A outer s H E).nox (defBody st) t ∧
        t { nx := fun _ H' => Q .non H', rt := Q } (start N vs) H) : FnG P w K mg base (k + 1) f fd ps sp := by
  obtain ⟨oc, od, kV, doc, pm, an, cdv, ct, osl, rfl, lk, hcd⟩ := F.ex
  refine ⟨len, ?_⟩
  intro A outer s H args us vs Q E hgd hr e0 hb r hsp
  have e1 : K.In s.heap := e0.mod.kin.keeps (fun b o e => (e0.bs b o e).1)
  have e2 : s.heap.NoLimit := e0.mod.nolimit.keeps (fun b o e => (e0.bs b o e).1)
  have kinds : ∀ y ∈ ps.zip us, (defScope st).names.lookup y.1 = some .local ∨
      ((defScope st).names.lookup y.1 = some .cell ∧ ((cellsFrom (s.heap.objs.size + 1) (defScope st).names []).lookup y.1).isSome = true) := by
    rintro ⟨n, v⟩ hy
    cases S.par n (List.of_mem_zip hy).1 with
    | inl q => exact .inl q
    | inr q => exact .inr ⟨q, PySem.W.cellsFrom_some _ _ _ (.inl q)⟩
  apply codeAny_call_function hr.depth (e1 _ _ lk) rfl S.co S.gen rfl (PySem.W.codeRec_of e1 hcd)
  apply hb
  apply wpAny_newFunctionEnv_cells S.kind kinds
  intro env he s1 x
  subst he
  refine ⟨e2.keeps x.toInCall.keep, codeAny_func ?_⟩
  obtain ⟨t, ht, hq⟩ := hbody cdv A outer s H vs Q E hgd (hr.deeper _) hsp
  have I := inv_start (CX := CX0) (P := P) (w := w) (qual := qual) (E := E) S hr.hd e0 (len _ _ _ _ hsp) r x
  apply wpAny_mono (ht.nox.run [] s1 (start N vs) H _ I hq)
  · intro fl s' hs
    cases fl
    case next =>
      obtain ⟨σ', H', J, q⟩ := hs
      exact ⟨V.non, H', J.os, J.bare, J.base, J.hok, rfl, q⟩
    case brk => obtain ⟨_, _, _, q⟩ := hs; exact q.elim
    case cont => obtain ⟨_, _, _, q⟩ := hs; exact q.elim
    case ret u =>
      obtain ⟨v, σ', H', J, rv, q⟩ := hs
      exact ⟨v, H', J.os, J.bare, J.base, J.hok, rv, q⟩
  · intro e s' hs
    exact hs
end

section
variable {X : Cx}
/-! ### repr of data -/
def rRepr (K : PySem.W.Frag) : List V → Hp → VK → Prop := fun xs H Q => ∃ (a : Addr) (d : PyData), xs = [.ref a] ∧ Dp K H (.ref a) d ∧ d.showable = true ∧ d.hasDict = false ∧ d.depth ≤ 20 ∧ d.shown.length ≤ sizeLine ∧ Q (.str d.shown) H
theorem call_repr_data (hu : X.A.units + 64 < cLine) (hg : X.A.guards = some []) : CallR X (.builtin "repr") (rRepr X.K) := by
  intro pins s σ H xs us Q I r h
  obtain ⟨a, d, rfl, hd, h1, h2, h3, h4, q⟩ := h
  cases r with
  | cons r1 r2 =>
    cases r2
    obtain ⟨as, rd⟩ := Dp.reads I d _ _ hd r1
    cases r1
    refine repr_of_reads' rd h1 (fun z => by rw [h2] at z; cases z) hg (by omega) (fun _ _ e => e) (fun h' u tk hk => ?_) h4
    exact ⟨.str d.shown, H, I.kept (t' := tk) hk, ⟨u, rfl⟩, q⟩
/-! ### x in a tuple of data -/
def rInTD (K : PySem.W.Frag) : R2 := fun x y H Q => ∃ d ds, Dp K H x d ∧ Dp K H y (.tuple ds) ∧ SeqAt.shaped d = true ∧ SeqAt.shaped (.tuple ds) = true ∧ Q (.bl (ds.any fun z => PyData.eqv z d)) H
theorem op_inTD (hu : X.A.units + 65 < cLine) : OpR X (compareOp .In) (rInTD X.K) := by
  intro pins s σ H x y v u Q I rx ry h
  obtain ⟨d, ds, hd, he, sd, se, q⟩ := h
  obtain ⟨as, r1⟩ := Dp.reads I d x v hd rx
  obtain ⟨bs, r2⟩ := Dp.reads I (.tuple ds) y u he ry
  have hdp := SeqAt.depth_of_shaped sd
  have hcl : PyData.canLayAll0 ds = true := by
    have z := SeqAt.canLay_of_shaped se
    simpa [PyData.canLay0] using z
  refine SeqAt.in_tuple_reads r2 r1 hcl (SeqAt.canLay_of_shaped sd) (by show X.A.units + 1 + min _ _ < cLine; omega) ⟨.bl _, H, I, rfl, q⟩
end
end Wb

set_option Elab.async false
set_option linter.all false
set_option maxRecDepth 100000
set_option maxHeartbeats 2000000
namespace Wb
open PySem PySem.Spec PyProof.Rows L2

/-! ### a list or a tuple that is read: l tells which -/
def SqX (K : PySem.W.Frag) (l : Bool) (H : Hp) (a : Addr) (xs : List V) : Prop := if l = true then SqL K H a xs else SqT K H a xs
def ItAt (l : Bool) (h : Heap) (it a : Addr) (i : Nat) : Prop := if l = true then h.IsListIter it a i else h.IsTupleIter it a i
def SqAt (l : Bool) (h : Heap) (a : Addr) (us : Array Value) : Prop := if l = true then h.IsList a us else h.IsTuple a us
def itObj (l : Bool) (a : Addr) : Obj := if l = true then { cls := .type "list_iterator", data := .fields #[.ref a, .int 0 0] } else { cls := .type "tuple_iterator", data := .fields #[.ref a, .int 0 0] }

theorem itObj_at (l : Bool) {h : Heap} {it a : Addr} (e : h.get? it = some (itObj l a)) : ItAt l h it a 0 := by
  cases l
  · exact ⟨_, e, rfl, rfl⟩
  · exact ⟨_, e, rfl, rfl⟩
theorem ItAt.obj {l : Bool} {h : Heap} {it a : Addr} {i : Nat} (x : ItAt l h it a i) : ∃ o, h.get? it = some o ∧ ∀ v, o.data ≠ .cell v := by
  cases l
  · obtain ⟨o, e, _, d⟩ := x
    exact ⟨o, e, fun v q => by rw [d] at q; cases q⟩
  · obtain ⟨o, e, _, d⟩ := x
    exact ⟨o, e, fun v q => by rw [d] at q; cases q⟩
theorem ItAt.keep {l : Bool} {h h' : Heap} {it a : Addr} {i : Nat} (x : ItAt l h it a i) (k : ∀ o, h.get? it = some o → h'.get? it = some o) : ItAt l h' it a i := by
  cases l
  · exact Heap.IsTupleIter.at x k
  · exact Heap.IsListIter.at x k
theorem draws_at {prog : Program} {w : World} {A : Around} (hh : A.handled = none) (l : Bool) (it a : Addr) (hne : a ≠ it) (us : Array Value) :
    Draws prog w A it [it, a] us.size (fun i v => us[i]? = some v) (fun i h => ItAt l h it a i ∧ SqAt l h a us) := by
  cases l
  · exact Draws.tuple hh it a hne us
  · exact Draws.list hh it a hne us
theorem begins_at (l : Bool) (a : Addr) (us : Array Value) : Begins (.ref a) (itObj l a) (fun h => SqAt l h a us) := by
  cases l
  · exact begins_tuple a us
  · exact begins_list a us
section
variable {X : Cx} {pins : List (Addr × Obj)} {σ : L2.St} {H : Hp} {s : Shared}
theorem sqx_vals (I : Inv X pins σ H s) {l : Bool} {a : Addr} {xs : List V} (h : SqX X.K l H a xs) : ∃ us : List Value, Vals xs us ∧ SqAt l s.heap a us.toArray ∧ a < s.heap.objs.size := by
  cases l
  · obtain ⟨us, r, p, _⟩ := I.tuple (a := a) (xs := xs) h
    have p' : s.heap.IsTuple a us.toArray := p
    obtain ⟨o, e, _⟩ := p
    exact ⟨us, r, p', Heap.lt_size e⟩
  · obtain ⟨us, r, p, _⟩ := I.list (a := a) (xs := xs) h
    exact ⟨us, r, p.isList, p.lt⟩
theorem sqx_one (I : Inv X pins σ H s) {l : Bool} {a : Addr} {xs ys : List V} (h : SqX X.K l H a xs) (h' : SqX X.K l H a ys) : xs = ys := by
  cases l
  · exact I.tuple_inj (a := a) h h'
  · exact I.list_inj (a := a) h h'
end

/-! ### zip over any two of them -/
def Itzx (K : PySem.W.Frag) (l m : Bool) (a b : Addr) : It :=
  ⟨fun i H => ∃ (xs ys : List V) (x y : V), SqX K l H a xs ∧ SqX K m H b ys ∧ xs[i]? = some x ∧ ys[i]? = some y,
   fun i H v H' => ∃ T x y, v = .ref T ∧ H T = none ∧ H' = upd H T (.tup [x, y]) ∧ (∀ xs, SqX K l H a xs → xs[i]? = some x) ∧ ∀ ys, SqX K m H b ys → ys[i]? = some y,
   fun i H => ∃ xs ys : List V, SqX K l H a xs ∧ SqX K m H b ys ∧ (i = xs.length ∧ i ≤ ys.length ∨ i = ys.length ∧ i ≤ xs.length)⟩
structure Apart5 (z TI TO i1 i2 a b : Addr) : Prop where
  sep : ZipSep2 z TI TO i1 i2 [i1, a] [i2, b]
  n1 : a ≠ i1
  n2 : b ≠ i2
theorem turn_zx {P : Program} {w : World} {K : PySem.W.Frag} {elts : List Expr} {kk : Nat} {tpos : Pos} {a b z TI TO i1 i2 : Addr} {l m : Bool} (D : Apart5 z TI TO i1 i2 a b) :
    Turn P w K (.Tuple elts kk tpos) (Itzx K l m a b) [z, TI, TO, i1, i2] z
      (fun i h => IsZip h z TI TO .none ∧ IsTupOf2 h TI (.ref i1) (.ref i2) ∧ (∃ x y, IsTupOf2 h TO x y) ∧ ItAt l h i1 a i ∧ ItAt m h i2 b i) where
  mem := by simp
  obj := by
    rintro i h ⟨q1, q2, ⟨x, y, q3⟩, q4, q5⟩ c hc
    simp only [List.mem_cons, List.not_mem_nil, or_false] at hc
    rcases hc with rfl | rfl | rfl | rfl | rfl
    · exact ⟨_, q1, fun v q => nomatch q⟩
    · exact ⟨_, q2, fun v q => nomatch q⟩
    · exact ⟨_, q3, fun v q => nomatch q⟩
    · exact q4.obj
    · exact q5.obj
  keep := by
    rintro i h h' ⟨q1, q2, ⟨x, y, q3⟩, q4, q5⟩ k
    exact ⟨k _ (by simp) _ q1, k _ (by simp) _ q2, ⟨x, y, k _ (by simp) _ q3⟩, q4.keep (k i1 (by simp)), q5.keep (k i2 (by simp))⟩
  item := by
    intro X hP hw hK hc i pins s σ H E I hf st hg
    subst hP hw hK
    obtain ⟨q1, q2, ⟨x0, y0, q3⟩, q4, q5⟩ := st
    obtain ⟨xs, ys, x, y, hx, hy, ex, ey⟩ := hg
    obtain ⟨us, r1, p1, lt1⟩ := sqx_vals I hx
    obtain ⟨vs, r2, p2, lt2⟩ := sqx_vals I hy
    obtain ⟨u, hu, ru⟩ := r1.get ex
    obtain ⟨v, hv, rv⟩ := r2.get ey
    have hh : X.A.in1.handled = none := I.ok.hd hc
    have g1 := draws_at (prog := X.prog) (w := X.w) hh l i1 a D.n1 us.toArray
    have g2 := draws_at (prog := X.prog) (w := X.w) hh m i2 b D.n2 vs.toArray
    have b1 : i < us.toArray.size := by
      have := (List.getElem?_eq_some_iff.mp hu).1
      simpa using this
    have b2 : i < vs.toArray.size := by
      have := (List.getElem?_eq_some_iff.mp hv).1
      simpa using this
    have zl : z < s.heap.objs.size := Heap.lt_size q1
    refine wpAny_pyNext_zipD2_item D.sep g1 g2 q1 q2 q3 ⟨q4, p1⟩ ⟨q5, p2⟩ b1 b2 ?_
    intro u' v' h' tk eu ev z' TO' t1 t2 hT hsz hk
    have eu' : u' = u := by
      have e : us[i]? = some u' := by simpa using eu
      exact Option.some.inj (e.symm.trans hu)
    have ev' : v' = v := by
      have e : vs[i]? = some v' := by simpa using ev
      exact Option.some.inj (e.symm.trans hv)
    subst eu'
    subst ev'
    refine ⟨_, rfl, wpAny_letOwnedTupleGo_zip (s := { s with heap := h', toks := tk }) z' ?_⟩
    intro h2 z2 sb
    have keepT : h2.get? s.heap.objs.size = some { cls := .type "tuple", data := .seq #[u', v'] } := (sb.2 _ (Nat.ne_of_gt zl)).trans hT
    have all : ∀ c o, c ∉ [z, TI, TO, i1, i2] → s.heap.get? c = some o → h2.get? c = some o := by
      intro c o hc e
      simp only [List.mem_cons, List.not_mem_nil, or_false, not_or] at hc
      exact (sb.2 c hc.1).trans (hk c o hc.1 hc.2.2.1 hc.2.2.2.1 hc.2.2.2.2 e)
    have new : ObjOk X.prog X.w (upd H s.heap.objs.size (.tup [x, y])) h2 s.heap.objs.size (.tup [x, y]) :=
      ⟨(by decide : 2 ≤ sizeLine), [u', v'], Paired.cons ru (Paired.cons rv Paired.nil), ⟨_, keepT, rfl, _, rfl⟩⟩
    have J := I.turnedNew (t' := tk) all hf (Nat.le_refl _) new
    refine ⟨.ref s.heap.objs.size, _, J, rfl, ⟨_, x, y, rfl, I.hok.fresh (Nat.le_refl _), rfl, fun xs' h1 => ?_, fun ys' h1 => ?_⟩, ⟨z2, ?_, ⟨u', v', ?_⟩, ?_, ?_⟩, fun c hc => ?_⟩
    · rw [sqx_one I h1 hx]; exact ex
    · rw [sqx_one I h1 hy]; exact ey
    · exact (sb.2 _ D.sep.TIz).trans (hk _ _ D.sep.TIz D.sep.TITO D.sep.TIi1 D.sep.TIi2 q2)
    · exact (sb.2 _ D.sep.TOz).trans TO'
    · exact t1.1.keep fun o e => (sb.2 _ (Ne.symm D.sep.zi1)).trans e
    · exact t2.1.keep fun o e => (sb.2 _ (Ne.symm D.sep.zi2)).trans e
    · have hlt : c < s.heap.objs.size := by
        simp only [List.mem_cons, List.not_mem_nil, or_false] at hc
        rcases hc with rfl | rfl | rfl | rfl | rfl
        · exact zl
        · exact Heap.lt_size q2
        · exact Heap.lt_size q3
        · obtain ⟨o, e, _⟩ := q4.obj; exact Heap.lt_size e
        · obtain ⟨o, e, _⟩ := q5.obj; exact Heap.lt_size e
      rw [upd_ne (Nat.ne_of_lt hlt)]
      exact (hf c hc).1
  done := by
    intro X hP hw hK hc i pins s σ H E I hf st hg
    subst hP hw hK
    obtain ⟨q1, q2, ⟨x0, y0, q3⟩, q4, q5⟩ := st
    obtain ⟨xs, ys, hx, hy, he⟩ := hg
    obtain ⟨us, r1, p1, lt1⟩ := sqx_vals I hx
    obtain ⟨vs, r2, p2, lt2⟩ := sqx_vals I hy
    have hh : X.A.in1.handled = none := I.ok.hd hc
    have g1 := draws_at (prog := X.prog) (w := X.w) hh l i1 a D.n1 us.toArray
    have g2 := draws_at (prog := X.prog) (w := X.w) hh m i2 b D.n2 vs.toArray
    have e1 : us.toArray.size = xs.length := by rw [List.size_toArray, r1.length]
    have e2 : vs.toArray.size = ys.length := by rw [List.size_toArray, r2.length]
    refine wpAny_pyNext_zipD2_end D.sep g1 g2 q1 q2 q3 ⟨q4, p1⟩ ⟨q5, p2⟩ (by omega) (by omega) (by omega) ?_
    intro h' tk hk
    refine ⟨rfl, I.turnedL (t' := tk) (ch := [z, TI, TO, i1, i2]) (fun c o hc e => ?_) hf⟩
    simp only [List.mem_cons, List.not_mem_nil, or_false, not_or] at hc
    exact hk c o hc.1 hc.2.2.1 hc.2.2.2.1 hc.2.2.2.2 e
  self := fun A i s Q E st h => wpAny_pyIter_zip st.1 h

def iZipX (K : PySem.W.Frag) (ta : TA) : TI := fun σ H R => ta σ H fun vs H1 => ∃ l m a b xs ys, vs = [.ref a, .ref b] ∧ SqX K l H1 a xs ∧ SqX K m H1 b ys ∧ R (Itzx K l m a b) H1
theorem pi_zipX {X : Cx} {e e2 : Expr} {ta : TA} {p pos tpos : Pos} {elts : List Expr} {kk : Nat} (hg : Gl X "zip") (hm : X.mg "zip" = none) (ha : PA X [e, e2] ta)
    (hs : starEach [e, e2] X.env = (false, eval e X.env) :: starEach [e2] X.env := by rfl) (hpl : (backTo pos (starEach [e2] X.env)).any (·.1) = false := by rfl) :
    PI X (.Tuple elts kk tpos) (.Call (.Name "zip" p) [e, e2] [] pos) (iZipX X.K ta) := by
  constructor
  intro pins s σ H R I h
  refine Call_ (ld_blt I hg hm PyProof.Rows.boot_zip (PyProof.Rows.callWith_type1 (thn (ha.run pos pins s σ H _ I h) ?_) hs hpl))
  rintro us s1 ⟨vs, H1, I1, r1, l, m, a, b, xs, ys, rfl, hx, hy, q⟩
  obtain ⟨us1, w1, p1, lt1⟩ := sqx_vals I1 hx
  obtain ⟨us2, w2, p2, lt2⟩ := sqx_vals I1 hy
  rcases r1 with _ | ⟨ra, r1⟩
  rcases r1 with _ | ⟨rb, r1⟩
  cases r1
  cases ra
  cases rb
  refine zip_begins2 (begins_at l a us1.toArray) (begins_at m b us2.toArray) p1 p2 ?_
  intro h' hz hTI hTO h1 h2 hsz hk
  refine wpAny_pyIter_zip hz ?_
  have I2 : Inv X pins σ H1 { s1 with heap := h' } := I1.kept (t' := s1.toks) hk
  have D : Apart5 (s1.heap.objs.size + 4) (s1.heap.objs.size + 2) (s1.heap.objs.size + 3) s1.heap.objs.size (s1.heap.objs.size + 1) a b :=
    ⟨zip_sep2 (N := s1.heap.objs.size) (fp1 := [a]) (fp2 := [b]) (by simpa using lt1) (by simpa using lt2), Nat.ne_of_lt lt1, Nat.ne_of_lt (Nat.lt_succ_of_lt lt2)⟩
  refine ⟨s1.heap.objs.size + 4, [s1.heap.objs.size + 4, s1.heap.objs.size + 2, s1.heap.objs.size + 3, s1.heap.objs.size, s1.heap.objs.size + 1], _, _, H1, rfl, I2, turn_zx D, ⟨hz, hTI, ⟨_, _, hTO⟩, itObj_at l h1, itObj_at m h2⟩, ?_, q⟩
  intro c hc
  have hle : s1.heap.objs.size ≤ c := by
    simp only [List.mem_cons, List.not_mem_nil, or_false] at hc
    rcases hc with rfl | rfl | rfl | rfl | rfl
    · exact Nat.le_add_right _ _
    · exact Nat.le_add_right _ _
    · exact Nat.le_add_right _ _
    · exact Nat.le_refl _
    · exact Nat.le_add_right _ _
  exact I1.fpOk hle (I1.hok.fresh hle)
theorem walk_zx {K : PySem.W.Frag} {l m : Bool} {a b : Addr} {xs ys : List V} (hl : xs.length = ys.length) :
    Walk (Itzx K l m a b) xs.length (fun H => SqX K l H a xs ∧ SqX K m H b ys) (YPair (fun i => xs[i]?) (fun i => ys[i]?)) := by
  refine ⟨fun i H hi q => ?_, fun H q => ⟨xs, ys, q.1, q.2, .inl ⟨rfl, by omega⟩⟩, fun i H v H' hi q y => ?_⟩
  · have h2 : i < ys.length := by omega
    exact ⟨xs, ys, xs[i], ys[i], q.1, q.2, by simp [hi], by simp [h2]⟩
  · obtain ⟨T, x, z, h1, h2, h3, h4, h5⟩ := y
    exact ⟨T, x, z, h1, h2, h3, h4 xs q.1, h5 ys q.2⟩

/-! ### enumerate over either -/
def Itex (K : PySem.W.Frag) (l : Bool) (a : Addr) : It :=
  ⟨fun i H => ∃ (xs : List V) (x : V), SqX K l H a xs ∧ xs[i]? = some x,
   fun i H v H' => ∃ T x, v = .ref T ∧ H T = none ∧ H' = upd H T (.tup [.int (i : Nat), x]) ∧ ∀ xs, SqX K l H a xs → xs[i]? = some x,
   fun i H => ∃ xs : List V, SqX K l H a xs ∧ i = xs.length⟩
end Wb

set_option Elab.async false
set_option linter.all false
set_option maxRecDepth 100000
set_option maxHeartbeats 2000000
namespace Wb
open PySem PySem.Spec PyProof.Rows L2
open AutoSeq1 (wpAny_loadPart')

theorem meets_enumT (a : Addr) (us : Array Value) (n : Nat) (dct : Option Addr) (sl : Array (Option Value)) :
    Meets (Builtin.«enumerate.__new__» ⟨[.type "enumerate", .ref a], []⟩) (fun _ R s => s.heap.get? a = some { cls := .type "tuple", dict := dct, data := .seq us n, slots := sl } ∧
      R (.ok (.ret (.ref (s.heap.push (itObj false a)).objs.size)))
        { s with heap := (s.heap.push (itObj false a)).push { cls := .type "enumerate", data := .fields #[.none, .bool false, .ref s.heap.objs.size, rawInt 0, .none, .none] } }) := by
  apply Meets.of_wp
  intro prog w A R s h
  obtain ⟨hp, g, d, tk, os⟩ := s
  obtain ⟨hl, h⟩ := h
  have hsub := sub_enumerate
  have hT : Heap.IsTuple (Shared.heap ⟨hp, g, d, tk, os⟩) a us := ⟨_, hl, rfl, n, rfl⟩
  wp_walk using wpAny_loadPart' hl
  apply wpAny_stack_any
  intro st
  apply wpAny_pure
  split
  · rename_i c _ _ _ _ _
    cases (c == Value.type "enumerate") <;> wp_walk using wpAny_loadPart' hl, wpAny_pyIter_tuple hT
    · exact ⟨_, rfl, h⟩
    · exact ⟨_, rfl, h⟩
  · wp_walk using wpAny_loadPart' hl, wpAny_pyIter_tuple hT
    exact ⟨_, rfl, h⟩
theorem call_enumT {prog : Program} {w : World} {A : Around} {E : Value → Shared → Prop} {s : Shared} {a : Addr} {us : Array Value} {Q : Value → Shared → Prop} (hT : s.heap.IsTuple a us)
    (h : ∀ h', IsEnum h' (s.heap.objs.size + 1) s.heap.objs.size 0 .none → ItAt false h' s.heap.objs.size a 0 → (∀ b o, s.heap.get? b = some o → h'.get? b = some o) → Q (.ref (s.heap.objs.size + 1)) { s with heap := h' }) :
    wpAny (model prog w) A (call (.type "enumerate") [.ref a]) Q E s := by
  obtain ⟨⟨c, dct, dt, sl⟩, hl, hc, n, hd⟩ := hT
  have hc' : c = .type "tuple" := hc
  have hd' : dt = .seq us n := hd
  subst hc' hd'
  refine callType_new F.called_enumerate (by decide) (F.typeCall_enumerate_1 _) (F.newCall_enumerate_1 _) (fun obj => F.args_object_init_2 obj _) F.entry_enumerate_new (meets_enumT a us n dct sl) ⟨hl, ?_⟩
  have sz : (s.heap.push (itObj false a)).objs.size = s.heap.objs.size + 1 := Heap.size_push ..
  have e0 := Heap.get?_push_size (s.heap.push (itObj false a)) (o := { cls := .type "enumerate", data := .fields #[.none, .bool false, .ref s.heap.objs.size, rawInt 0, .none, .none] }) rfl
  rw [sz] at e0
  show _ ∧ _
  rw [sz]
  exact ⟨⟨_, e0, rfl⟩, h _ e0 (itObj_at false (Heap.get?_push_of_some _ (Heap.get?_push_size _ rfl))) fun b o x => Heap.get?_push_of_some _ (Heap.get?_push_of_some _ x)⟩

/-- the tuple at a, item by item, each in a new pair with its number -/
def Itet (K : PySem.W.Frag) (a : Addr) : It :=
  ⟨fun i H => ∃ (xs : List V) (x : V), SqT K H a xs ∧ xs[i]? = some x,
   fun i H v H' => ∃ T x, v = .ref T ∧ H T = none ∧ H' = upd H T (.tup [.int (i : Nat), x]) ∧ ∀ xs, SqT K H a xs → xs[i]? = some x,
   fun i H => ∃ xs : List V, SqT K H a xs ∧ i = xs.length⟩
theorem turn_et {P : Program} {w : World} {K : PySem.W.Frag} {elts : List Expr} {kk : Nat} {tpos : Pos} (a e it : Addr) (hne : e ≠ it) (hea : e ≠ a) (hia : a ≠ it) :
    Turn P w K (.Tuple elts kk tpos) (Itet K a) [e, it] e (fun i h => (∃ old, IsEnum h e it ((i : Nat) : Int) old) ∧ ItAt false h it a i) where
  mem := by simp
  obj := by
    rintro i h ⟨⟨old, q1⟩, q2⟩ b hb
    simp only [List.mem_cons, List.not_mem_nil, or_false] at hb
    rcases hb with rfl | rfl
    · exact ⟨_, q1, fun v q => nomatch q⟩
    · exact q2.obj
  keep := by
    rintro i h h' ⟨⟨old, q1⟩, q2⟩ k
    exact ⟨⟨old, k _ (by simp) _ q1⟩, q2.keep (k it (by simp))⟩
  item := by
    intro X hP hw hK hc i pins s σ H E I hf st hg
    subst hP hw hK
    obtain ⟨⟨old, q1⟩, q2⟩ := st
    obtain ⟨xs, x, hx, ex⟩ := hg
    obtain ⟨us, r1, p1, lt1⟩ := sqx_vals (l := false) I hx
    obtain ⟨u, hu, ru⟩ := r1.get ex
    have hh : X.A.in1.handled = none := I.ok.hd hc
    have g1 := draws_at (prog := X.prog) (w := X.w) hh false it a hia us.toArray
    have b1 : i < us.toArray.size := by
      have := (List.getElem?_eq_some_iff.mp hu).1
      simpa using this
    have el : e < s.heap.objs.size := Heap.lt_size q1
    have il : it < s.heap.objs.size := by obtain ⟨o, z, _⟩ := q2.obj; exact Heap.lt_size z
    refine wpAny_pyNext_enum_itemC g1 q1 ⟨q2, p1⟩ b1 hne (by simp [hne, hea]) ?_
    intro u' h' tk eu ho t1 hT hsz hk
    have eu' : u' = u := by
      have z : us[i]? = some u' := by simpa using eu
      exact Option.some.inj (z.symm.trans hu)
    subst eu'
    refine ⟨_, rfl, wpAny_letOwnedTupleGo_enum (s := { s with heap := h', toks := tk + 1 }) ho ?_⟩
    intro h2 he' sb
    have keepT := (sb.2 _ (Nat.ne_of_gt el)).trans hT
    have all : ∀ c o, c ∉ [e, it] → s.heap.get? c = some o → h2.get? c = some o := by
      intro c o hc z
      simp only [List.mem_cons, List.not_mem_nil, or_false, not_or] at hc
      exact (sb.2 c hc.1).trans (hk c o hc.1 hc.2 z)
    have new : ObjOk X.prog X.w (upd H s.heap.objs.size (.tup [.int (i : Nat), x])) h2 s.heap.objs.size (.tup [.int (i : Nat), x]) :=
      ⟨(by decide : 2 ≤ sizeLine), [.int i tk, u'], Paired.cons ⟨_, rfl⟩ (Paired.cons ru Paired.nil), ⟨_, keepT, rfl, _, rfl⟩⟩
    have J := I.turnedNew (t' := tk + 1) all hf (Nat.le_refl _) new
    refine ⟨.ref s.heap.objs.size, _, J, rfl, ⟨_, x, rfl, I.hok.fresh (Nat.le_refl _), rfl, fun xs' h1 => ?_⟩, ⟨⟨u', ?_⟩, ?_⟩, fun c hc => ?_⟩
    · rw [sqx_one (l := false) I h1 hx]; exact ex
    · have z : ((i + 1 : Nat) : Int) = (i : Int) + 1 := by omega
      rw [z]
      exact he'
    · exact t1.1.keep fun o z => (sb.2 _ (Ne.symm hne)).trans z
    · have hlt : c < s.heap.objs.size := by
        simp only [List.mem_cons, List.not_mem_nil, or_false] at hc
        rcases hc with rfl | rfl
        · exact el
        · exact il
      rw [upd_ne (Nat.ne_of_lt hlt)]
      exact (hf c hc).1
  done := by
    intro X hP hw hK hc i pins s σ H E I hf st hg
    subst hP hw hK
    obtain ⟨⟨old, q1⟩, q2⟩ := st
    obtain ⟨xs, hx, he⟩ := hg
    obtain ⟨us, r1, p1, lt1⟩ := sqx_vals (l := false) I hx
    have hh : X.A.in1.handled = none := I.ok.hd hc
    have g1 := draws_at (prog := X.prog) (w := X.w) hh false it a hia us.toArray
    have e1 : us.toArray.size = i := by rw [List.size_toArray, ← r1.length, he]
    refine wpAny_pyNext_enum_endD g1 q1 (by rw [e1]; exact ⟨q2, p1⟩) ?_
    intro h' eb
    obtain ⟨f0, f1, f2, f3, f4, f5⟩ := hf it (by simp)
    exact ⟨rfl, I.turned (t' := s.toks) (fun b o hb q => eb b o hb q) f0 f1 f3 f4 f5⟩
  self := by
    rintro A i s Q E ⟨⟨old, q1⟩, _⟩ h
    exact wpAny_pyIter_enum q1 h
def iEnumT (K : PySem.W.Frag) (ta : TA) : TI := fun σ H R => ta σ H fun vs H1 => ∃ a xs, vs = [.ref a] ∧ SqT K H1 a xs ∧ R (Itet K a) H1
theorem pi_enumT {X : Cx} {e : Expr} {ta : TA} {p pos tpos : Pos} {elts : List Expr} {kk : Nat} (hg : Gl X "enumerate") (hm : X.mg "enumerate" = none) (ha : PA X [e] ta)
    (hs : starEach [e] X.env = [(false, eval e X.env)] := by rfl) : PI X (.Tuple elts kk tpos) (.Call (.Name "enumerate" p) [e] [] pos) (iEnumT X.K ta) := by
  constructor
  intro pins s σ H R I h
  refine Call_ (ld_blt I hg hm boot_enumerate (PyProof.Rows.callWith_type1 (thn (ha.run pos pins s σ H _ I h) ?_) hs rfl))
  rintro us s1 ⟨vs, H1, I1, r1, a, xs, rfl, hx, q⟩
  obtain ⟨us1, w1, p1, lt1⟩ := sqx_vals (l := false) I1 hx
  rcases r1 with _ | ⟨ra, r1⟩
  cases r1
  cases ra
  refine call_enumT p1 ?_
  intro h' he hit hk
  refine wpAny_pyIter_enum he ?_
  have I2 : Inv X pins σ H1 { s1 with heap := h' } := I1.kept (t' := s1.toks) hk
  refine ⟨s1.heap.objs.size + 1, [s1.heap.objs.size + 1, s1.heap.objs.size], _, _, H1, rfl, I2, turn_et a _ _ (Nat.succ_ne_self _) (Nat.ne_of_gt (Nat.lt_succ_of_lt lt1)) (Nat.ne_of_lt lt1), ⟨⟨.none, he⟩, hit⟩, ?_, q⟩
  intro c hc
  have hle : s1.heap.objs.size ≤ c := by
    simp only [List.mem_cons, List.not_mem_nil, or_false] at hc
    rcases hc with rfl | rfl
    · exact Nat.le_add_right _ _
    · exact Nat.le_refl _
  exact I1.fpOk hle (I1.hok.fresh hle)
theorem walk_et {K : PySem.W.Frag} {a : Addr} {xs : List V} : Walk (Itet K a) xs.length (fun H => SqT K H a xs) (YPair (fun i => some (.int (i : Nat))) (fun i => xs[i]?)) := by
  refine ⟨fun i H hi q => ⟨xs, xs[i], q, by simp [hi]⟩, fun H q => ⟨xs, q, rfl⟩, fun i H v H' hi q y => ?_⟩
  obtain ⟨T, x, h1, h2, h3, h4⟩ := y
  exact ⟨T, .int (i : Nat), x, h1, h2, h3, rfl, h4 xs q⟩
end Wb

set_option Elab.async false
set_option linter.all false
set_option maxRecDepth 100000
set_option maxHeartbeats 2000000
namespace L2
open PySem PySem.Spec PyProof.Rows
section
variable {P : Program} {w : World} {A : Around} {E : Value → Shared → Prop} {s : Shared}
/-- sorted of a set of one tuple, whatever its length -/
theorem sorted_lone {a : Addr} {q : Addr × List Int} {es : Array (Int × Value)} {ep : Nat} {t : SetTable} {Q : Value → Shared → Prop} (R : SetTR P w s.heap a [q] es ep t) (hh : A.handled = none)
    (hQ : ∀ (s' : Shared) (p : Addr) (c : Nat), (∀ b o, s.heap.get? b = some o → s'.heap.get? b = some o) → s'.gens = s.gens → s'.os = s.os → s.heap.objs.size ≤ p →
      s'.heap.get? p = some (seqObj "list" #[.ref q.1] c) → Q (.ref p) s') : wpAny (model P w) A (call (.builtin "sorted") [.ref a]) Q E s := by
  obtain ⟨o, ho, hex, hd⟩ := R.ob
  have sz1 := R.size
  apply Calls.call_function_entry kind_sorted plain_sorted entry_sorted (args_sorted1 _)
  unfold Builtin.«sorted»
  apply wpAny_bind (m := checkCount "sorted" 1 1 _)
  apply wpAny_pure
  apply wpAny_bind
  apply collect_set (A := A.in1) hh ⟨o, ho, hex.1, hd⟩ R.fits (by unfold scanBound; simp at sz1; omega) R.tab.ris R.led
  intro s1 vs k1 hz g1 o1 pm
  have rows1 : es.toList.map (·.2) = [Value.ref q.1] := by
    rw [R.rows]
    rfl
  rw [rows1] at pm
  have evs : vs = [Value.ref q.1] := List.perm_singleton.mp pm
  subst evs
  apply wpAny_bind
  refine wpAny_newList ?_ (show 1 ≤ sizeLine by decide)
  have hoL : (s1.heap.push (seqObj "list" #[Value.ref q.1] 0)).get? s1.heap.objs.size = some (seqObj "list" [Value.ref q.1].toArray 0) := Heap.get?_push_size _ rfl
  apply wpAny_bind
  apply wpAny_holding
  refine wpAny_call_entry (s := { s1 with heap := s1.heap.push (seqObj "list" #[Value.ref q.1] 0) }) slot_list_sort (self := .ref s1.heap.objs.size) ⟨_, hoL, rfl⟩ entry_list_sort ?_ (args_list_sort _)
  refine SK.plain_sort (r := fun _ => 0) hoL (show 1 < 64 by decide) (fun h2 => absurd (show 2 ≤ 1 from h2) (by decide)) ?_
  intro ps out h1 h2 h3
  have eout : out.toList = [Value.ref q.1] := by
    rw [h1]
    have z := h2.map Prod.snd
    exact List.perm_singleton.mp z
  obtain ⟨c, hc⟩ := sortedHeap_at (vs := [Value.ref q.1]) (out := out) hoL
  have eo2 : out = #[Value.ref q.1] := by
    have z := congrArg List.toArray eout
    simpa using z
  subst eo2
  refine ⟨_, rfl, wpAny_pure ⟨_, rfl, hQ _ s1.heap.objs.size c (fun b u e => ?_) g1 o1 hz hc⟩⟩
  have e1 := k1 b u e
  have lt1 := Heap.lt_size e1
  show (sortedHeap (s1.heap.push (seqObj "list" #[Value.ref q.1] 0)) s1.heap.objs.size [Value.ref q.1] #[Value.ref q.1]).get? b = some u
  rw [sortedHeap_old (Nat.ne_of_lt lt1) (by rw [size_push']; exact Nat.lt_succ_of_lt lt1)]
  exact Heap.get?_push_of_some _ e1
end
section
variable {X : Cx}
/-- sorted(set) of tuples of as many ints each -/
def rSortedW (K : PySem.W.Frag) (P : Program) (w : World) : List V → Hp → VK → Prop := fun vs H Q => ∃ (a : Addr) (L : List (Addr × List Int)) (d : Nat) (B : Int), vs = [V.ref a] ∧ H a = some (SetTO P w a L) ∧
  (∀ p ∈ L, SqT K H p.1 (p.2.map V.int)) ∧ (∀ p ∈ L, p.2.length = d ∧ TS.Bd B p.2) ∧ L ≠ [] ∧
  ∀ (L' : List (Addr × List Int)) (p : Addr), L'.Perm L → (L'.map (·.2)).Nodup → L'.length < 64 → L'.Pairwise (fun q r => TS.code B q.2 ≤ TS.code B r.2) → H p = none → Q (.ref p) (upd H p (.lst (L'.map fun q => V.ref q.1)))
theorem cr_sortedW (hc : X.calm = true) : CallR X (.builtin "sorted") (rSortedW X.K X.prog X.w) := by
  intro pins s σ H vs us Q I r h
  obtain ⟨a, L, d, B, e1, ha, hk, hB, hne, q⟩ := h
  by_cases hd : 1 ≤ d
  · exact cr_sortedT hc pins s σ H vs us Q I r ⟨a, L, d, B, e1, ha, hk, hd, hB, q⟩
  · subst e1
    have R0 : SetT0 X.prog X.w s.heap a L := (I.hok a _ ha).1
    obtain ⟨es, ep, t, R⟩ := R0.full fun p hp => I.isT (hk p hp)
    have emp : ∀ p ∈ L, p.2 = [] := fun p hp => List.eq_nil_of_length_eq_zero (by have := (hB p hp).1; omega)
    obtain ⟨p0, rfl⟩ : ∃ p0, L = [p0] := by
      cases L with
      | nil => exact absurd rfl hne
      | cons p0 L1 =>
        cases L1 with
        | nil => exact ⟨p0, rfl⟩
        | cons p1 L2 =>
          exfalso
          have nd := R.nd
          have z0 := emp p0 (by simp)
          have z1 := emp p1 (by simp)
          simp [z0, z1] at nd
    rw [Vals.ref1 r]
    refine sorted_lone R (I.ok.hd hc) ?_
    intro s' p c k g o hp hg
    have hn : H p = none := I.hok.fresh hp
    have J : Inv X pins σ (upd H p (.lst [V.ref p0.1])) { s with heap := s'.heap, gens := s'.gens, drawn := s'.drawn, toks := s'.toks } :=
      I.call (ch := []) (Un.laid k hp hn) (I.hok.laid k hp ⟨(by show 1 ≤ sizeLine; decide), [Value.ref p0.1], c, Paired.cons rfl Paired.nil, hg⟩) (by rw [g]; exact I.bare) (fun _ z => nomatch z)
    have e : s' = { s with heap := s'.heap, gens := s'.gens, drawn := s'.drawn, toks := s'.toks } := by
      cases s'; cases s; cases o; rfl
    rw [e]
    exact ⟨.ref p, _, J, rfl, q [p0] p (List.Perm.refl _) (by simp) (show 1 < 64 by decide) (by simp) hn⟩
end
end L2

set_option Elab.async false
set_option linter.all false
set_option maxRecDepth 100000
set_option maxHeartbeats 2000000
namespace Wb
open PySem PySem.Spec PyProof.Rows L2

/-! ### data -/
abbrev Word := List Int
structure Gap where
  frm : Int
  to_ : Int
  price : Int
  ways : List Word
structure Bolt where
  many : Int
  gaps : List Gap
abbrev Lock := List Bolt

/-- tuples that are read stay -/
def TX (K : PySem.W.Frag) (H H' : Hp) : Prop := (∀ a xs, SqT K H a xs → SqT K H' a xs) ∧ ∀ a xs, H a = some (.tup xs) → H' a = some (.tup xs)
theorem TX.refl (K : PySem.W.Frag) (H : Hp) : TX K H H := ⟨fun _ _ h => h, fun _ _ h => h⟩
theorem TX.trans {K : PySem.W.Frag} {H H1 H2 : Hp} (a : TX K H H1) (b : TX K H1 H2) : TX K H H2 := ⟨fun x o h => b.1 x o (a.1 x o h), fun x o h => b.2 x o (a.2 x o h)⟩
theorem TX.ex {K : PySem.W.Frag} {H H' : Hp} (e : Evl.Ex H H') : TX K H H' := ⟨fun _ _ h => Evl.ex_t e h, fun _ _ h => e _ _ h⟩
/-- all but what stands at p is kept -/
def Exx (p : Addr) (H H' : Hp) : Prop := ∀ a o, a ≠ p → H a = some o → H' a = some o
theorem Exx.refl (p : Addr) (H : Hp) : Exx p H H := fun _ _ _ h => h
theorem Exx.trans {p : Addr} {H H1 H2 : Hp} (a : Exx p H H1) (b : Exx p H1 H2) : Exx p H H2 := fun x o n h => b x o n (a x o n h)
theorem Exx.ex {p : Addr} {H H' : Hp} (e : Evl.Ex H H') : Exx p H H' := fun a o _ h => e a o h
theorem Exx.put {p : Addr} {H : Hp} {o : HO} : Exx p H (upd H p o) := fun a u n h => by rw [upd_ne n]; exact h
theorem Exx.new {p q : Addr} {H : Hp} {o : HO} (h : H q = none) : Exx p H (upd H q o) := Exx.ex (Evl.Ex.new h)
/-- .. where p is no tuple -/
theorem Exx.tx {K : PySem.W.Frag} {p : Addr} {H H' : Hp} (e : Exx p H H') (np : ∀ xs, ¬ Rd H p (.tup xs)) : TX K H H' := by
  refine ⟨fun a xs h => ?_, fun a xs h => e a _ (fun z => np xs (.inl (z ▸ h))) h⟩
  rcases h with h | h
  · have na : a ≠ p := fun z => np xs (z ▸ h)
    rcases h with h | ⟨o, h⟩
    · exact .inl (.inl (e a _ na h))
    · exact .inl (.inr ⟨o, e a _ na h⟩)
  · exact .inr h
theorem Exx.l {K : PySem.W.Frag} {p a : Addr} {H H' : Hp} {xs : List V} (e : Exx p H H') (na : a ≠ p) (h : SqL K H a xs) : SqL K H' a xs := by
  rcases h with (h | ⟨o, h⟩) | h
  · exact .inl (.inl (e a _ na h))
  · exact .inl (.inr ⟨o, e a _ na h⟩)
  · exact .inr h

def Wd (K : PySem.W.Frag) (H : Hp) (v : V) (ns : Word) : Prop := ∃ a, v = .ref a ∧ H a = some (.tup (ns.map V.int))
def GapAt (K : PySem.W.Frag) (H : Hp) (v : V) (g : Gap) : Prop :=
  ∃ a b ws, v = .ref a ∧ SqT K H a [.int g.frm, .int g.to_, .int g.price, .ref b] ∧ SqT K H b ws ∧ Paired (Wd K H) ws g.ways
def BoltAt (K : PySem.W.Frag) (H : Hp) (v : V) (b : Bolt) : Prop := ∃ a c gs, v = .ref a ∧ SqT K H a [.int b.many, .ref c] ∧ SqT K H c gs ∧ Paired (GapAt K H) gs b.gaps
def LockAt (K : PySem.W.Frag) (H : Hp) (v : V) (l : Lock) : Prop := ∃ a bs, v = .ref a ∧ SqT K H a bs ∧ Paired (BoltAt K H) bs l

theorem Paired.imp {α β : Type} {F G : α → β → Prop} (f : ∀ a b, F a b → G a b) : ∀ {l₁ : List α} {l₂ : List β}, Paired F l₁ l₂ → Paired G l₁ l₂
  | _, _, .nil => .nil
  | _, _, .cons r t => .cons (f _ _ r) (Paired.imp f t)
section
variable {K : PySem.W.Frag} {H H' : Hp} {v : V}
theorem Wd.mono (e : TX K H H') {ns : Word} (h : Wd K H v ns) : Wd K H' v ns := by
  obtain ⟨a, r, q⟩ := h
  exact ⟨a, r, e.2 _ _ q⟩
theorem GapAt.mono (e : TX K H H') {g : Gap} (h : GapAt K H v g) : GapAt K H' v g := by
  obtain ⟨a, b, ws, r, q1, q2, q3⟩ := h
  exact ⟨a, b, ws, r, e.1 _ _ q1, e.1 _ _ q2, Paired.imp (fun _ _ => Wd.mono e) q3⟩
theorem BoltAt.mono (e : TX K H H') {b : Bolt} (h : BoltAt K H v b) : BoltAt K H' v b := by
  obtain ⟨a, c, gs, r, q1, q2, q3⟩ := h
  exact ⟨a, c, gs, r, e.1 _ _ q1, e.1 _ _ q2, Paired.imp (fun _ _ => GapAt.mono e) q3⟩
theorem LockAt.mono (e : TX K H H') {l : Lock} (h : LockAt K H v l) : LockAt K H' v l := by
  obtain ⟨a, bs, r, q1, q2⟩ := h
  exact ⟨a, bs, r, e.1 _ _ q1, Paired.imp (fun _ _ => BoltAt.mono e) q2⟩
end
section
variable {α β : Type} {R : α → β → Prop}
theorem Paired.get1 : ∀ {xs : List α} {ys : List β} {i : Nat} {x : α}, Paired R xs ys → xs[i]? = some x → ∃ y, ys[i]? = some y ∧ R x y
  | _, _, _, _, .nil, e => by simp at e
  | _, _, 0, _, .cons r _, e => by simp at e; subst e; exact ⟨_, rfl, r⟩
  | _, _, i + 1, x, .cons _ t, e => by
    obtain ⟨u, h1, h2⟩ := Paired.get1 (i := i) (x := x) t (by simpa using e)
    exact ⟨u, by simpa using h1, h2⟩
theorem Paired.get2 : ∀ {xs : List α} {ys : List β} {i : Nat} {y : β}, Paired R xs ys → ys[i]? = some y → ∃ x, xs[i]? = some x ∧ R x y
  | _, _, _, _, .nil, e => by simp at e
  | _, _, 0, _, .cons r _, e => by simp at e; subst e; exact ⟨_, rfl, r⟩
  | _, _, i + 1, y, .cons _ t, e => by
    obtain ⟨u, h1, h2⟩ := Paired.get2 (i := i) (y := y) t (by simpa using e)
    exact ⟨u, by simpa using h1, h2⟩
theorem Paired.len {xs : List α} {ys : List β} (h : Paired R xs ys) : xs.length = ys.length := Paired.length h
theorem Paired.app : ∀ {xs : List α} {ys : List β} {xs' : List α} {ys' : List β}, Paired R xs ys → Paired R xs' ys' → Paired R (xs ++ xs') (ys ++ ys')
  | _, _, _, _, .nil, s => s
  | _, _, _, _, .cons r t, s => .cons r (Paired.app t s)
theorem Paired.takeN : ∀ {xs : List α} {ys : List β} (n : Nat), Paired R xs ys → Paired R (xs.take n) (ys.take n)
  | _, _, 0, _ => .nil
  | _, _, _ + 1, .nil => .nil
  | _, _, n + 1, .cons r t => .cons r (Paired.takeN n t)
end
theorem take_succ_get {α : Type} {xs : List α} {i : Nat} {x : α} (h : xs[i]? = some x) : xs.take (i + 1) = xs.take i ++ [x] := by
  rw [List.take_add_one, h]
  rfl
theorem get_map_int {ns : List Int} {i : Nat} {x : V} (h : (ns.map V.int)[i]? = some x) : ∃ n, ns[i]? = some n ∧ x = .int n := by
  rw [List.getElem?_map] at h
  cases e : ns[i]? with
  | none => rw [e] at h; cases h
  | some n => rw [e] at h; exact ⟨n, rfl, (Option.some.inj h).symm⟩
theorem map_int_get {ns : List Int} {i : Nat} {n : Int} (h : ns[i]? = some n) : (ns.map V.int)[i]? = some (.int n) := by
  rw [List.getElem?_map, h]
  rfl

/-! ### what a lock must be -/
def lexLt2 (a b c d : Int) : Prop := a < c ∨ (a = c ∧ b < d)
structure GapOk (manys : List Int) (many : Int) (g : Gap) : Prop where
  f0 : 0 ≤ g.frm
  f1 : g.frm < many
  t0 : 0 ≤ g.to_
  t1 : g.to_ < many
  ne : g.frm ≠ g.to_
  p0 : 1 ≤ g.price
  p1 : g.price ≤ 1000000
  few : g.ways.length ≤ 8
  words : ∀ w ∈ g.ways, w.length = manys.length ∧ ∀ (i : Nat) (x m : Int), w[i]? = some x → manys[i]? = some m → 0 ≤ x ∧ x < m
  rise : g.ways.Pairwise (fun u w => HT.lexLt u w = true)
structure BoltOk (manys : List Int) (b : Bolt) : Prop where
  m0 : 2 ≤ b.many
  m1 : b.many ≤ 4
  gaps : ∀ g ∈ b.gaps, GapOk manys b.many g
  rise : b.gaps.Pairwise (fun g h => lexLt2 g.frm g.to_ h.frm h.to_)
  few : (b.gaps.map (fun g => g.ways.length)).sum ≤ 8
def manysOf (l : Lock) : List Int := l.map (·.many)
/-- the ways of the bolts numbered k and more, cut to k places -/
def cutsFrom (l : Lock) (k : Nat) (w : Word) : Prop := ∃ (j : Nat) (b : Bolt) (g : Gap) (u : Word), k ≤ j ∧ l[j]? = some b ∧ g ∈ b.gaps ∧ u ∈ g.ways ∧ w = u.take k
structure LockOk (l : Lock) : Prop where
  n0 : 1 ≤ l.length
  n1 : l.length ≤ 60
  bolts : ∀ (k : Nat) (b : Bolt), l[k]? = some b → BoltOk (manysOf (l.take k)) b
  words : ∀ (k : Nat) (ws : List Word), k < l.length → ws.Nodup → (∀ w ∈ ws, cutsFrom l k w) → ws.length ≤ 8
end Wb

set_option Elab.async false
set_option linter.all false
set_option maxRecDepth 100000
set_option maxHeartbeats 4000000
set_option pp.maxSteps 600
set_option pp.deepTerms false
namespace Wb
open PySem PySem.Spec PyProof.Rows L2
def topS (i : Nat) : Stmt := PySem.Challenge.pw_waitbolts_k10_whole_great_locks.main.body.getD i (.Pass ⟨0, 0, 0, 0⟩)
abbrev sWhole : Stmt := topS 3
abbrev sWholeIn : Stmt := topS 4
abbrev sTupOf : Stmt := topS 5
abbrev sPlaces : Stmt := topS 6
theorem scWhole : FnScope ["thing"] ["thing"] (defScope sWhole) := ⟨rfl, rfl, rfl, by decide +kernel, rfl, by decide +kernel, by decide +kernel⟩
theorem scWholeIn : FnScope ["thing", "low", "high"] ["thing", "low", "high"] (defScope sWholeIn) := ⟨rfl, rfl, rfl, by decide +kernel, rfl, by decide +kernel, by decide +kernel⟩
theorem scTupOf : FnScope ["thing", "low", "high"] ["thing", "low", "high"] (defScope sTupOf) := ⟨rfl, rfl, rfl, by decide +kernel, rfl, by decide +kernel, by decide +kernel⟩
theorem scPlaces : FnScope ["thing", "manys", "place", "many"] ["thing", "manys"] (defScope sPlaces) := ⟨rfl, rfl, rfl, by decide +kernel, rfl, by decide +kernel, by decide +kernel⟩

/-- the built-in names are the built-in ones -/
structure Bi (mg : Str → Option Value) : Prop where
  isi : mg "isinstance" = none
  int : mg "int" = none
  bool : mg "bool" = none
  tuple : mg "tuple" = none
  list : mg "list" = none
  len : mg "len" = none
  zip : mg "zip" = none
  all : mg "all" = none
  range : mg "range" = none
  rev : mg "reversed" = none
  enum : mg "enumerate" = none
  sorted : mg "sorted" = none
  set : mg "set" = none
  abs : mg "abs" = none
  repr : mg "repr" = none

theorem tyx_tup {K : PySem.W.Frag} {H : Hp} {a : Addr} {xs : List V} (h : SqT K H a xs) : TyX K H (.ref a) (.type "tuple") := by
  rcases h with (h | ⟨o, h⟩) | ⟨o, its, n, h, c, _⟩
  · exact .base (.tup h)
  · exact .fTuple h
  · exact .kTuple h c
theorem tyx_int {K : PySem.W.Frag} {H : Hp} (i : Int) : TyX K H (.int i) (.type "int") := .base (.int i)

/-! ### promises -/
def spWhole : Sp := fun vs H Q _ => ∃ i : Int, vs = [.int i] ∧ Q (.bl true) H
def spWholeIn : Sp := fun vs H Q _ => ∃ i l h : Int, vs = [.int i, .int l, .int h] ∧ Q (.bl (decide (l ≤ i) && decide (i ≤ h))) H
def spTupOf (K : PySem.W.Frag) : Sp := fun vs H Q _ => ∃ (a : Addr) (xs : List V) (l h : Int), vs = [.ref a, .int l, .int h] ∧ SqT K H a xs ∧ Q (.bl (decide (l ≤ (xs.length : Int)) && decide ((xs.length : Int) ≤ h))) H
/-- as many places as bolts, each of them one of its bolt's -/
def InAll (ns ms : List Int) : Prop := ns.length = ms.length ∧ ∀ (i : Nat) (n m : Int), ns[i]? = some n → ms[i]? = some m → 0 ≤ n ∧ n < m
def spPlaces (K : PySem.W.Frag) : Sp := fun vs H Q _ => ∃ (a b : Addr) (m : Bool) (ns ms : List Int), vs = [.ref a, .ref b] ∧ SqT K H a (ns.map V.int) ∧ SqX K m H b (ms.map V.int) ∧ InAll ns ms ∧ ∀ H', Evl.Ex H H' → Q (.bl true) H'

section
variable {P : Program} {w : World} {K : PySem.W.Frag} {mg : Str → Option Value} {base : Heap}
theorem ok_whole {f : Addr} {fd : FuncData} (F : Fun K "is_whole" "is_whole" sWhole f fd) (B : Bi mg) : FnOk P w K mg base CX0 1 f fd ["thing"] spWhole := by
  refine F.ok scWhole (fun vs H Q E h => ?_) (fun cdv A outer s H vs Q E hr h => ?_)
  · obtain ⟨i, rfl, _⟩ := h; rfl
  · obtain ⟨i, rfl, q⟩ := h
    refine ⟨_, pss_one (ps_ret (pe_and (pe_callB call_isi (by rfl) B.isi boot_isinstance (pa_cons (pv 0) (pa_cons (pe_bltn (v := .ty "int") (by rfl) B.int (by decide +kernel) rfl) pa_nil)))
      (pe_one (pe_not (pe_callB call_isi (by rfl) B.isi boot_isinstance (pa_cons (pv 0) (pa_cons (pe_bltn (v := .ty "bool") (by rfl) B.bool (by decide +kernel) rfl) pa_nil))))))), ?_⟩
    refine ⟨.int i, rfl, .int i, .ty "int", .type "int", .type "int", true, rfl, .ty _, tyx_int i, kit_ty (by decide +kernel), true, rfl, ?_⟩
    rw [if_pos rfl]
    refine ⟨.int i, rfl, .int i, .ty "bool", .type "int", .type "bool", false, rfl, .ty _, tyx_int i, kit_ty (by decide +kernel), false, rfl, q⟩
theorem ok_wholeIn {f f1 : Addr} {fd fd1 : FuncData} (F : Fun K "is_whole_in" "is_whole_in" sWholeIn f fd) (F1 : Fun K "is_whole" "is_whole" sWhole f1 fd1) (b1 : Binds K fd1 ["thing"] []) (g1 : mg "is_whole" = some (.ref f1)) (B : Bi mg) :
    FnOk P w K mg base CX0 2 f fd ["thing", "low", "high"] spWholeIn := by
  have G1 : FnOk P w K mg base CX0 1 f1 fd1 ["thing"] spWhole := ok_whole F1 B
  refine F.ok scWholeIn (fun vs H Q E h => ?_) (fun cdv A outer s H vs Q E hr h => ?_)
  · obtain ⟨i, l, m, rfl, _⟩ := h; rfl
  · obtain ⟨i, l, m, rfl, q⟩ := h
    refine ⟨_, pss_one (ps_ret (pe_and (pe_call G1 hr (by rfl) g1 F1.kp b1 .nil pass0 (pa_cons (pv 0) pa_nil)) (pe_one (pe_chain op_le op_le (pv 1) (pv 0) (pv 2))))), ?_⟩
    refine ⟨.int i, rfl, i, rfl, true, rfl, ?_⟩
    rw [if_pos rfl]
    refine ⟨.int l, rfl, .int i, rfl, l, i, rfl, rfl, decide (l ≤ i), rfl, ?_⟩
    by_cases h1 : l ≤ i
    · rw [if_pos (decide_eq_true h1)]
      refine ⟨.int m, rfl, i, m, rfl, rfl, ?_⟩
      rw [decide_eq_true h1] at q
      exact q
    · rw [if_neg (by rw [decide_eq_false h1]; exact Bool.false_ne_true)]
      rw [decide_eq_false h1] at q
      exact q
theorem ok_tupOf {f : Addr} {fd : FuncData} (F : Fun K "is_tuple_of" "is_tuple_of" sTupOf f fd) (B : Bi mg) : FnOk P w K mg base CX0 1 f fd ["thing", "low", "high"] (spTupOf K) := by
  refine F.ok scTupOf (fun vs H Q E h => ?_) (fun cdv A outer s H vs Q E hr h => ?_)
  · obtain ⟨a, xs, l, m, rfl, _⟩ := h; rfl
  · obtain ⟨a, xs, l, m, rfl, hx, q⟩ := h
    refine ⟨_, pss_one (ps_ret (pe_and (pe_callB call_isi (by rfl) B.isi boot_isinstance (pa_cons (pv 0) (pa_cons (pe_bltn (v := .ty "tuple") (by rfl) B.tuple (by decide +kernel) rfl) pa_nil)))
      (pe_one (pe_chain op_le op_le (pv 1) (pe_callB call_len_seq (by rfl) B.len PySem.boot_len (pa_cons (pv 0) pa_nil)) (pv 2))))), ?_⟩
    refine ⟨.ref a, rfl, .ref a, .ty "tuple", .type "tuple", .type "tuple", true, rfl, .ty _, tyx_tup hx, kit_ty (by decide +kernel), true, rfl, ?_⟩
    rw [if_pos rfl]
    refine ⟨.int l, rfl, .ref a, rfl, a, xs, rfl, .inr hx, l, xs.length, rfl, rfl, decide (l ≤ (xs.length : Int)), rfl, ?_⟩
    by_cases h1 : l ≤ (xs.length : Int)
    · rw [if_pos (decide_eq_true h1)]
      refine ⟨.int m, rfl, xs.length, m, rfl, rfl, ?_⟩
      rw [decide_eq_true h1] at q
      exact q
    · rw [if_neg (by rw [decide_eq_false h1]; exact Bool.false_ne_true)]
      rw [decide_eq_false h1] at q
      exact q
theorem sqx_ex {l : Bool} {H H' : Hp} {a : Addr} {xs : List V} (e : Evl.Ex H H') (h : SqX K l H a xs) : SqX K l H' a xs := by
  cases l
  · exact Evl.ex_t e h
  · exact Evl.ex_l e h
theorem sqx_seq {l : Bool} {H : Hp} {a : Addr} {xs : List V} (h : SqX K l H a xs) : SqL K H a xs ∨ SqT K H a xs := by
  cases l
  · exact .inr h
  · exact .inl h
theorem ok_places {f f1 : Addr} {fd fd1 : FuncData} (F : Fun K "are_places" "are_places" sPlaces f fd) (F1 : Fun K "is_tuple_of" "is_tuple_of" sTupOf f1 fd1) (b1 : Binds K fd1 ["thing", "low", "high"] []) (g1 : mg "is_tuple_of" = some (.ref f1)) (B : Bi mg) :
    FnOk P w K mg base CX0 2 f fd ["thing", "manys"] (spPlaces K) := by
  have G1 : FnOk P w K mg base CX0 1 f1 fd1 ["thing", "low", "high"] (spTupOf K) := ok_tupOf F1 B
  refine F.ok scPlaces (fun vs H Q E h => ?_) (fun cdv A outer s H vs Q E hr h => ?_)
  · obtain ⟨a, b, m, ns, ms, rfl, _⟩ := h; rfl
  · obtain ⟨a, b, m, ns, ms, rfl, hx, hy, ⟨hl, hin⟩, q⟩ := h
    have isI : ∀ (X : Cx) (T : String) (hT : X.mg T = none) (i : Nat), True := fun _ _ _ _ => trivial
    refine ⟨_, pss_cons (ps_if (pt_not (pt_val (pe_call G1 hr (by rfl) g1 F1.kp b1 .nil pass0 (pa_cons (pv 0) (pa_cons (pe_callB call_len_seq (by rfl) B.len PySem.boot_len (pa_cons (pv 1) pa_nil)) (pa_cons (pe_callB call_len_seq (by rfl) B.len PySem.boot_len (pa_cons (pv 1) pa_nil)) pa_nil))))))
        (pss_one (ps_ret pe_bl)) pss_nil)
      (pss_cons (ps_for PassesOwn.never rfl (pi_zipX (by rfl) B.zip (pa_cons (pv 0) (pa_cons (pv 1) pa_nil))) (pg_tup rfl (pgs_cons (pg_name (i := 2) scPlaces.nd rfl (.inl rfl)) (pgs_cons (pg_name (i := 3) scPlaces.nd rfl (.inl rfl)) pgs_nil)))
        (pss_one (ps_if (PW.pt (pw_or (pt_val (pe_callB call_isi (by rfl) B.isi boot_isinstance (pa_cons (pv 2) (pa_cons (pe_bltn (v := .ty "bool") (by rfl) B.bool (by decide +kernel) rfl) pa_nil))))
            (pw_or (pt_not (pt_val (pe_callB call_isi (by rfl) B.isi boot_isinstance (pa_cons (pv 2) (pa_cons (pe_bltn (v := .ty "int") (by rfl) B.int (by decide +kernel) rfl) pa_nil)))))
              (pw_or1 (pt_not (pt_chain op_le op_lt pe_int (pv 2) (pv 3)))))))
          (pss_one (ps_ret pe_bl)) pss_nil)))
      (pss_one (ps_ret pe_bl))), ?_⟩
    refine ⟨.ref a, rfl, .ref b, rfl, b, _, rfl, sqx_seq hy, .ref b, rfl, b, _, rfl, sqx_seq hy, a, _, _, _, rfl, hx, _, rfl, ?_⟩
    have e1 : (decide (((ms.map V.int).length : Int) ≤ ((ns.map V.int).length : Int)) && decide (((ns.map V.int).length : Int) ≤ ((ms.map V.int).length : Int))) = true := by
      rw [List.length_map, List.length_map, hl]
      simp
    rw [e1]
    refine iteF ?_
    refine ⟨.ref a, rfl, .ref b, rfl, false, m, a, b, ns.map V.int, ms.map V.int, rfl, hx, hy, ?_⟩
    refine for_it (walk_zx (l := false) (m := m) (xs := ns.map V.int) (ys := ms.map V.int) (by rw [List.length_map, List.length_map, hl])) (fun i σ H' => ∃ y2 y3, σ = [some (.ref a), some (.ref b), y2, y3] ∧ Evl.Ex H H') ⟨none, none, rfl, Evl.Ex.refl H⟩ ?_ ?_ ?_
    · rintro i σ H' _ ⟨_, _, _, e⟩
      exact ⟨Evl.ex_t e hx, sqx_ex e hy⟩
    · rintro i v σ H1 H2 hi ⟨y2, y3, rfl, e⟩ ⟨T, x, y, rfl, nT, rfl, ex, ey⟩
      obtain ⟨n, hn, rfl⟩ := get_map_int ex
      obtain ⟨k, hk, rfl⟩ := get_map_int ey
      obtain ⟨h0, h1⟩ := hin i n k hn hk
      refine ⟨T, [.int n, .int k], rfl, .inl (.inl upd_same), rfl, .int n, [.int k], rfl, .int k, [], rfl, rfl, ?_⟩
      refine ⟨.int n, rfl, .int n, .ty "bool", .type "int", .type "bool", false, rfl, .ty _, tyx_int n, kit_ty (by decide +kernel), false, rfl, ?_⟩
      refine iteF ?_
      refine ⟨.int n, rfl, .int n, .ty "int", .type "int", .type "int", true, rfl, .ty _, tyx_int n, kit_ty (by decide +kernel), true, rfl, ?_⟩
      refine iteF ?_
      refine ⟨.int n, rfl, 0, n, rfl, rfl, decide ((0:Int) ≤ n), rfl, ?_⟩
      rw [if_pos (decide_eq_true h0)]
      refine ⟨.int k, rfl, n, k, rfl, rfl, decide (n < k), rfl, ?_⟩
      rw [decide_eq_true h1]
      refine iteF ?_
      exact ⟨_, _, rfl, e.trans (Evl.Ex.new nT)⟩
    · rintro σ H' ⟨y2, y3, rfl, e⟩
      exact q H' e
end
end Wb

set_option Elab.async false
set_option linter.all false
set_option maxRecDepth 100000
set_option maxHeartbeats 4000000
set_option pp.maxSteps 600
set_option pp.deepTerms false
namespace Wb
open PySem PySem.Spec PyProof.Rows L2
abbrev sWays : Stmt := topS 24
abbrev sGap : Stmt := topS 23
abbrev sBolt : Stmt := topS 22
theorem scWays : FnScope ["thing", "below", "way", "n"] ["thing", "below"] (defScope sWays) := ⟨rfl, rfl, rfl, by decide +kernel, rfl, by decide +kernel, by decide +kernel⟩
theorem scGap : FnScope ["thing", "many", "below", "here", "there", "price", "ways"] ["thing", "many", "below"] (defScope sGap) := ⟨rfl, rfl, rfl, by decide +kernel, rfl, by decide +kernel, by decide +kernel⟩
theorem scBolt : FnScope ["thing", "below", "many", "gaps", "count", "last", "gap"] ["thing", "below"] (defScope sBolt) := ⟨rfl, rfl, rfl, by decide +kernel, rfl, by decide +kernel, by decide +kernel⟩

/-- the module's numbers -/
structure Nu (mg : Str → Option Value) : Prop where
  bolts : ∃ t, mg "MOST_BOLTS" = some (.int 60 t)
  fewest : ∃ t, mg "FEWEST_PLACES" = some (.int 2 t)
  places : ∃ t, mg "MOST_PLACES" = some (.int 4 t)
  ways : ∃ t, mg "MOST_WAYS" = some (.int 8 t)
  words : ∃ t, mg "MOST_WORDS" = some (.int 8 t)
  price : ∃ t, mg "MOST_PRICE" = some (.int 1000000 t)

/-- ways of a gap: words below, rising -/
structure WaysOk (ms : List Int) (ws : List Word) : Prop where
  few : ws.length ≤ 8
  words : ∀ w ∈ ws, InAll w ms
  rise : ws.Pairwise (fun u w => HT.lexLt u w = true)
def spWays (K : PySem.W.Frag) : Sp := fun vs H Q _ => ∃ (a b : Addr) (us : List V) (ws : List Word) (ms : List Int), vs = [.ref a, .ref b] ∧ SqT K H a us ∧ Paired (Wd K H) us ws ∧ SqL K H b (ms.map V.int) ∧ WaysOk ms ws ∧ ∀ H', Evl.Ex H H' → Q (.bl true) H'

theorem wd_ex {K : PySem.W.Frag} {H H' : Hp} (e : Evl.Ex H H') {v : V} {ns : Word} (h : Wd K H v ns) : Wd K H' v ns := h.mono (TX.ex e)
theorem all_true (n : Nat) : ((List.replicate n true).all id) = true := by simp

section
variable {P : Program} {w : World} {K : PySem.W.Frag} {mg : Str → Option Value} {base : Heap}
theorem ok_ways {f f1 f2 : Addr} {fd fd1 fd2 : FuncData} (F : Fun K "are_ways" "are_ways" sWays f fd) (F1 : Fun K "is_tuple_of" "is_tuple_of" sTupOf f1 fd1) (b1 : Binds K fd1 ["thing", "low", "high"] []) (g1 : mg "is_tuple_of" = some (.ref f1))
    (F2 : Fun K "are_places" "are_places" sPlaces f2 fd2) (b2 : Binds K fd2 ["thing", "manys"] []) (g2 : mg "are_places" = some (.ref f2)) (B : Bi mg) (N : Nu mg) :
    FnOk P w K mg base CX0 3 f fd ["thing", "below"] (spWays K) := by
  have G1 : FnOk P w K mg base CX0 1 f1 fd1 ["thing", "low", "high"] (spTupOf K) := ok_tupOf F1 B
  have G2 : FnOk P w K mg base CX0 2 f2 fd2 ["thing", "manys"] (spPlaces K) := ok_places F2 F1 b1 g1 B
  obtain ⟨tw, ew⟩ := N.ways
  refine F.ok scWays (fun vs H Q E h => ?_) (fun cdv A outer s H vs Q E hr h => ?_)
  · obtain ⟨a, b, us, ws, ms, rfl, _⟩ := h; rfl
  · obtain ⟨a, b, us, ws, ms, rfl, hx, hp, hy, ok, q⟩ := h
    have hr1 : Room 1 _ := hr.mono (by decide)
    refine ⟨_, pss_cons (ps_if (pt_not (pt_val (pe_call G1 hr1 (by rfl) g1 F1.kp b1 .nil pass0 (pa_cons (pv 0) (pa_cons pe_int (pa_cons (pe_glob (v := .int 8) (by rfl) ew ⟨_, rfl⟩) pa_nil)))))) (pss_one (ps_ret pe_bl)) pss_nil)
      (pss_cons (ps_if (pt_not (pt_val (pe_callB (cr_all rfl) (by rfl) B.all boot_all (pa_cons
          (pe_lc (own := [("way", 2)]) (g := gName 2) rfl scWays.nd (pi_tup (pv 0)) (blkOk_by (own := [("way", 2)]) (N := ["thing", "below", "way", "n"]) (sc := defScope sWays) (by decide +kernel))
            (fun _ _ _ _ _ => pg_name (i := 2) scWays.nd rfl (Or.inl rfl)) (fun _ _ _ _ _ => pts_nil)
            (fun _ _ _ _ _ => pe_call G2 hr (by rfl) g2 F2.kp b2 .nil pass0 (pa_cons (pv 2) (pa_cons (pv 1) pa_nil)))) pa_nil)))) (pss_one (ps_ret pe_bl)) pss_nil)
      (pss_one (ps_ret (pe_callB (cr_all rfl) (by rfl) B.all boot_all (pa_cons
          (pe_lc (own := [("n", 3)]) (g := gName 3) rfl scWays.nd (pi_range1 rfl B.range (pa_cons (pe_op op_sub (pe_callB call_len_seq (by rfl) B.len PySem.boot_len (pa_cons (pv 0) pa_nil)) pe_int) pa_nil)) (blkOk_by (own := [("n", 3)]) (N := ["thing", "below", "way", "n"]) (sc := defScope sWays) (by decide +kernel))
            (fun _ _ _ _ _ => pg_name (i := 3) scWays.nd rfl (Or.inl rfl)) (fun _ _ _ _ _ => pts_nil)
            (fun _ _ _ _ _ => pe_cmpR (r := rLtT K) (op_ltT hr.units0) (pe_ix (r := rIxT K) ix_tup (pv 0) (pv 3) (fun _ _ => rfl)) (pe_ix (r := rIxT K) ix_tup (pv 0) (pe_op op_add (pv 3) pe_int) (fun _ _ => rfl)) (nomark _))) pa_nil))))), ?_⟩
    have ul : us.length = ws.length := Paired.len hp
    have few := ok.few
    refine ⟨.ref a, rfl, a, us, 0, 8, rfl, hx, _, rfl, ?_⟩
    have e1 : (decide ((0 : Int) ≤ (us.length : Int)) && decide ((us.length : Int) ≤ 8)) = true := by
      rw [ul]
      simp
      omega
    rw [e1]
    refine iteF ?_
    refine ⟨.ref a, rfl, a, rfl, ⟨_, hx⟩, fun D hD => lc_tup (K := K) (a := a) (xs := us) (fun i H' => Evl.Ex H H' ∧ H' D = some (.lst ((List.replicate i true).map V.bl))) ⟨Evl.Ex.new hD, upd_same⟩ ?_ ?_ ?_⟩
    · rintro i H' _ ⟨e, _⟩
      exact Evl.ex_t e hx
    · rintro i x H' hi ⟨e, eD⟩
      obtain ⟨wd, hw, ⟨ax, rfl, hax⟩⟩ := Paired.get1 hp hi
      have hin := ok.words wd (List.mem_of_getElem? hw)
      refine ⟨rfl, .ref ax, rfl, .ref b, rfl, ax, b, true, wd, ms, rfl, Evl.ex_t e (SqT.of hax), Evl.ex_l e hy, hin, ?_⟩
      intro H2 e2
      have l9 : i < 9 := by
        have := (List.getElem?_eq_some_iff.mp hi).1
        omega
      refine ⟨_, e2 _ _ eD, ?_, (e.trans e2).mut hD, ?_⟩
      · rw [List.length_map, List.length_replicate]
        exact Nat.lt_of_lt_of_le l9 (by decide)
      · rw [upd_same, List.replicate_succ', List.map_append]
        rfl
    · rintro H1 ⟨e, eD⟩
      refine ⟨D, _, rfl, .inl (.inl eD), true, ?_, ?_⟩
      · rw [all_true]
      · refine iteF ?_
        refine ⟨.ref a, rfl, a, us, rfl, .inr (Evl.ex_t e hx), _, _, rfl, rfl, (us.length : Int) - 1, rfl, by omega, by omega, fun D2 hD2 =>
          lc_range (lo := 0) (n := ((us.length : Int) - 1).toNat) (fun i H' => Evl.Ex H1 H' ∧ H' D2 = some (.lst ((List.replicate i true).map V.bl))) ⟨Evl.Ex.new hD2, upd_same⟩ ?_ ?_⟩
        · rintro i H' hi ⟨e2, eD2⟩
          have h1 : i < us.length := by omega
          have h2 : i + 1 < us.length := by omega
          obtain ⟨u1, hu1, ⟨a1, ea1, ha1⟩⟩ := Paired.get1 hp (List.getElem?_eq_getElem h1)
          obtain ⟨u2, hu2, ⟨a2, ea2, ha2⟩⟩ := Paired.get1 hp (List.getElem?_eq_getElem h2)
          have rise : HT.lexLt u1 u2 = true := by
            obtain ⟨l1, q1⟩ := List.getElem?_eq_some_iff.mp hu1
            obtain ⟨l2, q2⟩ := List.getElem?_eq_some_iff.mp hu2
            have := List.pairwise_iff_getElem.mp ok.rise i (i + 1) l1 l2 (Nat.lt_succ_self i)
            rw [q1, q2] at this
            exact this
          refine ⟨rfl, ?_⟩
          have e3 := e.trans e2
          refine ⟨.ref a, rfl, .int ((0 : Int) + (i : Nat)), rfl, a, us, (0 : Int) + (i : Nat), .ref a1, rfl, rfl, Evl.ex_t e3 hx, ?_, .ref a, rfl, .int ((0 : Int) + (i : Nat)), rfl, _, _, rfl, rfl, a, us, (0 : Int) + (i : Nat) + 1, .ref a2, rfl, rfl, Evl.ex_t e3 hx, ?_, a1, a2, u1, u2, rfl, rfl, Evl.ex_t e3 (SqT.of ha1), Evl.ex_t e3 (SqT.of ha2), ?_⟩
          · have z : (0 : Int) + (i : Nat) = ((i : Nat) : Int) := by omega
            rw [z, ← ea1]
            exact atI_nat (List.getElem?_eq_getElem h1)
          · have z : (0 : Int) + (i : Nat) + 1 = ((i + 1 : Nat) : Int) := by omega
            rw [z, ← ea2]
            exact atI_nat (List.getElem?_eq_getElem h2)
          · refine ⟨_, eD2, ?_, e2.mut hD2, ?_⟩
            · rw [List.length_map, List.length_replicate]
              exact Nat.lt_of_lt_of_le (show i < 9 by omega) (by decide)
            · rw [upd_same, List.replicate_succ', List.map_append, rise]
              rfl
        · rintro H2 ⟨e2, eD2⟩
          refine ⟨D2, _, rfl, .inl (.inl eD2), ?_⟩
          rw [all_true]
          exact q H2 (e.trans e2)
end
end Wb

set_option Elab.async false
set_option linter.all false
set_option maxRecDepth 100000
set_option maxHeartbeats 4000000
set_option pp.maxSteps 600
set_option pp.deepTerms false
namespace Wb
open PySem PySem.Spec PyProof.Rows L2
def spGap (K : PySem.W.Frag) : Sp := fun vs H Q _ => ∃ (v : V) (b : Addr) (g : Gap) (many : Int) (ms : List Int), vs = [v, .int many, .ref b] ∧ GapAt K H v g ∧ SqL K H b (ms.map V.int) ∧ GapOk ms many g ∧ ∀ H', Evl.Ex H H' → Q (.bl true) H'
def spBolt (K : PySem.W.Frag) : Sp := fun vs H Q _ => ∃ (v : V) (b : Addr) (bo : Bolt) (ms : List Int), vs = [v, .ref b] ∧ BoltAt K H v bo ∧ SqL K H b (ms.map V.int) ∧ BoltOk ms bo ∧ ∀ H', Evl.Ex H H' → Q (.bl true) H'

theorem inAll_two {a b m : Int} (h1 : 0 ≤ a) (h2 : a < m) (h3 : 0 ≤ b) (h4 : b < m) : InAll [a, b] [m, m] := by
  refine ⟨rfl, fun i n k hn hk => ?_⟩
  match i, hn, hk with
  | 0, hn, hk =>
    cases hn; cases hk; exact ⟨h1, h2⟩
  | 1, hn, hk =>
    cases hn; cases hk; exact ⟨h3, h4⟩
  | i + 2, hn, hk => simp at hn
theorem GapOk.ways_ok {ms : List Int} {many : Int} {g : Gap} (h : GapOk ms many g) : WaysOk ms g.ways :=
  ⟨h.few, fun w hw => ⟨(h.words w hw).1, (h.words w hw).2⟩, h.rise⟩
theorem lex2 {a b c d : Int} (h : lexLt2 c d a b) : Ob.lexAt (fun j => decide (([a, b] : List Int).getD j 0 = ([c, d] : List Int).getD j 0)) (fun j => decide (([a, b] : List Int).getD j 0 ≤ ([c, d] : List Int).getD j 0)) (decide (([a, b] : List Int).length ≤ ([c, d] : List Int).length)) 0 (min ([a, b] : List Int).length ([c, d] : List Int).length) = false := by
  show (if decide (a = c) = true then (if decide (b = d) = true then (decide (2 ≤ 2)) else decide (b ≤ d)) else decide (a ≤ c)) = false
  rcases h with h | ⟨h, h'⟩
  · rw [if_neg (by simp; omega)]
    simp; omega
  · rw [if_pos (by simp; omega), if_neg (by simp; omega)]
    simp; omega
theorem cut2 {a b c d : V} : cutV [a, b, c, d] none (some 2) = [a, b] := by
  unfold cutV
  rw [HT.sIx_none]
  rw [show HT.sIx [a, b, c, d].length [a, b, c, d].length (some 2) = 2 from HT.sIx_nat 4 4 2]
  rfl

section
variable {P : Program} {w : World} {K : PySem.W.Frag} {mg : Str → Option Value} {base : Heap}
theorem ok_gap {f f1 f2 f3 f4 f5 : Addr} {fd fd1 fd2 fd3 fd4 fd5 : FuncData} (F : Fun K "is_gap" "is_gap" sGap f fd) (F1 : Fun K "is_tuple_of" "is_tuple_of" sTupOf f1 fd1) (b1 : Binds K fd1 ["thing", "low", "high"] []) (g1 : mg "is_tuple_of" = some (.ref f1))
    (F2 : Fun K "are_places" "are_places" sPlaces f2 fd2) (b2 : Binds K fd2 ["thing", "manys"] []) (g2 : mg "are_places" = some (.ref f2))
    (F3 : Fun K "is_whole_in" "is_whole_in" sWholeIn f3 fd3) (b3 : Binds K fd3 ["thing", "low", "high"] []) (g3 : mg "is_whole_in" = some (.ref f3))
    (F4 : Fun K "are_ways" "are_ways" sWays f4 fd4) (b4 : Binds K fd4 ["thing", "below"] []) (g4 : mg "are_ways" = some (.ref f4))
    (F5 : Fun K "is_whole" "is_whole" sWhole f5 fd5) (b5 : Binds K fd5 ["thing"] []) (g5 : mg "is_whole" = some (.ref f5)) (B : Bi mg) (N : Nu mg) :
    FnOk P w K mg base CX0 4 f fd ["thing", "many", "below"] (spGap K) := by
  have G1 : FnOk P w K mg base CX0 1 f1 fd1 ["thing", "low", "high"] (spTupOf K) := ok_tupOf F1 B
  have G2 : FnOk P w K mg base CX0 2 f2 fd2 ["thing", "manys"] (spPlaces K) := ok_places F2 F1 b1 g1 B
  have G3 : FnOk P w K mg base CX0 2 f3 fd3 ["thing", "low", "high"] spWholeIn := ok_wholeIn F3 F5 b5 g5 B
  have G4 : FnOk P w K mg base CX0 3 f4 fd4 ["thing", "below"] (spWays K) := ok_ways F4 F1 b1 g1 F2 b2 g2 B N
  obtain ⟨tp, ep⟩ := N.price
  refine F.ok scGap (fun vs H Q E h => ?_) (fun cdv A outer s H vs Q E hr h => ?_)
  · obtain ⟨v, b, g, m, ms, rfl, _⟩ := h; rfl
  · obtain ⟨v, b, g, m, ms, rfl, ⟨a, c, ws, rfl, hx, hw, hp⟩, hy, ok, q⟩ := h
    have hr1 : Room 1 _ := hr.mono (by decide)
    have hr2 : Room 2 _ := hr.mono (by decide)
    refine ⟨_, pss_cons (ps_if (pt_not (pt_val (pe_call G1 hr1 (by rfl) g1 F1.kp b1 .nil pass0 (pa_cons (pv 0) (pa_cons pe_int (pa_cons pe_int pa_nil)))))) (pss_one (ps_ret pe_bl)) pss_nil)
      (pss_cons (ps_asg (pv 0) (pg_tup rfl (pgs_cons (pg_name (i := 3) scGap.nd rfl (.inl rfl)) (pgs_cons (pg_name (i := 4) scGap.nd rfl (.inl rfl)) (pgs_cons (pg_name (i := 5) scGap.nd rfl (.inl rfl)) (pgs_cons (pg_name (i := 6) scGap.nd rfl (.inl rfl)) pgs_nil))))))
      (pss_cons (ps_if (PW.pt (pw_or (pt_not (pt_val (pe_call G2 hr2 (by rfl) g2 F2.kp b2 .nil pass0 (pa_cons (pe_tup (pa_cons (pv 3) (pa_cons (pv 4) pa_nil))) (pa_cons (pe_tup (pa_cons (pv 1) (pa_cons (pv 1) pa_nil))) pa_nil)))))
          (pw_or1 (pt_cmpR op_eq (pv 3) (pv 4) (nomark _))))) (pss_one (ps_ret pe_bl)) pss_nil)
      (pss_one (ps_ret (pe_and (pe_call G3 hr2 (by rfl) g3 F3.kp b3 .nil pass0 (pa_cons (pv 5) (pa_cons pe_int (pa_cons (pe_glob (v := .int 1000000) (by rfl) ep ⟨_, rfl⟩) pa_nil))))
        (pe_one (pe_call G4 hr (by rfl) g4 F4.kp b4 .nil pass0 (pa_cons (pv 6) (pa_cons (pv 2) pa_nil))))))))), ?_⟩
    refine ⟨.ref a, rfl, a, _, 4, 4, rfl, hx, true, rfl, ?_⟩
    refine iteF ?_
    refine ⟨.ref a, rfl, a, _, rfl, hx, rfl, _, _, rfl, _, _, rfl, _, _, rfl, _, _, rfl, rfl, ?_⟩
    refine ⟨.int g.frm, rfl, .int g.to_, rfl, (by show 2 ≤ sizeLine; decide), fun p1 n1 => ?_⟩
    refine ⟨.int m, rfl, .int m, rfl, (by show 2 ≤ sizeLine; decide), fun p2 n2 => ?_⟩
    have x1 : Evl.Ex H (upd H p1 (.tup [.int g.frm, .int g.to_])) := Evl.Ex.new n1
    have x2 := Evl.Ex.new (o := .tup [.int m, .int m]) n2
    refine ⟨p1, p2, false, [g.frm, g.to_], [m, m], rfl, .inl (.inl (x2 _ _ upd_same)), (Or.inl (Or.inl upd_same)), inAll_two ok.f0 ok.f1 ok.t0 ok.t1, fun H' x3 => ?_⟩
    refine ⟨true, rfl, ?_⟩
    refine iteF ?_
    refine ⟨.int g.frm, rfl, .int g.to_, rfl, rfl, decide (V.int g.frm = V.int g.to_), rfl, ?_⟩
    have ne : decide (V.int g.frm = V.int g.to_) = false := decide_eq_false fun z => ok.ne (V.int.inj z)
    rw [ne]
    refine iteF ?_
    refine ⟨.int g.price, rfl, g.price, 1, 1000000, rfl, true, ?_, ?_⟩
    · have z1 := ok.p0
      have z2 := ok.p1
      rw [decide_eq_true z1, decide_eq_true z2]
      rfl
    · refine iteT ?_
      have x : Evl.Ex H H' := (x1.trans x2).trans x3
      refine ⟨.ref c, rfl, .ref b, rfl, c, b, ws, g.ways, ms, rfl, Evl.ex_t x hw, Paired.imp (fun _ _ => wd_ex x) hp, Evl.ex_l x hy, ok.ways_ok, fun H2 y => q H2 (x.trans y)⟩
theorem ok_bolt {f f1 f2 f3 f4 f5 f6 : Addr} {fd fd1 fd2 fd3 fd4 fd5 fd6 : FuncData} (F : Fun K "is_bolt" "is_bolt" sBolt f fd) (F1 : Fun K "is_tuple_of" "is_tuple_of" sTupOf f1 fd1) (b1 : Binds K fd1 ["thing", "low", "high"] []) (g1 : mg "is_tuple_of" = some (.ref f1))
    (F2 : Fun K "are_places" "are_places" sPlaces f2 fd2) (b2 : Binds K fd2 ["thing", "manys"] []) (g2 : mg "are_places" = some (.ref f2))
    (F3 : Fun K "is_whole_in" "is_whole_in" sWholeIn f3 fd3) (b3 : Binds K fd3 ["thing", "low", "high"] []) (g3 : mg "is_whole_in" = some (.ref f3))
    (F4 : Fun K "are_ways" "are_ways" sWays f4 fd4) (b4 : Binds K fd4 ["thing", "below"] []) (g4 : mg "are_ways" = some (.ref f4))
    (F5 : Fun K "is_whole" "is_whole" sWhole f5 fd5) (b5 : Binds K fd5 ["thing"] []) (g5 : mg "is_whole" = some (.ref f5))
    (F6 : Fun K "is_gap" "is_gap" sGap f6 fd6) (b6 : Binds K fd6 ["thing", "many", "below"] []) (g6 : mg "is_gap" = some (.ref f6)) (B : Bi mg) (N : Nu mg) :
    FnOk P w K mg base CX0 5 f fd ["thing", "below"] (spBolt K) := by
  have G1 : FnOk P w K mg base CX0 1 f1 fd1 ["thing", "low", "high"] (spTupOf K) := ok_tupOf F1 B
  have G3 : FnOk P w K mg base CX0 2 f3 fd3 ["thing", "low", "high"] spWholeIn := ok_wholeIn F3 F5 b5 g5 B
  have G6 : FnOk P w K mg base CX0 4 f6 fd6 ["thing", "many", "below"] (spGap K) := ok_gap F6 F1 b1 g1 F2 b2 g2 F3 b3 g3 F4 b4 g4 F5 b5 g5 B N
  obtain ⟨tf, ef⟩ := N.fewest
  obtain ⟨tl, el⟩ := N.places
  obtain ⟨tw, ew⟩ := N.ways
  refine F.ok scBolt (fun vs H Q E h => ?_) (fun cdv A outer s H vs Q E hr h => ?_)
  · obtain ⟨v, b, bo, ms, rfl, _⟩ := h; rfl
  · obtain ⟨v, b, bo, ms, rfl, ⟨a, c, gs, rfl, hx, hg, hp⟩, hy, ok, q⟩ := h
    have hr1 : Room 1 _ := hr.mono (by decide)
    have hr2 : Room 2 _ := hr.mono (by decide)
    refine ⟨_, pss_cons (ps_if (pt_not (pt_val (pe_call G1 hr1 (by rfl) g1 F1.kp b1 .nil pass0 (pa_cons (pv 0) (pa_cons pe_int (pa_cons pe_int pa_nil)))))) (pss_one (ps_ret pe_bl)) pss_nil)
      (pss_cons (ps_asg (pv 0) (pg_tup rfl (pgs_cons (pg_name (i := 2) scBolt.nd rfl (.inl rfl)) (pgs_cons (pg_name (i := 3) scBolt.nd rfl (.inl rfl)) pgs_nil))))
      (pss_cons (ps_if (PW.pt (pw_or (pt_not (pt_val (pe_call G3 hr2 (by rfl) g3 F3.kp b3 .nil pass0 (pa_cons (pv 2) (pa_cons (pe_glob (v := .int 2) (by rfl) ef ⟨_, rfl⟩) (pa_cons (pe_glob (v := .int 4) (by rfl) el ⟨_, rfl⟩) pa_nil))))))
          (pw_or1 (pt_not (pt_val (pe_callB call_isi (by rfl) B.isi boot_isinstance (pa_cons (pv 3) (pa_cons (pe_bltn (v := .ty "tuple") (by rfl) B.tuple (by decide +kernel) rfl) pa_nil)))))))) (pss_one (ps_ret pe_bl)) pss_nil)
      (pss_cons (ps_set (i := 4) scBolt.nd rfl (.inl rfl) pe_int)
      (pss_cons (ps_set (i := 5) scBolt.nd rfl (.inl rfl) (pe_tup (pa_cons (pe_un un_neg pe_int) (pa_cons (pe_un un_neg pe_int) pa_nil))))
      (pss_cons (ps_for PassesOwn.never rfl (pi_tup (pv 3)) (pg_name (i := 6) scBolt.nd rfl (.inl rfl))
        (pss_cons (ps_if (PW.pt (pw_or (pt_not (pt_val (pe_call G6 hr (by rfl) g6 F6.kp b6 .nil pass0 (pa_cons (pv 6) (pa_cons (pv 2) (pa_cons (pv 1) pa_nil))))))
            (pw_or1 (pt_cmpR (op_leT hr.units0) (pe_slice sl_tupA (pv 6) po_none (po_some pe_int)) (pv 5) (nomark _))))) (pss_one (ps_ret pe_bl)) pss_nil)
        (pss_cons (ps_set (i := 5) scBolt.nd rfl (.inl rfl) (pe_slice sl_tupA (pv 6) po_none (po_some pe_int)))
        (pss_one (ps_aug (i := 4) scBolt.nd rfl (.inl rfl) (pe_callB call_len_seq (by rfl) B.len PySem.boot_len (pa_cons (pe_ix ix_tup (pv 6) pe_int (fun _ _ => rfl)) pa_nil)) ip_add)))))
      (pss_one (ps_ret (pe_cmpR op_le (pv 4) (pe_glob (v := .int 8) (by rfl) ew ⟨_, rfl⟩) (nomark _))))))))), ?_⟩
    refine ⟨.ref a, rfl, a, _, 2, 2, rfl, hx, true, rfl, ?_⟩
    refine iteF ?_
    refine ⟨.ref a, rfl, a, _, rfl, hx, rfl, _, _, rfl, _, _, rfl, rfl, ?_⟩
    refine ⟨.int bo.many, rfl, bo.many, 2, 4, rfl, true, ?_, ?_⟩
    · rw [decide_eq_true ok.m0, decide_eq_true ok.m1]
      rfl
    refine iteF ?_
    refine ⟨.ref c, rfl, .ref c, .ty "tuple", .type "tuple", .type "tuple", true, rfl, .ty _, tyx_tup hg, kit_ty (by decide +kernel), true, rfl, ?_⟩
    refine iteF ?_
    refine ⟨1, rfl, 1, rfl, (by show 2 ≤ sizeLine; decide), fun p0 n0 => ?_⟩
    have gl : gs.length = bo.gaps.length := Paired.len hp
    refine ⟨.ref c, rfl, c, rfl, ⟨_, (Evl.ex_t (Evl.Ex.new n0) hg)⟩, for_tup (K := K) (a := c) (xs := gs)
      (fun i σ H' => ∃ (pl : Addr) (lf lt : Int) (y6 : Option V), σ = [some (.ref a), some (.ref b), some (.int bo.many), some (.ref c), some (.int (((bo.gaps.take i).map (fun g => ((g.ways.length : Nat) : Int))).sum)), some (.ref pl), y6] ∧
        Evl.Ex H H' ∧ SqT K H' pl ([lf, lt].map V.int) ∧ (∀ g, bo.gaps[i]? = some g → lexLt2 lf lt g.frm g.to_)) ⟨p0, -1, -1, none, rfl, Evl.Ex.new n0, .inl (.inl upd_same), ?_⟩ ?_ ?_ ?_⟩
    · intro g hgi
      have := (ok.gaps g (List.mem_of_getElem? hgi)).f0
      exact .inl (by omega)
    · rintro i σ H' _ ⟨_, _, _, _, _, e, _⟩
      exact Evl.ex_t e hg
    · rintro i x σ H' hi ⟨pl, lf, lt, y6, rfl, e, hpl, hlex⟩
      obtain ⟨g, hgi, hga⟩ := Paired.get1 hp hi
      have hga' : GapAt K H' x g := hga.mono (TX.ex e)
      obtain ⟨ag, bg, ws, rfl, h1, h2, h3⟩ := hga'
      have gok := ok.gaps g (List.mem_of_getElem? hgi)
      refine ⟨.ref ag, rfl, .int bo.many, rfl, .ref b, rfl, .ref ag, b, g, bo.many, ms, rfl, ⟨ag, bg, ws, rfl, h1, h2, h3⟩, Evl.ex_l e hy, gok, fun H2 e2 => ?_⟩
      refine ⟨true, rfl, iteF ?_⟩
      have ex2 := e.trans e2
      refine ⟨.ref ag, rfl, 2, rfl, ag, _, rfl, Evl.ex_t e2 h1, fun z => absurd (show HT.sIx 4 4 (some 2) = 4 from z.2) (by decide), fun _ p np => ?_⟩
      rw [cut2]
      have e3 := Evl.Ex.new (o := .tup [V.int g.frm, V.int g.to_]) np
      refine ⟨.ref pl, rfl, p, pl, [g.frm, g.to_], [lf, lt], rfl, rfl, .inl (.inl upd_same), Evl.ex_t (e2.trans e3) hpl, _, rfl, ?_⟩
      rw [lex2 (hlex g hgi)]
      refine iteF ?_
      refine ⟨.ref ag, rfl, 2, rfl, ag, _, rfl, Evl.ex_t (e2.trans e3) h1, fun z => absurd (show HT.sIx 4 4 (some 2) = 4 from z.2) (by decide), fun _ p' np' => ?_⟩
      rw [cut2]
      have e4 := Evl.Ex.new (o := .tup [V.int g.frm, V.int g.to_]) np'
      refine ⟨_, rfl, .ref ag, rfl, ag, _, 3, .ref bg, rfl, rfl, Evl.ex_t ((e2.trans e3).trans e4) h1, atI_nat (j := 3) rfl, bg, ws, rfl, .inr (Evl.ex_t ((e2.trans e3).trans e4) h2), _, _, rfl, rfl, ?_⟩
      refine ⟨p', g.frm, g.to_, some (.ref ag), ?_, (ex2.trans e3).trans e4, .inl (.inl upd_same), fun g' hg' => ?_⟩
      · have wl : ws.length = g.ways.length := Paired.len h3
        rw [take_succ_get hgi, List.map_append, List.sum_append, wl]
        simp
      · obtain ⟨l1, q1⟩ := List.getElem?_eq_some_iff.mp hgi
        obtain ⟨l2, q2⟩ := List.getElem?_eq_some_iff.mp hg'
        have := List.pairwise_iff_getElem.mp ok.rise i (i + 1) l1 l2 (Nat.lt_succ_self i)
        rw [q1, q2] at this
        exact this
    · rintro σ H' ⟨pl, lf, lt, y6, rfl, e, hpl, hlex⟩
      refine ⟨_, rfl, _, 8, rfl, rfl, ?_⟩
      have s8 : decide ((((bo.gaps.take gs.length).map (fun g => ((g.ways.length : Nat) : Int))).sum) ≤ 8) = true := by
        have h := ok.few
        rw [gl, List.take_length]
        have z : ∀ l : List Gap, (l.map (fun g => ((g.ways.length : Nat) : Int))).sum = (((l.map (fun g => g.ways.length)).sum : Nat) : Int) := by
          intro l
          induction l with
          | nil => rfl
          | cons g l ih => simp [ih]
        rw [z]
        simp
        omega
      show Q (.bl (decide (_ ≤ 8))) H'
      rw [s8]
      exact q H' e
end
end Wb

set_option Elab.async false
set_option linter.all false
set_option maxRecDepth 100000
set_option maxHeartbeats 4000000
set_option pp.maxSteps 600
set_option pp.deepTerms false
namespace Wb
open PySem PySem.Spec PyProof.Rows L2
abbrev sWords : Stmt := topS 13
theorem scWords : FnScope ["lock", "rows", "above", "k", "found", "word", "gap", "way"] ["lock"] (defScope sWords) := ⟨rfl, rfl, rfl, by decide +kernel, rfl, by decide +kernel, by decide +kernel⟩

/-! ### words as keys -/
def keyW (w : Word) : List Key := w.map Sum.inl
theorem keyW_kV (w : Word) : (keyW w).map kV = w.map V.int := by
  unfold keyW
  rw [List.map_map]
  rfl
theorem keyW_inj {u w : Word} (h : keyW u = keyW w) : u = w := by
  unfold keyW at h
  exact (List.map_inj_right (fun _ _ e => Sum.inl.inj e)).mp h
def kws (ws : List Word) (v : Word → V) : List (List Key × V) := ws.map fun w => (keyW w, v w)
def addW (ws : List Word) (w : Word) : List Word := if w ∈ ws then ws else ws ++ [w]
theorem kws_any (ws : List Word) (v : Word → V) (w : Word) : ((kws ws v).any fun kv => decide (kv.1 = keyW w)) = decide (w ∈ ws) := by
  unfold kws
  rw [List.any_map]
  rw [Bool.eq_iff_iff]
  simp only [List.any_eq_true, Function.comp, decide_eq_true_eq]
  constructor
  · rintro ⟨u, hu, e⟩
    rw [← keyW_inj e]
    exact hu
  · intro h
    exact ⟨w, h, rfl⟩
theorem put_kws (ws : List Word) (w : Word) : putK (kws ws fun _ => .bl true) (keyW w) (.bl true) = kws (addW ws w) fun _ => .bl true := by
  unfold putK addW
  rw [kws_any]
  by_cases h : w ∈ ws
  · rw [if_pos (decide_eq_true h), if_pos h]
    unfold kws
    rw [List.map_map]
    apply List.map_congr_left
    intro u _
    show (if keyW u = keyW w then (keyW u, V.bl true) else (keyW u, V.bl true)) = (keyW u, V.bl true)
    split <;> rfl
  · rw [if_neg (by rw [decide_eq_false h]; exact Bool.false_ne_true), if_neg h]
    unfold kws
    rw [List.map_append]
    rfl
theorem mem_addW {ws : List Word} {w u : Word} : u ∈ addW ws w ↔ u ∈ ws ∨ u = w := by
  unfold addW
  split
  · rename_i h
    exact ⟨.inl, fun z => z.elim id fun e => e ▸ h⟩
  · simp
theorem nodup_addW {ws : List Word} {w : Word} (h : ws.Nodup) : (addW ws w).Nodup := by
  unfold addW
  split
  · exact h
  · rename_i hn
    rw [List.nodup_append]
    refine ⟨h, by simp, ?_⟩
    intro a ha b hb
    simp at hb
    subst hb
    intro e
    exact hn (e ▸ ha)
theorem valV_kws (ws : List Word) (v : Word → V) (w : Word) : valV (kws ws v) (keyW w) = if w ∈ ws then some (v w) else none := by
  induction ws with
  | nil => rfl
  | cons u ws ih =>
    by_cases e : u = w
    · subst e
      rw [if_pos (by simp)]
      exact valV_pos rfl
    · have z : valV (kws (u :: ws) v) (keyW w) = valV (kws ws v) (keyW w) := valV_neg (fun q => e (keyW_inj q))
      rw [z, ih]
      have m : w ∈ u :: ws ↔ w ∈ ws := by
        simp only [List.mem_cons]
        exact ⟨fun q => q.elim (fun q => absurd q.symm e) id, .inr⟩
      by_cases h : w ∈ ws
      · rw [if_pos h, if_pos (m.mpr h)]
      · rw [if_neg h, if_neg (fun q => h (m.mp q))]

/-! ### the words at a bolt -/
def WordsAt (l : Lock) (k : Nat) (ws : List Word) : Prop := ws.Nodup ∧ ∀ w, w ∈ ws ↔ cutsFrom l k w
/-- a list of words at r -/
def RowAt (K : PySem.W.Frag) (H : Hp) (r : Addr) (ws : List Word) : Prop := ∃ us, H r = some (.lst us) ∧ Paired (Wd K H) us ws
theorem RowAt.ex {K : PySem.W.Frag} {H H' : Hp} (e : Evl.Ex H H') {r : Addr} {ws : List Word} (h : RowAt K H r ws) : RowAt K H' r ws := by
  obtain ⟨us, a, b⟩ := h
  exact ⟨us, e _ _ a, Paired.imp (fun _ _ => wd_ex e) b⟩
theorem cutsFrom_len {l : Lock} (ok : LockOk l) {k : Nat} {w : Word} (hk : k ≤ l.length) (h : cutsFrom l k w) : w.length = k := by
  obtain ⟨j, b, g, u, hj, hb, hg, hu, rfl⟩ := h
  have lu := (((ok.bolts j b hb).gaps g hg).words u hu).1
  have lj : j < l.length := (List.getElem?_eq_some_iff.mp hb).1
  unfold manysOf at lu
  rw [List.length_map, List.length_take] at lu
  rw [List.length_take]
  omega
/-- the words at k: those at k + 1 cut, and the bolt's own -/
theorem cuts_step {l : Lock} (ok : LockOk l) {k : Nat} {b : Bolt} (hb : l[k]? = some b) (w : Word) :
    cutsFrom l k w ↔ (∃ u, cutsFrom l (k + 1) u ∧ w = u.take k) ∨ ∃ g ∈ b.gaps, w ∈ g.ways := by
  constructor
  · rintro ⟨j, b', g, u, hj, hb', hg, hu, rfl⟩
    by_cases e : j = k
    · subst e
      rw [hb] at hb'
      cases hb'
      have lu := (((ok.bolts j b hb).gaps g hg).words u hu).1
      have lj : j < l.length := (List.getElem?_eq_some_iff.mp hb).1
      unfold manysOf at lu
      rw [List.length_map, List.length_take] at lu
      refine .inr ⟨g, hg, ?_⟩
      rw [List.take_of_length_le (by omega)]
      exact hu
    · refine .inl ⟨u.take (k + 1), ⟨j, b', g, u, by omega, hb', hg, hu, rfl⟩, ?_⟩
      rw [List.take_take, Nat.min_eq_left (Nat.le_succ k)]
  · rintro (⟨u, ⟨j, b', g, u', hj, hb', hg, hu, rfl⟩, rfl⟩ | ⟨g, hg, hw⟩)
    · refine ⟨j, b', g, u', by omega, hb', hg, hu, ?_⟩
      rw [List.take_take, Nat.min_eq_left (Nat.le_succ k)]
    · have lu := (((ok.bolts k b hb).gaps g hg).words w hw).1
      have lj : k < l.length := (List.getElem?_eq_some_iff.mp hb).1
      unfold manysOf at lu
      rw [List.length_map, List.length_take] at lu
      refine ⟨k, b, g, w, Nat.le_refl _, hb, hg, hw, ?_⟩
      rw [List.take_of_length_le (by omega)]
theorem isKeys_rows {K : PySem.W.Frag} {H : Hp} : ∀ {ws : List Word} {bs : List Addr}, IsKeys H (kws ws fun _ => V.bl true) bs → Paired (Wd K H) (bs.map V.ref) ws
  | [], _, h => by
    cases h
    exact .nil
  | w :: ws, _, h => by
    cases h with
    | cons r t =>
      refine .cons ⟨_, rfl, ?_⟩ (isKeys_rows t)
      have r' : _ = some (HO.tup ((keyW w).map kV)) := r
      rw [keyW_kV] at r'
      exact r'
def spWords (K : PySem.W.Frag) : Sp := fun vs H Q _ => ∃ (v : V) (l : Lock), vs = [v] ∧ LockAt K H v l ∧ LockOk l ∧
  ∀ H' p (rs : List Addr), Evl.Ex H H' → H p = none → H' p = some (.lst (rs.map V.ref)) → rs.length = l.length →
    (∀ k r, rs[k]? = some r → H r = none ∧ ∃ ws, RowAt K H' r ws ∧ WordsAt l k ws) → Q (.ref p) H'

/-- a word of a tuple of words, cut -/
theorem cut_take (xs : List V) (k : Nat) : cutV xs none (some (k : Int)) = xs.take k := by
  unfold cutV
  rw [HT.sIx_none, HT.sIx_nat]
  rw [List.drop_zero, Nat.sub_zero]
  by_cases h : k ≤ xs.length
  · rw [Nat.min_eq_left h]
  · rw [Nat.min_eq_right (by omega), List.take_length, List.take_of_length_le (by omega)]
theorem slice_whole {n k : Nat} (h : HT.sIx n n (some (k : Int)) = n) : n ≤ k := by
  rw [HT.sIx_nat] at h
  omega
end Wb

set_option Elab.async false
set_option linter.all false
set_option maxRecDepth 100000
set_option maxHeartbeats 4000000
set_option pp.maxSteps 600
set_option pp.deepTerms false
namespace Wb
open PySem PySem.Spec PyProof.Rows L2
section
variable {P : Program} {w : World} {K : PySem.W.Frag} {mg : Str → Option Value} {base : Heap}
theorem few_cuts {l : Lock} (ok : LockOk l) {k : Nat} (hk : k < l.length) {cur : List Word} (h1 : cur.Nodup) (h2 : ∀ u ∈ cur, cutsFrom l k u) : cur.length < sizeLine :=
  Nat.lt_of_le_of_lt (ok.words k cur hk h1 h2) (by decide)
theorem kws_len (ws : List Word) (v : Word → V) : (kws ws v).length = ws.length := List.length_map ..
theorem ok_words {f : Addr} {fd : FuncData} (F : Fun K "words_of" "words_of" sWords f fd) (B : Bi mg) : FnOk P w K mg base CX0 1 f fd ["lock"] (spWords K) := by
  refine F.ok scWords (fun vs H Q E h => ?_) (fun cdv A outer s H vs Q E hr h => ?_)
  · obtain ⟨v, l, rfl, _⟩ := h; rfl
  · obtain ⟨v, l, rfl, ⟨a, bs, rfl, hx, hp⟩, ok, q⟩ := h
    have hu := hu_of hr
    refine ⟨_, pss_cons (ps_set (i := 1) scWords.nd rfl (.inl rfl) (pe_lst pa_nil))
      (pss_cons (ps_set (i := 2) scWords.nd rfl (.inl rfl) (pe_lst pa_nil))
      (pss_cons (ps_for PassesOwn.never rfl (pi_revR (by rfl) B.rev (prg_1 (by rfl) B.range (pe_callB call_len_seq (by rfl) B.len PySem.boot_len (pa_cons (pv 0) pa_nil)))) (pg_name (i := 3) scWords.nd rfl (.inl rfl))
        (pss_cons (ps_set (i := 4) scWords.nd rfl (.inl rfl) pe_dnewT)
        (pss_cons (ps_for PassesOwn.never rfl (pi_list (pv 2)) (pg_name (i := 5) scWords.nd rfl (.inl rfl))
          (pss_one (ps_dput hu (pv 4) (pe_slice sl_tupA (pv 5) po_none (po_some (pv 3))) pe_bl rfl)))
        (pss_cons (ps_for PassesOwn.never rfl (pi_tup (pe_ix ix_tup (pe_ix ix_tup (pv 0) (pv 3) (fun _ _ => rfl)) pe_int (fun _ _ => rfl))) (pg_name (i := 6) scWords.nd rfl (.inl rfl))
          (pss_one (ps_for PassesOwn.never rfl (pi_tup (pe_ix ix_tup (pv 6) pe_int (fun _ _ => rfl))) (pg_name (i := 7) scWords.nd rfl (.inl rfl))
            (pss_one (ps_dput hu (pv 4) (pv 7) pe_bl rfl)))))
        (pss_cons (ps_set (i := 2) scWords.nd rfl (.inl rfl) (pe_callTy (call_list_dT rfl) (by rfl) B.list (PyProof.Rows.boot_list) (pa_cons (pv 4) pa_nil)))
        (pss_one (ps_expr (pe_bm PySem.F.plainAttrs_list PySem.F.slot_list_append PySem.F.type_list_append mt_append (pv 1) (pa_cons (pv 2) pa_nil)))))))))
      (pss_one (ps_ret (pe_revL (pv 1)))))), ?_⟩
    have bl : bs.length = l.length := Paired.len hp
    have n60 := ok.n1
    refine ⟨Nat.zero_le _, fun r0 nr0 => ?_⟩
    refine ⟨Nat.zero_le _, fun a0 na0 => ?_⟩
    have x1 : Evl.Ex H (upd H r0 (.lst [])) := Evl.Ex.new nr0
    have na0' : H a0 = none := Evl.fresh_back x1 na0
    have nar : r0 ≠ a0 := fun z => by rw [← z, upd_same] at na0; cases na0
    refine ⟨.ref a, rfl, a, bs, rfl, .inr (Evl.ex_t (x1.trans (Evl.Ex.new na0)) hx), _, rfl, by omega, by omega, by omega, by omega, ?_⟩
    refine for_rangeC (lo := _) (c := -1) (n := _) (fun i σ H' => ∃ (aA : Addr) (rs : List Addr) (ws : List Word) (y3 y4 y5 y6 y7 : Option V), σ = [some (.ref a), some (.ref r0), some (.ref aA), y3, y4, y5, y6, y7] ∧
        Evl.Ex H H' ∧ RowAt K H' aA ws ∧ WordsAt l (l.length - i) ws ∧ H' r0 = some (.lst (rs.map V.ref)) ∧ rs.length = i ∧
        ∀ j r, rs[j]? = some r → r ≠ r0 ∧ H r = none ∧ ∃ ws', RowAt K H' r ws' ∧ WordsAt l (l.length - 1 - j) ws')
      ⟨a0, [], [], none, none, none, none, none, rfl, x1.trans (Evl.Ex.new na0), ⟨[], upd_same, .nil⟩, ⟨List.nodup_nil, fun w => ?_⟩, by rw [upd_ne nar, upd_same]; rfl, rfl, fun j r e => by simp at e⟩ ?_ ?_
    · constructor
      · intro z; cases z
      · rintro ⟨j, b, g, u, hj, hb, _⟩
        have := (List.getElem?_eq_some_iff.mp hb).1
        omega
    · rintro i σ H1 hi ⟨aA, rs, ws, y3, y4, y5, y6, y7, rfl, e1, hA, hW, hR, hl, hrs⟩
      have hi' : i < l.length := by omega
      -- the bolt's number
      have ek : (0 : Int) + (((((bs.length : Nat) : Int) - 0).toNat : Nat) : Int) - 1 + (i : Nat) * (-1) = ((l.length - 1 - i : Nat) : Int) := by rw [bl]; omega
      rw [ek]
      generalize hk : l.length - 1 - i = k at *
      have hkl : k < l.length := by omega
      have hk1 : l.length - i = k + 1 := by omega
      rw [hk1] at hW
      obtain ⟨b, hb⟩ : ∃ b, l[k]? = some b := ⟨l[k], List.getElem?_eq_getElem hkl⟩
      obtain ⟨vb, hvb, hba⟩ := Paired.get2 hp hb
      obtain ⟨us, hAu, hAp⟩ := hA
      have ul : us.length = ws.length := Paired.len hAp
      intro d nd
      have nd0 : H d = none := Evl.fresh_back e1 nd
      have ndr : d ≠ r0 := fun z => by rw [z, hR] at nd; cases nd
      have e2 : Evl.Ex H1 (upd H1 d (.dT [])) := Evl.Ex.new nd
      -- the words above, cut
      refine ⟨.ref aA, rfl, aA, rfl, ⟨us, .inl (.inl (e2 _ _ hAu))⟩, for_list (K := K) (a := aA) (xs := us) (fun j σ H' => ∃ (cur : List Word) (y5 : Option V), σ = [some (.ref a), some (.ref r0), some (.ref aA), some (.int (k : Nat)), some (.ref d), y5, y6, y7] ∧
          Evl.Ex H1 H' ∧ H' d = some (.dT (kws cur fun _ => .bl true)) ∧ cur.Nodup ∧ ∀ u, u ∈ cur ↔ ∃ t ∈ ws.take j, u = t.take k) ⟨[], y5, rfl, e2, upd_same, List.nodup_nil, fun u => by simp⟩ ?_ ?_ ?_⟩
      · rintro j σ H' _ ⟨cur, z5, _, e, _⟩
        exact .inl (.inl (e _ _ hAu))
      · rintro j x σ H' hj ⟨cur, z5, rfl, e3, hd, nc, hc⟩
        obtain ⟨t, ht, ⟨ax, rfl, hax⟩⟩ := Paired.get1 hAp hj
        have htw : t ∈ ws := List.mem_of_getElem? ht
        have hcut : cutsFrom l (k + 1) t := (hW.2 t).mp htw
        have lt1 : t.length = k + 1 := cutsFrom_len ok (by omega) hcut
        have hcur : ∀ u ∈ cur, cutsFrom l k u := by
          intro u hu
          obtain ⟨t', ht', rfl⟩ := (hc u).mp hu
          exact (cuts_step ok hb _).mpr (.inl ⟨t', (hW.2 t').mp (List.mem_of_mem_take ht'), rfl⟩)
        have lc := few_cuts ok hkl nc hcur
        refine ⟨.ref d, rfl, .ref ax, rfl, .int (k : Nat), rfl, (k : Nat), rfl, ax, _, rfl, .inl (.inl (e3 _ _ hax)), fun z => absurd (slice_whole z.2) (by rw [List.length_map]; omega), fun _ p np => ?_⟩
        rw [cut_take, ← List.map_take]
        have npd : p ≠ d := fun z => by rw [z, hd] at np; cases np
        have e4 := Evl.Ex.new (o := .tup ((t.take k).map V.int)) np
        refine ⟨d, _, rfl, DPut.t (k := keyW (t.take k)) (e4 _ _ hd) (by rw [keyW_kV]; exact upd_same) (by rw [kws_len]; exact lc), ?_⟩
        refine ⟨addW cur (t.take k), _, rfl, (e3.trans e4).mut nd, by rw [upd_same, put_kws], nodup_addW nc, fun u => ?_⟩
        rw [mem_addW, hc u, take_succ_get ht]
        constructor
        · rintro (⟨t', h1, h2⟩ | rfl)
          · exact ⟨t', List.mem_append_left _ h1, h2⟩
          · exact ⟨t, by simp, rfl⟩
        · rintro ⟨t', h1, h2⟩
          rcases List.mem_append.mp h1 with h1 | h1
          · exact .inl ⟨t', h1, h2⟩
          · have : t' = t := by simpa using h1
            subst this
            exact .inr h2
      · rintro σ H2 ⟨cur0, z5, rfl, e3, hd, nc0, hc0⟩
        rw [ul, List.take_length] at hc0
        obtain ⟨ab, cg, gs, rfl, hb1, hb2, hb3⟩ := hba
        have e13 := e1.trans e3
        have gl : gs.length = b.gaps.length := Paired.len hb3
        -- the bolt's own ways
        refine ⟨.ref a, rfl, .int (k : Nat), rfl, a, bs, (k : Nat), .ref ab, rfl, rfl, Evl.ex_t e13 hx, atI_nat hvb, ab, _, 1, .ref cg, rfl, rfl, Evl.ex_t e13 hb1, atI_nat (j := 1) rfl, cg, rfl, ⟨gs, Evl.ex_t e13 hb2⟩,
          for_tup (K := K) (a := cg) (xs := gs) (fun j σ H' => ∃ (cur : List Word) (y6 y7 : Option V), σ = [some (.ref a), some (.ref r0), some (.ref aA), some (.int (k : Nat)), some (.ref d), z5, y6, y7] ∧
            Evl.Ex H1 H' ∧ H' d = some (.dT (kws cur fun _ => .bl true)) ∧ cur.Nodup ∧ ∀ u, u ∈ cur ↔ (∃ t ∈ ws, u = t.take k) ∨ ∃ g ∈ b.gaps.take j, u ∈ g.ways) ⟨cur0, y6, y7, rfl, e3, hd, nc0, fun u => by rw [hc0]; simp⟩ ?_ ?_ ?_⟩
        · rintro j σ H' _ ⟨cur, _, _, _, e, _⟩
          exact Evl.ex_t (e1.trans e) hb2
        · rintro j x σ H' hj ⟨cur, z6, z7, rfl, e4, hd4, nc, hc⟩
          obtain ⟨g, hgj, ⟨ag, bg, wv, rfl, hg1, hg2, hg3⟩⟩ := Paired.get1 hb3 hj
          have hgm : g ∈ b.gaps := List.mem_of_getElem? hgj
          have e14 := e1.trans e4
          have wl : wv.length = g.ways.length := Paired.len hg3
          refine ⟨.ref ag, rfl, ag, _, 3, .ref bg, rfl, rfl, Evl.ex_t e14 hg1, atI_nat (j := 3) rfl, bg, rfl, ⟨wv, Evl.ex_t e14 hg2⟩,
            for_tup (K := K) (a := bg) (xs := wv) (fun m σ H' => ∃ (cur : List Word) (y7 : Option V), σ = [some (.ref a), some (.ref r0), some (.ref aA), some (.int (k : Nat)), some (.ref d), z5, some (.ref ag), y7] ∧
              Evl.Ex H1 H' ∧ H' d = some (.dT (kws cur fun _ => .bl true)) ∧ cur.Nodup ∧ ∀ u, u ∈ cur ↔ ((∃ t ∈ ws, u = t.take k) ∨ ∃ g ∈ b.gaps.take j, u ∈ g.ways) ∨ u ∈ g.ways.take m) ⟨cur, z7, rfl, e4, hd4, nc, fun u => by rw [hc]; simp⟩ ?_ ?_ ?_⟩
          · rintro m σ H' _ ⟨_, _, _, e, _⟩
            exact Evl.ex_t (e1.trans e) hg2
          · rintro m x σ H3 hm ⟨cur, z7, rfl, e5, hd5, nc, hc⟩
            obtain ⟨t, ht, ⟨ax, rfl, hax⟩⟩ := Paired.get1 hg3 hm
            have hcur : ∀ u ∈ cur, cutsFrom l k u := by
              intro u hu
              rcases (hc u).mp hu with (⟨t', ht', rfl⟩ | ⟨g', hg', hu'⟩) | hu'
              · exact (cuts_step ok hb _).mpr (.inl ⟨t', (hW.2 t').mp ht', rfl⟩)
              · exact (cuts_step ok hb _).mpr (.inr ⟨g', List.mem_of_mem_take hg', hu'⟩)
              · exact (cuts_step ok hb _).mpr (.inr ⟨g, hgm, List.mem_of_mem_take hu'⟩)
            have lc := few_cuts ok hkl nc hcur
            refine ⟨.ref d, rfl, .ref ax, rfl, d, _, rfl, DPut.t (k := keyW t) hd5 (by rw [keyW_kV]; exact (e1.trans e5) _ _ hax) (by rw [kws_len]; exact lc), ?_⟩
            refine ⟨addW cur t, _, rfl, e5.mut nd, by rw [upd_same, put_kws], nodup_addW nc, fun u => ?_⟩
            rw [mem_addW, hc u, take_succ_get ht, List.mem_append, or_assoc]
            simp
          · rintro σ H3 ⟨cur, z7, rfl, e5, hd5, nc, hc⟩
            refine ⟨cur, _, _, rfl, e5, hd5, nc, fun u => ?_⟩
            rw [hc u, wl, List.take_length, take_succ_get hgj, or_assoc]
            simp only [List.mem_append, List.mem_singleton]
            constructor
            · rintro (h | ⟨g', h1, h2⟩ | h)
              · exact .inl h
              · exact .inr ⟨g', .inl h1, h2⟩
              · exact .inr ⟨g, .inr rfl, h⟩
            · rintro (h | ⟨g', h1 | h1, h2⟩)
              · exact .inl h
              · exact .inr (.inl ⟨g', h1, h2⟩)
              · exact .inr (.inr (h1 ▸ h2))
        · rintro σ H2 ⟨cur, z6, z7, rfl, e4, hd4, nc, hc⟩
          rw [gl, List.take_length] at hc
          have hcur : ∀ u, u ∈ cur ↔ cutsFrom l k u := by
            intro u
            rw [hc u, cuts_step ok hb u]
            constructor
            · rintro (⟨t, h1, h2⟩ | h)
              · exact .inl ⟨t, (hW.2 t).mp h1, h2⟩
              · exact .inr h
            · rintro (⟨t, h1, h2⟩ | h)
              · exact .inl ⟨t, (hW.2 t).mpr h1, h2⟩
              · exact .inr h
          refine ⟨.ref d, rfl, d, _, rfl, .inl hd4, fun p qs np hk' => ?_⟩
          have hrows := isKeys_rows (K := K) hk'
          have e5 := Evl.Ex.new (o := .lst (qs.map V.ref)) np
          have npr : p ≠ r0 := fun z => by rw [z, e4 _ _ hR] at np; cases np
          have hR5 : (upd H2 p (.lst (qs.map V.ref))) r0 = some (.lst (rs.map V.ref)) := e5 _ _ (e4 _ _ hR)
          refine ⟨.ref r0, rfl, .inl ⟨rfl, _, SqL.of hR5⟩, .ref p, rfl, r0, _, _, rfl, rfl, hR5, ?_, ?_⟩
          · rw [List.length_map, hl]
            exact Nat.lt_of_lt_of_le (show i < 61 by omega) (by decide)
          · have e15 : Evl.Ex H1 (upd H2 p (.lst (qs.map V.ref))) := e4.trans e5
            have keep : ∀ {r : Addr} {ws' : List Word} {Hx : Hp}, r ≠ r0 → RowAt K Hx r ws' → Hx r0 ≠ none → (∀ xs, Hx r0 ≠ some (.tup xs)) → ∀ o, RowAt K (upd Hx r0 o) r ws' := by
              rintro r ws' Hx hne ⟨us', h1, h2⟩ _ ht o
              refine ⟨us', by rw [upd_ne hne]; exact h1, Paired.imp (fun v w' h => ?_) h2⟩
              obtain ⟨ax, rfl, hax⟩ := h
              exact ⟨ax, rfl, by rw [upd_ne (fun z => ht _ (z ▸ hax))]; exact hax⟩
            have nn : (upd H2 p (.lst (qs.map V.ref))) r0 ≠ none := by rw [hR5]; exact fun z => nomatch z
            have nt : ∀ xs, (upd H2 p (.lst (qs.map V.ref))) r0 ≠ some (.tup xs) := fun xs z => by rw [hR5] at z; cases z
            have hP : RowAt K (upd H2 p (.lst (qs.map V.ref))) p cur := ⟨qs.map V.ref, upd_same, Paired.imp (fun _ _ => wd_ex e5) hrows⟩
            have hWk : WordsAt l k cur := ⟨nc, hcur⟩
            refine ⟨p, rs ++ [p], cur, _, _, _, _, _, rfl, (e1.trans e15).mut nr0, keep npr hP nn nt _, ?_, by rw [upd_same, List.map_append]; rfl, by simp [hl], ?_⟩
            · rw [show l.length - (i + 1) = k by omega]
              exact hWk
            · intro j r hj
              by_cases hjl : j < rs.length
              · rw [List.getElem?_append_left hjl] at hj
                obtain ⟨h1, h0, ws', h2, h3⟩ := hrs j r hj
                exact ⟨h1, h0, ws', keep h1 (h2.ex e15) nn nt _, h3⟩
              · rw [List.getElem?_append_right (by omega)] at hj
                have : j = rs.length := by
                  by_cases e : j - rs.length = 0
                  · omega
                  · rw [List.getElem?_eq_none (by simp; omega)] at hj; cases hj
                subst this
                rw [Nat.sub_self] at hj
                have er : r = p := (Option.some.inj hj).symm
                subst er
                exact ⟨npr, Evl.fresh_back (e1.trans e4) np, cur, keep npr hP nn nt _, by rw [hl, hk]; exact hWk⟩
    · rintro σ H1 ⟨aA, rs, ws, y3, y4, y5, y6, y7, rfl, e1, hA, hW, hR, hl, hrs⟩
      have hl' : rs.length = l.length := by rw [hl, bl]; omega
      refine ⟨.ref r0, rfl, r0, _, rfl, .inl (.inl hR), fun p np => ?_⟩
      rw [← List.map_reverse]
      have e2 := Evl.Ex.new (o := .lst (rs.reverse.map V.ref)) np
      refine q _ p rs.reverse (e1.trans e2) (Evl.fresh_back e1 np) upd_same (by rw [List.length_reverse, hl']) ?_
      intro k r hk
      have hk2 : k < rs.reverse.length := (List.getElem?_eq_some_iff.mp hk).1
      rw [List.length_reverse] at hk2
      rw [List.getElem?_reverse hk2] at hk
      obtain ⟨_, h0, ws', h2, h3⟩ := hrs _ r hk
      refine ⟨h0, ws', h2.ex e2, ?_⟩
      rw [show l.length - 1 - (rs.length - 1 - k) = k by omega] at h3
      exact h3
end
end Wb

set_option Elab.async false
set_option linter.all false
set_option maxRecDepth 100000
set_option maxHeartbeats 4000000
set_option pp.maxSteps 600
set_option pp.deepTerms false
namespace L2
open PySem PySem.Spec PyProof.Rows
/-! ### {k: v for .. in ..}, keys that are tuples -/
theorem dT_set {X : Cx} {pins : List (Addr × Obj)} {σ : L2.St} {H : Hp} {s : Shared} {E : Value → Shared → Prop} {D q : Addr} {kvs : List (List Key × V)} {k : List Key} {v : V} {r : Value} {Q : Unit → Shared → Prop} (hu : X.A.units + 1 < cLine)
    (I : Inv X pins σ H s) (hD : H D = some (.dT kvs)) (hz : kvs.length < sizeLine) (hq : H q = some (.tup (k.map kV))) (rv : RelV v r)
    (go : ∀ s', Inv X pins σ (upd H D (.dT (putK kvs k v))) s' → Q () s') : wpAny (model X.prog X.w) X.A (dictSet D (.ref q) r) Q E s := by
  obtain ⟨z, hd, xs, rel, dd⟩ := dt_of I.hok hD
  have n1 : xs.length ≤ sizeLine := by rw [← Paired.length rel]; exact z
  have n2 : (putK kvs k v).length ≤ sizeLine := by have := length_putK kvs k v; omega
  apply wpAny_dictSet_heap (hsz := n1) (show (tupleKind (mixKind X.prog X.w)).room X.A from Nat.lt_trans (Nat.lt_succ_self _) hu) (key_of I.hok hq) dd
  intro h' dd' hs
  apply go
  obtain ⟨o, es, ep, e1, e2, e3, e4, _, e5⟩ := dd'
  apply d_write I (by rw [hD]; exact True.intro) hs ⟨o, e1⟩
  refine ⟨n2, hd, _, (rel.put k hq rv).keeps ?_, o, es, ep, e1, e2, e3, e4, e5⟩
  intro c ys ec
  rw [upd_ne (ne_of ec hD (fun z => nomatch z))]
  exact ec
section
variable {X : Cx}
def tDcT (wi : TI) (g : TG) (tt : TT) (tk tv : TE) (vs : List Nat) : TE := fun σ H Q => wi σ H fun J H1 => ∀ D, H1 D = none → ∃ W : Nat → Nat → Hp → Prop, (∃ m, W 0 m (upd H1 D (.dT []))) ∧ ∀ i m H, W i m H →
  (J.stop i H ∧ Q (.ref D) H) ∨ (J.go i H ∧ ∃ Nx : Hp → Prop, (∀ H', Nx H' → ∃ m', m' < m ∧ W (i + 1) m' H') ∧ ∀ x H', J.yld i H x H' → g x (wipe σ vs) H' fun σ2 H2 => wipe σ2 vs = wipe σ vs ∧ tt σ2 H2 fun b H3 =>
    if b = true then tk σ2 H3 fun y H4 => tv σ2 H4 fun z H5 => ∃ kvs k q, y = .ref q ∧ H5 q = some (.tup (k.map kV)) ∧ H5 D = some (.dT kvs) ∧ kvs.length < sizeLine ∧ Nx (upd H5 D (.dT (putK kvs k z))) else Nx H3)
theorem dct_core {pins : List (Addr × Obj)} {s : Shared} {σ : L2.St} {H : Hp} {Q : VK} {kx vx tg iter : Expr} {ifs : List Expr} {sc : Scope} {own : List (Str × Nat)} {pos pos' : Pos} {wi : TI} {g : TG} {tt : TT} {tk tv : TE}
    {use : Option (Value → Sem Unit)} {Qf : Value → Shared → Prop} (hu : X.A.units + 1 < cLine) (hc : X.calm = true) (hN : X.N.Nodup) (I : Inv X pins σ H s) (hi : PI X tg iter wi) (ok : BlkOk X.N X.env.scope sc own)
    (pgs : ∀ (s : Shared) (H : Hp) (C : Addr) (cl : List (Str × Addr)) (fp : List Addr), PG (X.blk s H sc (compEnvC sc cl C X.env) fp) tg g)
    (pts : ∀ (s : Shared) (H : Hp) (C : Addr) (cl : List (Str × Addr)) (fp : List Addr), PTs (X.blk s H sc (compEnvC sc cl C X.env) fp) ifs tt)
    (pks : ∀ (s : Shared) (H : Hp) (C : Addr) (cl : List (Str × Addr)) (fp : List Addr), PE (X.blk s H sc (compEnvC sc cl C X.env) fp) kx tk)
    (pes : ∀ (s : Shared) (H : Hp) (C : Addr) (cl : List (Str × Addr)) (fp : List Addr), PE (X.blk s H sc (compEnvC sc cl C X.env) fp) vx tv)
    (hs : ∀ x, foldedSetIterable iter X.env x = pure x) (h : tDcT wi g tt tk tv (own.map (·.2)) σ H Q)
    (fin0 : ∀ D C s' m H', Inv X pins σ H' s' → Q (.ref D) H' → s'.heap.Ns C m → FpOk X pins H' C → compPost (model X.prog X.w) X.A X.xe use Qf (.ref D) C (.ok .next) s') :
    wpAny (model X.prog X.w) X.A (comprehension (.DictComp kx vx [⟨tg, iter, ifs, 0⟩] sc pos) sc X.env pos' newDict false (eval iter X.env) use) Qf X.xe s := by
  have frees : ∀ y ∈ sc.names, y.2 = .free → ∃ c, X.env.cells.lookup y.1 = some c := by
    intro y hy e
    cases ok.free y hy e with
    | inl k => exact I.ok.has _ (.inl k)
    | inr k => exact I.ok.has _ (.inr k)
  apply wpAny_comprehension_free (use := use) rfl hs (closure_ok frees) ok.kind (fun y hy e => by rw [ok.uniq y hy, e])
  refine thn (hi.run pins s σ H _ I h) ?_
  intro xv s1 hx
  refine thn hx ?_
  rintro itv s2 ⟨it, fp, tn, J, H2, rfl, I2, T, st2, f2, q⟩
  refine wpAny_newObj_type (newEnv_comp ?_)
  obtain ⟨D, hD⟩ : ∃ D, s2.heap.objs.size = D := ⟨_, rfl⟩
  have hDn : H2 D = none := I2.hok.fresh (Nat.le_of_eq hD)
  obtain ⟨W, ⟨m0, w0⟩, turn⟩ := q D hDn
  obtain ⟨s3, hs3⟩ : ∃ s3 : Shared, ({ s2 with heap := s2.heap.push { cls := .type "dict", data := .dict #[] } } : Shared) = s3 := ⟨_, rfl⟩
  rw [hD, hs3]
  have h3 : s3.heap = s2.heap.push { cls := .type "dict", data := .dict #[] } := by rw [← hs3]
  have I3 : Inv X pins σ (upd H2 D (.dT [])) s3 := by
    subst hs3
    apply I2.laid (t' := s2.toks) (fun b o e => Heap.get?_push_of_some _ e) (Nat.le_of_eq hD)
    subst hD
    exact dt_empty s2.heap I2.big
  have below : ∀ b ∈ fp, b < s2.heap.objs.size := by
    intro b hb
    obtain ⟨o, e, _⟩ := T.obj _ _ st2 b hb
    exact Heap.lt_size e
  have f3 : ∀ b ∈ fp, FpOk X pins (upd H2 D (.dT [])) b ∧ b < s3.heap.objs.size := by
    intro b hb
    have lt := below b hb
    refine ⟨⟨?_, (f2 b hb).2⟩, by rw [h3, Heap.size_push]; exact Nat.lt_succ_of_lt lt⟩
    rw [upd_ne (by subst hD; exact Nat.ne_of_lt lt)]
    exact (f2 b hb).1
  have st3 : tn 0 s3.heap := by
    apply T.keep _ _ _ st2
    intro b _ o e
    rw [h3]
    exact Heap.get?_push_of_some _ e
  have I4 := block_start I3 ok hN f3
  have pg := pgs s3 (upd H2 D (.dT [])) s3.heap.objs.size (cellsFrom (s3.heap.objs.size + 1) sc.names (cloFrom X.env.cells sc.names [])) fp
  have pt := pts s3 (upd H2 D (.dT [])) s3.heap.objs.size (cellsFrom (s3.heap.objs.size + 1) sc.names (cloFrom X.env.cells sc.names [])) fp
  have pk := pks s3 (upd H2 D (.dT [])) s3.heap.objs.size (cellsFrom (s3.heap.objs.size + 1) sc.names (cloFrom X.env.cells sc.names [])) fp
  have pe := pes s3 (upd H2 D (.dT [])) s3.heap.objs.size (cellsFrom (s3.heap.objs.size + 1) sc.names (cloFrom X.env.cells sc.names [])) fp
  show codeAny _ _ (.compStart (.DictComp kx vx [⟨tg, iter, ifs, 0⟩] sc pos) 0 (.ref it) (.ref D) (compEnvC sc (cellsFrom (s3.heap.objs.size + 1) sc.names (cloFrom X.env.cells sc.names [])) s3.heap.objs.size X.env)) _ { s3 with heap := pushCells (s3.heap.push { cls := .type "dict", data := .dict #[] }) sc.names }
  have none3 : ∀ b ∈ fp, (upd H2 D (.dT [])) b = none := fun b hb => (f3 b hb).1.1
  generalize hce : compEnvC sc (cellsFrom (s3.heap.objs.size + 1) sc.names (cloFrom X.env.cells sc.names [])) s3.heap.objs.size X.env = ce at I4 pg pt pk pe ⊢
  have cL : ce.locals = s3.heap.objs.size := by rw [← hce]; rfl
  generalize hH3 : upd H2 D (.dT []) = H3 at I3 I4 pg pt pk pe w0 none3 f3
  generalize hs4 : ({ s3 with heap := pushCells (s3.heap.push { cls := .type "dict", data := .dict #[] }) sc.names } : Shared) = s4 at I4 ⊢
  have st4 : tn 0 s4.heap := by
    apply T.keep _ _ _ st3
    intro b _ o e
    rw [← hs4]
    exact pushCells_keeps _ _ _ _ (Heap.get?_push_of_some _ e)
  have stat : ∀ {σ' : L2.St} {H' : Hp} {s' : Shared}, Inv (X.blk s3 H3 sc ce fp) [] σ' H' s' → (∀ b ∈ fp, H' b = none) → ∀ b ∈ fp, FpOk (X.blk s3 H3 sc ce fp) [] H' b := by
    intro σ' H' s' I' hn b hb
    refine ⟨hn b hb, (I'.ok.exf b hb).1, I'.ok.exfs b hb, .inl hb, fun x c e => (I'.ok.exf b hb).2 x c e, ?_⟩
    intro p hp
    exact absurd (show p ∈ ([] : List (Addr × Obj)) ++ [] from hp) (by simp)
  refine (fun loop => codeAny_compStart_dict loop (T.self X.A 0 _ _ _ st4 loop)) ?_
  apply compLoop_anyD (fun n s' => ∃ i H', Inv (X.blk s3 H3 sc ce fp) [] (wipe σ (own.map (·.2))) H' s' ∧ tn i s'.heap ∧ (∀ b ∈ fp, H' b = none) ∧ W i n H') _ m0 ⟨0, H3, I4, st4, none3, w0⟩
  rintro n s5 ⟨i, H5, I5, st5, n5, w5⟩
  rcases turn i n H5 w5 with ⟨stop, qq⟩ | ⟨go, Nx, hNx, step⟩
  · refine thnF (T.done (X.blk s3 H3 sc ce fp) rfl rfl rfl hc i [] s5 _ H5 (fun _ _ => False) I5 (stat I5 n5) st5 stop) ?_
    rintro r s6 ⟨rfl, I6⟩
    have I7 : Inv X pins σ H5 s6 := I3.call' (ch := fp) I6.os I6.base I6.hok I6.bare (fun b hb => by
      have z := (f3 b hb).1
      exact ⟨z.2.2.2.1, z.2.1, z.2.2.2.2.1, z.2.2.2.2.2⟩)
    have nC : H5 s3.heap.objs.size = none := by
      rw [← cL]
      exact I6.free
    obtain ⟨m, hn, _⟩ := I6.loc
    have hn' : s6.heap.Ns s3.heap.objs.size m := by
      rw [← cL]
      exact hn
    exact fin0 D s3.heap.objs.size s6 m H5 I7 qq hn' (I3.fpOk (b := s3.heap.objs.size) (Nat.le_refl _) nC)
  · refine thnF (T.item (X.blk s3 H3 sc ce fp) rfl rfl rfl hc i [] s5 _ H5 (fun _ _ => False) I5 (stat I5 n5) st5 go) ?_
    rintro r s6 ⟨u, rfl, h6⟩
    refine thnF h6 ?_
    rintro _ s7 ⟨x, H7, I7, r7, y7, st7, n7⟩
    have I7p := I7.pinned (stat I7 n7) (T.obj _ _ st7)
    refine thnF (pg.run _ s7 _ H7 x u _ I7p r7 (step x H7 y7)) ?_
    rintro _ s8 ⟨σ8, H8, I8, hw8, q8⟩
    refine thnF (pt.run _ s8 σ8 H8 _ I8 q8) ?_
    rintro b s9 ⟨H9, I9, q9⟩
    have fin : ∀ {s' : Shared} {H' : Hp}, Inv (X.blk s3 H3 sc ce fp) ([] ++ pinsAt fp s7.heap) σ8 H' s' → Nx H' →
        ∃ m, m < n ∧ ∃ i H', Inv (X.blk s3 H3 sc ce fp) [] (wipe σ (own.map (·.2))) H' s' ∧ tn i s'.heap ∧ (∀ b ∈ fp, H' b = none) ∧ W i m H' := by
      intro s' H' I' nx
      obtain ⟨m', hm, w'⟩ := hNx H' nx
      have stay : ∀ b ∈ fp, ∀ o, s7.heap.get? b = some o → s'.heap.get? b = some o ∧ H' b = none := by
        intro b hb o e
        have z := I'.pin (b, o) (List.mem_append_right _ (List.mem_append_right _ (mem_pinsAt hb e)))
        exact ⟨z.1, z.2.1⟩
      refine ⟨m', hm, i + 1, H', (I'.unpinned (pins := [])).weak (by rw [← hw8, wipe_length]) ?_, T.keep _ _ _ st7 (fun b hb o e => (stay b hb o e).1), ?_, w'⟩
      · intro j v e
        rw [← hw8] at e
        exact (wipe_some e).1
      · intro b hb
        obtain ⟨o, e, _⟩ := T.obj _ _ st7 b hb
        exact (stay b hb o e).2
    cases b
    · simp only [Bool.false_eq_true, if_false] at q9 ⊢
      exact fin I9 q9
    · simp only [if_true] at q9 ⊢
      refine thnF (pk.run _ s9 σ8 H9 _ I9 q9) ?_
      rintro z s10 ⟨yk, H10, I10, r10, q10⟩
      refine thnF (pe.run _ s10 σ8 H10 _ I10 q10) ?_
      rintro z2 s11 ⟨yv, H11, I11, r11, kvs, k, kq, rfl, hkq, hD11, hz11, nx⟩
      cases r10
      exact dT_set (X := X.blk s3 H3 sc ce fp) hu I11 hD11 hz11 hkq r11 (fun s12 I12 => fin I12 nx)
theorem pe_dcT {kx vx tg iter : Expr} {ifs : List Expr} {sc : Scope} {own : List (Str × Nat)} {pos : Pos} {wi : TI} {g : TG} {tt : TT} {tk tv : TE} (hu : X.A.units + 1 < cLine) (hc : X.calm = true) (hN : X.N.Nodup) (hi : PI X tg iter wi) (ok : BlkOk X.N X.env.scope sc own)
    (pgs : ∀ (s : Shared) (H : Hp) (C : Addr) (cl : List (Str × Addr)) (fp : List Addr), PG (X.blk s H sc (compEnvC sc cl C X.env) fp) tg g)
    (pts : ∀ (s : Shared) (H : Hp) (C : Addr) (cl : List (Str × Addr)) (fp : List Addr), PTs (X.blk s H sc (compEnvC sc cl C X.env) fp) ifs tt)
    (pks : ∀ (s : Shared) (H : Hp) (C : Addr) (cl : List (Str × Addr)) (fp : List Addr), PE (X.blk s H sc (compEnvC sc cl C X.env) fp) kx tk)
    (pes : ∀ (s : Shared) (H : Hp) (C : Addr) (cl : List (Str × Addr)) (fp : List Addr), PE (X.blk s H sc (compEnvC sc cl C X.env) fp) vx tv)
    (hs : ∀ x, foldedSetIterable iter X.env x = pure x := by intro _; rfl) : PE X (.DictComp kx vx [⟨tg, iter, ifs, 0⟩] sc pos) (tDcT wi g tt tk tv (own.map (·.2))) := by
  constructor
  intro pins s σ H Q I h
  rw [arm_eval_DictComp]
  apply dct_core hu hc hN I hi ok pgs pts pks pes hs h
  intro D C s' m H' I' q hn f
  refine ⟨m, hn, ?_⟩
  intro h'' sb
  obtain ⟨g0, g1, g2, g3, g4, g5⟩ := f
  exact ⟨.ref D, H', I'.turned (t' := s'.toks) (fun b o hb e => (sb.2 b hb).trans e) g0 g1 g3 g4 g5, rfl, q⟩
/-- name = {..} on one line, the name a local -/
theorem ps_setDcT {i : Nat} {y : Str} {py : Pos} {kx vx tg iter : Expr} {ifs : List Expr} {sc : Scope} {own : List (Str × Nat)} {pos spos : Pos} {wi : TI} {g : TG} {tt : TT} {tk tv : TE} (hu : X.A.units + 1 < cLine) (hc : X.calm = true) (hN : X.N.Nodup)
    (hy : X.N[i]? = some y) (hyl : X.env.scope.names.lookup y = some .local) (hsw : swapsWith (.DictComp kx vx [⟨tg, iter, ifs, 0⟩] sc pos) (some (.Name y py)) spos.line X.env = pure true) (hi : PI X tg iter wi) (ok : BlkOk X.N X.env.scope sc own)
    (pgs : ∀ (s : Shared) (H : Hp) (C : Addr) (cl : List (Str × Addr)) (fp : List Addr), PG (X.blk s H sc (compEnvC sc cl C X.env) fp) tg g)
    (pts : ∀ (s : Shared) (H : Hp) (C : Addr) (cl : List (Str × Addr)) (fp : List Addr), PTs (X.blk s H sc (compEnvC sc cl C X.env) fp) ifs tt)
    (pks : ∀ (s : Shared) (H : Hp) (C : Addr) (cl : List (Str × Addr)) (fp : List Addr), PE (X.blk s H sc (compEnvC sc cl C X.env) fp) kx tk)
    (pes : ∀ (s : Shared) (H : Hp) (C : Addr) (cl : List (Str × Addr)) (fp : List Addr), PE (X.blk s H sc (compEnvC sc cl C X.env) fp) vx tv)
    (hs : ∀ x, foldedSetIterable iter X.env x = pure x := by intro _; rfl) :
    PS X (.Assign [.Name y py] (.DictComp kx vx [⟨tg, iter, ifs, 0⟩] sc pos) spos) (tAsg (tDcT wi g tt tk tv (own.map (·.2))) (gName i)) := by
  constructor
  intro pins s σ H D I h
  rw [exec_Assign_Name_used _ _ _ _ hsw]
  apply wpAny_bind
  apply wpAny_standAt
  apply wpAny_bind
  show wpAny _ X.A (do let _ ← comprehension (.DictComp kx vx [⟨tg, iter, ifs, 0⟩] sc pos) sc X.env (firstIterPos [⟨tg, iter, ifs, 0⟩] pos) newDict false (eval iter X.env) (some (assign (.Name y py) X.env))) _ _ s
  have h' : tDcT wi g tt tk tv (own.map (·.2)) σ H (fun x H1 => gName i x σ H1 D.nx) := h
  apply wpAny_bind
  refine thn (dct_core (Qf := fun _ s' => SP X pins D .next s') hu hc hN I hi ok pgs pts pks pes hs h' ?_) (fun _ s' hq => wpAny_pure (wpAny_pure hq))
  intro L C s' m H' I' q hn f
  show wpAny _ _ (assign (.Name y py) X.env (.ref L)) _ _ _
  apply wpAny_assign_Name
  refine store_ok2 (v := V.ref L) I' hN hy (.inl hyl) rfl ?_ (.inr hyl)
  rintro s2 I2 ⟨a, sb, ha⟩
  obtain ⟨g0, g1, g2, g3, g4, g5⟩ := f
  have apart : C ≠ a := by
    cases ha with
    | inl z => rw [z]; exact g1
    | inr z => exact fun e => g4 y a z e.symm
  refine ⟨m, hn.sameBut sb apart, ?_⟩
  intro h3 sb3
  exact ⟨_, H', I2.turned (t' := s2.toks) (fun b o hb e => (sb3.2 b hb).trans e) g0 g1 g3 g4 g5, q⟩
end
end L2

set_option Elab.async false
set_option linter.all false
set_option maxRecDepth 100000
set_option maxHeartbeats 4000000
set_option pp.maxSteps 600
set_option pp.deepTerms false
namespace Wb
open PySem PySem.Spec PyProof.Rows L2
/-- a dict comprehension over any walk -/
theorem dct_it {J : It} {n : Nat} {G : Hp → Prop} {Y : Nat → Hp → V → Hp → Prop} (w : Walk J n G Y) {g : TG} {tt : TT} {tk tv : TE} {vs : List Nat} {σ : L2.St} {H1 : Hp} {D : Addr} {Qd : Hp → Prop} (Pv : Nat → Hp → Prop)
    (h0 : Pv 0 (upd H1 D (.dT []))) (hG : ∀ i H, i ≤ n → Pv i H → G H)
    (hs : ∀ i x H H', i < n → Pv i H → Y i H x H' → g x (wipe σ vs) H' fun σ2 H2 => wipe σ2 vs = wipe σ vs ∧ tt σ2 H2 fun b H3 =>
      if b = true then tk σ2 H3 fun y H4 => tv σ2 H4 fun z H5 => ∃ kvs k q, y = .ref q ∧ H5 q = some (.tup (k.map kV)) ∧ H5 D = some (.dT kvs) ∧ kvs.length < sizeLine ∧ Pv (i + 1) (upd H5 D (.dT (putK kvs k z))) else Pv (i + 1) H3)
    (hd : ∀ H, Pv n H → Qd H) :
    ∃ W : Nat → Nat → Hp → Prop, (∃ m, W 0 m (upd H1 D (.dT []))) ∧ ∀ i m H, W i m H →
      (J.stop i H ∧ Qd H) ∨ (J.go i H ∧ ∃ Nx : Hp → Prop, (∀ H', Nx H' → ∃ m', m' < m ∧ W (i + 1) m' H') ∧ ∀ x H', J.yld i H x H' → g x (wipe σ vs) H' fun σ2 H2 => wipe σ2 vs = wipe σ vs ∧ tt σ2 H2 fun b H3 =>
        if b = true then tk σ2 H3 fun y H4 => tv σ2 H4 fun z H5 => ∃ kvs k q, y = .ref q ∧ H5 q = some (.tup (k.map kV)) ∧ H5 D = some (.dT kvs) ∧ kvs.length < sizeLine ∧ Nx (upd H5 D (.dT (putK kvs k z))) else Nx H3) := by
  refine ⟨fun i m H => (m = n - i ∧ i ≤ n) ∧ Pv i H, ⟨n, ⟨rfl, Nat.zero_le _⟩, h0⟩, ?_⟩
  rintro i m H ⟨⟨rfl, hi⟩, p⟩
  have gg := hG i H hi p
  rcases Nat.lt_or_eq_of_le hi with lt | rfl
  · refine .inr ⟨w.goes i H lt gg, Pv (i + 1), ?_, ?_⟩
    · intro H' p'
      exact ⟨n - (i + 1), by omega, ⟨rfl, lt⟩, p'⟩
    · intro x H' y
      exact hs i x H H' lt p (w.yields i H x H' lt gg y)
  · exact .inl ⟨w.stops H gg, hd H p⟩

/-! ### moves by word -/
structure Tr3 where
  frm : Int
  to_ : Int
  price : Int
def TrAt (H : Hp) (v : V) (t : Tr3) : Prop := ∃ a, v = .ref a ∧ H a = some (.tup [.int t.frm, .int t.to_, .int t.price])
def trOf (g : Gap) : Tr3 := ⟨g.frm, g.to_, g.price⟩
def movesL (gs : List Gap) (w : Word) : List Tr3 := (gs.filter fun g => decide (w ∈ g.ways)).map trOf
def kps (ps : List (Word × Addr)) : List (List Key × V) := ps.map fun q => (keyW q.1, .ref q.2)
theorem kps_any (ps : List (Word × Addr)) (w : Word) : ((kps ps).any fun kv => decide (kv.1 = keyW w)) = decide (w ∈ ps.map (·.1)) := by
  unfold kps
  rw [List.any_map, Bool.eq_iff_iff]
  simp only [List.any_eq_true, Function.comp, decide_eq_true_eq, List.mem_map]
  constructor
  · rintro ⟨q, hq, e⟩
    exact ⟨q, hq, keyW_inj e⟩
  · rintro ⟨q, hq, e⟩
    exact ⟨q, hq, by rw [e]⟩
theorem put_kps {ps : List (Word × Addr)} {w : Word} (h : w ∉ ps.map (·.1)) (a : Addr) : putK (kps ps) (keyW w) (.ref a) = kps (ps ++ [(w, a)]) := by
  unfold putK
  rw [kps_any, if_neg (by rw [decide_eq_false h]; exact Bool.false_ne_true)]
  unfold kps
  rw [List.map_append]
  rfl
theorem valV_kps_none {ps : List (Word × Addr)} {w : Word} (h : w ∉ ps.map (·.1)) : valV (kps ps) (keyW w) = none := by
  have z := valV_any (keyW w) (kps ps)
  rw [kps_any, decide_eq_false h] at z
  cases e : valV (kps ps) (keyW w) with
  | none => rfl
  | some v => rw [e] at z; cases z
theorem valV_kps {ps : List (Word × Addr)} {q : Word × Addr} (hn : (ps.map (·.1)).Nodup) (h : q ∈ ps) : valV (kps ps) (keyW q.1) = some (.ref q.2) := by
  induction ps with
  | nil => cases h
  | cons p ps ih =>
    rw [List.map_cons, List.nodup_cons] at hn
    rcases List.mem_cons.mp h with rfl | h
    · exact valV_pos rfl
    · have ne : ¬ keyW p.1 = keyW q.1 := fun e => hn.1 (by rw [keyW_inj e]; exact List.mem_map.mpr ⟨q, h, rfl⟩)
      have z : valV (kps (p :: ps)) (keyW q.1) = valV (kps ps) (keyW q.1) := valV_neg ne
      rw [z]
      exact ih hn.2 h
/-- the dict of bolt b's moves, by words, its lists apart from r0 -/
def MvAt (B H : Hp) (r0 d : Addr) (gs : List Gap) (ws : List Word) : Prop :=
  ∃ ps : List (Word × Addr), ps.map (·.1) = ws ∧ H d = some (.dT (kps ps)) ∧ ∀ q ∈ ps, (q.2 ≠ r0 ∧ B q.2 = none) ∧ ∃ us, H q.2 = some (.lst us) ∧ Paired (TrAt H) us (movesL gs q.1)
theorem TrAt.ex {H H' : Hp} (e : Evl.Ex H H') {v : V} {t : Tr3} (h : TrAt H v t) : TrAt H' v t := by
  obtain ⟨a, r, q⟩ := h
  exact ⟨a, r, e _ _ q⟩
theorem MvAt.ex {B H H' : Hp} (e : Evl.Ex H H') {r0 d : Addr} {gs : List Gap} {ws : List Word} (h : MvAt B H r0 d gs ws) : MvAt B H' r0 d gs ws := by
  obtain ⟨ps, h1, h2, h3⟩ := h
  refine ⟨ps, h1, e _ _ h2, fun q hq => ?_⟩
  obtain ⟨a, us, b, c⟩ := h3 q hq
  exact ⟨a, us, e _ _ b, Paired.imp (fun _ _ => TrAt.ex e) c⟩
theorem MvAt.put {B H : Hp} {r0 d : Addr} {xs ys : List V} (hr : H r0 = some (.lst xs)) {gs : List Gap} {ws : List Word} (h : MvAt B H r0 d gs ws) : MvAt B (upd H r0 (.lst ys)) r0 d gs ws := by
  obtain ⟨ps, h1, h2, h3⟩ := h
  refine ⟨ps, h1, by rw [upd_ne (ne_of h2 hr (fun z => nomatch z))]; exact h2, fun q hq => ?_⟩
  obtain ⟨a, us, b, c⟩ := h3 q hq
  refine ⟨a, us, by rw [upd_ne a.1]; exact b, Paired.imp (fun v t => ?_) c⟩
  rintro ⟨x, rfl, hx⟩
  exact ⟨x, rfl, by rw [upd_ne (ne_of hx hr (fun z => nomatch z))]; exact hx⟩
section
variable {P : Program} {w : World} {K : PySem.W.Frag} {mg : Str → Option Value} {base : Heap}
theorem paired_app1 {α β : Type} {R : α → β → Prop} {xs : List α} {ys : List β} {x : α} {y : β} (h : Paired R xs ys) (r : R x y) : Paired R (xs ++ [x]) (ys ++ [y]) := Paired.app h (.cons r .nil)
end
end Wb

set_option Elab.async false
set_option linter.all false
set_option maxRecDepth 100000
set_option maxHeartbeats 4000000
set_option pp.maxSteps 600
set_option pp.deepTerms false
namespace Wb
open PySem PySem.Spec PyProof.Rows L2
abbrev sFault : Stmt := topS 21
abbrev sManys : Stmt := topS 25
abbrev sNeedL : Stmt := topS 26
theorem scFault : FnScope ["thing", "manys", "k", "bolt", "words"] ["thing"] (defScope sFault) := ⟨rfl, rfl, rfl, by decide +kernel, rfl, by decide +kernel, by decide +kernel⟩
theorem scManys : FnScope ["lock", "bolt"] ["lock"] (defScope sManys) := ⟨rfl, rfl, rfl, by decide +kernel, rfl, by decide +kernel, by decide +kernel⟩
theorem scNeedL : FnScope ["lock", "fault"] ["lock"] (defScope sNeedL) := ⟨rfl, rfl, rfl, by decide +kernel, rfl, by decide +kernel, by decide +kernel⟩
/-- all defs of the checks, as they stand -/
structure Pr (K : PySem.W.Frag) (mg : Str → Option Value) where
  f1 : Addr
  d1 : FuncData
  F1 : Fun K "is_whole" "is_whole" sWhole f1 d1
  b1 : Binds K d1 ["thing"] []
  g1 : mg "is_whole" = some (.ref f1)
  f2 : Addr
  d2 : FuncData
  F2 : Fun K "is_whole_in" "is_whole_in" sWholeIn f2 d2
  b2 : Binds K d2 ["thing", "low", "high"] []
  g2 : mg "is_whole_in" = some (.ref f2)
  f3 : Addr
  d3 : FuncData
  F3 : Fun K "is_tuple_of" "is_tuple_of" sTupOf f3 d3
  b3 : Binds K d3 ["thing", "low", "high"] []
  g3 : mg "is_tuple_of" = some (.ref f3)
  f4 : Addr
  d4 : FuncData
  F4 : Fun K "are_places" "are_places" sPlaces f4 d4
  b4 : Binds K d4 ["thing", "manys"] []
  g4 : mg "are_places" = some (.ref f4)
  f10 : Addr
  d10 : FuncData
  F10 : Fun K "words_of" "words_of" sWords f10 d10
  b10 : Binds K d10 ["lock"] []
  g10 : mg "words_of" = some (.ref f10)
  f19 : Addr
  d19 : FuncData
  F19 : Fun K "fault_of" "fault_of" sFault f19 d19
  b19 : Binds K d19 ["thing"] []
  g19 : mg "fault_of" = some (.ref f19)
  f20 : Addr
  d20 : FuncData
  F20 : Fun K "is_bolt" "is_bolt" sBolt f20 d20
  b20 : Binds K d20 ["thing", "below"] []
  g20 : mg "is_bolt" = some (.ref f20)
  f21 : Addr
  d21 : FuncData
  F21 : Fun K "is_gap" "is_gap" sGap f21 d21
  b21 : Binds K d21 ["thing", "many", "below"] []
  g21 : mg "is_gap" = some (.ref f21)
  f22 : Addr
  d22 : FuncData
  F22 : Fun K "are_ways" "are_ways" sWays f22 d22
  b22 : Binds K d22 ["thing", "below"] []
  g22 : mg "are_ways" = some (.ref f22)
  f23 : Addr
  d23 : FuncData
  F23 : Fun K "manys_of" "manys_of" sManys f23 d23
  b23 : Binds K d23 ["lock"] []
  g23 : mg "manys_of" = some (.ref f23)
  f24 : Addr
  d24 : FuncData
  F24 : Fun K "need_lock" "need_lock" sNeedL f24 d24
  b24 : Binds K d24 ["lock"] []
  g24 : mg "need_lock" = some (.ref f24)
  B : Bi mg
  N : Nu mg

def spFault (K : PySem.W.Frag) : Sp := fun vs H Q _ => ∃ (v : V) (l : Lock), vs = [v] ∧ LockAt K H v l ∧ LockOk l ∧ ∀ H', Evl.Ex H H' → Q .non H'
def spManys (K : PySem.W.Frag) : Sp := fun vs H Q _ => ∃ (v : V) (l : Lock), vs = [v] ∧ LockAt K H v l ∧ l.length ≤ 60 ∧ ∀ H' p, Evl.Ex H H' → H p = none → H' p = some (.lst ((manysOf l).map V.int)) → Q (.ref p) H'
section
variable {P : Program} {w : World} {K : PySem.W.Frag} {mg : Str → Option Value} {base : Heap}
theorem manysOf_take (l : Lock) (i : Nat) : manysOf (l.take i) = (manysOf l).take i := by
  unfold manysOf
  rw [List.map_take]
theorem ok_fault (D : Pr K mg) : FnOk P w K mg base CX0 6 D.f19 D.d19 ["thing"] (spFault K) := by
  have G3 : FnOk P w K mg base CX0 1 D.f3 D.d3 ["thing", "low", "high"] (spTupOf K) := ok_tupOf D.F3 D.B
  have G20 : FnOk P w K mg base CX0 5 D.f20 D.d20 ["thing", "below"] (spBolt K) := ok_bolt D.F20 D.F3 D.b3 D.g3 D.F4 D.b4 D.g4 D.F2 D.b2 D.g2 D.F22 D.b22 D.g22 D.F1 D.b1 D.g1 D.F21 D.b21 D.g21 D.B D.N
  have G10 : FnOk P w K mg base CX0 1 D.f10 D.d10 ["lock"] (spWords K) := ok_words D.F10 D.B
  obtain ⟨tb, eb⟩ := D.N.bolts
  obtain ⟨tw, ew⟩ := D.N.words
  refine D.F19.ok scFault (fun vs H Q E h => ?_) (fun cdv A outer s H vs Q E hr h => ?_)
  · obtain ⟨v, l, rfl, _⟩ := h; rfl
  · obtain ⟨v, l, rfl, ⟨a, bs, rfl, hx, hp⟩, ok, q⟩ := h
    have hr1 : Room 1 _ := hr.mono (by decide)
    refine ⟨_, pss_cons (ps_if (pt_not (pt_val (pe_call G3 hr1 (by rfl) D.g3 D.F3.kp D.b3 .nil pass0 (pa_cons (pv 0) (pa_cons pe_int (pa_cons (pe_glob (v := .int 60) (by rfl) eb ⟨_, rfl⟩) pa_nil)))))) pss_never pss_nil)
      (pss_cons (ps_set (i := 1) scFault.nd rfl (.inl rfl) (pe_lst pa_nil))
      (pss_cons (ps_for PassesOwn.never rfl (pi_enumT (by rfl) D.B.enum (pa_cons (pv 0) pa_nil)) (pg_tup rfl (pgs_cons (pg_name (i := 2) scFault.nd rfl (.inl rfl)) (pgs_cons (pg_name (i := 3) scFault.nd rfl (.inl rfl)) pgs_nil)))
        (pss_cons (ps_if (pt_not (pt_val (pe_call G20 hr (by rfl) D.g20 D.F20.kp D.b20 .nil pass0 (pa_cons (pv 3) (pa_cons (pv 1) pa_nil))))) pss_never pss_nil)
        (pss_one (ps_expr (pe_bm PySem.F.plainAttrs_list PySem.F.slot_list_append PySem.F.type_list_append mt_append (pv 1) (pa_cons (pe_ix ix_tup (pv 3) pe_int (fun _ _ => rfl)) pa_nil))))))
      (pss_cons (ps_for PassesOwn.never rfl (pi_enum (by rfl) D.B.enum (pa_cons (pe_call G10 hr1 (by rfl) D.g10 D.F10.kp D.b10 .nil pass0 (pa_cons (pv 0) pa_nil)) pa_nil)) (pg_tup rfl (pgs_cons (pg_name (i := 2) scFault.nd rfl (.inl rfl)) (pgs_cons (pg_name (i := 4) scFault.nd rfl (.inl rfl)) pgs_nil)))
        (pss_one (ps_if (pt_cmpR op_gt (pe_callB call_len_seq (by rfl) D.B.len PySem.boot_len (pa_cons (pv 4) pa_nil)) (pe_glob (v := .int 8) (by rfl) ew ⟨_, rfl⟩) (nomark _)) pss_never pss_nil)))
      (pss_one (ps_ret pe_non))))), ?_⟩
    have bl : bs.length = l.length := Paired.len hp
    have n0 := ok.n0
    have n60 := ok.n1
    refine ⟨.ref a, rfl, a, bs, 1, 60, rfl, hx, true, ?_, ?_⟩
    · have z1 : decide ((1 : Int) ≤ (bs.length : Int)) = true := decide_eq_true (by omega)
      have z2 : decide ((bs.length : Int) ≤ 60) = true := decide_eq_true (by omega)
      rw [z1, z2]
      rfl
    refine iteF ?_
    refine ⟨Nat.zero_le _, fun r0 nr0 => ?_⟩
    have x1 : Evl.Ex H (upd H r0 (.lst [])) := Evl.Ex.new nr0
    refine ⟨.ref a, rfl, a, bs, rfl, Evl.ex_t x1 hx, ?_⟩
    refine for_it (walk_et (xs := bs)) (fun i σ H' => ∃ (y2 y3 y4 : Option V), σ = [some (.ref a), some (.ref r0), y2, y3, y4] ∧ Evl.Ex H H' ∧ H' r0 = some (.lst (((manysOf l).take i).map V.int))) ⟨none, none, none, rfl, x1, upd_same⟩ ?_ ?_ ?_
    · rintro i σ H' _ ⟨_, _, _, _, e, _⟩
      exact Evl.ex_t e hx
    · rintro i v σ H1 H2 hi ⟨y2, y3, y4, rfl, e1, hR⟩ ⟨T, x, y, rfl, nT, rfl, ex, ey⟩
      cases ex
      have ey' : bs[i]? = some y := ey
      obtain ⟨b, hb, hba⟩ := Paired.get1 hp ey'
      have e2 := Evl.Ex.new (o := .tup [.int (i : Nat), y]) nT
      generalize hH2 : upd H1 T (.tup [.int (i : Nat), y]) = H2 at e2
      have hT2 : H2 T = some (.tup [.int (i : Nat), y]) := by rw [← hH2]; exact upd_same
      have e12 := e1.trans e2
      have hR2 := e2 _ _ hR
      have bok := ok.bolts i b hb
      refine ⟨T, _, rfl, .inl (.inl hT2), rfl, _, _, rfl, _, _, rfl, rfl, ?_⟩
      refine ⟨y, rfl, .ref r0, rfl, y, r0, b, manysOf (l.take i), rfl, hba.mono (TX.ex e12), ?_, bok, fun H3 e3 => ?_⟩
      · rw [manysOf_take]
        exact .inl (.inl hR2)
      refine ⟨true, rfl, iteF ?_⟩
      obtain ⟨ab, cg, gs, rfl, hb1, hb2, hb3⟩ := hba
      have hR3 := e3 _ _ hR2
      refine ⟨.ref r0, rfl, .inl ⟨rfl, _, SqL.of hR3⟩, .ref ab, rfl, ab, _, 0, .int b.many, rfl, rfl, Evl.ex_t (e12.trans e3) hb1, atI_nat (j := 0) rfl, r0, _, _, rfl, rfl, hR3, ?_, ?_⟩
      · rw [List.length_map, List.length_take]
        have : i < 61 := by rw [bl] at hi; omega
        exact Nat.lt_of_le_of_lt (Nat.min_le_left _ _) (Nat.lt_of_lt_of_le this (by decide))
      · have mm : (manysOf l)[i]? = some b.many := by
          unfold manysOf
          rw [List.getElem?_map, hb]
          rfl
        refine ⟨_, _, _, rfl, (e12.trans e3).mut nr0, ?_⟩
        rw [upd_same, take_succ_get mm, List.map_append]
        rfl
    · rintro σ H1 ⟨y2, y3, y4, rfl, e1, hR⟩
      refine ⟨.ref a, rfl, .ref a, l, rfl, ⟨a, bs, rfl, Evl.ex_t e1 hx, Paired.imp (fun _ _ => BoltAt.mono (TX.ex e1)) hp⟩, ok, fun H2 pw rs e2 npw hpw rl hrs => ?_⟩
      refine ⟨pw, rs.map V.ref, rfl, .inl (.inl hpw), ?_⟩
      refine for_it (walk_enum (xs := rs.map V.ref)) (fun i σ H' => ∃ (y2 y3 y4 : Option V), σ = [some (.ref a), some (.ref r0), y2, y3, y4] ∧ Evl.Ex H2 H') ⟨_, _, _, rfl, Evl.Ex.refl _⟩ ?_ ?_ ?_
      · rintro i σ H' _ ⟨_, _, _, _, e⟩
        exact .inl (.inl (e _ _ hpw))
      · rintro i v σ H3 H4 hi ⟨z2, z3, z4, rfl, e3⟩ ⟨T, x, y, rfl, nT, rfl, ex, ey⟩
        cases ex
        rw [List.length_map, rl] at hi
        obtain ⟨r, hr1', rfl⟩ : ∃ r, rs[i]? = some r ∧ y = .ref r := by
          have ey' : (rs.map V.ref)[i]? = some y := ey
          rw [List.getElem?_map] at ey'
          cases e : rs[i]? with
          | none => rw [e] at ey'; cases ey'
          | some r => rw [e] at ey'; exact ⟨r, rfl, (Option.some.inj ey').symm⟩
        obtain ⟨_, ws, ⟨us, hus, hup⟩, hW⟩ := hrs i r hr1'
        have w8 : ws.length ≤ 8 := ok.words i ws hi hW.1 (fun u hu' => (hW.2 u).mp hu')
        have ul : us.length = ws.length := Paired.len hup
        have e4 := Evl.Ex.new (o := .tup [.int (i : Nat), .ref r]) nT
        refine ⟨T, _, rfl, .inl (.inl upd_same), rfl, _, _, rfl, _, _, rfl, rfl, ?_⟩
        refine ⟨.ref r, rfl, r, us, rfl, .inl (.inl (.inl ((e3.trans e4) _ _ hus))), _, 8, rfl, rfl, false, ?_, ?_⟩
        · have z : decide ((8 : Int) < (us.length : Int)) = false := decide_eq_false (by omega)
          show V.bl (decide ((8 : Int) < (us.length : Int))) = V.bl false
          rw [z]
        · exact iteF ⟨_, _, _, rfl, e3.trans e4⟩
      · rintro σ H3 ⟨z2, z3, z4, rfl, e3⟩
        exact q H3 ((e1.trans e2).trans e3)
theorem ok_needL (D : Pr K mg) : FnOk P w K mg base CX0 7 D.f24 D.d24 ["lock"] (spFault K) := by
  have G19 : FnOk P w K mg base CX0 6 D.f19 D.d19 ["thing"] (spFault K) := ok_fault D
  refine D.F24.ok scNeedL (fun vs H Q E h => ?_) (fun cdv A outer s H vs Q E hr h => ?_)
  · obtain ⟨v, l, rfl, _⟩ := h; rfl
  · obtain ⟨v, l, rfl, hv, ok, q⟩ := h
    refine ⟨_, pss_cons (ps_set (i := 1) scNeedL.nd rfl (.inl rfl) (pe_call G19 hr (by rfl) D.g19 D.F19.kp D.b19 .nil pass0 (pa_cons (pv 0) pa_nil)))
      (pss_one (ps_if (pt_cmpR op_notN (pv 1) pe_non (nomark _)) pss_never pss_nil)), ?_⟩
    refine ⟨v, rfl, v, l, rfl, hv, ok, fun H' e => ?_⟩
    refine ⟨.non, rfl, rfl, false, rfl, iteF ?_⟩
    exact q H' e
theorem ok_manys (D : Pr K mg) : FnOk P w K mg base CX0 1 D.f23 D.d23 ["lock"] (spManys K) := by
  refine D.F23.ok scManys (fun vs H Q E h => ?_) (fun cdv A outer s H vs Q E hr h => ?_)
  · obtain ⟨v, l, rfl, _⟩ := h; rfl
  · obtain ⟨v, l, rfl, ⟨a, bs, rfl, hx, hp⟩, n60, q⟩ := h
    refine ⟨_, pss_one (ps_ret (pe_lc (own := [("bolt", 1)]) (g := gName 1) rfl scManys.nd (pi_tup (pv 0)) (blkOk_by (own := [("bolt", 1)]) (N := ["lock", "bolt"]) (sc := defScope sManys) (by decide +kernel))
      (fun _ _ _ _ _ => pg_name (i := 1) scManys.nd rfl (Or.inl rfl)) (fun _ _ _ _ _ => pts_nil) (fun _ _ _ _ _ => pe_ix (r := rIxT K) ix_tup (pv 1) pe_int (fun _ _ => rfl)))), ?_⟩
    have bl : bs.length = l.length := Paired.len hp
    refine ⟨.ref a, rfl, a, rfl, ⟨_, hx⟩, fun D hD => lc_tup (K := K) (a := a) (xs := bs) (fun i H' => Evl.Ex H H' ∧ H' D = some (.lst (((manysOf l).take i).map V.int))) ⟨Evl.Ex.new hD, upd_same⟩ ?_ ?_ ?_⟩
    · rintro i H' _ ⟨e, _⟩
      exact Evl.ex_t e hx
    · rintro i x H' hi ⟨e, hd⟩
      obtain ⟨b, hb, ⟨ab, cg, gs, rfl, hb1, _⟩⟩ := Paired.get1 hp hi
      have li : i < 61 := by
        have := (List.getElem?_eq_some_iff.mp hi).1
        omega
      have mm : (manysOf l)[i]? = some b.many := by
        unfold manysOf
        rw [List.getElem?_map, hb]
        rfl
      refine ⟨rfl, .ref ab, rfl, ab, _, 0, .int b.many, rfl, rfl, Evl.ex_t e hb1, atI_nat (j := 0) rfl, _, hd, ?_, e.mut hD, ?_⟩
      · rw [List.length_map, List.length_take]
        exact Nat.lt_of_le_of_lt (Nat.min_le_left _ _) (Nat.lt_of_lt_of_le li (by decide))
      · rw [upd_same, take_succ_get mm, List.map_append]
        rfl
    · rintro H1 ⟨e, hd⟩
      refine q H1 D e hD ?_
      rw [hd, List.take_of_length_le]
      unfold manysOf
      rw [List.length_map, bl]
      exact Nat.le_refl _
end
end Wb

set_option Elab.async false
set_option linter.all false
set_option maxRecDepth 100000
set_option maxHeartbeats 4000000
namespace Wb
open PySem PySem.Spec PyProof.Rows L2
/-! ### a range that a name holds -/
section
variable {X : Cx}
theorem cr_range1 : CallR X (.type "range") (fun vs H Q => ∃ j, vs = [V.int j] ∧ ∀ p, H p = none → Q (.ref p) (upd H p (.rng 0 j))) := by
  intro pins s σ H vs us Q I r h
  obtain ⟨j, rfl, q⟩ := h
  obtain ⟨u1, rfl, rj⟩ := r.one
  obtain ⟨u, rfl⟩ := rj
  refine call_range_1 ⟨.ref s.heap.objs.size, upd H s.heap.objs.size (.rng 0 j), I.laid (t' := s.toks + 1 + 1) (fun b o e => Heap.get?_push_of_some _ e) (Nat.le_refl _) ?_, rfl, q _ (I.hok.fresh (Nat.le_refl _))⟩
  exact ⟨s.toks, u, s.toks + 1, Heap.get?_push_size _ rfl⟩
def iRngV (tl : TE) : TI := fun σ H R => tl σ H fun x H1 => ∃ (a : Addr) (lo hi : Int), x = .ref a ∧ H1 a = some (.rng lo hi) ∧ (-(2 ^ 62) ≤ lo ∧ lo < 2 ^ 62 ∧ -(2 ^ 62) ≤ hi ∧ hi < 2 ^ 62) ∧ R (Itr lo (hi - lo).toNat) H1
theorem pi_rng {tg l : Expr} {tl : TE} (hl : PE X l tl) : PI X tg l (iRngV tl) := by
  refine ⟨fun pins s σ H R I h => ?_⟩
  refine thn (hl.run pins s σ H _ I h) fun v s1 ⟨x, H1, I1, r1, q1⟩ => ?_
  obtain ⟨a, lo, hi, e, ha, ⟨b1, b2, b3, b4⟩, q⟩ := q1
  subst e
  cases r1
  obtain ⟨t, u, v, ho⟩ := I1.hok a _ ha
  refine wpAny_pyIter_range (show IsRange _ _ _ _ _ _ _ _ from ho) (small_one b1 b2 b3 b4) ?_
  refine ⟨s1.heap.objs.size, [s1.heap.objs.size], _, _, H1, rfl, I1.kept (t' := s1.toks) fun b o e => Heap.get?_push_of_some _ e, turn_range _ lo (hi - lo).toNat, ?_, fun b hb => ?_, q⟩
  · have e1 : lo + ((0 : Nat) : Int) * 1 = lo := by simp
    have e2 : (((hi - lo).toNat : Nat) : Int) - ((0 : Nat) : Int) = Builtin.Range.rangeSize lo hi 1 := by rw [rangeSize_one]; split <;> omega
    show IsRangeIter _ _ (lo + ((0 : Nat) : Int) * 1) ((((hi - lo).toNat : Nat) : Int) - ((0 : Nat) : Int)) 1
    rw [e1, e2]
    exact Heap.get?_push_size _ rfl
  · have e : b = s1.heap.objs.size := by simpa using hb
    subst e
    exact I1.fpOk (Nat.le_refl _) (I1.hok.fresh (Nat.le_refl _))
end
end Wb

set_option Elab.async false
set_option linter.all false
set_option maxRecDepth 100000
set_option maxHeartbeats 4000000
namespace Wb
/-! ### ways of the lowest bolts, with how many wishes between are met: no program here -/
abbrev WishL := List (Option Int)
/-- a word of the lowest m bolts meets a wish, as far as it speaks of them -/
def meetsM (m : Nat) (u : Word) (x : WishL) : Prop := ∀ (i : Nat) (z : Int), i < m → x[i]? = some (some z) → u[i]? = some z
inductive WayM (l : Lock) (ask : List WishL) (m : Nat) (w : Word) (a : Nat) : Word → Nat → Int → Prop
  | refl : WayM l ask m w a w a 0
  | step {u : Word} {c : Nat} {p : Int} {k : Nat} {b : Bolt} {g : Gap} : WayM l ask m w a u c p → k < m → l[k]? = some b → u[k]? = some g.frm → g ∈ b.gaps → u.take k ∈ g.ways → WayM l ask m w a (u.set k g.to_) c (p + g.price)
  | meet {u : Word} {c : Nat} {p : Int} {x : WishL} : WayM l ask m w a u c p → ask[c]? = some x → meetsM m u x → WayM l ask m w a u (c + 1) p
section
variable {l : Lock} {ask : List WishL} {m : Nat} {w u v : Word} {a c d : Nat} {p q : Int}
theorem WayM.len (h : WayM l ask m w a u c p) : u.length = w.length := by
  induction h with
  | refl => rfl
  | step _ _ _ _ _ _ ih => rw [List.length_set]; exact ih
  | meet _ _ _ ih => exact ih
theorem WayM.mono (h : WayM l ask m w a u c p) : a ≤ c := by
  induction h with
  | refl => exact Nat.le_refl _
  | step _ _ _ _ _ _ ih => exact ih
  | meet _ _ _ ih => omega
theorem WayM.pos (hp : ∀ (k : Nat) (b : Bolt) (g : Gap), l[k]? = some b → g ∈ b.gaps → 1 ≤ g.price) (h : WayM l ask m w a u c p) : 0 ≤ p := by
  induction h with
  | refl => exact Int.le_refl _
  | step _ _ hb _ hg _ ih => have := hp _ _ _ hb hg; omega
  | meet _ _ _ ih => exact ih
theorem WayM.trans (h : WayM l ask m w a u c p) (h' : WayM l ask m u c v d q) : WayM l ask m w a v d (p + q) := by
  induction h' with
  | refl => rw [Int.add_zero]; exact h
  | step _ hk hb hu hg hw ih => rw [← Int.add_assoc]; exact .step ih hk hb hu hg hw
  | meet _ hx hm ih => exact .meet ih hx hm
theorem WayM.inAll (ok : ∀ (k : Nat) (b : Bolt) (g : Gap), l[k]? = some b → g ∈ b.gaps → 0 ≤ g.to_ ∧ g.to_ < b.many) (h : WayM l ask m w a u c p) {ms : List Int} (hms : ms = (l.map (·.many)).take m)
    (hw : w.length = ms.length ∧ ∀ (i : Nat) (n k : Int), w[i]? = some n → ms[i]? = some k → 0 ≤ n ∧ n < k) : u.length = ms.length ∧ ∀ (i : Nat) (n k : Int), u[i]? = some n → ms[i]? = some k → 0 ≤ n ∧ n < k := by
  induction h with
  | refl => exact hw
  | step _ hk hb hu hg _ ih =>
    refine ⟨by rw [List.length_set]; exact ih.1, fun i n k' hn hk' => ?_⟩
    rw [List.getElem?_set] at hn
    split at hn
    · rename_i e
      subst e
      split at hn
      · cases hn
        rw [hms, List.getElem?_take, if_pos hk, List.getElem?_map, hb] at hk'
        cases hk'
        exact ok _ _ _ hb hg
      · cases hn
    · exact ih.2 i n k' hn hk'
  | meet _ _ _ ih => exact ih
/-- the bolt m can stay at y while these wishes are met -/
def stays (ask : List WishL) (m : Nat) (y : Int) (a c : Nat) : Prop := ∀ (i : Nat) (x : WishL) (z : Int), a ≤ i → i < c → ask[i]? = some x → x[m]? = some (some z) → z = y
theorem stays_refl (ask : List WishL) (m : Nat) (y : Int) (a : Nat) : stays ask m y a a := fun i x z h1 h2 => absurd h2 (by omega)
theorem stays_cat {y : Int} (h : stays ask m y a c) (h' : stays ask m y c d) : stays ask m y a d := fun i x z h1 h2 h3 h4 => by
  by_cases e : i < c
  · exact h i x z h1 e h3 h4
  · exact h' i x z (by omega) h2 h3 h4
theorem stays_sub {y : Int} {a' c' : Nat} (h : stays ask m y a c) (h1 : a ≤ a') (h2 : c' ≤ c) : stays ask m y a' c' := fun i x z e1 e2 e3 e4 => h i x z (by omega) (by omega) e3 e4
theorem set_app {u : Word} {y to : Int} {k : Nat} (h : k < u.length) : (u ++ [y]).set k to = u.set k to ++ [y] := by rw [List.set_append, if_pos h]
theorem set_last {u : Word} {y to : Int} : (u ++ [y]).set u.length to = u ++ [to] := by
  rw [List.set_append, if_neg (by omega), Nat.sub_self]; rfl
theorem take_app {u : Word} {y : Int} {k : Nat} (h : k ≤ u.length) : (u ++ [y]).take k = u.take k := List.take_append_of_le_length h
theorem get_app {u : Word} {y : Int} {k : Nat} (h : k < u.length) : (u ++ [y])[k]? = u[k]? := List.getElem?_append_left h
theorem get_last {u : Word} {y : Int} : (u ++ [y])[u.length]? = some y := by rw [List.getElem?_append_right (Nat.le_refl _), Nat.sub_self]; rfl
theorem meets_app {u : Word} {y : Int} {x : WishL} (ul : u.length = m) : meetsM (m + 1) (u ++ [y]) x ↔ meetsM m u x ∧ ∀ z, x[m]? = some (some z) → z = y := by
  constructor
  · intro h
    refine ⟨fun i z hi hz => ?_, fun z hz => ?_⟩
    · have := h i z (by omega) hz
      rw [get_app (by omega)] at this
      exact this
    · have := h m z (by omega) hz
      rw [← ul, get_last] at this
      exact (Option.some.inj this).symm
  · rintro ⟨h1, h2⟩ i z hi hz
    by_cases e : i < m
    · rw [get_app (by omega)]
      exact h1 i z e hz
    · have : i = m := by omega
      subst this
      rw [← ul, get_last, h2 z hz]
/-- a way of the lower bolts is one with the next one staying -/
theorem WayM.lift {y : Int} (wl : w.length = m) (h : WayM l ask m w a u c p) (st : stays ask m y a c) : WayM l ask (m + 1) (w ++ [y]) a (u ++ [y]) c p := by
  induction h with
  | refl => exact .refl
  | step h' hk hb hu hg hw ih =>
    have ul := h'.len
    rw [← set_app (by omega)]
    exact .step (ih st) (by omega) hb (by rw [get_app (by omega)]; exact hu) hg (by rw [take_app (by omega)]; exact hw)
  | meet h' hx hm ih =>
    have ul := h'.len
    have m0 := h'.mono
    exact .meet (ih (stays_sub st (Nat.le_refl _) (Nat.le_succ _))) hx ((meets_app (by omega)).mpr ⟨hm, fun z hz => st _ _ z m0 (by omega) hx hz⟩)
theorem snoc_of {u : Word} (h : u.length = m + 1) : ∃ v y, u = v ++ [y] ∧ v.length = m := by
  rcases List.eq_nil_or_concat u with z | ⟨v, y, z⟩
  · rw [z] at h; cases h
  · refine ⟨v, y, by rw [z]; simp, ?_⟩
    rw [z] at h
    simpa using h
theorem app_inj {u v : Word} {x y : Int} (h : u ++ [x] = v ++ [y]) : u = v ∧ x = y := by
  have := List.append_inj' h rfl
  exact ⟨this.1, (List.cons.inj this.2).1⟩
/-- without the next one's steps -/
theorem WayM.proj (hp : ∀ (k : Nat) (b : Bolt) (g : Gap), l[k]? = some b → g ∈ b.gaps → 1 ≤ g.price) {x : Int} (wl : w.length = m) (h : WayM l ask (m + 1) (w ++ [x]) a v c p) : ∃ u y q, v = u ++ [y] ∧ u.length = m ∧ q ≤ p ∧ WayM l ask m w a u c q := by
  induction h with
  | refl => exact ⟨w, x, 0, rfl, wl, Int.le_refl _, .refl⟩
  | @step v c p k b g h' hk hb hu hg hw ih =>
    obtain ⟨u, y, q, rfl, ul, qp, ih⟩ := ih
    have g1 := hp _ _ _ hb hg
    by_cases e : k < m
    · rw [get_app (by omega)] at hu
      rw [take_app (by omega)] at hw
      exact ⟨u.set k g.to_, y, q + g.price, set_app (by omega), by rw [List.length_set]; exact ul, by omega, .step ih e hb hu hg hw⟩
    · have : k = u.length := by omega
      subst this
      exact ⟨u, g.to_, q, set_last, ul, by omega, ih⟩
  | @meet v c p x' h' hx hm ih =>
    obtain ⟨u, y, q, rfl, ul, qp, ih⟩ := ih
    exact ⟨u, y, q, rfl, ul, qp, .meet ih hx ((meets_app ul).mp hm).1⟩
end
/-! ### hops: steps of the next bolt -/
structure HopD where
  v : Word
  c : Nat
  frm : Int
  to_ : Int
  price : Int
def IsHop (l : Lock) (m : Nat) (h : HopD) : Prop := h.v.length = m ∧ ∃ b g, l[m]? = some b ∧ g ∈ b.gaps ∧ h.v ∈ g.ways ∧ h.frm = g.frm ∧ h.to_ = g.to_ ∧ h.price = g.price
inductive KnownP (l : Lock) (ask : List WishL) (m : Nat) (A : Word → Prop) (a : Nat) (X : Int → Prop) : HopD → Int → Prop
  | first {w : Word} {h : HopD} {q : Int} : A w → X h.frm → IsHop l m h → WayM l ask m w a h.v h.c q → stays ask m h.frm a h.c → KnownP l ask m A a X h (q + h.price)
  | next {h h' : HopD} {q r : Int} : KnownP l ask m A a X h q → IsHop l m h' → WayM l ask m h.v h.c h'.v h'.c r → h'.frm = h.to_ → stays ask m h.to_ h.c h'.c → KnownP l ask m A a X h' (q + r + h'.price)
section
variable {l : Lock} {ask : List WishL} {m : Nat} {A : Word → Prop} {a : Nat} {X : Int → Prop}
theorem KnownP.hop {h : HopD} {q : Int} (k : KnownP l ask m A a X h q) : IsHop l m h := by
  cases k with
  | first _ _ h _ _ => exact h
  | next _ h _ _ _ => exact h
theorem hop_way {h : HopD} (hh : IsHop l m h) {w : Word} {a : Nat} {q : Int} (k : WayM l ask (m + 1) w a (h.v ++ [h.frm]) h.c q) : WayM l ask (m + 1) w a (h.v ++ [h.to_]) h.c (q + h.price) := by
  obtain ⟨vl, b, g, hb, hg, hv, e1, e2, e3⟩ := hh
  have s := WayM.step k (k := m) (b := b) (g := g) (by omega) hb (by rw [← vl, get_last, e1]) hg (by rw [take_app (by omega), List.take_of_length_le (by omega)]; exact hv)
  rw [← vl, set_last, ← e2, ← e3] at s
  rw [vl] at s
  exact s
theorem KnownP.sound (hA : ∀ w, A w → w.length = m) {h : HopD} {q : Int} (k : KnownP l ask m A a X h q) : ∃ w x, A w ∧ X x ∧ WayM l ask (m + 1) (w ++ [x]) a (h.v ++ [h.to_]) h.c q := by
  induction k with
  | @first w h q hw hx hh hway hst => exact ⟨w, h.frm, hw, hx, hop_way hh (hway.lift (hA w hw) hst)⟩
  | @next h h' q r k hh hway e hst ih =>
    obtain ⟨w, x, hw, hx, way⟩ := ih
    have lf := hway.lift (k.hop).1 hst
    rw [← e] at lf
    refine ⟨w, x, hw, hx, hop_way hh (way.trans ?_)⟩
    rw [← e]
    exact lf
theorem known_complete {w : Word} {x : Int} {v : Word} {c : Nat} {p : Int} (hA : A w) (hX : X x) (wl : w.length = m) (k : WayM l ask (m + 1) (w ++ [x]) a v c p) :
    (∃ u, v = u ++ [x] ∧ u.length = m ∧ WayM l ask m w a u c p ∧ stays ask m x a c) ∨ ∃ h q u r, KnownP l ask m A a X h q ∧ WayM l ask m h.v h.c u c r ∧ u.length = m ∧ v = u ++ [h.to_] ∧ stays ask m h.to_ h.c c ∧ p = q + r := by
  induction k with
  | refl => exact .inl ⟨w, rfl, wl, .refl, stays_refl _ _ _ _⟩
  | @step v c p k b g k' hk hb hu hg hw ih =>
    by_cases e : k < m
    · rcases ih with ⟨u, rfl, ul, way, st⟩ | ⟨h, q, u, r, kn, way, ul, rfl, st, rfl⟩
      · rw [get_app (by omega)] at hu
        rw [take_app (by omega)] at hw
        exact .inl ⟨u.set k g.to_, set_app (by omega), by rw [List.length_set]; exact ul, .step way e hb hu hg hw, st⟩
      · rw [get_app (by omega)] at hu
        rw [take_app (by omega)] at hw
        exact .inr ⟨h, q, u.set k g.to_, r + g.price, kn, .step way e hb hu hg hw, by rw [List.length_set]; exact ul, set_app (by omega), st, by omega⟩
    · have km : k = m := by omega
      rcases ih with ⟨u, rfl, ul, way, st⟩ | ⟨h, q, u, r, kn, way, ul, rfl, st, rfl⟩
      · rw [km, ← ul, get_last] at hu
        rw [km, take_app (by omega), List.take_of_length_le (by omega)] at hw
        rw [km] at hb
        have ef := Option.some.inj hu
        have hh : IsHop l m ⟨u, c, g.frm, g.to_, g.price⟩ := ⟨ul, b, g, hb, hg, hw, rfl, rfl, rfl⟩
        have kn := KnownP.first (X := X) (a := a) (ask := ask) hA (show X g.frm from ef ▸ hX) hh way (show stays ask m g.frm a c from ef ▸ st)
        exact .inr ⟨_, _, u, 0, kn, .refl, ul, by rw [km, ← ul]; exact set_last, stays_refl _ _ _ _, by show p + g.price = p + g.price + 0; omega⟩
      · rw [km, ← ul, get_last] at hu
        rw [km, take_app (by omega), List.take_of_length_le (by omega)] at hw
        rw [km] at hb
        have ef := Option.some.inj hu
        have hh : IsHop l m ⟨u, c, g.frm, g.to_, g.price⟩ := ⟨ul, b, g, hb, hg, hw, rfl, rfl, rfl⟩
        have kn' := KnownP.next kn hh way ef.symm st
        exact .inr ⟨_, _, u, 0, kn', .refl, ul, by rw [km, ← ul]; exact set_last, stays_refl _ _ _ _, by show q + r + g.price = q + r + g.price + 0; omega⟩
  | @meet v c p x' k' hx hm ih =>
    have m0 := k'.mono
    rcases ih with ⟨u, rfl, ul, way, st⟩ | ⟨h, q, u, r, kn, way, ul, rfl, st, rfl⟩
    · obtain ⟨h1, h2⟩ := (meets_app ul).mp hm
      refine .inl ⟨u, rfl, ul, .meet way hx h1, fun i y z i1 i2 i3 i4 => ?_⟩
      by_cases e : i < c
      · exact st i y z i1 e i3 i4
      · have : i = c := by omega
        subst this
        rw [hx] at i3
        cases i3
        exact h2 z i4
    · obtain ⟨h1, h2⟩ := (meets_app ul).mp hm
      refine .inr ⟨h, q, u, r, kn, .meet way hx h1, ul, rfl, fun i y z i1 i2 i3 i4 => ?_, rfl⟩
      by_cases e : i < c
      · exact st i y z i1 e i3 i4
      · have : i = c := by omega
        subst this
        rw [hx] at i3
        cases i3
        exact h2 z i4
end
/-! ### the least of some prices -/
def Lst (S : Int → Prop) : Option Int → Prop
  | none => ∀ p, ¬ S p
  | some p => S p ∧ ∀ q, S q → p ≤ q
theorem Lst.congr {S T : Int → Prop} (e : ∀ p, S p ↔ T p) {o : Option Int} (h : Lst S o) : Lst T o := by
  cases o with
  | none => exact fun p z => h p ((e p).mpr z)
  | some p => exact ⟨(e p).mp h.1, fun q z => h.2 q ((e q).mpr z)⟩
/-- each price of T has one of S that is no greater, and each of S is one of T -/
theorem Lst.down {S T : Int → Prop} (st : ∀ p, S p → T p) (ts : ∀ p, T p → ∃ q, S q ∧ q ≤ p) {o : Option Int} (h : Lst S o) : Lst T o := by
  cases o with
  | none => exact fun p z => by obtain ⟨q, hq, _⟩ := ts p z; exact h q hq
  | some p => exact ⟨st _ h.1, fun q z => by obtain ⟨r, hr, le⟩ := ts q z; have := h.2 r hr; omega⟩
theorem Lst.unique {S : Int → Prop} {o o' : Option Int} (h : Lst S o) (h' : Lst S o') : o = o' := by
  cases o with
  | none =>
    cases o' with
    | none => rfl
    | some q => exact absurd h'.1 (h q)
  | some p =>
    cases o' with
    | none => exact absurd h.1 (h' p)
    | some q => have := h.2 q h'.1; have := h'.2 p h.1; rw [show p = q by omega]
def S0 (l : Lock) (ask : List WishL) (m : Nat) (A : Word → Prop) (a : Nat) (B : Word → Prop) (c : Nat) (p : Int) : Prop := ∃ w u, A w ∧ B u ∧ WayM l ask m w a u c p
/-- words with one place more -/
def ext1 (A : Word → Prop) (X : Int → Prop) (w : Word) : Prop := ∃ v x, w = v ++ [x] ∧ A v ∧ X x
section
variable {l : Lock} {ask : List WishL} {m : Nat} {A B : Word → Prop} {a c : Nat} {X Y : Int → Prop}
theorem entry_one (hp : ∀ (k : Nat) (b : Bolt) (g : Gap), l[k]? = some b → g ∈ b.gaps → 1 ≤ g.price) (hA : ∀ w, A w → w.length = m) (hB : ∀ w, B w → w.length = m) {z : Int} (hX : X z) (hY : Y z) (st : stays ask m z a c) {o : Option Int} (h : Lst (S0 l ask m A a B c) o) : Lst (S0 l ask (m + 1) (ext1 A X) a (ext1 B Y) c) o := by
  refine Lst.down (fun p ⟨w, u, hw, hu, way⟩ => ?_) (fun p ⟨w', u', ⟨w, x, e1, hw, _⟩, ⟨u, y, e2, hu, _⟩, way⟩ => ?_) h
  · exact ⟨_, _, ⟨w, z, rfl, hw, hX⟩, ⟨u, z, rfl, hu, hY⟩, way.lift (hA w hw) st⟩
  · subst e1 e2
    obtain ⟨u2, y2, q, e, _, le, way2⟩ := way.proj hp (hA w hw)
    obtain ⟨rfl, rfl⟩ := app_inj e
    exact ⟨q, ⟨w, u, hw, hu, way2⟩, le⟩
theorem entry_hops (hA : ∀ w, A w → w.length = m) (no : ∀ z, X z → Y z → ¬ stays ask m z a c) (p : Int) : S0 l ask (m + 1) (ext1 A X) a (ext1 B Y) c p ↔ ∃ h q u r, KnownP l ask m A a X h q ∧ Y h.to_ ∧ stays ask m h.to_ h.c c ∧ B u ∧ WayM l ask m h.v h.c u c r ∧ p = q + r := by
  constructor
  · rintro ⟨w', u', ⟨w, x, rfl, hw, hx⟩, ⟨u, y, rfl, hu, hy⟩, way⟩
    rcases known_complete hw hx (hA w hw) way with ⟨u2, e, _, _, st⟩ | ⟨h, q, u2, r, kn, way2, _, e, st, rfl⟩
    · obtain ⟨rfl, rfl⟩ := app_inj e
      exact absurd st (no _ hx hy)
    · obtain ⟨rfl, rfl⟩ := app_inj e
      exact ⟨h, q, u, r, kn, hy, st, hu, way2, rfl⟩
  · rintro ⟨h, q, u, r, kn, hy, st, hu, way, rfl⟩
    obtain ⟨w, x, hw, hx, way1⟩ := kn.sound hA
    exact ⟨_, _, ⟨w, x, rfl, hw, hx⟩, ⟨u, h.to_, rfl, hu, hy⟩, way1.trans (way.lift kn.hop.1 st)⟩
end
end Wb

/-! least prices of numbered nodes: begun at once from some, what is best, what waits, what is gone through; no program here -/
set_option Elab.async false
set_option linter.all false
namespace Dk
inductive PathN (src : List (Nat × Int)) (out : Nat → List (Nat × Int)) : Nat → Int → Prop
  | src {y : Nat} {c : Int} : (y, c) ∈ src → PathN src out y c
  | step {x y : Nat} {v c : Int} : PathN src out x v → (y, c) ∈ out x → PathN src out y (v + c)
def bst (B : List (Option Int)) (x : Nat) : Option Int := (B[x]?).join
theorem bst_set (B : List (Option Int)) (x y : Nat) (o : Option Int) (h : x < B.length) : bst (B.set x o) y = if x = y then o else bst B y := by
  unfold bst
  rw [List.getElem?_set]
  by_cases e : x = y
  · rw [if_pos e, if_pos e, if_pos h]; rfl
  · rw [if_neg e, if_neg e]
/-- base is the price behind which the steps dn are done; cur is gone through now; low: nothing that waits is less -/
structure Mid (src : List (Nat × Int)) (out : Nat → List (Nat × Int)) (B : List (Option Int)) (Q : List (Int × Nat)) (E : List Nat) (low : Int) (cur : Option Nat) (dn : List (Nat × Int)) : Prop where
  rch : ∀ x v, bst B x = some v → PathN src out x v
  que : ∀ p x, (p, x) ∈ Q → ∃ v, bst B x = some v ∧ v ≤ p
  qnd : Q.Nodup
  nde : E.Nodup
  exp : ∀ e ∈ E, ∃ v, bst B e = some v ∧ (∀ y c, (y, c) ∈ out e → ∃ w, bst B y = some w ∧ w ≤ v + c) ∧ v ≤ low ∧ (v, e) ∉ Q
  opn : ∀ x v, bst B x = some v → x ∉ E → (∀ h, cur = some h → x ≠ h) → (v, x) ∈ Q
  me : ∀ h, cur = some h → bst B h = some low ∧ h ∉ E ∧ (low, h) ∉ Q
  lows : ∀ p x, (p, x) ∈ Q → low ≤ p
  dn_ : ∀ y c, (y, c) ∈ dn → ∃ w, bst B y = some w ∧ w ≤ low + c
variable {src : List (Nat × Int)} {out : Nat → List (Nat × Int)} {B : List (Option Int)} {Q Q' : List (Int × Nat)} {E : List Nat} {low : Int} {cur : Option Nat} {dn : List (Nat × Int)}
theorem Mid.start (n : Nat) : Mid src out (List.replicate n none) [] [] 0 none [] := by
  have z : ∀ x v, bst (List.replicate n none) x = some v → False := fun x v h => by
    unfold bst at h
    rw [List.getElem?_replicate] at h
    split at h <;> cases h
  exact ⟨fun x v h => (z x v h).elim, fun p x h => (nomatch h), List.nodup_nil, List.nodup_nil, fun e he => (nomatch he), fun x v h => (z x v h).elim, fun h e => (nomatch e), fun p x h => (nomatch h), fun y c h => (nomatch h)⟩
/-- a step that leads to nothing better -/
theorem Mid.skip (h : Mid src out B Q E low cur dn) {y : Nat} {c w : Int} (hw : bst B y = some w) (le : w ≤ low + c) : Mid src out B Q E low cur (dn ++ [(y, c)]) :=
  ⟨h.rch, h.que, h.qnd, h.nde, h.exp, h.opn, h.me, h.lows, fun x d hx => by
    rcases List.mem_append.mp hx with m | m
    · exact h.dn_ x d m
    · obtain ⟨rfl, rfl⟩ := Prod.mk.inj (List.mem_singleton.mp m)
      exact ⟨w, hw, le⟩⟩
/-- a step that leads to something better -/
theorem Mid.better (h : Mid src out B Q E low cur dn) {y : Nat} {c : Int} (c1 : 1 ≤ c) (hy : y < B.length) (rc : PathN src out y (low + c)) (bet : ∀ w, bst B y = some w → low + c < w) (pm : Q'.Perm ((low + c, y) :: Q)) : Mid src out (B.set y (some (low + c))) Q' E low cur (dn ++ [(y, c)]) := by
  have same : bst (B.set y (some (low + c))) y = some (low + c) := by rw [bst_set _ _ _ _ hy, if_pos rfl]
  have other : ∀ x, x ≠ y → bst (B.set y (some (low + c))) x = bst B x := fun x n => by rw [bst_set _ _ _ _ hy, if_neg (Ne.symm n)]
  have nE : y ∉ E := fun z => by
    obtain ⟨v, h1, _, h3, _⟩ := h.exp y z
    have := bet _ h1
    omega
  have nC : ∀ k, cur = some k → y ≠ k := fun k e z => by
    obtain ⟨h1, _⟩ := h.me k e
    have := bet _ (z ▸ h1)
    omega
  have old : ∀ x w, bst B x = some w → ∃ w', bst (B.set y (some (low + c))) x = some w' ∧ w' ≤ w := fun x w hx => by
    by_cases e : x = y
    · subst e
      exact ⟨_, same, Int.le_of_lt (bet _ hx)⟩
    · exact ⟨w, by rw [other x e]; exact hx, Int.le_refl _⟩
  have inQ : ∀ q, q ∈ Q' ↔ q = (low + c, y) ∨ q ∈ Q := fun q => by rw [pm.mem_iff, List.mem_cons]
  refine ⟨fun x v hx => ?_, fun p x hp => ?_, ?_, h.nde, fun e he => ?_, fun x v hx hn hc => ?_, fun k hk => ?_, fun p x hp => ?_, fun x d hx => ?_⟩
  · by_cases e : x = y
    · subst e
      rw [same] at hx
      cases hx
      exact rc
    · rw [other x e] at hx
      exact h.rch x v hx
  · rcases (inQ _).mp hp with e | m
    · obtain ⟨rfl, rfl⟩ := Prod.mk.inj e
      exact ⟨_, same, Int.le_refl _⟩
    · obtain ⟨v, hv, le⟩ := h.que p x m
      obtain ⟨w, hw, le2⟩ := old _ _ hv
      exact ⟨w, hw, by omega⟩
  · refine pm.nodup_iff.mpr (List.nodup_cons.mpr ⟨fun z => ?_, h.qnd⟩)
    obtain ⟨v, hv, le⟩ := h.que _ _ z
    have := bet _ hv
    omega
  · obtain ⟨v, h1, h2, h3, h4⟩ := h.exp e he
    have ex : e ≠ y := fun z => nE (z ▸ he)
    refine ⟨v, by rw [other e ex]; exact h1, fun x d hx => ?_, h3, fun z => ?_⟩
    · obtain ⟨w, hw, le⟩ := h2 x d hx
      obtain ⟨w', hw', le'⟩ := old _ _ hw
      exact ⟨w', hw', by omega⟩
    · rcases (inQ _).mp z with e2 | m
      · exact ex (Prod.mk.inj e2).2
      · exact h4 m
  · by_cases e : x = y
    · subst e
      rw [same] at hx
      cases hx
      exact (inQ _).mpr (.inl rfl)
    · rw [other x e] at hx
      exact (inQ _).mpr (.inr (h.opn x v hx hn hc))
  · obtain ⟨h1, h2, h3⟩ := h.me k hk
    refine ⟨by rw [other k (Ne.symm (nC k hk))]; exact h1, h2, fun z => ?_⟩
    rcases (inQ _).mp z with e2 | m
    · exact nC k hk (Prod.mk.inj e2).2.symm
    · exact h3 m
  · rcases (inQ _).mp hp with e | m
    · have := (Prod.mk.inj e).1
      omega
    · exact h.lows _ _ m
  · rcases List.mem_append.mp hx with m | m
    · obtain ⟨w, hw, le⟩ := h.dn_ x d m
      obtain ⟨w', hw', le'⟩ := old _ _ hw
      exact ⟨w', hw', by omega⟩
    · obtain ⟨rfl, rfl⟩ := Prod.mk.inj (List.mem_singleton.mp m)
      exact ⟨_, same, Int.le_refl _⟩
/-- between two goings -/
structure St (src : List (Nat × Int)) (out : Nat → List (Nat × Int)) (B : List (Option Int)) (Q : List (Int × Nat)) (E : List Nat) (low : Int) : Prop where
  mid : Mid src out B Q E low none []
  srcs : ∀ y c, (y, c) ∈ src → ∃ w, bst B y = some w ∧ w ≤ c
theorem Mid.begun (h : Mid src out B Q [] 0 none src) : St src out B Q [] 0 :=
  ⟨⟨h.rch, h.que, h.qnd, h.nde, h.exp, h.opn, h.me, h.lows, fun y c z => nomatch z⟩, fun y c hy => by
    obtain ⟨w, h1, h2⟩ := h.dn_ y c hy
    exact ⟨w, h1, by omega⟩⟩
/-- one that is out of date -/
theorem St.old (h : St src out B Q E low) {paid : Int} {here : Nat} (pm : Q.Perm ((paid, here) :: Q')) (ne : bst B here ≠ some paid) (least : ∀ p x, (p, x) ∈ Q' → paid ≤ p) : St src out B Q' E low := by
  have sub : ∀ q, q ∈ Q' → q ∈ Q := fun q hq => pm.mem_iff.mpr (List.mem_cons_of_mem _ hq)
  have nd2 := (pm.nodup_iff.mp h.mid.qnd)
  have M := h.mid
  refine ⟨⟨M.rch, fun p x hp => M.que p x (sub _ hp), (List.nodup_cons.mp nd2).2, M.nde, fun e he => ?_, fun x w hx hn hc => ?_, fun k e => (nomatch e), fun p x hp => M.lows p x (sub _ hp), M.dn_⟩, h.srcs⟩
  · obtain ⟨w, h1, h2, h3, h4⟩ := M.exp e he
    exact ⟨w, h1, h2, h3, fun z => h4 (sub _ z)⟩
  · rcases List.mem_cons.mp (pm.mem_iff.mp (M.opn x w hx hn hc)) with e | m
    · obtain ⟨rfl, rfl⟩ := Prod.mk.inj e
      exact absurd hx ne
    · exact m
/-- one to be gone through -/
theorem St.go (h : St src out B Q E low) {paid : Int} {here : Nat} (pm : Q.Perm ((paid, here) :: Q')) (hv : bst B here = some paid) (least : ∀ p x, (p, x) ∈ Q' → paid ≤ p) : Mid src out B Q' E paid (some here) [] ∧ low ≤ paid := by
  have sub : ∀ q, q ∈ Q' → q ∈ Q := fun q hq => pm.mem_iff.mpr (List.mem_cons_of_mem _ hq)
  have nd2 := List.nodup_cons.mp (pm.nodup_iff.mp h.mid.qnd)
  have inQ : (paid, here) ∈ Q := pm.mem_iff.mpr List.mem_cons_self
  have M := h.mid
  have lo := M.lows _ _ inQ
  have ne : here ∉ E := fun he => by
    obtain ⟨w, h1, _, _, h4⟩ := M.exp here he
    rw [hv] at h1
    cases h1
    exact h4 inQ
  refine ⟨⟨M.rch, fun p x hp => M.que p x (sub _ hp), nd2.2, M.nde, fun e he => ?_, fun x w hx hn hc => ?_, fun k e => ?_, least, fun y c z => nomatch z⟩, lo⟩
  · obtain ⟨w, h1, h2, h3, h4⟩ := M.exp e he
    exact ⟨w, h1, h2, by omega, fun z => h4 (sub _ z)⟩
  · rcases List.mem_cons.mp (pm.mem_iff.mp (M.opn x w hx hn (fun k e => nomatch e))) with e | m
    · obtain ⟨rfl, rfl⟩ := Prod.mk.inj e
      exact absurd rfl (hc _ rfl)
    · exact m
  · cases e
    exact ⟨hv, ne, nd2.1⟩
theorem Mid.done (srcs : ∀ y c, (y, c) ∈ src → ∃ w, bst B y = some w ∧ w ≤ c) {here : Nat} (h : Mid src out B Q E low (some here) (out here)) : St src out B Q (E ++ [here]) low := by
  obtain ⟨m1, m2, m3⟩ := h.me here rfl
  refine ⟨⟨h.rch, h.que, h.qnd, ?_, fun e he => ?_, fun x v hx hn hc => ?_, fun k e => (nomatch e), h.lows, fun y c z => nomatch z⟩, srcs⟩
  · rw [List.nodup_append]
    exact ⟨h.nde, by simp, fun y hy z hz e => by rw [List.mem_singleton.mp hz] at e; exact m2 (e ▸ hy)⟩
  · rcases List.mem_append.mp he with m | m
    · exact h.exp e m
    · rw [List.mem_singleton.mp m]
      exact ⟨low, m1, fun y c hy => h.dn_ y c hy, Int.le_refl _, m3⟩
  · exact h.opn x v hx (fun z => hn (List.mem_append_left _ z)) fun k e z => by
      cases e
      exact hn (List.mem_append_right _ (by rw [z]; exact List.mem_cons_self))
/-- the sources stay no greater -/
theorem srcs_set (srcs : ∀ y c, (y, c) ∈ src → ∃ w, bst B y = some w ∧ w ≤ c) {y : Nat} {t : Int} (hy : y < B.length) (bet : ∀ w, bst B y = some w → t < w) : ∀ x c, (x, c) ∈ src → ∃ w, bst (B.set y (some t)) x = some w ∧ w ≤ c := fun x c hx => by
  obtain ⟨w, h1, h2⟩ := srcs x c hx
  by_cases e : y = x
  · subst e
    exact ⟨t, by rw [bst_set _ _ _ _ hy, if_pos rfl], by have := bet _ h1; omega⟩
  · exact ⟨w, by rw [bst_set _ _ _ _ hy, if_neg e]; exact h1, h2⟩
/-- nothing waits: the best are the least -/
theorem St.all (h : St src out B [] E low) (x : Nat) : match bst B x with
    | none => ∀ p, ¬ PathN src out x p
    | some v => PathN src out x v ∧ ∀ p, PathN src out x p → v ≤ p := by
  have lb : ∀ {y p}, PathN src out y p → ∃ w, bst B y = some w ∧ w ≤ p := fun {y p} k => by
    induction k with
    | src hm => exact h.srcs _ _ hm
    | @step x y v c _ ho ih =>
      obtain ⟨w, hw, le⟩ := ih
      by_cases e : x ∈ E
      · obtain ⟨v', h1, h2, _⟩ := h.mid.exp x e
        rw [hw] at h1
        cases h1
        obtain ⟨w', h5, h6⟩ := h2 y c ho
        exact ⟨w', h5, by omega⟩
      · exact nomatch h.mid.opn x w hw e (fun k z => nomatch z)
  cases e : bst B x with
  | none =>
    intro p k
    obtain ⟨w, hw, _⟩ := lb k
    rw [e] at hw
    cases hw
  | some v =>
    refine ⟨h.mid.rch x v e, fun p k => ?_⟩
    obtain ⟨w, hw, le⟩ := lb k
    rw [e] at hw
    cases hw
    exact le
end Dk

/-! heaps as lists: sifting up and down under a strict weak order; no program here -/
set_option Elab.async false
set_option linter.all false
namespace Hq
section
variable {α : Type}
def swp (L : List α) (i j : Nat) : List α :=
  match L[i]?, L[j]? with
  | some x, some y => (L.set i y).set j x
  | _, _ => L
theorem swp_len (L : List α) (i j : Nat) : (swp L i j).length = L.length := by
  unfold swp
  split <;> simp
theorem swp_eq {L : List α} {i j : Nat} {x y : α} (hx : L[i]? = some x) (hy : L[j]? = some y) : swp L i j = (L.set i y).set j x := by
  unfold swp
  rw [hx, hy]
theorem swp_get {L : List α} {i j : Nat} {x y : α} (hx : L[i]? = some x) (hy : L[j]? = some y) (k : Nat) : (swp L i j)[k]? = if k = j then some x else if k = i then some y else L[k]? := by
  have li : i < L.length := (List.getElem?_eq_some_iff.mp hx).1
  have lj : j < L.length := (List.getElem?_eq_some_iff.mp hy).1
  rw [swp_eq hx hy, List.getElem?_set, List.length_set, List.getElem?_set]
  by_cases e : j = k
  · subst e; simp [lj]
  · have e' : ¬ k = j := fun h => e h.symm
    rw [if_neg e, if_neg e']
    by_cases e2 : i = k
    · subst e2; simp [li]
    · have e2' : ¬ k = i := fun h => e2 h.symm
      rw [if_neg e2, if_neg e2']
theorem swp_perm (L : List α) (i j : Nat) : (swp L i j).Perm L := by
  unfold swp
  split
  · rename_i x y hx hy
    obtain ⟨li, ex⟩ := List.getElem?_eq_some_iff.mp hx
    obtain ⟨lj, ey⟩ := List.getElem?_eq_some_iff.mp hy
    have h := Array.swap_perm (xs := L.toArray) (i := i) (j := j) (by simpa using li) (by simpa using lj)
    have h2 := Array.perm_iff_toList_perm.mp h
    rw [Array.swap_def] at h2
    simpa [ex, ey] using h2
  · exact List.Perm.refl _
variable (lt : α → α → Bool)
def up (L : List α) (pos : Nat) : List α :=
  if h : 0 < pos then
    match L[pos]?, L[(pos - 1) / 2]? with
    | some x, some p => if lt x p = true then up (swp L ((pos - 1) / 2) pos) ((pos - 1) / 2) else L
    | _, _ => L
  else L
termination_by pos
decreasing_by omega
/-- the child that goes up -/
def kid (L : List α) (pos : Nat) : Nat :=
  match L[2 * pos + 1]?, L[2 * pos + 1 + 1]? with
  | some l, some r => if lt l r = true then 2 * pos + 1 else 2 * pos + 1 + 1
  | _, _ => 2 * pos + 1
theorem kid_or (L : List α) (pos : Nat) : kid lt L pos = 2 * pos + 1 ∨ kid lt L pos = 2 * pos + 2 := by
  unfold kid
  split
  · split
    · exact .inl rfl
    · exact .inr rfl
  · exact .inl rfl
def down (L : List α) (pos : Nat) : List α :=
  if h : pos < L.length / 2 then down (swp L (kid lt L pos) pos) (kid lt L pos) else up lt L pos
termination_by L.length - pos
decreasing_by
  rw [swp_len]
  have := kid_or lt L pos
  omega
def hpush (L : List α) (x : α) : List α := up lt (L ++ [x]) L.length
/-- what is left when the first is taken out, z the last -/
def hrest (L : List α) (z : α) : List α := if L.length = 1 then [] else down lt (L.dropLast.set 0 z) 0
variable {lt}
theorem up_zero (L : List α) : up lt L 0 = L := by unfold up; rw [dif_neg (by decide)]
theorem up_yes {L : List α} {pos : Nat} {x p : α} (h : 0 < pos) (hx : L[pos]? = some x) (hp : L[(pos - 1) / 2]? = some p) (c : lt x p = true) : up lt L pos = up lt (swp L ((pos - 1) / 2) pos) ((pos - 1) / 2) := by
  rw [up, dif_pos h, hx, hp]
  simp only [c, if_true]
theorem up_no {L : List α} {pos : Nat} {x p : α} (h : 0 < pos) (hx : L[pos]? = some x) (hp : L[(pos - 1) / 2]? = some p) (c : lt x p = false) : up lt L pos = L := by
  rw [up, dif_pos h, hx, hp]
  simp only [c, Bool.false_eq_true, if_false]
theorem down_yes {L : List α} {pos : Nat} (h : pos < L.length / 2) : down lt L pos = down lt (swp L (kid lt L pos) pos) (kid lt L pos) := by
  rw [down, dif_pos h]
theorem down_no {L : List α} {pos : Nat} (h : ¬ pos < L.length / 2) : down lt L pos = up lt L pos := by
  rw [down, dif_neg h]
theorem up_perm : ∀ (n pos : Nat) (L : List α), pos ≤ n → (up lt L pos).Perm L := by
  intro n
  induction n with
  | zero =>
    intro pos L h
    have : pos = 0 := by omega
    subst this
    rw [up_zero]
  | succ n ih =>
    intro pos L h
    rw [up]
    split
    · split
      · split
        · exact (ih _ _ (by omega)).trans (swp_perm _ _ _)
        · exact List.Perm.refl _
      · exact List.Perm.refl _
    · exact List.Perm.refl _
theorem down_perm : ∀ (n pos : Nat) (L : List α), L.length - pos ≤ n → (down lt L pos).Perm L := by
  intro n
  induction n with
  | zero =>
    intro pos L h
    rw [down_no (by omega)]
    exact up_perm _ _ _ (Nat.le_refl _)
  | succ n ih =>
    intro pos L h
    by_cases c : pos < L.length / 2
    · rw [down_yes c]
      have := kid_or lt L pos
      exact (ih _ _ (by rw [swp_len]; omega)).trans (swp_perm _ _ _)
    · rw [down_no c]
      exact up_perm _ _ _ (Nat.le_refl _)
theorem hpush_perm (L : List α) (x : α) : (hpush lt L x).Perm (x :: L) := by
  unfold hpush
  exact (up_perm _ _ _ (Nat.le_refl _)).trans (List.perm_append_comm (l₁ := L) (l₂ := [x]))
theorem hrest_perm {L : List α} {x z : α} (h0 : L[0]? = some x) (hz : L[L.length - 1]? = some z) : (x :: hrest lt L z).Perm L := by
  match L, h0, hz with
  | [a], h0, hz =>
    simp only [List.getElem?_cons_zero, Option.some.injEq] at h0
    subst h0
    unfold hrest
    simp
  | a :: b :: r, h0, hz =>
    simp only [List.getElem?_cons_zero, Option.some.injEq] at h0
    subst h0
    unfold hrest
    rw [if_neg (by simp)]
    have e : (a :: b :: r) = a :: ((b :: r).dropLast ++ [z]) := by
      have h2 := List.dropLast_concat_getLast (l := b :: r) (by simp)
      have e3 : (b :: r).getLast (by simp) = z := by
        rw [List.getLast_eq_getElem]
        simpa using hz
      rw [e3] at h2
      rw [h2]
    have e4 : ((a :: b :: r).dropLast.set 0 z) = z :: (b :: r).dropLast := by
      simp [List.dropLast]
    rw [e4]
    refine ((down_perm _ _ _ (Nat.le_refl _)).cons a).trans ?_
    rw [e]
    refine List.Perm.cons a ?_
    exact (List.perm_append_comm (l₁ := [z]) (l₂ := (b :: r).dropLast))
end
/-! ### the order -/
section
variable {α : Type} (lt : α → α → Bool)
structure Ord : Prop where
  asym : ∀ x y, lt x y = true → lt y x = false
  tr : ∀ x y z, lt y x = false → lt z y = false → lt z x = false
/-- no item is below the one over it -/
def Heap (L : List α) : Prop := ∀ j x p, 0 < j → L[j]? = some x → L[(j - 1) / 2]? = some p → lt x p = false
/-- a heap but for what stands at pos over its parent -/
structure Upw (L : List α) (pos : Nat) : Prop where
  other : ∀ j x p, 0 < j → j ≠ pos → L[j]? = some x → L[(j - 1) / 2]? = some p → lt x p = false
  over : ∀ j x p, 0 < j → 0 < pos → (j - 1) / 2 = pos → L[j]? = some x → L[(pos - 1) / 2]? = some p → lt x p = false
/-- a heap but for what stands at pos, to both sides -/
structure Dnw (L : List α) (pos : Nat) : Prop where
  other : ∀ j x p, 0 < j → j ≠ pos → (j - 1) / 2 ≠ pos → L[j]? = some x → L[(j - 1) / 2]? = some p → lt x p = false
  over : ∀ j x p, 0 < j → 0 < pos → (j - 1) / 2 = pos → L[j]? = some x → L[(pos - 1) / 2]? = some p → lt x p = false
variable {lt}
theorem up_heap (O : Ord lt) : ∀ (n pos : Nat) (L : List α), pos ≤ n → pos < L.length → Upw lt L pos → Heap lt (up lt L pos) := by
  intro n
  induction n with
  | zero =>
    intro pos L h hl u
    have : pos = 0 := by omega
    subst this
    rw [up_zero]
    exact fun j x p h0 hx hp => u.other j x p h0 (by omega) hx hp
  | succ n ih =>
    intro pos L h hl u
    by_cases h0 : 0 < pos
    · obtain ⟨x, hx⟩ : ∃ x, L[pos]? = some x := ⟨_, List.getElem?_eq_getElem hl⟩
      obtain ⟨p, hp⟩ : ∃ p, L[(pos - 1) / 2]? = some p := ⟨_, List.getElem?_eq_getElem (by omega)⟩
      cases c : lt x p with
      | false =>
        rw [up_no h0 hx hp c]
        intro j y q j0 hy hq
        by_cases e : j = pos
        · subst e
          rw [hx] at hy
          rw [hp] at hq
          cases hy
          cases hq
          exact c
        · exact u.other j y q j0 e hy hq
      | true =>
        rw [up_yes h0 hx hp c]
        refine ih _ _ (by omega) (by rw [swp_len]; omega) ⟨fun j y q j0 jn hy hq => ?_, fun j y q j0 p0 je hy hq => ?_⟩
        · rw [swp_get hp hx] at hy hq
          by_cases e1 : j = pos
          · subst e1
            rw [if_pos rfl] at hy
            rw [if_neg (by omega), if_pos rfl] at hq
            cases hy
            cases hq
            exact O.asym _ _ c
          · rw [if_neg e1, if_neg jn] at hy
            by_cases e2 : (j - 1) / 2 = pos
            · rw [if_pos e2] at hq
              cases hq
              exact u.over j y p j0 h0 e2 hy hp
            · rw [if_neg e2] at hq
              by_cases e3 : (j - 1) / 2 = (pos - 1) / 2
              · rw [if_pos e3] at hq
                cases hq
                have h1 := u.other j y p j0 e1 hy (by rw [e3]; exact hp)
                exact O.tr x p y (O.asym _ _ c) h1
              · rw [if_neg e3] at hq
                exact u.other j y q j0 e1 hy hq
        · rw [swp_get hp hx] at hy hq
          rw [if_neg (by omega), if_neg (by omega)] at hq
          have hpq := u.other ((pos - 1) / 2) p q p0 (by omega) hp hq
          by_cases e1 : j = pos
          · subst e1
            rw [if_pos rfl] at hy
            cases hy
            exact hpq
          · rw [if_neg e1, if_neg (by omega)] at hy
            have h1 := u.other j y p j0 e1 hy (by rw [je]; exact hp)
            exact O.tr q p y hpq h1
    · have : pos = 0 := by omega
      subst this
      rw [up_zero]
      exact fun j x p h0 hx hp => u.other j x p h0 (by omega) hx hp
theorem down_heap (O : Ord lt) : ∀ (n pos : Nat) (L : List α), L.length - pos ≤ n → pos < L.length → Dnw lt L pos → Heap lt (down lt L pos) := by
  intro n
  induction n with
  | zero =>
    intro pos L h hl u
    omega
  | succ n ih =>
    intro pos L h hl u
    by_cases c : pos < L.length / 2
    · rw [down_yes c]
      have k12 := kid_or lt L pos
      obtain ⟨x, hx⟩ : ∃ x, L[pos]? = some x := ⟨_, List.getElem?_eq_getElem hl⟩
      obtain ⟨l, hL⟩ : ∃ l, L[2 * pos + 1]? = some l := ⟨_, List.getElem?_eq_getElem (by omega)⟩
      -- the child is there, and not above its sibling
      have kk : ∃ y, L[kid lt L pos]? = some y ∧ ∀ j z, 0 < j → (j - 1) / 2 = pos → L[j]? = some z → lt z y = false := by
        cases hR : L[2 * pos + 1 + 1]? with
        | none =>
          have ek : kid lt L pos = 2 * pos + 1 := by unfold kid; rw [hL, hR]
          rw [ek]
          refine ⟨l, hL, fun j z j0 je hz => ?_⟩
          have : j = 2 * pos + 1 ∨ j = 2 * pos + 1 + 1 := by omega
          rcases this with rfl | rfl
          · rw [hL] at hz; cases hz
            cases q : lt l l with
            | false => rfl
            | true => have := O.asym _ _ q; rw [q] at this; exact this
          · rw [hR] at hz; cases hz
        | some r =>
          cases q : lt l r with
          | true =>
            have ek : kid lt L pos = 2 * pos + 1 := by unfold kid; rw [hL, hR]; simp only [q, if_true]
            rw [ek]
            refine ⟨l, hL, fun j z j0 je hz => ?_⟩
            have : j = 2 * pos + 1 ∨ j = 2 * pos + 1 + 1 := by omega
            rcases this with rfl | rfl
            · rw [hL] at hz; cases hz
              cases q : lt l l with
              | false => rfl
              | true => have := O.asym _ _ q; rw [q] at this; exact this
            · rw [hR] at hz; cases hz
              exact O.asym _ _ q
          | false =>
            have ek : kid lt L pos = 2 * pos + 1 + 1 := by unfold kid; rw [hL, hR]; simp only [q, Bool.false_eq_true, if_false]
            rw [ek]
            refine ⟨r, hR, fun j z j0 je hz => ?_⟩
            have : j = 2 * pos + 1 ∨ j = 2 * pos + 1 + 1 := by omega
            rcases this with rfl | rfl
            · rw [hL] at hz; cases hz
              exact q
            · rw [hR] at hz; cases hz
              cases q : lt r r with
              | false => rfl
              | true => have := O.asym _ _ q; rw [q] at this; exact this
      obtain ⟨y, hy, sm⟩ := kk
      have kl : kid lt L pos < L.length := (List.getElem?_eq_some_iff.mp hy).1
      have kp : (kid lt L pos - 1) / 2 = pos := by omega
      generalize kid lt L pos = k at hy kl kp k12
      refine ih _ _ (by rw [swp_len]; omega) (by rw [swp_len]; exact kl) ⟨fun j z q j0 jn jk hz hq => ?_, fun j z q j0 k0 je hz hq => ?_⟩
      · rw [swp_get hy hx] at hz hq
        by_cases e1 : j = pos
        · subst e1
          rw [if_pos rfl] at hz
          rw [if_neg (by omega), if_neg (by omega)] at hq
          cases hz
          exact u.over k y q (by omega) j0 kp hy hq
        · rw [if_neg e1, if_neg jn] at hz
          by_cases e2 : (j - 1) / 2 = pos
          · rw [if_pos e2] at hq
            cases hq
            exact sm j z j0 e2 hz
          · rw [if_neg e2, if_neg jk] at hq
            exact u.other j z q j0 e1 e2 hz hq
      · rw [swp_get hy hx] at hz hq
        rw [kp, if_pos rfl] at hq
        cases hq
        rw [if_neg (by omega), if_neg (by omega)] at hz
        exact u.other j z y j0 (by omega) (by omega) hz (by rw [je]; exact hy)
    · rw [down_no c]
      refine up_heap O _ _ _ (Nat.le_refl _) hl ⟨fun j x p j0 jn hx hp => ?_, fun j x p j0 p0 je hx hp => ?_⟩
      · have : j < L.length := (List.getElem?_eq_some_iff.mp hx).1
        exact u.other j x p j0 jn (by omega) hx hp
      · exact u.over j x p j0 p0 je hx hp
theorem heap_congr {lt lt' : α → α → Bool} {L : List α} (h : Heap lt L) (e : ∀ x ∈ L, ∀ y ∈ L, lt' x y = lt x y) : Heap lt' L := fun j x p j0 hx hp => by
  rw [e x (List.mem_of_getElem? hx) p (List.mem_of_getElem? hp)]
  exact h j x p j0 hx hp
theorem hpush_heap (O : Ord lt) {L : List α} {x : α} (h : Heap lt L) : Heap lt (hpush lt L x) := by
  unfold hpush
  refine up_heap O _ _ _ (Nat.le_refl _) (by simp) ⟨fun j y p j0 jn hy hp => ?_, fun j y p j0 p0 je hy hp => ?_⟩
  · have hj : j < (L ++ [x]).length := (List.getElem?_eq_some_iff.mp hy).1
    rw [List.length_append, List.length_singleton] at hj
    rw [List.getElem?_append_left (by omega)] at hy hp
    exact h j y p j0 hy hp
  · have hj : j < (L ++ [x]).length := (List.getElem?_eq_some_iff.mp hy).1
    rw [List.length_append, List.length_singleton] at hj
    omega
theorem hrest_heap (O : Ord lt) {L : List α} {z : α} (h : Heap lt L) : Heap lt (hrest lt L z) := by
  unfold hrest
  split
  · intro j x p _ hx _
    simp at hx
  · by_cases l2 : 2 ≤ L.length
    · refine down_heap O _ _ _ (Nat.le_refl _) (by rw [List.length_set, List.length_dropLast]; omega) ⟨fun j x p j0 jn jp hx hp => ?_, fun j x p j0 p0 _ _ _ => absurd p0 (by decide)⟩
      rw [List.getElem?_set_ne (by omega)] at hx hp
      have hj : j < L.dropLast.length := (List.getElem?_eq_some_iff.mp hx).1
      rw [List.length_dropLast] at hj
      rw [List.getElem?_dropLast, if_pos (by omega)] at hx hp
      exact h j x p j0 hx hp
    · have : L = [] := List.eq_nil_of_length_eq_zero (by omega)
      subst this
      rw [List.dropLast_nil, List.set_nil]
      have e : down lt ([] : List α) 0 = [] := by rw [down_no (by simp), up_zero]
      rw [e]
      intro j x p _ hx _
      simp at hx
/-- the first is not above any -/
theorem heap_least (O : Ord lt) {L : List α} {x : α} (h : Heap lt L) (hx : L[0]? = some x) : ∀ (n j : Nat) (y : α), j ≤ n → L[j]? = some y → lt y x = false := by
  intro n
  induction n with
  | zero =>
    intro j y hj hy
    have : j = 0 := by omega
    subst this
    rw [hx] at hy
    cases hy
    cases q : lt x x with
    | false => rfl
    | true => have := O.asym _ _ q; rw [q] at this; exact this
  | succ n ih =>
    intro j y hj hy
    by_cases j0 : 0 < j
    · have hl : j < L.length := (List.getElem?_eq_some_iff.mp hy).1
      obtain ⟨p, hp⟩ : ∃ p, L[(j - 1) / 2]? = some p := ⟨_, List.getElem?_eq_getElem (by omega)⟩
      exact O.tr x p y (ih _ p (by omega) hp) (h j y p j0 hy hp)
    · have : j = 0 := by omega
      subst this
      rw [hx] at hy
      cases hy
      cases q : lt x x with
      | false => rfl
      | true => have := O.asym _ _ q; rw [q] at this; exact this
end
end Hq

set_option Elab.async false
set_option linter.all false
set_option maxRecDepth 100000
set_option maxHeartbeats 4000000
namespace Hq
open PySem PySem.Spec PyProof.Rows L2
theorem entry_push : entryFor table "_heapq.heappush" = some Builtin.«_heapq.heappush» := entryFor_of_tree (by kernel_rfl)
theorem kind_push : builtinKind "_heapq.heappush" = none := by kernel_rfl
theorem plain_push : plainId "_heapq.heappush" = true := by decide +kernel
theorem args_push (a b : Value) : argsOk "_heapq.heappush" ⟨[a, b], []⟩ := by unfold argsOk; kernel_rfl
theorem entry_pop : entryFor table "_heapq.heappop" = some Builtin.«_heapq.heappop» := entryFor_of_tree (by kernel_rfl)
theorem kind_pop : builtinKind "_heapq.heappop" = none := by kernel_rfl
theorem plain_pop : plainId "_heapq.heappop" = true := by decide +kernel
theorem args_pop (a : Value) : argsOk "_heapq.heappop" ⟨[a], []⟩ := by unfold argsOk; kernel_rfl
theorem entry_sift : entryFor table "_heapq.heapify.sift" = some Builtin.«_heapq.heapify.sift» := entryFor_of_tree (by kernel_rfl)
theorem plain_sift : plainId "_heapq.heapify.sift" = true := by decide +kernel

/-! ### items: a price and a number -/
abbrev Pw := Int × Int
def ltK (x y : Pw) : Bool := if x.1 = y.1 then (if x.2 = y.2 then false else decide (x.2 < y.2)) else decide (x.1 < y.1)
theorem ltK_iff (x y : Pw) : ltK x y = true ↔ x.1 < y.1 ∨ (x.1 = y.1 ∧ x.2 < y.2) := by
  unfold ltK
  by_cases e : x.1 = y.1
  · rw [if_pos e]
    by_cases e2 : x.2 = y.2
    · rw [if_pos e2]
      constructor
      · intro z; cases z
      · omega
    · rw [if_neg e2, decide_eq_true_eq]; omega
  · rw [if_neg e, decide_eq_true_eq]; omega
theorem ltK_no (x y : Pw) : ltK x y = false ↔ ¬ (x.1 < y.1 ∨ (x.1 = y.1 ∧ x.2 < y.2)) := by
  rw [← ltK_iff, Bool.not_eq_true]
theorem ltK_ord : Ord ltK := ⟨fun x y h => by
  rw [ltK_iff] at h
  rw [ltK_no]; omega, fun x y z h1 h2 => by
  rw [ltK_no] at h1 h2 ⊢; omega⟩
theorem ltK_price {x y : Pw} (h : ltK y x = false) : x.1 ≤ y.1 := by
  rw [ltK_no] at h; omega
theorem ord_map {α β : Type} {lt : β → β → Bool} (O : Ord lt) (f : α → β) : Ord (fun x y => lt (f x) (f y)) := ⟨fun x y => O.asym _ _, fun x y z => O.tr _ _ _⟩
def ItK (K : PySem.W.Frag) (H : Hp) (i : Addr) (x : Pw) : Prop := SqT K H i [.int x.1, .int x.2]
theorem sqt_lst {K : PySem.W.Frag} {H : Hp} {p a : Addr} {xs : List V} {ys : List V} {o : HO} (h : SqT K H a xs) (hp : H p = some (.lst ys)) : SqT K (upd H p o) a xs := by
  rcases h with h | h
  · have ne : a ≠ p := fun z => by
      subst z
      rcases h with h | ⟨o, h⟩
      · rw [hp] at h; cases h
      · rw [hp] at h; cases h
    refine .inl ?_
    rcases h with h | ⟨o, h⟩
    · exact .inl (by rw [upd_ne ne]; exact h)
    · exact .inr ⟨o, by rw [upd_ne ne]; exact h⟩
  · exact .inr h
theorem ItK.lst {K : PySem.W.Frag} {H : Hp} {p i : Addr} {x : Pw} {ys : List V} {o : HO} (h : ItK K H i x) (hp : H p = some (.lst ys)) : ItK K (upd H p o) i x := sqt_lst h hp
theorem beq_dec (a b : Int) : (a == b) = decide (a = b) := by
  by_cases q : a = b
  · rw [decide_eq_true q]; exact beq_iff_eq.mpr q
  · rw [decide_eq_false q]; exact beq_eq_false_iff_ne.mpr q
section
variable {X : Cx} {pins : List (Addr × Obj)} {σ : L2.St} {H : Hp} {s : Shared}
/-- items: lower or not -/
theorem lt_items (I : Inv X pins σ H s) {A : Around} (hu : A.units + 3 < cLine) {i j : Addr} {x y : Pw} (hi : ItK X.K H i x) (hj : ItK X.K H j y) : Ob.RcOp .Lt A s (.ref i) (.ref j) (ltK x y) := by
  obtain ⟨its, r1, p1, _⟩ := I.tuple hi
  obtain ⟨its2, r2, p2, _⟩ := I.tuple hj
  obtain ⟨u1, u2, rfl, q1, q2⟩ := r1.two
  obtain ⟨v1, v2, rfl, w1, w2⟩ := r2.two
  obtain ⟨t1, rfl⟩ := q1
  obtain ⟨t2, rfl⟩ := w1
  obtain ⟨t3, rfl⟩ := q2
  obtain ⟨t4, rfl⟩ := w2
  have R := Ob.RcOp.tuples_lt (A := A) (s := s) (e := fun j => if j = 0 then decide (x.1 = y.1) else decide (x.2 = y.2)) (r := fun j => if j = 0 then decide (x.1 < y.1) else decide (x.2 < y.2)) p1 p2 (by omega) (fun j h1 h2 => by
    have h1' : j < 2 := h1
    match j, h1' with
    | 0, _ =>
      show SeqAt.EqAt A.in1 s (.int x.1 t1) (.int y.1 t2) (decide (x.1 = y.1))
      rw [← beq_dec]
      exact SeqAt.EqAt.int_int _ _ _ _
    | 1, _ =>
      show SeqAt.EqAt A.in1 s (.int x.2 t3) (.int y.2 t4) (decide (x.2 = y.2))
      rw [← beq_dec]
      exact SeqAt.EqAt.int_int _ _ _ _) (fun j h1 h2 hf => by
    have h1' : j < 2 := h1
    match j, h1' with
    | 0, _ => exact Ob.RcOp.lt_int _ _ _ _
    | 1, _ => exact Ob.RcOp.lt_int _ _ _ _)
  have e : Ob.lexAt (fun j => if j = 0 then decide (x.1 = y.1) else decide (x.2 = y.2)) (fun j => if j = 0 then decide (x.1 < y.1) else decide (x.2 < y.2)) (decide ([Value.int x.1 t1, .int x.2 t3].toArray.size < [Value.int y.1 t2, .int y.2 t4].toArray.size)) 0 (min [Value.int x.1 t1, .int x.2 t3].toArray.size [Value.int y.1 t2, .int y.2 t4].toArray.size) = ltK x y := by
    show (if decide (x.1 = y.1) = true then (if decide (x.2 = y.2) = true then decide (2 < 2) else decide (x.2 < y.2)) else decide (x.1 < y.1)) = ltK x y
    unfold ltK
    simp
  rw [e] at R
  exact R
end
end Hq

set_option Elab.async false
set_option linter.all false
set_option maxRecDepth 100000
set_option maxHeartbeats 4000000
set_option pp.maxSteps 3000
namespace Hq
open PySem PySem.Spec PyProof.Rows L2
theorem vals_refs : ∀ {L : List Addr} {us : List Value}, Vals (L.map V.ref) us → us = L.map Value.ref
  | [], us, r => by rw [List.map_nil] at r; cases r; rfl
  | a :: L, us, r => by
    rw [List.map_cons] at r
    cases r with
    | cons h t => cases h; rw [vals_refs t]; rfl
/-- the items of a list at an address -/
def itemsAt (a : Addr) : Sem (Array Value) := do
  let some xs ← seqItems? (.ref a) | unsupported "internal:_heapq"
  return xs
def atOf (xs : Array Value) (i : Nat) : Sem Value :=
  match xs[i]? with
  | some v => pure v
  | none => unsupported "internal:_heapq.index"
section
variable {M : Model} {A : Around} {E : Value → Shared → Prop} {s : Shared}
theorem at_run {xs : Array Value} {i : Nat} {v : Value} {Q : Value → Shared → Prop} (h : xs[i]? = some v) (q : Q v s) : wpAny M A (atOf xs i) Q E s := by
  unfold atOf
  rw [h]
  exact wpAny_pure q
end
section
variable {X : Cx} {pins : List (Addr × Obj)} {σ : L2.St} {H : Hp} {p : Addr} {key : Addr → Pw} {A : Around} {result : Value} {R : Result → Shared → Prop}
theorem refs_get {L : List Addr} {i : Nat} {a : Addr} (h : L[i]? = some a) : ((L.map Value.ref).toArray)[i]? = some (.ref a) := by
  rw [List.getElem?_toArray, List.getElem?_map, h]
  rfl
/-- the list of a heap, as it stands -/
theorem lst_at {s : Shared} {L : List Addr} (I : Inv X pins σ (upd H p (.lst (L.map V.ref))) s) : L.length ≤ sizeLine ∧ ∃ n, s.heap.get? p = some { cls := .type "list", data := .seq (L.map Value.ref).toArray n } := by
  obtain ⟨z, its, n, r, hl, e⟩ := I.lstM upd_same
  rw [vals_refs r] at e
  rw [List.length_map] at z
  exact ⟨z, n, e⟩
theorem vals_of : ∀ L : List Addr, Vals (L.map V.ref) (L.map Value.ref)
  | [] => .nil
  | a :: L => .cons rfl (vals_of L)
/-- two of the list change places -/
theorem swap_run {s : Shared} {L : List Addr} {i j : Nat} {Q : Unit → Shared → Prop} {E : Value → Shared → Prop} (I : Inv X pins σ (upd H p (.lst (L.map V.ref))) s) (hi : i < L.length) (hj : j < L.length)
    (q : ∀ s', Inv X pins σ (upd H p (.lst ((swp L i j).map V.ref))) s' → Q () s') :
    wpAny (model X.prog X.w) A (do
      let xs ← itemsAt p
      let x ← atOf xs i
      let y ← atOf xs j
      updateSeq p fun xs => (xs.setIfInBounds i y).setIfInBounds j x) Q E s := by
  obtain ⟨z, n, e⟩ := lst_at I
  have gi : L[i]? = some L[i] := List.getElem?_eq_getElem hi
  have gj : L[j]? = some L[j] := List.getElem?_eq_getElem hj
  refine wpAny_bind (wpAny_bind (wpAny_seqItems e rfl (wpAny_pure ?_)))
  refine wpAny_bind (at_run (refs_get gi) (wpAny_bind (at_run (refs_get gj) ?_)))
  refine wpAny_updateSeq e rfl ?_ (by rw [List.size_toArray, List.length_map]; exact z) (by rw [Array.size_setIfInBounds, Array.size_setIfInBounds, List.size_toArray, List.length_map]; omega)
  have I2 := I.lset (its' := (swp L i j).map Value.ref) (ys := (swp L i j).map V.ref) (t' := s.toks) upd_same e (f := fun xs => (xs.setIfInBounds i (.ref L[j])).setIfInBounds j (.ref L[i])) (by
    rw [swp_eq gi gj, List.map_set, List.map_set]
    simp) (vals_of _) (by rw [List.length_map, swp_len]; exact z)
  rw [upd_upd] at I2
  exact q _ I2
/-- one asked whether it is below another -/
theorem less_run {s : Shared} {L : List Addr} {i j : Addr} {b : Bool} {k : Nat} {Q : Bool → Shared → Prop} {E : Value → Shared → Prop} (I : Inv X pins σ (upd H p (.lst (L.map V.ref))) s) (hr : Ob.RcOp .Lt A s (.ref i) (.ref j) b) (hk : k = L.length) (q : Q b s) :
    wpAny (model X.prog X.w) A (do
      let less ← holding [.ref i, .ref j] (do truthOfDropped (← richCompare .Lt (.ref i) (.ref j)))
      if (← itemsAt p).size != k then rule "_heapq.size-changed"; raiseError "RuntimeError" "list changed size during iteration"
      return less) Q E s := by
  obtain ⟨z, n, e⟩ := lst_at I
  refine wpAny_bind (wpAny_holding (wpAny_bind (hr _ _ _ _ ?_)))
  refine wpAny_truthy_bool ?_
  refine wpAny_bind (wpAny_bind (wpAny_seqItems e rfl (wpAny_pure ?_)))
  have e2 : ((List.map Value.ref L).toArray.size != k) = false := by
    rw [List.size_toArray, List.length_map, hk]
    simp
  rw [e2]
  exact wpAny_pure q
theorem run_up (hu : A.units + 4 < cLine) : ∀ (n pos : Nat) (L : List Addr) (s : Shared), pos ≤ n → pos < L.length → Inv X pins σ (upd H p (.lst (L.map V.ref))) s → (∀ i ∈ L, ∀ o, ItK X.K (upd H p o) i (key i)) →
    (∀ s', Inv X pins σ (upd H p (.lst ((up (fun i j => ltK (key i) (key j)) L pos).map V.ref))) s' → R (.ok (.ret result)) s') →
    codeAny (model X.prog X.w) A (.builtin "_heapq.heapify.sift" ⟨[.ref p, .bool false, .bool false, rawInt pos, rawInt (0 : Nat), result, rawInt (-1)], []⟩) R s := by
  intro n
  induction n with
  | zero =>
    intro pos L s hn hl I hK hR
    have : pos = 0 := by omega
    subst this
    rw [up_zero] at hR
    obtain ⟨z, n, e⟩ := lst_at I
    refine codeAny_builtin entry_sift ?_
    rw [Around.under_plainId plain_sift _]
    unfold Builtin.«_heapq.heapify.sift»
    dsimp only
    simp only [rawInt, Int.toNat_natCast, Bool.false_eq_true, if_false]
    refine wpAny_bind (wpAny_bind (wpAny_seqItems e rfl (wpAny_pure ?_)))
    rw [if_neg (by decide), if_pos (by decide)]
    exact wpAny_pure (hR _ I)
  | succ n ih =>
    intro pos L s hn hl I hK hR
    obtain ⟨z, m, e⟩ := lst_at I
    refine codeAny_builtin entry_sift ?_
    rw [Around.under_plainId plain_sift _]
    unfold Builtin.«_heapq.heapify.sift»
    dsimp only
    simp only [rawInt, Int.toNat_natCast, Bool.false_eq_true, if_false]
    refine wpAny_bind (wpAny_bind (wpAny_seqItems e rfl (wpAny_pure ?_)))
    by_cases h0 : 0 < pos
    · obtain ⟨x, hx⟩ : ∃ x, L[pos]? = some x := ⟨_, List.getElem?_eq_getElem hl⟩
      have l2 : (pos - 1) / 2 < L.length := by omega
      obtain ⟨y, hy⟩ : ∃ y, L[(pos - 1) / 2]? = some y := ⟨_, List.getElem?_eq_getElem l2⟩
      rw [if_pos (show pos > 0 from h0)]
      refine wpAny_bind (at_run (refs_get hx) (wpAny_bind (at_run (refs_get hy) ?_)))
      refine wpAny_bind (less_run I (lt_items I (show A.units + 1 + 3 < cLine by omega) (hK x (List.mem_of_getElem? hx) _) (hK y (List.mem_of_getElem? hy) _)) (by rw [List.size_toArray, List.length_map]) ?_)
      cases c : ltK (key x) (key y) with
      | true =>
        rw [if_pos rfl]
        rw [up_yes h0 hx hy c] at hR
        refine wpAny_bind (swap_run I l2 hl fun s' I' => ?_)
        refine wpAny_pure ⟨plainId_quiet plain_sift _, ?_⟩
        exact ih ((pos - 1) / 2) _ s' (by omega) (by rw [swp_len]; exact l2) I' (fun i hi => hK i ((swp_perm L _ _).mem_iff.mp hi)) hR
      | false =>
        rw [if_neg (by decide), if_pos (by decide)]
        rw [up_no h0 hx hy c] at hR
        exact wpAny_pure (hR _ I)
    · have : pos = 0 := by omega
      subst this
      rw [up_zero] at hR
      rw [if_neg (by decide), if_pos (by decide)]
      exact wpAny_pure (hR _ I)
theorem ite_not {α : Type} {c : Bool} {a b : α} : (if (!c) = true then a else b) = if c = true then b else a := by cases c <;> rfl
theorem run_down (hu : A.units + 4 < cLine) : ∀ (n pos : Nat) (L : List Addr) (s : Shared), L.length - pos ≤ n → pos < L.length → Inv X pins σ (upd H p (.lst (L.map V.ref))) s → (∀ i ∈ L, ∀ o, ItK X.K (upd H p o) i (key i)) →
    (∀ s', Inv X pins σ (upd H p (.lst ((down (fun i j => ltK (key i) (key j)) L pos).map V.ref))) s' → R (.ok (.ret result)) s') →
    codeAny (model X.prog X.w) A (.builtin "_heapq.heapify.sift" ⟨[.ref p, .bool false, .bool true, rawInt pos, rawInt (0 : Nat), result, rawInt (-1)], []⟩) R s := by
  intro n
  induction n with
  | zero =>
    intro pos L s hn hl I hK hR
    omega
  | succ n ih =>
    intro pos L s hn hl I hK hR
    obtain ⟨z, m, e⟩ := lst_at I
    refine codeAny_builtin entry_sift ?_
    rw [Around.under_plainId plain_sift _]
    unfold Builtin.«_heapq.heapify.sift»
    dsimp only
    simp only [rawInt, Int.toNat_natCast, Bool.false_eq_true, if_false, if_true]
    refine wpAny_bind (wpAny_bind (wpAny_seqItems e rfl (wpAny_pure ?_)))
    simp only [List.size_toArray, List.length_map]
    by_cases h0 : pos < L.length / 2
    · rw [if_pos h0]
      rw [down_yes h0] at hR
      have l1 : 2 * pos + 1 < L.length := by omega
      obtain ⟨l, hL⟩ : ∃ l, L[2 * pos + 1]? = some l := ⟨_, List.getElem?_eq_getElem l1⟩
      by_cases h1 : 2 * pos + 1 + 1 < L.length
      · rw [if_pos h1]
        obtain ⟨r, hr⟩ : ∃ r, L[2 * pos + 1 + 1]? = some r := ⟨_, List.getElem?_eq_getElem h1⟩
        refine wpAny_bind (at_run (refs_get hL) (wpAny_bind (at_run (refs_get hr) ?_)))
        refine wpAny_bind (less_run I (lt_items I (show A.units + 1 + 3 < cLine by omega) (hK l (List.mem_of_getElem? hL) _) (hK r (List.mem_of_getElem? hr) _)) rfl ?_)
        rw [ite_not]
        cases c : ltK (key l) (key r) with
        | true =>
          rw [if_pos rfl]
          have ek : kid (fun i j => ltK (key i) (key j)) L pos = 2 * pos + 1 := by unfold kid; rw [hL, hr]; simp only [c, if_true]
          rw [ek] at hR
          refine wpAny_bind (swap_run I l1 hl fun s' I' => ?_)
          refine wpAny_pure ⟨plainId_quiet plain_sift _, ?_⟩
          exact ih (2 * pos + 1) _ s' (by rw [swp_len]; omega) (by rw [swp_len]; exact l1) I' (fun i hi => hK i ((swp_perm L _ _).mem_iff.mp hi)) hR
        | false =>
          rw [if_neg (by decide)]
          have ek : kid (fun i j => ltK (key i) (key j)) L pos = 2 * pos + 1 + 1 := by unfold kid; rw [hL, hr]; simp only [c, Bool.false_eq_true, if_false]
          rw [ek] at hR
          refine wpAny_bind (swap_run I h1 hl fun s' I' => ?_)
          refine wpAny_pure ⟨plainId_quiet plain_sift _, ?_⟩
          exact ih (2 * pos + 1 + 1) _ s' (by rw [swp_len]; omega) (by rw [swp_len]; exact h1) I' (fun i hi => hK i ((swp_perm L _ _).mem_iff.mp hi)) hR
      · rw [if_neg h1]
        have hr : L[2 * pos + 1 + 1]? = none := List.getElem?_eq_none (by omega)
        have ek : kid (fun i j => ltK (key i) (key j)) L pos = 2 * pos + 1 := by unfold kid; rw [hL, hr]
        rw [ek] at hR
        refine wpAny_bind (swap_run I l1 hl fun s' I' => ?_)
        refine wpAny_pure ⟨plainId_quiet plain_sift _, ?_⟩
        exact ih (2 * pos + 1) _ s' (by rw [swp_len]; omega) (by rw [swp_len]; exact l1) I' (fun i hi => hK i ((swp_perm L _ _).mem_iff.mp hi)) hR
    · rw [if_neg h0]
      rw [down_no h0] at hR
      refine wpAny_pure ⟨plainId_quiet plain_sift _, ?_⟩
      exact run_up hu pos pos L s (Nat.le_refl _) hl I hK hR
end
/-! ### heappush, heappop -/
theorem upd_eq {H : Hp} {a : Addr} {o : HO} (h : H a = some o) : upd H a o = H := by
  funext b
  by_cases e : b = a
  · subst e; rw [upd_same, h]
  · rw [upd_ne e]
section
variable {X : Cx}
/-- heappush(q, x): q a heap of items, each of a price and a word -/
def rPush (K : PySem.W.Frag) : List V → Hp → VK → Prop := fun vs H Q => ∃ (p t : Addr) (L : List Addr) (key : Addr → Pw), vs = [.ref p, .ref t] ∧ H p = some (.lst (L.map V.ref)) ∧ L.length < sizeLine ∧ (∀ i ∈ L ++ [t], ItK K H i (key i)) ∧
  Q .non (upd H p (.lst ((hpush (fun i j => ltK (key i) (key j)) L t).map V.ref)))
theorem cr_push (hu : X.A.units + 64 < cLine) : CallR X (.builtin "_heapq.heappush") (rPush X.K) := by
  intro pins s σ H vs us Q I r h
  obtain ⟨p, t, L, key, rfl, hp, hz, hK, q⟩ := h
  obtain ⟨u1, u2, rfl, q1, q2⟩ := r.two
  cases q1
  cases q2
  have hu' : upd H p (.lst (L.map V.ref)) = H := upd_eq hp
  have I0 : Inv X pins σ (upd H p (.lst (L.map V.ref))) s := by rw [hu']; exact I
  obtain ⟨z, n, e⟩ := lst_at I0
  refine call_function_tree kind_push plain_push entry_push (args_push _ _) ?_
  unfold Builtin.«_heapq.heappush»
  have ty : s.TypeIs (.ref p) "list" := ⟨_, e, rfl⟩
  refine wpAny_bind (wpAny_bind (wpAny_pure (wpAny_bind (wpAny_pure (wpAny_bind (wpAny_bind (wpAny_isInstance (T := "list") (b := true) ty (by rw [isSubtype_type]; kernel_rfl) (wpAny_pure (wpAny_pure ?_)))))))))
  refine wpAny_bind (wpAny_updateSeq e rfl ?_ (by rw [List.size_toArray, List.length_map]; exact z) (by rw [Array.size_push, List.size_toArray, List.length_map]; omega))
  have I1 := I0.lset (its' := (L ++ [t]).map Value.ref) (ys := (L ++ [t]).map V.ref) (t' := s.toks) upd_same e (f := fun xs => xs.push (.ref t)) (by simp) (vals_of _) (by rw [List.length_map, List.length_append, List.length_singleton]; omega)
  rw [upd_upd] at I1
  generalize s.heap.update p (Obj.mapSeq fun xs => xs.push (.ref t)) = h1 at I1
  obtain ⟨z1, n1, e1⟩ := lst_at I1
  refine wpAny_bind (wpAny_bind (wpAny_seqItems e1 rfl (wpAny_pure ?_)))
  refine wpAny_pure ⟨plainId_quiet plain_sift _, ?_⟩
  have es : (List.map Value.ref (L ++ [t])).toArray.size - 1 = L.length := by
    rw [List.size_toArray, List.length_map, List.length_append, List.length_singleton]; omega
  rw [es]
  refine run_up (key := key) (by show X.A.units + 4 < cLine; omega) L.length L.length (L ++ [t]) _ (Nat.le_refl _) (by simp) I1 (fun i hi o => (hK i hi).lst hp) fun s' I' => ?_
  exact ⟨.non, _, I', rfl, q⟩
/-- heappop(q) -/
def rPop (K : PySem.W.Frag) : List V → Hp → VK → Prop := fun vs H Q => ∃ (p x z : Addr) (L : List Addr) (key : Addr → Pw), vs = [.ref p] ∧ H p = some (.lst (L.map V.ref)) ∧ L[0]? = some x ∧ L[L.length - 1]? = some z ∧ (∀ i ∈ L, ItK K H i (key i)) ∧
  Q (.ref x) (upd H p (.lst ((hrest (fun i j => ltK (key i) (key j)) L z).map V.ref)))
theorem cr_pop (hu : X.A.units + 64 < cLine) : CallR X (.builtin "_heapq.heappop") (rPop X.K) := by
  intro pins s σ H vs us Q I r h
  obtain ⟨p, x, y, L, key, rfl, hp, h0, hl, hK, q⟩ := h
  obtain ⟨u1, rfl, q1⟩ := r.one
  cases q1
  have hu' : upd H p (.lst (L.map V.ref)) = H := upd_eq hp
  have I0 : Inv X pins σ (upd H p (.lst (L.map V.ref))) s := by rw [hu']; exact I
  obtain ⟨z, n, e⟩ := lst_at I0
  refine call_function_tree kind_pop plain_pop entry_pop (args_pop _) ?_
  unfold Builtin.«_heapq.heappop»
  have ty : s.TypeIs (.ref p) "list" := ⟨_, e, rfl⟩
  refine wpAny_bind (wpAny_bind (wpAny_pure (wpAny_bind (wpAny_bind (wpAny_isInstance (T := "list") (b := true) ty (by rw [isSubtype_type]; kernel_rfl) (wpAny_pure (wpAny_pure ?_)))))))
  refine wpAny_bind (wpAny_bind (wpAny_seqItems e rfl (wpAny_pure ?_)))
  have lne : 0 < L.length := (List.getElem?_eq_some_iff.mp h0).1
  have hb : (List.map Value.ref L).toArray.back? = some (.ref y) := by
    rw [Array.back?_eq_getElem?, List.size_toArray, List.length_map]
    exact refs_get hl
  rw [hb]
  dsimp only
  refine wpAny_bind (wpAny_updateSeq e rfl ?_ (by rw [List.size_toArray, List.length_map]; exact z) (by rw [Array.size_pop, List.size_toArray, List.length_map]; omega))
  have I1 := I0.lset (its' := (L.dropLast).map Value.ref) (ys := (L.dropLast).map V.ref) (t' := s.toks) upd_same e (f := fun xs => xs.pop) (by simp) (vals_of _) (by rw [List.length_map, List.length_dropLast]; omega)
  rw [upd_upd] at I1
  generalize s.heap.update p (Obj.mapSeq fun xs => xs.pop) = h1 at I1
  simp only [List.size_toArray, List.length_map]
  by_cases c : L.length = 1
  · have eh : hrest (fun i j => ltK (key i) (key j)) L y = [] := by unfold hrest; rw [if_pos c]
    rw [eh] at q
    have ed : L.dropLast = [] := List.eq_nil_of_length_eq_zero (by rw [List.length_dropLast]; omega)
    rw [ed] at I1
    have exy : x = y := by
      rw [c] at hl
      exact Option.some.inj (h0.symm.trans hl)
    subst exy
    rw [if_pos (by rw [c]; rfl)]
    exact wpAny_pure ⟨.ref x, _, I1, rfl, q⟩
  · have eh : hrest (fun i j => ltK (key i) (key j)) L y = down (fun i j => ltK (key i) (key j)) (L.dropLast.set 0 y) 0 := by unfold hrest; rw [if_neg c]
    rw [eh] at q
    rw [if_neg (by simpa using c)]
    refine wpAny_bind (at_run (refs_get h0) ?_)
    obtain ⟨z1, n1, e1⟩ := lst_at I1
    refine wpAny_bind (wpAny_updateSeq e1 rfl ?_ (by rw [List.size_toArray, List.length_map]; exact z1) (by rw [Array.size_setIfInBounds, List.size_toArray, List.length_map]; omega))
    have I2 := I1.lset (its' := (L.dropLast.set 0 y).map Value.ref) (ys := (L.dropLast.set 0 y).map V.ref) (t' := s.toks) upd_same e1 (f := fun xs => xs.setIfInBounds 0 (.ref y)) (by rw [List.map_set]; simp) (vals_of _) (by rw [List.length_map, List.length_set]; exact z1)
    rw [upd_upd] at I2
    generalize h1.update p (Obj.mapSeq fun xs => xs.setIfInBounds 0 (.ref y)) = h2 at I2
    refine wpAny_pure ⟨plainId_quiet plain_sift _, ?_⟩
    refine run_down (key := key) (by show X.A.units + 4 < cLine; omega) _ 0 (L.dropLast.set 0 y) _ (Nat.le_refl _) (by rw [List.length_set, List.length_dropLast]; omega) I2 (fun i hi o => ?_) fun s' I' => ?_
    · have hi' : i ∈ L := by
        rcases List.mem_or_eq_of_mem_set hi with hi | rfl
        · exact (List.dropLast_sublist L).mem hi
        · exact List.mem_of_getElem? hl
      exact (hK i hi').lst hp
    · exact ⟨.ref x, _, I', rfl, q⟩
end
end Hq

set_option Elab.async false
set_option linter.all false
set_option maxRecDepth 100000
set_option maxHeartbeats 8000000
set_option pp.maxSteps 900
set_option pp.deepTerms false
namespace Wb
open PySem PySem.Spec PyProof.Rows L2
def clsB : Stmt → List Stmt
  | .ClassDef _ _ _ b .. => b
  | _ => []
/-! ### heaps: all but two, all but one hidden -/
def Ex2 (p g : Addr) (H H' : Hp) : Prop := ∀ a o, a ≠ p → a ≠ g → H a = some o → H' a = some o
section
variable {p g : Addr} {H H1 H' : Hp}
theorem Ex2.ex (e : Evl.Ex H H') : Ex2 p g H H' := fun a o _ _ h => e a o h
theorem Ex2.refl (p g : Addr) (H : Hp) : Ex2 p g H H := fun _ _ _ _ h => h
theorem Ex2.trans (a : Ex2 p g H H1) (b : Ex2 p g H1 H') : Ex2 p g H H' := fun x o n m h => b x o n m (a x o n m h)
theorem Ex2.put1 {o : HO} : Ex2 p g H (upd H p o) := fun a u n _ h => by rw [upd_ne n]; exact h
theorem Ex2.put2 {o : HO} : Ex2 p g H (upd H g o) := fun a u _ n h => by rw [upd_ne n]; exact h
theorem Ex2.base {H0 : Hp} (e : Ex2 p g H H') (e0 : Evl.Ex H0 H) (np : H0 p = none) (ng : H0 g = none) : Evl.Ex H0 H' := fun a o h => e a o (fun z => by rw [z, np] at h; cases h) (fun z => by rw [z, ng] at h; cases h) (e0 a o h)
theorem Ex2.tup {a : Addr} {xs : List V} (e : Ex2 p g H H') {ys zs : List V} (hp : H p = some (.lst ys)) (hg : H g = some (.lst zs)) (h : H a = some (.tup xs)) : H' a = some (.tup xs) := e a _ (ne_of h hp (fun z => nomatch z)) (ne_of h hg (fun z => nomatch z)) h
end
def oT (o : Option Int) : V := match o with
  | none => .non
  | some q => .int q
def natsT (R : List Nat) : List V := R.map fun x => V.int (x : Nat)
/-! ### notes of any kind -/
/-- all tuples are kept -/
def Tk (H H' : Hp) : Prop := ∀ a xs, H a = some (.tup xs) → H' a = some (.tup xs)
theorem Tk.refl (H : Hp) : Tk H H := fun _ _ h => h
theorem Tk.trans {H H1 H2 : Hp} (a : Tk H H1) (b : Tk H1 H2) : Tk H H2 := fun x o h => b x o (a x o h)
theorem Tk.ex {H H' : Hp} (e : Evl.Ex H H') : Tk H H' := fun a xs h => e a _ h
theorem Tk.lst {H : Hp} {p : Addr} {xs : List V} {o : HO} (h : H p = some (.lst xs)) : Tk H (upd H p o) := fun a ys z => by rw [upd_ne (ne_of z h (fun q => nomatch q))]; exact z
abbrev cNoNotes : Stmt := topS 29
structure NtK (P : Program) (w : World) (K : PySem.W.Frag) (mg : Str → Option Value) (base : Heap) where
  C : Addr
  cl : Cls K C
  At : Hp → Addr → Prop
  ins : ∀ H nt, At H nt → ∃ dx fs, H nt = some (.ins C dx fs) ∧ fs.lookup ("standing" : Str) = none ∧ fs.lookup ("stepping" : Str) = none ∧ fs.lookup ("behind" : Str) = none ∧ fs.lookup ("either" : Str) = none
  ex : ∀ H H' nt, Evl.Ex H H' → At H nt → At H' nt
  NV : Hp → V → Prop
  tk : ∀ H H' v, Tk H H' → NV H v → NV H' v
  f1 : Addr
  d1 : FuncData
  b1 : Binds K d1 ["self"] []
  m1 : Meth K C "standing" f1
  k1 : FnOk P w K mg base CX0 1 f1 d1 ["self"] (fun vs H Q _ => ∃ nt, vs = [.ref nt] ∧ At H nt ∧ ∀ H' v, Evl.Ex H H' → NV H' v → Q v H')
  f2 : Addr
  d2 : FuncData
  b2 : Binds K d2 ["self", "k", "here", "there", "way"] []
  m2 : Meth K C "stepping" f2
  k2 : FnOk P w K mg base CX0 1 f2 d2 ["self", "k", "here", "there", "way"] (fun vs H Q _ => ∃ (nt : Addr) (k h t : Int) (u : V) (ws : Word), vs = [.ref nt, .int k, .int h, .int t, u] ∧ At H nt ∧ Wd K H u ws ∧ ∀ H' v, Evl.Ex H H' → NV H' v → Q v H')
  f3 : Addr
  d3 : FuncData
  b3 : Binds K d3 ["self", "first", "second"] []
  m3 : Meth K C "behind" f3
  k3 : FnOk P w K mg base CX0 1 f3 d3 ["self", "first", "second"] (fun vs H Q _ => ∃ (nt : Addr) (x y : V), vs = [.ref nt, x, y] ∧ At H nt ∧ NV H x ∧ NV H y ∧ ∀ H' v, Evl.Ex H H' → NV H' v → Q v H')
  f4 : Addr
  d4 : FuncData
  b4 : Binds K d4 ["self", "first", "second"] []
  m4 : Meth K C "either" f4
  k4 : FnOk P w K mg base CX0 1 f4 d4 ["self", "first", "second"] (fun vs H Q _ => ∃ (nt : Addr) (x y : V), vs = [.ref nt, x, y] ∧ At H nt ∧ NV H x ∧ NV H y ∧ ∀ H' v, Evl.Ex H H' → NV H' v → Q v H')
theorem NtK.nx {P : Program} {w : World} {K : PySem.W.Frag} {mg : Str → Option Value} {base : Heap} (N : NtK P w K mg base) (H H' : Hp) (v : V) (e : Evl.Ex H H') (h : N.NV H v) : N.NV H' v := N.tk H H' v (Tk.ex e) h
/-! ### entries, rows, hops -/
def EntT (NV : Hp → V → Prop) (H : Hp) (v : V) : Option Int → Prop
  | none => v = .non
  | some p => ∃ a nv, v = .ref a ∧ H a = some (.tup [.int p, nv]) ∧ NV H nv
def RowT (NV : Hp → V → Prop) (H : Hp) (v : V) (os : List (Option Int)) : Prop := ∃ a vs, v = .ref a ∧ H a = some (.lst vs) ∧ Paired (EntT NV H) vs os
/-- a hop: the column of the table below, from, to, price -/
structure HopN where
  col : Nat
  frm : Int
  to_ : Int
  price : Int
def HopT (NV : Hp → V → Prop) (H : Hp) (v : V) (h : HopN) : Prop := ∃ a nv, v = .ref a ∧ H a = some (.tup [.int (h.col : Nat), .int h.frm, .int h.to_, .int h.price, nv]) ∧ NV H nv
/-- an end: the column of the table below, this bolt's place or none, the layer -/
structure EndN where
  col : Nat
  last : Option Int
  upto : Nat
def EndNT (H : Hp) (v : V) (e : EndN) : Prop := ∃ a, v = .ref a ∧ H a = some (.tup [.int (e.col : Nat), oT e.last, .int (e.upto : Nat)])
def IntsT (H : Hp) (v : V) (ns : List Nat) : Prop := ∃ a, v = .ref a ∧ H a = some (.lst (natsT ns))
def Ints2 (H : Hp) (v : V) (ns : List (List Nat)) : Prop := ∃ a vs, v = .ref a ∧ H a = some (.lst vs) ∧ Paired (IntsT H) vs ns
section
variable {NV : Hp → V → Prop} (nx : ∀ H H' v, Evl.Ex H H' → NV H v → NV H' v) {H H' : Hp} (e : Evl.Ex H H') {v : V}
include nx e
theorem EntT.ex {o : Option Int} (h : EntT NV H v o) : EntT NV H' v o := by
  cases o with
  | none => exact h
  | some p =>
    obtain ⟨a, nv, r, h1, h2⟩ := h
    exact ⟨a, nv, r, e _ _ h1, nx _ _ _ e h2⟩
theorem RowT.ex {os : List (Option Int)} (h : RowT NV H v os) : RowT NV H' v os := by
  obtain ⟨a, vs, r, h1, h2⟩ := h
  exact ⟨a, vs, r, e _ _ h1, Paired.imp (fun _ _ z => EntT.ex nx e z) h2⟩
theorem HopT.ex {h : HopN} (z : HopT NV H v h) : HopT NV H' v h := by
  obtain ⟨a, nv, r, h1, h2⟩ := z
  exact ⟨a, nv, r, e _ _ h1, nx _ _ _ e h2⟩
end
theorem EntT.tk {NV : Hp → V → Prop} (tk : ∀ H H' v, Tk H H' → NV H v → NV H' v) {H H' : Hp} (e : Tk H H') {v : V} {o : Option Int} (h : EntT NV H v o) : EntT NV H' v o := by
  cases o with
  | none => exact h
  | some p =>
    obtain ⟨a, nv, r, h1, h2⟩ := h
    exact ⟨a, nv, r, e _ _ h1, tk _ _ _ e h2⟩
theorem EndNT.ex {H H' : Hp} (e : Evl.Ex H H') {v : V} {x : EndN} (h : EndNT H v x) : EndNT H' v x := by
  obtain ⟨a, r, h⟩ := h
  exact ⟨a, r, e _ _ h⟩
theorem IntsT.ex {H H' : Hp} (e : Evl.Ex H H') {v : V} {x : List Nat} (h : IntsT H v x) : IntsT H' v x := by
  obtain ⟨a, r, h⟩ := h
  exact ⟨a, r, e _ _ h⟩
theorem Ints2.ex {H H' : Hp} (e : Evl.Ex H H') {v : V} {x : List (List Nat)} (h : Ints2 H v x) : Ints2 H' v x := by
  obtain ⟨a, vs, r, h, k⟩ := h
  exact ⟨a, vs, r, e _ _ h, Paired.imp (fun _ _ z => IntsT.ex e z) k⟩
/-! ### the class Level -/
abbrev cLevel : Stmt := topS 31
abbrev lS (i : Nat) : Stmt := (clsB cLevel).getD i (.Pass ⟨0, 0, 0, 0⟩)
abbrev sLvInit : Stmt := lS 0
abbrev sHopsF : Stmt := lS 2
abbrev sHopsT : Stmt := lS 3
abbrev sEntries : Stmt := lS 4
abbrev sEntry : Stmt := lS 5
abbrev sBehind : Stmt := lS 6
abbrev sMoved' : Stmt := lS 7
abbrev sMoveOn : Stmt := lS 8
abbrev sJoined : Stmt := lS 12
abbrev sBetter : Stmt := lS 13
structure LvC (K : PySem.W.Frag) (mg : Str → Option Value) where
  C : Addr
  cl : Cls K C
  n0 : NoAttr K C "below"
  n1 : NoAttr K C "many"
  n2 : NoAttr K C "moves"
  n3 : NoAttr K C "asked"
  n4 : NoAttr K C "ends"
  n5 : NoAttr K C "notes"
  n6 : NoAttr K C "layers"
  n7 : NoAttr K C "hops"
  n8 : NoAttr K C "onward"
  n9 : NoAttr K C "nexts"
  n10 : NoAttr K C "lasts"
  g : mg "Level" = some (.ref C)
  f0 : Addr
  d0 : FuncData
  F0 : Fun K "__init__" "Level.__init__" sLvInit f0 d0
  b0 : Binds K d0 ["self", "below", "many", "moves", "asked", "ends", "notes"] []
  M : Mk K C f0
  f2 : Addr
  d2 : FuncData
  F2 : Fun K "hops_from" "Level.hops_from" sHopsF f2 d2
  b2 : Binds K d2 ["self", "place", "layer"] []
  m2 : Meth K C "hops_from" f2
  f3 : Addr
  d3 : FuncData
  F3 : Fun K "hops_to" "Level.hops_to" sHopsT f3 d3
  b3 : Binds K d3 ["self", "end"] []
  m3 : Meth K C "hops_to" f3
  f4 : Addr
  d4 : FuncData
  F4 : Fun K "entries" "Level.entries" sEntries f4 d4
  b4 : Binds K d4 ["self", "start"] []
  m4 : Meth K C "entries" f4
  f5 : Addr
  d5 : FuncData
  F5 : Fun K "entry" "Level.entry" sEntry f5 d5
  b5 : Binds K d5 ["self", "start", "number", "known"] []
  m5 : Meth K C "entry" f5
  f6 : Addr
  d6 : FuncData
  F6 : Fun K "behind" "Level.behind" sBehind f6 d6
  b6 : Binds K d6 ["self", "number"] []
  m6 : Meth K C "behind" f6
  f7 : Addr
  d7 : FuncData
  F7 : Fun K "moved" "Level.moved" sMoved' f7 d7
  b7 : Binds K d7 ["self", "start"] []
  m7 : Meth K C "moved" f7
  f8 : Addr
  d8 : FuncData
  F8 : Fun K "move_on" "Level.move_on" sMoveOn f8 d8
  b8 : Binds K d8 ["self", "best", "queue", "entry", "start"] []
  m8 : Meth K C "move_on" f8
  f12 : Addr
  d12 : FuncData
  F12 : Fun K "joined" "Level.joined" sJoined f12 d12
  b12 : Binds K d12 ["self", "entry", "other"] []
  m12 : Meth K C "joined" f12
  f13 : Addr
  d13 : FuncData
  F13 : Fun K "better" "Level.better" sBetter f13 d13
  b13 : Binds K d13 ["self", "entry", "other"] []
  m13 : Meth K C "better" f13
/-- no attribute of a level hides a method -/
structure NoMeth (fs : List (Str × V)) : Prop where
  m2 : fs.lookup ("hops_from" : Str) = none
  m3 : fs.lookup ("hops_to" : Str) = none
  m4 : fs.lookup ("entries" : Str) = none
  m5 : fs.lookup ("entry" : Str) = none
  m6 : fs.lookup ("behind" : Str) = none
  m7 : fs.lookup ("moved" : Str) = none
  m8 : fs.lookup ("move_on" : Str) = none
  m12 : fs.lookup ("joined" : Str) = none
  m13 : fs.lookup ("better" : Str) = none
/-- what a level holds -/
structure LvD where
  rows : List (List (Option Int))
  many : Nat
  asked : List (Option Int)
  ends : List EndN
  hops : List HopN
  onward : List (List (List Nat))
  nexts : List (List (List Nat))
  lasts : List (List Nat)
structure LevT (NV : Hp → V → Prop) (At : Hp → Addr → Prop) (C : Addr) (H : Hp) (lv : Addr) (D : LvD) : Prop where
  at_ : ∃ (dx : Addr) (fs : List (Str × V)) (bl ak en nt hp on nx ls : Addr) (rvs evs hvs ovs nvs lvs : List V), H lv = some (.ins C dx fs) ∧ NoMeth fs ∧
    (fs.lookup ("below" : Str) = some (V.ref bl) ∧ H bl = some (.lst rvs) ∧ Paired (RowT NV H) rvs D.rows) ∧
    fs.lookup ("many" : Str) = some (V.int (D.many : Nat)) ∧
    (fs.lookup ("asked" : Str) = some (V.ref ak) ∧ H ak = some (.lst (D.asked.map oT))) ∧
    (fs.lookup ("ends" : Str) = some (V.ref en) ∧ H en = some (.lst evs) ∧ Paired (EndNT H) evs D.ends) ∧
    (fs.lookup ("notes" : Str) = some (V.ref nt) ∧ At H nt) ∧
    fs.lookup ("layers" : Str) = some (V.int ((D.asked.length + 1 : Nat) : Int)) ∧
    (fs.lookup ("hops" : Str) = some (V.ref hp) ∧ H hp = some (.lst hvs) ∧ Paired (HopT NV H) hvs D.hops) ∧
    (fs.lookup ("onward" : Str) = some (V.ref on) ∧ H on = some (.lst ovs) ∧ Paired (Ints2 H) ovs D.onward) ∧
    (fs.lookup ("nexts" : Str) = some (V.ref nx) ∧ H nx = some (.lst nvs) ∧ Paired (Ints2 H) nvs D.nexts) ∧
    (fs.lookup ("lasts" : Str) = some (V.ref ls) ∧ H ls = some (.lst lvs) ∧ Paired (IntsT H) lvs D.lasts)
theorem LevT.ex {NV : Hp → V → Prop} {At : Hp → Addr → Prop} (nx : ∀ H H' v, Evl.Ex H H' → NV H v → NV H' v) (ax : ∀ H H' nt, Evl.Ex H H' → At H nt → At H' nt) {C : Addr} {H H' : Hp} (e : Evl.Ex H H') {lv : Addr} {D : LvD} (h : LevT NV At C H lv D) : LevT NV At C H' lv D := by
  obtain ⟨dx, fs, bl, ak, en, nt, hp, on, nxx, ls, rvs, evs, hvs, ovs, nvs, lvs, h1, h2, ⟨a1, a2, a3⟩, a4, ⟨a5, a6⟩, ⟨a7, a8, a9⟩, ⟨b1, b2⟩, b3, ⟨b4, b5, b6⟩, ⟨b7, b8, b9⟩, ⟨c1, c2, c3⟩, ⟨c4, c5, c6⟩⟩ := h.at_
  exact ⟨dx, fs, bl, ak, en, nt, hp, on, nxx, ls, rvs, evs, hvs, ovs, nvs, lvs, e _ _ h1, h2, ⟨a1, e _ _ a2, Paired.imp (fun _ _ z => RowT.ex nx e z) a3⟩, a4, ⟨a5, e _ _ a6⟩, ⟨a7, e _ _ a8, Paired.imp (fun _ _ z => EndNT.ex e z) a9⟩, ⟨b1, ax _ _ _ e b2⟩, b3,
    ⟨b4, e _ _ b5, Paired.imp (fun _ _ z => HopT.ex nx e z) b6⟩, ⟨b7, e _ _ b8, Paired.imp (fun _ _ z => Ints2.ex e z) b9⟩, ⟨c1, e _ _ c2, Paired.imp (fun _ _ z => Ints2.ex e z) c3⟩, ⟨c4, e _ _ c5, Paired.imp (fun _ _ z => IntsT.ex e z) c6⟩⟩
/-! ### joined, better -/
theorem scJoined : FnScope ["self", "entry", "other"] ["self", "entry", "other"] (defScope sJoined) := ⟨rfl, rfl, rfl, by decide +kernel, rfl, by decide +kernel, by decide +kernel⟩
theorem scBetter : FnScope ["self", "entry", "other"] ["self", "entry", "other"] (defScope sBetter) := ⟨rfl, rfl, rfl, by decide +kernel, rfl, by decide +kernel, by decide +kernel⟩
def betterO : Option Int → Option Int → Option Int
  | e, none => e
  | none, some q => some q
  | some p, some q => if p < q then some p else if q < p then some q else some p
def spJoined {P : Program} {w : World} {K : PySem.W.Frag} {mg : Str → Option Value} {base : Heap} (N : NtK P w K mg base) (C : Addr) : Sp := fun vs H Q _ => ∃ (lv : Addr) (x y : V) (D : LvD) (p : Int) (o : Option Int), vs = [.ref lv, x, y] ∧ LevT N.NV N.At C H lv D ∧ EntT N.NV H x (some p) ∧ EntT N.NV H y o ∧
  ∀ H' r, Evl.Ex H H' → EntT N.NV H' r (o.map fun q => p + q) → Q r H'
def spBetter {P : Program} {w : World} {K : PySem.W.Frag} {mg : Str → Option Value} {base : Heap} (N : NtK P w K mg base) (C : Addr) : Sp := fun vs H Q _ => ∃ (lv : Addr) (x y : V) (D : LvD) (o o' : Option Int), vs = [.ref lv, x, y] ∧ LevT N.NV N.At C H lv D ∧ EntT N.NV H x o ∧ EntT N.NV H y o' ∧
  ∀ H' r, Evl.Ex H H' → EntT N.NV H' r (betterO o o') → Q r H'
section
variable {P : Program} {w : World} {K : PySem.W.Frag} {mg : Str → Option Value} {base : Heap}
theorem ok_joined (N : NtK P w K mg base) (L : LvC K mg) : FnOk P w K mg base CX0 2 L.f12 L.d12 ["self", "entry", "other"] (spJoined N L.C) := by
  refine L.F12.ok scJoined (fun vs H Q E h => ?_) (fun cdv A' outer s H vs Q E hr h => ?_)
  · obtain ⟨lv, x, y, D, p, o, rfl, _⟩ := h; rfl
  · obtain ⟨lv, x, y, D, p, o, rfl, hL, ⟨xa, xn, rfl, hx1, hx2⟩, hy, q⟩ := h
    refine ⟨_, (pss_cons (ps_if (pt_cmpR op_isN (pv 2) pe_non (nomark _)) (pss_one (ps_ret pe_non)) pss_nil)
      (pss_one (ps_ret (pe_tup (pa_cons (pe_op op_add (pe_ix (r := rIxT K) ix_tup (pv 1) pe_int (fun _ _ => rfl)) (pe_ix (r := rIxT K) ix_tup (pv 2) pe_int (fun _ _ => rfl)))
        (pa_cons (pe_meth (pe_fld (pv 0) rfl) N.cl N.m3 N.k3 hr N.b3 .nil pass0 (pa_cons (pe_ix (r := rIxT K) ix_tup (pv 1) pe_int (fun _ _ => rfl)) (pa_cons (pe_ix (r := rIxT K) ix_tup (pv 2) pe_int (fun _ _ => rfl)) pa_nil))) pa_nil)))))), ?_⟩
    cases o with
    | none =>
      obtain rfl : y = .non := hy
      refine ⟨.non, rfl, rfl, _, rfl, ?_⟩
      exact iteT (q H .non (Evl.Ex.refl H) rfl)
    | some o =>
      obtain ⟨ya, yn, rfl, hy1, hy2⟩ := hy
      obtain ⟨dx, fs, bl, ak, en, nt, hp, on, nxx, ls, rvs, evs, hvs, ovs, nvs, lvs, h1, h2, _, _, _, _, ⟨b1, b2⟩, _⟩ := hL.at_
      obtain ⟨dn, fn, i1, _, _, i2, _⟩ := N.ins _ _ b2
      refine ⟨.ref ya, rfl, rfl, _, rfl, ?_⟩
      refine iteF ?_
      refine ⟨.ref xa, rfl, xa, _, 0, .int p, rfl, rfl, SqT.of hx1, atI_nat (j := 0) rfl, .ref ya, rfl, ya, _, 0, .int o, rfl, rfl, SqT.of hy1, atI_nat (j := 0) rfl, p, o, rfl, rfl, ?_⟩
      refine ⟨.ref lv, rfl, lv, L.C, dx, fs, .ref nt, rfl, h1, L.cl, L.n5, b1, nt, dn, fn, rfl, i1, i2, .ref xa, rfl, xa, _, 1, xn, rfl, rfl, SqT.of hx1, atI_nat (j := 1) rfl, .ref ya, rfl, ya, _, 1, yn, rfl, rfl, SqT.of hy1, atI_nat (j := 1) rfl, nt, xn, yn, rfl, b2, hx2, hy2, fun H1 z e1 hz => ?_⟩
      refine ⟨(by show 2 ≤ sizeLine; decide), fun t nt' => ?_⟩
      have e2 := Evl.Ex.new (o := .tup [.int (p + o), z]) nt'
      exact q _ (.ref t) (e1.trans e2) ⟨t, z, rfl, upd_same, N.nx _ _ _ e2 hz⟩
theorem ok_better (N : NtK P w K mg base) (L : LvC K mg) : FnOk P w K mg base CX0 2 L.f13 L.d13 ["self", "entry", "other"] (spBetter N L.C) := by
  refine L.F13.ok scBetter (fun vs H Q E h => ?_) (fun cdv A' outer s H vs Q E hr h => ?_)
  · obtain ⟨lv, x, y, D, o, o', rfl, _⟩ := h; rfl
  · obtain ⟨lv, x, y, D, o, o', rfl, hL, hx, hy, q⟩ := h
    refine ⟨_, (pss_cons (ps_if (PW.pt (pw_or (pt_cmpR op_isN (pv 2) pe_non (nomark _)) (pw_or1 (PW.pt (pw_and (pt_cmpR op_notN (pv 1) pe_non (nomark _)) (pw_and1 (pt_cmpR op_lt (pe_ix (r := rIxT K) ix_tup (pv 1) pe_int (fun _ _ => rfl)) (pe_ix (r := rIxT K) ix_tup (pv 2) pe_int (fun _ _ => rfl)) (nomark _)))))))) (pss_one (ps_ret (pv 1))) pss_nil)
      (pss_cons (ps_if (PW.pt (pw_or (pt_cmpR op_isN (pv 1) pe_non (nomark _)) (pw_or1 (pt_cmpR op_lt (pe_ix (r := rIxT K) ix_tup (pv 2) pe_int (fun _ _ => rfl)) (pe_ix (r := rIxT K) ix_tup (pv 1) pe_int (fun _ _ => rfl)) (nomark _))))) (pss_one (ps_ret (pv 2))) pss_nil)
      (pss_one (ps_ret (pe_tup (pa_cons (pe_ix (r := rIxT K) ix_tup (pv 1) pe_int (fun _ _ => rfl))
        (pa_cons (pe_meth (pe_fld (pv 0) rfl) N.cl N.m4 N.k4 hr N.b4 .nil pass0 (pa_cons (pe_ix (r := rIxT K) ix_tup (pv 1) pe_int (fun _ _ => rfl)) (pa_cons (pe_ix (r := rIxT K) ix_tup (pv 2) pe_int (fun _ _ => rfl)) pa_nil))) pa_nil))))))), ?_⟩
    cases o' with
    | none =>
      obtain rfl : y = .non := hy
      have hb : betterO o none = o := by cases o <;> rfl
      rw [hb] at q
      refine ⟨.non, rfl, rfl, _, rfl, ?_⟩
      refine iteT ?_
      exact ⟨x, rfl, q H x (Evl.Ex.refl H) hx⟩
    | some b =>
      obtain ⟨ya, yn, rfl, hy1, hy2⟩ := id hy
      refine ⟨.ref ya, rfl, rfl, _, rfl, ?_⟩
      refine iteF ?_
      cases o with
      | none =>
        obtain rfl : x = .non := hx
        refine ⟨.non, rfl, rfl, _, rfl, ?_⟩
        refine iteF ?_
        refine ⟨.non, rfl, rfl, _, rfl, ?_⟩
        refine iteT ?_
        exact ⟨.ref ya, rfl, q H (.ref ya) (Evl.Ex.refl H) hy⟩
      | some a =>
        obtain ⟨xa, xn, rfl, hx1, hx2⟩ := id hx
        refine ⟨.ref xa, rfl, rfl, _, rfl, ?_⟩
        refine iteT ?_
        refine ⟨.ref xa, rfl, xa, _, 0, .int a, rfl, rfl, SqT.of hx1, atI_nat (j := 0) rfl, .ref ya, rfl, ya, _, 0, .int b, rfl, rfl, SqT.of hy1, atI_nat (j := 0) rfl, a, b, rfl, rfl, _, rfl, ?_⟩
        refine ite2 (fun hc => ?_) (fun hc => ?_)
        · have c1 : a < b := of_decide_eq_true hc
          refine ⟨.ref xa, rfl, q H (.ref xa) (Evl.Ex.refl H) ?_⟩
          show EntT N.NV H _ (if a < b then some a else if b < a then some b else some a)
          rw [if_pos c1]
          exact hx
        have c1 : ¬ a < b := fun z => hc (decide_eq_true z)
        refine ⟨.ref xa, rfl, rfl, _, rfl, ?_⟩
        refine iteF ?_
        refine ⟨.ref ya, rfl, ya, _, 0, .int b, rfl, rfl, SqT.of hy1, atI_nat (j := 0) rfl, .ref xa, rfl, xa, _, 0, .int a, rfl, rfl, SqT.of hx1, atI_nat (j := 0) rfl, b, a, rfl, rfl, _, rfl, ?_⟩
        refine ite2 (fun hc2 => ?_) (fun hc2 => ?_)
        · have c2 : b < a := of_decide_eq_true hc2
          refine ⟨.ref ya, rfl, q H (.ref ya) (Evl.Ex.refl H) ?_⟩
          show EntT N.NV H _ (if a < b then some a else if b < a then some b else some a)
          rw [if_neg c1, if_pos c2]
          exact hy
        have c2 : ¬ b < a := fun z => hc2 (decide_eq_true z)
        obtain ⟨dx, fs, bl, ak, en, nt, hp, on, nxx, ls, rvs, evs, hvs, ovs, nvs, lvs, h1, h2, _, _, _, _, ⟨b1, b2⟩, _⟩ := hL.at_
        obtain ⟨dn, fn, i1, _, _, _, i2⟩ := N.ins _ _ b2
        refine ⟨.ref xa, rfl, xa, _, 0, .int a, rfl, rfl, SqT.of hx1, atI_nat (j := 0) rfl, ?_⟩
        refine ⟨.ref lv, rfl, lv, L.C, dx, fs, .ref nt, rfl, h1, L.cl, L.n5, b1, nt, dn, fn, rfl, i1, i2, .ref xa, rfl, xa, _, 1, xn, rfl, rfl, SqT.of hx1, atI_nat (j := 1) rfl, .ref ya, rfl, ya, _, 1, yn, rfl, rfl, SqT.of hy1, atI_nat (j := 1) rfl, nt, xn, yn, rfl, b2, hx2, hy2, fun H1 z e1 hz => ?_⟩
        refine ⟨(by show 2 ≤ sizeLine; decide), fun t nt' => ?_⟩
        have e2 := Evl.Ex.new (o := .tup [.int a, z]) nt'
        refine q _ (.ref t) (e1.trans e2) ?_
        show EntT N.NV _ _ (if a < b then some a else if b < a then some b else some a)
        rw [if_neg c1, if_neg c2]
        exact ⟨t, z, rfl, upd_same, N.nx _ _ _ e2 hz⟩
end
end Wb

set_option Elab.async false
set_option linter.all false
set_option maxRecDepth 100000
set_option maxHeartbeats 4000000
namespace Wb
open PySem PySem.Spec PyProof.Rows L2 PpSet
/-! ### a set comprehension of ints -/
section
variable {X : Cx}
/-- one more int in a set of ours -/
theorem add_int {pins : List (Addr × Obj)} {σ : L2.St} {H : Hp} {s : Shared} {E : Value → Shared → Prop} {Z : Addr} {S : Int → Bool} {n : Nat} {k : Int} {tk : Tok} {Q : Value → Shared → Prop} (I : Inv X pins σ H s) (hZ : H Z = some (SetO X.w Z S n)) (few : n + 1 < scanBound)
    (q : ∀ s', Inv X pins σ (upd H Z (SetO X.w Z (fun j => S j || decide (j = k)) (if S k = true then n else n + 1))) s' → Q .none s') : wpAny (model X.prog X.w) X.A (call (.builtin "set.add") [.ref Z, .int k tk]) Q E s :=
  setR_add (setO_get I hZ) few fun h' same R => q _ (I.write (e := Z) (t' := s.toks + 1) (by rw [hZ]; trivial) (.inl rfl) (fun b o nb eb => (same.2 b nb).trans eb) (by obtain ⟨o, _, _, _, eo, _⟩ := id R; exact ⟨o, eo⟩) (setO_new R))
/-- {elt for target in iter if ..}, elt an int: Z the new set -/
def tScI (w : World) (wi : TI) (g : TG) (tt : TT) (te : TE) (vs : List Nat) : TE := fun σ H Q => wi σ H fun J Hj => ∀ Z, Hj Z = none → ∃ W : Nat → Nat → Hp → Prop, (∃ m, W 0 m (upd Hj Z (SetO w Z (fun _ => false) 0))) ∧ ∀ i m G, W i m G →
  (J.stop i G ∧ Q (.ref Z) G) ∨ (J.go i G ∧ ∃ Y : Hp → Prop, (∀ G', Y G' → ∃ m', m' < m ∧ W (i + 1) m' G') ∧ ∀ x G', J.yld i G x G' → g x (wipe σ vs) G' fun σa Ga => wipe σa vs = wipe σ vs ∧ tt σa Ga fun b Gb =>
    if b = true then te σa Gb fun y Gc => ∃ (k : Int) (S : Int → Bool) (n : Nat), y = .int k ∧ Gc Z = some (SetO w Z S n) ∧ n + 1 < scanBound ∧ Y (upd Gc Z (SetO w Z (fun j => S j || decide (j = k)) (if S k = true then n else n + 1))) else Y Gb)
/-- what a turn left: the iterator as it was pinned, the block's slots wiped -/
theorem turn_end {sB : Shared} {HB : Hp} {scope : Scope} {ce : Env} {fp : List Addr} {own : List (PySem.Str × Nat)} {σ σ' : L2.St} {pw : World} {pp : Program} {tg : Expr} {J : It} {it : Addr} {tn : Nat → Heap → Prop} {i : Nat} {s1 s' : Shared} {G' : Hp}
    (T : Turn pp pw X.K tg J fp it tn) (at1 : tn (i + 1) s1.heap) (hw : wipe σ' (own.map (·.2)) = wipe σ (own.map (·.2))) (I' : Inv (X.blk sB HB scope ce fp) ([] ++ pinsAt fp s1.heap) σ' G' s') :
    Inv (X.blk sB HB scope ce fp) [] (wipe σ (own.map (·.2))) G' s' ∧ tn (i + 1) s'.heap ∧ ∀ b ∈ fp, G' b = none := by
  have held : ∀ b ∈ fp, ∀ o, s1.heap.get? b = some o → s'.heap.get? b = some o ∧ G' b = none := fun b mb o eo => by
    have z := I'.pin (b, o) (List.mem_append_right _ (List.mem_append_right _ (mem_pinsAt mb eo)))
    exact ⟨z.1, z.2.1⟩
  refine ⟨(I'.unpinned (pins := [])).weak (by rw [← hw, wipe_length]) (fun j v ev => (wipe_some (by rw [hw]; exact ev)).1), T.keep _ _ _ at1 (fun b mb o eo => (held b mb o eo).1), fun b mb => ?_⟩
  obtain ⟨o, eo, _⟩ := T.obj _ _ at1 b mb
  exact (held b mb o eo).2
theorem pe_scI {elt tg iter : Expr} {ifs : List Expr} {scope : Scope} {own : List (PySem.Str × Nat)} {pos : Pos} {wi : TI} {g : TG} {tt : TT} {te : TE} (hc : X.calm = true) (hN : X.N.Nodup) (hi : PI X tg iter wi) (ok : BlkOk X.N X.env.scope scope own)
    (hg : ∀ (s : Shared) (H : Hp) (C : Addr) (cl : List (PySem.Str × Addr)) (fp : List Addr), PG (X.blk s H scope (compEnvC scope cl C X.env) fp) tg g)
    (ht : ∀ (s : Shared) (H : Hp) (C : Addr) (cl : List (PySem.Str × Addr)) (fp : List Addr), PTs (X.blk s H scope (compEnvC scope cl C X.env) fp) ifs tt)
    (he : ∀ (s : Shared) (H : Hp) (C : Addr) (cl : List (PySem.Str × Addr)) (fp : List Addr), PE (X.blk s H scope (compEnvC scope cl C X.env) fp) elt te)
    (hs : ∀ x, foldedSetIterable iter X.env x = pure x := by intro _; rfl) : PE X (.SetComp elt [⟨tg, iter, ifs, 0⟩] scope pos) (tScI X.w wi g tt te (own.map (·.2))) := by
  refine ⟨fun pins s σ H Q I hh => ?_⟩
  rw [eval_SetComp]
  have clo : ∀ y ∈ scope.names, y.2 = .free → ∃ c, X.env.cells.lookup y.1 = some c := fun y my e => (ok.free y my e).elim (fun z => I.ok.has _ (.inl z)) (fun z => I.ok.has _ (.inr z))
  refine wpAny_comprehension_free (use := none) rfl hs (closure_ok clo) ok.kind (fun y my e => by rw [ok.uniq y my, e]) (thn (hi.run pins s σ H _ I hh) fun xv sa ha => thn ha fun itv sb hb => ?_)
  obtain ⟨it, fp, tn, J, Hj, rfl, Ij, T, at0, free, q⟩ := hb
  refine newSet_ok (newEnv_comp ?_)
  obtain ⟨Z, eZ⟩ : ∃ Z, sb.heap.objs.size = Z := ⟨_, rfl⟩
  have nZ : Hj Z = none := Ij.hok.fresh (Nat.le_of_eq eZ)
  obtain ⟨W, ⟨m0, w0⟩, turn⟩ := q Z nZ
  let emptySet : Obj := { cls := .type "set", dict := none, data := .set #[] 0 (.fresh 0 0 (!X.w.params.followText "set-order")) }
  obtain ⟨sc, esc⟩ : ∃ sc : Shared, ({ sb with heap := sb.heap.push emptySet } : Shared) = sc := ⟨_, rfl⟩
  have hsc : sc.heap = sb.heap.push emptySet := by rw [← esc]
  have Ic : Inv X pins σ (upd Hj Z (SetO X.w Z (fun _ => false) 0)) sc := by
    rw [← esc]
    exact Ij.laid (t' := sb.toks) (fun b o e => Heap.get?_push_of_some _ e) (Nat.le_of_eq eZ) (by rw [← eZ]; exact setO_new (setR_fresh X.w))
  have below : ∀ b ∈ fp, b < sb.heap.objs.size := fun b mb => by
    obtain ⟨o, e, _⟩ := T.obj _ _ at0 b mb
    exact Heap.lt_size e
  have free' : ∀ b ∈ fp, FpOk X pins (upd Hj Z (SetO X.w Z (fun _ => false) 0)) b ∧ b < sc.heap.objs.size := fun b mb => by
    have lt := below b mb
    exact ⟨⟨by rw [upd_ne (by rw [← eZ]; exact Nat.ne_of_lt lt)]; exact (free b mb).1, (free b mb).2⟩, by rw [hsc, Heap.size_push]; exact Nat.lt_succ_of_lt lt⟩
  have at1 : tn 0 sc.heap := T.keep _ _ _ at0 fun b _ o e => by rw [hsc]; exact Heap.get?_push_of_some _ e
  have Id := block_start Ic ok hN free'
  have pg := hg sc (upd Hj Z (SetO X.w Z (fun _ => false) 0)) sc.heap.objs.size (cellsFrom (sc.heap.objs.size + 1) scope.names (cloFrom X.env.cells scope.names [])) fp
  have pt := ht sc (upd Hj Z (SetO X.w Z (fun _ => false) 0)) sc.heap.objs.size (cellsFrom (sc.heap.objs.size + 1) scope.names (cloFrom X.env.cells scope.names [])) fp
  have pe := he sc (upd Hj Z (SetO X.w Z (fun _ => false) 0)) sc.heap.objs.size (cellsFrom (sc.heap.objs.size + 1) scope.names (cloFrom X.env.cells scope.names [])) fp
  have none0 : ∀ b ∈ fp, (upd Hj Z (SetO X.w Z (fun _ => false) 0)) b = none := fun b mb => (free' b mb).1.1
  rw [show ({ sb with heap := sb.heap.push { cls := .type "set", dict := none, data := .set #[] 0 (.fresh 0 0 (!X.w.params.followText "set-order")) } } : Shared) = sc from esc, eZ]
  obtain ⟨ce, ece⟩ : ∃ ce, compEnvC scope (cellsFrom (sc.heap.objs.size + 1) scope.names (cloFrom X.env.cells scope.names [])) sc.heap.objs.size X.env = ce := ⟨_, rfl⟩
  have loc : ce.locals = sc.heap.objs.size := by rw [← ece]; rfl
  show codeAny (model X.prog X.w) X.A (.compStart (.SetComp elt [⟨tg, iter, ifs, 0⟩] scope pos) 0 (.ref it) (.ref Z) (compEnvC scope (cellsFrom (sc.heap.objs.size + 1) scope.names (cloFrom X.env.cells scope.names [])) sc.heap.objs.size X.env)) (compPost (model X.prog X.w) X.A X.xe none (fun v s' => EP X pins σ Q v s') (.ref Z) sc.heap.objs.size)
    { sc with heap := pushCells (sc.heap.push { cls := .type "dict", data := .dict #[] }) scope.names }
  rw [ece] at Id pg pt pe ⊢
  obtain ⟨HB, eHB⟩ : ∃ HB, upd Hj Z (SetO X.w Z (fun _ => false) 0) = HB := ⟨_, rfl⟩
  rw [eHB] at Ic Id pg pt pe w0 none0 free'
  obtain ⟨sd, esd⟩ : ∃ sd : Shared, ({ sc with heap := pushCells (sc.heap.push { cls := .type "dict", data := .dict #[] }) scope.names } : Shared) = sd := ⟨_, rfl⟩
  rw [esd] at Id ⊢
  have at2 : tn 0 sd.heap := T.keep _ _ _ at1 fun b _ o e => by rw [← esd]; exact pushCells_keeps _ _ _ _ (Heap.get?_push_of_some _ e)
  have stat : ∀ {σ' : L2.St} {G : Hp} {s' : Shared}, Inv (X.blk sc HB scope ce fp) [] σ' G s' → (∀ b ∈ fp, G b = none) → ∀ b ∈ fp, FpOk (X.blk sc HB scope ce fp) [] G b := fun {σ' G s'} I' nn b mb =>
    ⟨nn b mb, (I'.ok.exf b mb).1, I'.ok.exfs b mb, .inl mb, fun x c e => (I'.ok.exf b mb).2 x c e, fun p hp => absurd (show p ∈ ([] : List (Addr × Obj)) ++ [] from hp) (by simp)⟩
  have loop : codeAny (model X.prog X.w) X.A (.compLoop (.SetComp elt [⟨tg, iter, ifs, 0⟩] scope pos) 0 (.ref it) (.ref Z) ce) (compPost (model X.prog X.w) X.A X.xe none (fun v s' => EP X pins σ Q v s') (.ref Z) sc.heap.objs.size) sd := by
    refine compLoopS_any (fun n s' => ∃ i G, Inv (X.blk sc HB scope ce fp) [] (wipe σ (own.map (·.2))) G s' ∧ tn i s'.heap ∧ (∀ b ∈ fp, G b = none) ∧ W i n G) (fun n se ⟨i, G, Ie, ate, ne, we⟩ => ?_) m0 ⟨0, HB, Id, at2, none0, w0⟩
    rcases turn i n G we with ⟨stop, qq⟩ | ⟨go, Y, hY, step⟩
    · refine thnF (T.done (X.blk sc HB scope ce fp) rfl rfl rfl hc i [] se _ G (fun _ _ => False) Ie (stat Ie ne) ate stop) fun r sf ⟨er, If⟩ => ?_
      subst er
      have Ig : Inv X pins σ G sf := Ic.call' (ch := fp) If.os If.base If.hok If.bare fun b mb => ⟨(free' b mb).1.2.2.2.1, (free' b mb).1.2.1, (free' b mb).1.2.2.2.2.1, (free' b mb).1.2.2.2.2.2⟩
      have nC : G sc.heap.objs.size = none := by rw [← loc]; exact If.free
      obtain ⟨mm, hn, _⟩ := If.loc
      have hn' : sf.heap.Ns sc.heap.objs.size mm := by rw [← loc]; exact hn
      obtain ⟨f0, f1, f2, f3, f4, f5⟩ := Ic.fpOk (Nat.le_refl _) nC
      exact ⟨mm, hn', fun h'' sbt => ⟨.ref Z, G, Ig.turned (t' := sf.toks) (fun b o nb e => (sbt.2 b nb).trans e) f0 f1 f3 f4 f5, rfl, qq⟩⟩
    · refine thnF (T.item (X.blk sc HB scope ce fp) rfl rfl rfl hc i [] se _ G (fun _ _ => False) Ie (stat Ie ne) ate go) fun r sf ⟨u, er, hf⟩ => ?_
      subst er
      refine thnF hf fun _ sg ⟨x, Gg, Ig, rg, yg, atg, ng⟩ => ?_
      refine thnF (pg.run _ sg _ Gg x u _ (Ig.pinned (stat Ig ng) (T.obj _ _ atg)) rg (step x Gg yg)) fun _ sh ⟨σh, Gh, Ih, hwh, qh⟩ => ?_
      refine thnF (pt.run _ sh σh Gh _ Ih qh) fun b si ⟨Gi, Ii, qi⟩ => ?_
      have fin : ∀ {s' : Shared} {G' : Hp}, Inv (X.blk sc HB scope ce fp) ([] ++ pinsAt fp sg.heap) σh G' s' → Y G' → ∃ m, m < n ∧ ∃ i G, Inv (X.blk sc HB scope ce fp) [] (wipe σ (own.map (·.2))) G s' ∧ tn i s'.heap ∧ (∀ b ∈ fp, G b = none) ∧ W i m G := fun {s' G'} I' y => by
        obtain ⟨m', lt, w'⟩ := hY G' y
        obtain ⟨z1, z2, z3⟩ := turn_end T atg hwh I'
        exact ⟨m', lt, i + 1, G', z1, z2, z3, w'⟩
      cases b with
      | false =>
        rw [if_neg Bool.false_ne_true] at qi ⊢
        exact fin Ii qi
      | true =>
        rw [if_pos rfl] at qi ⊢
        refine thnF (pe.run _ si σh Gi _ Ii qi) fun z sj ⟨yv, Gj, Ij', rj, k, S, nn, ey, hZ, few, y⟩ => ?_
        subst ey
        obtain ⟨tk, rfl⟩ := rj
        exact add_int (X := X.blk sc HB scope ce fp) Ij' hZ few fun sk Ik => fin Ik y
  exact codeAny_compStart_set loop (T.self X.A 0 _ _ _ at2 loop)
/-- over a list that the block leaves as it is -/
theorem sc_listI {w : World} {K : PySem.W.Frag} {a : Addr} {xs : List V} {g : TG} {tt : TT} {te : TE} {vs : List Nat} {σ : L2.St} {Hj : Hp} {Z : Addr} {Qd : Hp → Prop} (Pv : Nat → Hp → Prop) (h0 : Pv 0 (upd Hj Z (SetO w Z (fun _ => false) 0))) (hl : ∀ i G, i ≤ xs.length → Pv i G → SqL K G a xs)
    (hs : ∀ i x G, xs[i]? = some x → Pv i G → g x (wipe σ vs) G fun σa Ga => wipe σa vs = wipe σ vs ∧ tt σa Ga fun b Gb =>
      if b = true then te σa Gb fun y Gc => ∃ (k : Int) (S : Int → Bool) (n : Nat), y = .int k ∧ Gc Z = some (SetO w Z S n) ∧ n + 1 < scanBound ∧ Pv (i + 1) (upd Gc Z (SetO w Z (fun j => S j || decide (j = k)) (if S k = true then n else n + 1))) else Pv (i + 1) Gb) (hd : ∀ G, Pv xs.length G → Qd G) :
    ∃ W : Nat → Nat → Hp → Prop, (∃ m, W 0 m (upd Hj Z (SetO w Z (fun _ => false) 0))) ∧ ∀ i m G, W i m G →
      ((Itl K a).stop i G ∧ Qd G) ∨ ((Itl K a).go i G ∧ ∃ Y : Hp → Prop, (∀ G', Y G' → ∃ m', m' < m ∧ W (i + 1) m' G') ∧ ∀ x G', (Itl K a).yld i G x G' → g x (wipe σ vs) G' fun σa Ga => wipe σa vs = wipe σ vs ∧ tt σa Ga fun b Gb =>
        if b = true then te σa Gb fun y Gc => ∃ (k : Int) (S : Int → Bool) (n : Nat), y = .int k ∧ Gc Z = some (SetO w Z S n) ∧ n + 1 < scanBound ∧ Y (upd Gc Z (SetO w Z (fun j => S j || decide (j = k)) (if S k = true then n else n + 1))) else Y Gb) := by
  have wk := walk_list (K := K) (a := a) (xs := xs)
  refine ⟨fun i m G => m = xs.length - i ∧ i ≤ xs.length ∧ Pv i G, ⟨xs.length, by omega, Nat.zero_le _, h0⟩, fun i m G ⟨em, le, p⟩ => ?_⟩
  have there := hl i G le p
  by_cases lt : i < xs.length
  · refine .inr ⟨wk.goes i G lt there, Pv (i + 1), fun G' p' => ⟨xs.length - (i + 1), by omega, rfl, lt, p'⟩, fun x G' y => ?_⟩
    obtain ⟨e, hx⟩ := wk.yields i G x G' lt there y
    subst e
    exact hs i x _ hx p
  · have e : i = xs.length := by omega
    subst e
    exact .inl ⟨wk.stops G there, hd G p⟩
end
end Wb

set_option Elab.async false
set_option linter.all false
set_option maxRecDepth 100000
set_option maxHeartbeats 8000000
set_option pp.maxSteps 900
set_option pp.deepTerms false
namespace Wb
open PySem PySem.Spec PyProof.Rows L2
def rNotInTD (K : PySem.W.Frag) : R2 := fun x y H Q => ∃ d ds, Dp K H x d ∧ Dp K H y (.tuple ds) ∧ SeqAt.shaped d = true ∧ SeqAt.shaped (.tuple ds) = true ∧ Q (.bl (!ds.any fun z => PyData.eqv z d)) H
def rLenSI (w : World) : List V → Hp → VK → Prop := fun xs H Q => ∃ (a : Addr) (S : Int → Bool) (n : Nat), xs = [V.ref a] ∧ H a = some (SetO w a S n) ∧ Q (.int (n : Nat)) H
section
variable {X : Cx}
theorem op_notInTD (hu : X.A.units + 65 < cLine) : OpR X (compareOp .NotIn) (rNotInTD X.K) := by
  intro pins s σ H x y v u Q I rx ry h
  obtain ⟨d, ds, hd, he, sd, se, q⟩ := h
  obtain ⟨as, r1⟩ := Dp.reads I d x v hd rx
  obtain ⟨bs, r2⟩ := Dp.reads I (.tuple ds) y u he ry
  have hcl : PyData.canLayAll0 ds = true := by
    have z := SeqAt.canLay_of_shaped se
    simpa [PyData.canLay0] using z
  have hdp := SeqAt.depth_of_shaped sd
  refine SeqAt.notIn_tuple_reads r2 r1 hcl (SeqAt.canLay_of_shaped sd) (by show X.A.units + 1 + min _ _ < cLine; omega) ⟨.bl _, H, I, rfl, q⟩
theorem call_lenSI : CallR X (.builtin "len") (rLenSI X.w) := by
  intro pins s σ H xs us Q I r h
  obtain ⟨a, S, n, rfl, ha, q⟩ := h
  rw [Vals.ref1 r]
  obtain ⟨o, es, ep, t, ho, hex, hd, _, _, _, sb, hf, hn, _⟩ := setO_get I ha
  refine call_len_set ho hex hd hf (by have sb2 : es.size < 4096 := sb; omega) ⟨.int (n : Nat), H, I.tok _, ⟨_, by rw [hn]⟩, q⟩
end
/-! ### places or none, as data -/
def oTD (o : Option Int) : PyData := match o with
  | none => .none
  | some q => .int q
theorem dp_oT {K : PySem.W.Frag} {H : Hp} (o : Option Int) : Dp K H (oT o) (oTD o) := by
  cases o with
  | none => exact .non
  | some q => exact .int q
theorem shaped_oTD (o : Option Int) : SeqAt.shaped (oTD o) = true := by
  cases o <;> simp [oTD, SeqAt.shaped, PyData.canLay0, PyData.depth]
theorem shaped_two (o o' : Option Int) : SeqAt.shaped (.tuple [oTD o, oTD o']) = true := by
  cases o <;> cases o' <;> simp [oTD, SeqAt.shaped, PyData.canLay0, PyData.canLayAll0, PyData.depth, PyData.depthAll]
theorem eqv_oT (o o' : Option Int) : PyData.eqv (oTD o) (oTD o') = decide (o = o') := by
  cases o with
  | none =>
    cases o' with
    | none => rfl
    | some q => rfl
  | some p =>
    cases o' with
    | none => rfl
    | some q =>
      simp only [oTD, PyData.eqv]
      by_cases e : p = q
      · subst e; simp
      · have : ¬ (some p = some q) := fun z => e (Option.some.inj z)
        rw [decide_eq_false this]
        simp [e]
/-- o in (a, b) -/
theorem any_two (a b o : Option Int) : ([oTD a, oTD b].any fun z => PyData.eqv z (oTD o)) = decide (o = a ∨ o = b) := by
  simp only [List.any_cons, List.any_nil, eqv_oT, Bool.or_false]
  by_cases e : a = o
  · rw [decide_eq_true e, decide_eq_true (Or.inl e.symm)]; rfl
  · by_cases e2 : b = o
    · rw [decide_eq_true e2, decide_eq_true (Or.inr e2.symm), Bool.or_true]
    · rw [decide_eq_false e, decide_eq_false e2, decide_eq_false (fun z => z.elim (fun y => e y.symm) (fun y => e2 y.symm))]; rfl
/-! ### layers_from -/
abbrev sLayers : Stmt := topS 34
abbrev nLayers : List Str := ["asked", "place", "layer", "found", "wanted"]
theorem scLayers : FnScope nLayers ["asked", "place", "layer"] (defScope sLayers) := ⟨rfl, rfl, rfl, by decide +kernel, rfl, by decide +kernel, by decide +kernel⟩
def okAt (place : Int) (o : Option Int) : Bool := decide (o = none ∨ o = some place)
def lfrom (asked : List (Option Int)) (place : Int) (layer : Nat) : List Nat := (List.range (((asked.drop layer).takeWhile (okAt place)).length + 1)).map fun i => layer + i
theorem tw_len {α : Type} {p : α → Bool} : ∀ {xs : List α} {i : Nat}, (∀ x ∈ xs.take i, p x = true) → i ≤ xs.length → (∀ x, xs[i]? = some x → p x = false) → (xs.takeWhile p).length = i
  | [], i, _, hi, _ => by simp at hi; subst hi; rfl
  | x :: xs, 0, _, _, h => by
    have := h x rfl
    rw [List.takeWhile_cons, this]; rfl
  | x :: xs, i + 1, h1, hi, h2 => by
    have hx := h1 x (by simp)
    rw [List.takeWhile_cons, hx]
    have := tw_len (p := p) (xs := xs) (i := i) (fun y hy => h1 y (by simp [hy])) (by simpa using hi) (fun y hy => h2 y (by simpa using hy))
    simp [this]
theorem lfrom_mem {asked : List (Option Int)} {place : Int} {layer c : Nat} (h : layer ≤ asked.length) : c ∈ lfrom asked place layer ↔ layer ≤ c ∧ c ≤ asked.length ∧ ∀ i o, layer ≤ i → i < c → asked[i]? = some o → okAt place o = true := by
  have key : ∀ k, k ≤ ((asked.drop layer).takeWhile (okAt place)).length ↔ k ≤ (asked.drop layer).length ∧ ∀ x ∈ (asked.drop layer).take k, okAt place x = true := by
    intro k
    induction asked.drop layer generalizing k with
    | nil => simp
    | cons x xs ih =>
      cases k with
      | zero => simp
      | succ k =>
        rw [List.takeWhile_cons]
        cases hx : okAt place x with
        | false => simp [hx]
        | true => simp [hx, ih k]
  unfold lfrom
  rw [List.mem_map]
  constructor
  · rintro ⟨i, hi, rfl⟩
    rw [List.mem_range] at hi
    obtain ⟨h1, h2⟩ := (key i).mp (by omega)
    rw [List.length_drop] at h1
    refine ⟨by omega, by omega, fun j o j1 j2 hj => ?_⟩
    refine h2 o (List.mem_of_getElem? (i := j - layer) ?_)
    rw [List.getElem?_take, if_pos (by omega), List.getElem?_drop, show layer + (j - layer) = j by omega]
    exact hj
  · rintro ⟨h1, h2, h3⟩
    refine ⟨c - layer, ?_, by omega⟩
    rw [List.mem_range]
    have := (key (c - layer)).mpr ⟨by rw [List.length_drop]; omega, fun x hx => ?_⟩
    · omega
    · obtain ⟨i, hi⟩ := List.mem_iff_getElem?.mp hx
      rw [List.getElem?_take] at hi
      by_cases ic : i < c - layer
      · rw [if_pos ic, List.getElem?_drop] at hi
        exact h3 (layer + i) x (by omega) (by omega) hi
      · rw [if_neg ic] at hi; cases hi
theorem lfrom_len (asked : List (Option Int)) (place : Int) (layer : Nat) : (lfrom asked place layer).length ≤ asked.length + 1 := by
  unfold lfrom
  rw [List.length_map, List.length_range]
  have := (List.takeWhile_sublist (okAt place) (l := asked.drop layer)).length_le
  rw [List.length_drop] at this
  omega
def spLayers (K : PySem.W.Frag) : Sp := fun vs H Q _ => ∃ (ak : Addr) (asked : List (Option Int)) (place : Int) (layer : Nat), vs = [.ref ak, .int place, .int (layer : Nat)] ∧ H ak = some (.lst (asked.map oT)) ∧ asked.length ≤ 10 ∧
  ∀ H' a, Evl.Ex H H' → H a = none → H' a = some (.lst (natsT (lfrom asked place layer))) → Q (.ref a) H'
/-! ### are_one -/
abbrev sAreOne : Stmt := topS 35
theorem scAreOne : FnScope ["places", "place"] ["places"] (defScope sAreOne) := ⟨rfl, rfl, rfl, by decide +kernel, rfl, by decide +kernel, by decide +kernel⟩
def oneP (os : List (Option Int)) : Prop := ∀ x y, some x ∈ os → some y ∈ os → x = y
def spAreOne : Sp := fun vs H Q _ => ∃ (a : Addr) (os : List (Option Int)), vs = [.ref a] ∧ H a = some (.lst (os.map oT)) ∧ os.length ≤ 20 ∧ ∀ H' b, Evl.Ex H H' → (b = true ↔ oneP os) → Q (.bl b) H'
section
variable {P : Program} {w : World} {K : PySem.W.Frag} {mg : Str → Option Value} {base : Heap}
theorem ok_layers {f : Addr} {fd : FuncData} (F : Fun K "layers_from" "layers_from" sLayers f fd) (B : Bi mg) : FnOk P w K mg base CX0 1 f fd ["asked", "place", "layer"] (spLayers K) := by
  refine F.ok scLayers (fun vs H Q E h => ?_) (fun cdv A outer s H vs Q E hr h => ?_)
  · obtain ⟨ak, asked, place, layer, rfl, _⟩ := h; rfl
  · obtain ⟨ak, asked, place, layer, rfl, hak, a10, q⟩ := h
    have hu65 : A.units + 3 + 65 < cLine := by
      have := hr.un
      have : (A.deeper (envOfC "layers_from" (defScope sLayers) s.heap.objs.size f cdv)).units = A.units + 3 := rfl
      omega
    refine ⟨_, (pss_cons (ps_set (i := 3) scLayers.nd rfl (.inl rfl) (pe_lst (pa_cons (pv 2) pa_nil)))
      (pss_cons (ps_for PassesOwn.never rfl (pi_list (pe_slice sl_list (pv 0) (po_some (pv 2)) po_none)) (pg_name (i := 4) scLayers.nd rfl (.inl rfl))
        (pss_cons (ps_if (pt_cmpR (op_notInTD hu65) (pv 4) (pe_tup (pa_cons pe_non (pa_cons (pv 1) pa_nil))) rfl) (pss_one ps_break) pss_nil)
        (pss_one (ps_expr (pe_bm PySem.F.plainAttrs_list PySem.F.slot_list_append PySem.F.type_list_append mt_append (pv 3) (pa_cons (pe_op op_add (pe_ix (r := rIxL K) ix_list (pv 3) (pe_un un_neg pe_int) (fun _ _ => rfl)) pe_int) pa_nil))))))
      (pss_one (ps_ret (pv 3))))), ?_⟩
    refine ⟨.int (layer : Nat), rfl, (by show 1 ≤ sizeLine; decide), fun fl nfl => ?_⟩
    have e1 := Evl.Ex.new (o := .lst [.int (layer : Nat)]) nfl
    have k1 : (upd H fl (.lst [.int (layer : Nat)])) fl = some (.lst [.int (layer : Nat)]) := upd_same
    generalize upd H fl (.lst [.int (layer : Nat)]) = H1 at e1 k1
    refine ⟨.ref ak, rfl, .int (layer : Nat), rfl, (layer : Nat), rfl, ak, _, rfl, SqL.of (e1 _ _ hak), fun zl nzl => ?_⟩
    have ec : cutV (asked.map oT) (some ((layer : Nat) : Int)) none = (asked.drop layer).map oT := by
      rw [List.map_drop]
      by_cases c : layer ≤ (asked.map oT).length
      · unfold cutV
        rw [HT.sIx_none, HT.sIx_nat]
        rw [List.take_of_length_le]
        · congr 1
          omega
        · rw [List.length_drop]
          omega
      · unfold cutV
        rw [HT.sIx_none, HT.sIx_nat, List.drop_eq_nil_of_le (by omega), List.drop_eq_nil_of_le (by omega), List.take_nil]
    rw [ec]
    have e2 := Evl.Ex.new (o := .lst ((asked.drop layer).map oT)) nzl
    have k2 : (upd H1 zl (.lst ((asked.drop layer).map oT))) zl = some (.lst ((asked.drop layer).map oT)) := upd_same
    have nzf : zl ≠ fl := fun z => by rw [z, k1] at nzl; cases nzl
    generalize upd H1 zl (.lst ((asked.drop layer).map oT)) = H2 at e2 k2
    have dl : (asked.drop layer).length ≤ 10 := by rw [List.length_drop]; omega
    refine ⟨zl, rfl, ⟨_, SqL.of k2⟩, ?_⟩
    refine for_list (K := K) (a := zl) (xs := (asked.drop layer).map oT) (fun i σ H' => ∃ y4 : Option V, σ = [some (.ref ak), some (.int place), some (.int (layer : Nat)), some (.ref fl), y4] ∧ Evl.Ex H H' ∧ H' zl = some (.lst ((asked.drop layer).map oT)) ∧ H' fl = some (.lst (natsT ((List.range (i + 1)).map fun j => layer + j))) ∧ ∀ x ∈ (asked.drop layer).take i, okAt place x = true)
      ⟨none, rfl, e1.trans e2, k2, e2 _ _ k1, fun x hx => by simp at hx⟩ ?_ ?_ ?_
    · rintro i σ H' _ ⟨_, _, _, h, _⟩
      exact SqL.of h
    · rintro i x σ H3 hx ⟨y4, rfl, e3, hz3, hf3, hok⟩
      obtain ⟨o, ho, rfl⟩ : ∃ o, (asked.drop layer)[i]? = some o ∧ x = oT o := by
        rw [List.getElem?_map] at hx
        cases ho : (asked.drop layer)[i]? with
        | none => rw [ho] at hx; cases hx
        | some o => rw [ho] at hx; exact ⟨o, rfl, (Option.some.inj hx).symm⟩
      have il : i < (asked.drop layer).length := (List.getElem?_eq_some_iff.mp ho).1
      refine ⟨oT o, rfl, .int place, rfl, (by show 2 ≤ sizeLine; decide), fun t nt => ?_⟩
      have e4 := Evl.Ex.new (o := .tup [.non, .int place]) nt
      have k4 : (upd H3 t (.tup [.non, .int place])) t = some (.tup [.non, .int place]) := upd_same
      generalize upd H3 t (.tup [.non, .int place]) = H4 at e4 k4
      refine ⟨oTD o, [oTD none, oTD (some place)], dp_oT o, .tup (SqT.of k4) (.cons .non (.cons (.int _) .nil)), shaped_oTD o, shaped_two none (some place), _, rfl, ?_⟩
      rw [any_two]
      have ok' : okAt place o = decide (o = none ∨ o = some place) := rfl
      refine ite2 (fun hc => ?_) (fun hc => ?_)
      · have no : okAt place o = false := by rw [ok']; simpa using hc
        have hlen := tw_len hok (by omega) (fun z hz => by rw [ho] at hz; cases hz; exact no)
        refine ⟨.ref fl, rfl, q H4 fl (e3.trans e4) nfl ?_⟩
        unfold lfrom
        rw [hlen]
        exact e4 _ _ hf3
      · have yes : okAt place o = true := by
          rw [ok']
          cases hd : decide (o = none ∨ o = some place) with
          | true => rfl
          | false => rw [hd] at hc; exact absurd rfl hc
        have hf4 := e4 _ _ hf3
        have en : natsT ((List.range (i + 1)).map fun j => layer + j) = natsT ((List.range i).map fun j => layer + j) ++ [V.int ((layer + i : Nat) : Int)] := by
          unfold natsT
          rw [List.range_succ, List.map_append, List.map_append]; rfl
        have hl : (natsT ((List.range (i + 1)).map fun j => layer + j)).length = i + 1 := by unfold natsT; rw [List.length_map, List.length_map, List.length_range]
        refine ⟨.ref fl, rfl, .inl ⟨rfl, _, SqL.of hf4⟩, .ref fl, rfl, 1, rfl, fl, _, -1, .int ((layer + i : Nat) : Int), rfl, rfl, SqL.of hf4, (by rw [en]; exact atI_last _ _), ((layer + i : Nat) : Int), 1, rfl, rfl, fl, _, _, rfl, rfl, hf4, Nat.lt_of_le_of_lt (by rw [hl]; omega : (natsT ((List.range (i + 1)).map fun j => layer + j)).length ≤ 11) (by decide), ?_⟩
        have nf0 : H fl = none := nfl
        refine ⟨_, rfl, (e3.trans e4).mut nf0, by rw [upd_ne nzf]; exact e4 _ _ hz3, ?_, fun z hz => ?_⟩
        · rw [upd_same]
          have : natsT ((List.range (i + 1 + 1)).map fun j => layer + j) = natsT ((List.range (i + 1)).map fun j => layer + j) ++ [V.int (((layer + i : Nat) : Int) + 1)] := by
            unfold natsT
            rw [List.range_succ (n := i + 1), List.map_append, List.map_append]
            rfl
          rw [this]
        · rw [take_succ_get ho] at hz
          rcases List.mem_append.mp hz with h | h
          · exact hok z h
          · rw [List.mem_singleton.mp h]; exact yes
    · rintro σ H3 ⟨y4, rfl, e3, hz3, hf3, hok⟩
      rw [List.length_map] at hok hf3
      have hlen := tw_len hok (Nat.le_refl _) (fun z hz => by rw [List.getElem?_eq_none (Nat.le_refl _)] at hz; cases hz)
      refine ⟨.ref fl, rfl, q H3 fl e3 nfl ?_⟩
      unfold lfrom
      rw [hlen]
      exact hf3
theorem ok_areOne {f : Addr} {fd : FuncData} (F : Fun K "are_one" "are_one" sAreOne f fd) (B : Bi mg) : FnOk P w K mg base CX0 1 f fd ["places"] spAreOne := by
  refine F.ok scAreOne (fun vs H Q E h => ?_) (fun cdv A outer s H vs Q E hr h => ?_)
  · obtain ⟨a, os, rfl, _⟩ := h; rfl
  · obtain ⟨a, os, rfl, ha, o20, q⟩ := h
    refine ⟨_, pss_one (ps_ret (pe_cmpR op_le (pe_callB (r := rLenSI w) call_lenSI (by rfl) B.len PySem.boot_len (pa_cons (pe_scI (own := [("place", 1)]) (wi := iList K (tVar 0)) (g := gName 1) (te := tVar 1) rfl scAreOne.nd (pi_list (pv 0)) (blkOk_by (own := [("place", 1)]) (N := ["places", "place"]) (sc := defScope sAreOne) (by decide +kernel))
      (fun _ _ _ _ _ => pg_name (i := 1) scAreOne.nd rfl (Or.inl rfl)) (fun _ _ _ _ _ => pts_one (pt_cmpR op_notN (pv 1) pe_non (nomark _))) (fun _ _ _ _ _ => pv 1)) pa_nil)) pe_int (nomark _))), ?_⟩
    refine ⟨.ref a, rfl, a, rfl, ⟨_, SqL.of ha⟩, fun Z nZ => ?_⟩
    refine sc_listI (K := K) (a := a) (xs := os.map oT) (fun i G => ∃ (S : Int → Bool) (n : Nat) (us : List Int), Evl.Ex H G ∧ G Z = some (SetO w Z S n) ∧ us.Nodup ∧ us.length = n ∧ n ≤ i ∧ (∀ k, S k = true ↔ k ∈ us) ∧ ∀ k, k ∈ us ↔ some k ∈ os.take i)
      ⟨_, 0, [], Evl.Ex.new nZ, upd_same, List.nodup_nil, rfl, Nat.le_refl _, fun k => by simp, fun k => by simp⟩ ?_ ?_ ?_
    · rintro i G _ ⟨_, _, _, e, _⟩
      exact SqL.of (e _ _ ha)
    · rintro i x G hx ⟨S, n, us, eG, hG, nd, ul, ni, hS, hm⟩
      obtain ⟨o, ho, rfl⟩ : ∃ o, os[i]? = some o ∧ x = oT o := by
        rw [List.getElem?_map] at hx
        cases ho : os[i]? with
        | none => rw [ho] at hx; cases hx
        | some o => rw [ho] at hx; exact ⟨o, rfl, (Option.some.inj hx).symm⟩
      have il : i < os.length := (List.getElem?_eq_some_iff.mp ho).1
      refine ⟨rfl, oT o, rfl, rfl, _, rfl, ?_⟩
      cases o with
      | none =>
        refine iteF ?_
        refine ⟨S, n, us, eG, hG, nd, ul, by omega, hS, fun k => ?_⟩
        rw [hm, take_succ_get ho]
        simp
      | some z =>
        refine iteT ?_
        refine ⟨.int z, rfl, z, S, n, rfl, hG, Nat.lt_of_le_of_lt (by omega : n + 1 ≤ 21) (by decide), ?_⟩
        by_cases c : S z = true
        · refine ⟨fun j => S j || decide (j = z), n, us, eG.mut nZ, ?_, nd, ul, by omega, fun k => ?_, fun k => ?_⟩
          · rw [upd_same, if_pos c]; rfl
          · show (S k || decide (k = z)) = true ↔ _
            rw [Bool.or_eq_true, decide_eq_true_eq]
            constructor
            · rintro (h | rfl)
              · exact (hS k).mp h
              · exact (hS k).mp c
            · exact fun h => .inl ((hS k).mpr h)
          · rw [hm, take_succ_get ho]
            have hz := (hm z).mp ((hS z).mp c)
            simp only [List.mem_append, List.mem_singleton, Option.some.injEq]
            constructor
            · exact fun h => .inl h
            · rintro (h | rfl)
              · exact h
              · exact hz
        · have nz : z ∉ us := fun h => c ((hS z).mpr h)
          refine ⟨fun j => S j || decide (j = z), n + 1, us ++ [z], eG.mut nZ, ?_, ?_, by rw [List.length_append, List.length_singleton, ul], by omega, fun k => ?_, fun k => ?_⟩
          · rw [upd_same, if_neg c]; rfl
          · rw [List.nodup_append]
            exact ⟨nd, by simp, fun y hy b hb e => by rw [List.mem_singleton.mp hb] at e; exact nz (e ▸ hy)⟩
          · show (S k || decide (k = z)) = true ↔ _
            rw [Bool.or_eq_true, decide_eq_true_eq, hS, List.mem_append, List.mem_singleton]
          · rw [List.mem_append, hm, take_succ_get ho]
            simp
    · rintro G ⟨S, n, us, eG, hG, nd, ul, ni, hS, hm⟩
      rw [List.length_map, List.take_length] at hm
      refine ⟨Z, S, n, rfl, hG, (n : Nat), 1, rfl, rfl, q G _ eG ?_⟩
      rw [decide_eq_true_eq]
      constructor
      · intro le x y hx hy
        have mx := (hm x).mpr hx
        have my := (hm y).mpr hy
        match us, ul, mx, my with
        | [], _, mx, _ => cases mx
        | [u], _, mx, my => rw [List.mem_singleton.mp mx, List.mem_singleton.mp my]
        | _ :: _ :: _, ul, _, _ => simp at ul; omega
      · intro one
        match us, ul, hm, nd with
        | [], ul, _, _ => simp at ul; omega
        | [u], ul, _, _ => simp at ul; omega
        | u :: v :: us, ul, hm, nd =>
          have e := one u v ((hm u).mp (by simp)) ((hm v).mp (by simp))
          rw [e] at nd
          simp at nd
end
end Wb

set_option Elab.async false
set_option linter.all false
set_option maxRecDepth 100000
set_option maxHeartbeats 8000000
set_option pp.maxSteps 900
set_option pp.deepTerms false
namespace Wb
open PySem PySem.Spec PyProof.Rows L2
/-! ### hops_from, hops_to -/
abbrev nHopsF : List Str := ["self", "place", "layer", "met", "number", "hop"]
theorem scHopsF : FnScope nHopsF ["self", "place", "layer"] (defScope sHopsF) := ⟨rfl, rfl, rfl, by decide +kernel, rfl, by decide +kernel, by decide +kernel⟩
abbrev nHopsT : List Str := ["self", "end", "_", "last", "upto", "number", "hop"]
theorem scHopsT : FnScope nHopsT ["self", "end"] (defScope sHopsT) := ⟨rfl, rfl, rfl, by decide +kernel, rfl, by decide +kernel, by decide +kernel⟩
/-- what is at hand while a level is made -/
structure LevH (NV : Hp → V → Prop) (C : Addr) (H : Hp) (lv : Addr) (L : Nat) (hops : List HopN) (onward : List (List (List Nat))) : Prop where
  at_ : ∃ (dx : Addr) (fs : List (Str × V)) (hp on : Addr) (hvs ovs : List V), H lv = some (.ins C dx fs) ∧ NoMeth fs ∧ fs.lookup ("layers" : Str) = some (V.int (L : Nat)) ∧ (fs.lookup ("hops" : Str) = some (V.ref hp) ∧ H hp = some (.lst hvs) ∧ Paired (HopT NV H) hvs hops) ∧
    (fs.lookup ("onward" : Str) = some (V.ref on) ∧ H on = some (.lst ovs) ∧ Paired (Ints2 H) ovs onward)
theorem LevT.levH {NV : Hp → V → Prop} {At : Hp → Addr → Prop} {C : Addr} {H : Hp} {lv : Addr} {D : LvD} (h : LevT NV At C H lv D) : LevH NV C H lv (D.asked.length + 1) D.hops D.onward := by
  obtain ⟨dx, fs, bl, ak, en, nt, hp, on, nxx, ls, rvs, evs, hvs, ovs, nvs, lvs, h1, h2, _, _, _, _, _, b3, b4, b7, _⟩ := h.at_
  exact ⟨dx, fs, hp, on, hvs, ovs, h1, h2, b3, b4, b7⟩
/-- the layers that can be come to at a place from a layer -/
def on2 (on : List (List (List Nat))) (p : Int) (c : Nat) : List Nat := (((on[p.toNat]?).getD [])[c]?).getD []
def hfrom (hops : List HopN) (L : Nat) (place : Int) (met : List Nat) : List Nat := (List.range hops.length).filter fun n => match hops[n]? with
  | some h => decide (h.frm = place) && decide (n % L ∈ met)
  | none => false
def htoE (hops : List HopN) (on : List (List (List Nat))) (L : Nat) (e : EndN) : List Nat := (List.range hops.length).filter fun n => match hops[n]? with
  | some h => decide (e.last = none ∨ e.last = some h.to_) && decide (e.upto ∈ on2 on h.to_ (n % L))
  | none => false
theorem any_nats (ns : List Nat) (x : Nat) : ((ns.map fun n => PyData.int (n : Nat)).any fun z => PyData.eqv z (.int (x : Nat))) = decide (x ∈ ns) := by
  rw [List.any_map, Bool.eq_iff_iff]
  simp only [List.any_eq_true, Function.comp, PyData.eqv, decide_eq_true_eq]
  constructor
  · rintro ⟨y, hy, e⟩
    have : (y : Int) = (x : Int) := by simpa using e
    have : y = x := by omega
    rw [← this]; exact hy
  · intro h
    exact ⟨x, h, by simp⟩
theorem dp_natsT {K : PySem.W.Frag} {H : Hp} : ∀ ks : List Nat, DpAll K H (natsT ks) (ks.map fun k => PyData.int (k : Nat))
  | [] => .nil
  | x :: bk => .cons (.int _) (dp_natsT bk)
theorem shaped_nats (ks : List Nat) : SeqAt.shaped (.list (ks.map fun k => PyData.int (k : Nat))) = true := by
  have := ints_shapedT (ks.map fun k => ((k : Nat) : Int))
  rw [List.map_map] at this
  exact this
  where
  ints_shapedT (ns : List Int) : SeqAt.shaped (.list (ns.map PyData.int)) = true := by
    have h1 : ∀ ns : List Int, PyData.canLayAll0 (ns.map PyData.int) = true := by
      intro ns
      induction ns with
      | nil => rfl
      | cons n ns ih => simp [PyData.canLayAll0, PyData.canLay0, ih]
    have h2 : ∀ ns : List Int, PyData.depthAll (ns.map PyData.int) ≤ 1 := by
      intro ns
      induction ns with
      | nil => simp [PyData.depthAll]
      | cons n ns ih => simp [PyData.depthAll, PyData.depth]; omega
    unfold SeqAt.shaped
    simp only [PyData.canLay0, PyData.depth, h1, Bool.true_and]
    have := h2 ns
    exact decide_eq_true (by omega)
theorem shaped_i (i : Int) : SeqAt.shaped (.int i) = true := by simp [SeqAt.shaped, PyData.canLay0, PyData.depth]
def spHopsF (NV : Hp → V → Prop) (C : Addr) : Sp := fun vs H Q _ => ∃ (lv : Addr) (place layer L : Nat) (hops : List HopN) (on : List (List (List Nat))), vs = [.ref lv, .int (place : Nat), .int (layer : Nat)] ∧ LevH NV C H lv L hops on ∧ 1 ≤ L ∧ hops.length ≤ 1000 ∧ (∃ row, on[place]? = some row ∧ layer < row.length) ∧
  ∀ H' a, Evl.Ex H H' → H a = none → H' a = some (.lst (natsT (hfrom hops L (place : Nat) (on2 on (place : Nat) layer)))) → Q (.ref a) H'
def spHopsT (NV : Hp → V → Prop) (C : Addr) : Sp := fun vs H Q _ => ∃ (lv : Addr) (v : V) (e : EndN) (L : Nat) (hops : List HopN) (on : List (List (List Nat))), vs = [.ref lv, v] ∧ EndNT H v e ∧ LevH NV C H lv L hops on ∧ 1 ≤ L ∧ hops.length ≤ 1000 ∧ (∀ h ∈ hops, ∃ p row, h.to_ = (p : Nat) ∧ on[p]? = some row ∧ row.length = L) ∧
  ∀ H' a, Evl.Ex H H' → H a = none → H' a = some (.lst (natsT (htoE hops on L e))) → Q (.ref a) H'
section
variable {P : Program} {w : World} {K : PySem.W.Frag} {mg : Str → Option Value} {base : Heap}
theorem filter_snocF {p : Nat → Bool} {i : Nat} (b : Bool) (h : p i = b) : natsT ((List.range (i + 1)).filter p) = natsT ((List.range i).filter p) ++ (if b = true then [V.int (i : Nat)] else []) := by
  unfold natsT
  rw [List.range_succ, List.filter_append, List.filter_cons, h, List.map_append]
  cases b <;> rfl
theorem ok_hopsF {NV : Hp → V → Prop} (nx : ∀ H H' v, Evl.Ex H H' → NV H v → NV H' v) (L : LvC K mg) (B : Bi mg) : FnOk P w K mg base CX0 1 L.f2 L.d2 ["self", "place", "layer"] (spHopsF NV L.C) := by
  refine L.F2.ok scHopsF (fun vs H Q E h => ?_) (fun cdv A outer s H vs Q E hr h => ?_)
  · obtain ⟨lv, place, layer, n, hops, on, rfl, _⟩ := h; rfl
  · obtain ⟨lv, place, layer, n, hops, on, rfl, hL, l1, h1000, ⟨row, hrow, hlay⟩, q⟩ := h
    have hu65 : A.units + 3 + 65 < cLine := by
      have := hr.un
      have : (A.deeper (envOfC "Level.hops_from" (defScope sHopsF) s.heap.objs.size L.f2 cdv)).units = A.units + 3 := rfl
      omega
    refine ⟨_, (pss_cons (ps_set (i := 3) scHopsF.nd rfl (.inr rfl) (pe_ix (r := rIxL K) ix_list (pe_ix (r := rIxL K) ix_list (pe_fld (pv 0) rfl) (pv 1) (fun _ _ => rfl)) (pv 2) (fun _ _ => rfl)))
      (pss_one (ps_ret (pe_lc (own := [("number", 4), ("hop", 5)]) (g := gTup K 2 (gCons (gName 4) (gCons (gName 5) gNil))) (te := tVar 4) (tt := tAnd (tTest (tOp rEq (tOp (rIxT K) (tVar 5) (tC (.int 1))) (tVar 1))) (tTest (tOp (rInD K) (tOp (rI (fun _ j => 0 < j) fun i j => .int (i % j)) (tVar 4) (tFld K (tVar 0) "layers")) (tVar 3)))) rfl scHopsF.nd (pi_enum (by rfl) B.enum (pa_cons (pe_fld (pv 0) rfl) pa_nil)) (blkOk_by (own := [("number", 4), ("hop", 5)]) (N := nHopsF) (sc := defScope sHopsF) (by decide +kernel))
        (fun _ _ _ _ _ => pg_tup rfl (pgs_cons (pg_name (i := 4) scHopsF.nd rfl (Or.inl rfl)) (pgs_cons (pg_name (i := 5) scHopsF.nd rfl (Or.inl rfl)) pgs_nil)))
        (fun _ _ _ _ _ => pts_one (PW.pt (pw_and (pt_cmpR op_eq (pe_ix (r := rIxT K) ix_tup (pv 5) pe_int (fun _ _ => rfl)) (pv 1) (nomark _)) (pw_and1 (pt_cmpR (r := rInD K) (op_inD hu65) (pe_op op_mod (pv 4) (pe_fld (pv 0) rfl)) (pv 3) rfl)))))
        (fun _ _ _ _ _ => pv 4))))), ?_⟩
    obtain ⟨dx, fs, hp, onA, hvs, ovs, i1, i2, i3, ⟨i4, i5, i6⟩, ⟨i7, i8, i9⟩⟩ := hL.at_
    obtain ⟨rv, hrv, ⟨ra, rvs, rfl, hra, hrp⟩⟩ := Paired.get2 i9 hrow
    obtain ⟨met, hmet⟩ : ∃ met, row[layer]? = some met := ⟨_, List.getElem?_eq_getElem hlay⟩
    obtain ⟨mv, hmv, ⟨ma, rfl, hma⟩⟩ := Paired.get2 hrp hmet
    have on_eq : on2 on (place : Nat) layer = met := by
      unfold on2
      rw [Int.toNat_natCast, hrow]
      show (row[layer]?).getD [] = met
      rw [hmet]; rfl
    rw [on_eq] at q
    have hl : hvs.length = hops.length := Paired.len i6
    refine ⟨.ref lv, rfl, lv, L.C, dx, fs, .ref onA, rfl, i1, L.cl, L.n8, i7, .int (place : Nat), rfl, onA, ovs, (place : Nat), .ref ra, rfl, rfl, SqL.of i8, atI_nat hrv, .int (layer : Nat), rfl, ra, rvs, (layer : Nat), .ref ma, rfl, rfl, SqL.of hra, atI_nat hmv, ?_⟩
    refine ⟨.ref lv, rfl, lv, L.C, dx, fs, .ref hp, rfl, i1, L.cl, L.n7, i4, hp, hvs, rfl, SqL.of i5, fun Dl nD => ?_⟩
    refine lc_it (walk_enum (K := K) (a := hp) (xs := hvs)) (fun i H' => Evl.Ex H H' ∧ H' Dl = some (.lst (natsT ((List.range i).filter fun m => match hops[m]? with
        | some h => decide (h.frm = (place : Nat)) && decide (m % n ∈ met)
        | none => false)))) ⟨Evl.Ex.new nD, upd_same⟩ ?_ ?_ ?_
    · rintro i H' _ ⟨e, _⟩
      exact SqL.of (e _ _ i5)
    · rintro i x H1 H' hi ⟨e1, hD1⟩ ⟨Tt, x1, x2, rfl, nT, rfl, ex1, ey1⟩
      cases ex1
      obtain ⟨h, hh, ⟨ha, hn, rfl, hha, _⟩⟩ := Paired.get1 i6 ey1
      have e2 := Evl.Ex.new (o := .tup [.int (i : Nat), .ref ha]) nT
      have gT : (upd H1 Tt (.tup [.int (i : Nat), .ref ha])) Tt = some (.tup [.int (i : Nat), .ref ha]) := upd_same
      generalize upd H1 Tt (.tup [.int (i : Nat), .ref ha]) = H2 at e2 gT
      have e02 := e1.trans e2
      have hD2 := e2 _ _ hD1
      refine ⟨Tt, _, rfl, SqT.of gT, rfl, _, _, rfl, _, _, rfl, rfl, rfl, ?_⟩
      refine ⟨.ref ha, rfl, ha, _, 1, .int h.frm, rfl, rfl, SqT.of (e02 _ _ hha), atI_nat (j := 1) rfl, .int (place : Nat), rfl, rfl, _, rfl, ?_⟩
      have pe : (match hops[i]? with
        | some h => decide (h.frm = (place : Nat)) && decide (i % n ∈ met)
        | none => false) = (decide (h.frm = (place : Nat)) && decide (i % n ∈ met)) := by rw [hh]
      have skip : (decide (h.frm = (place : Nat)) && decide (i % n ∈ met)) = false → ∀ {Hx : Hp}, Evl.Ex H2 Hx → Evl.Ex H Hx ∧ Hx Dl = some (.lst (natsT ((List.range (i + 1)).filter fun m => match hops[m]? with
        | some h => decide (h.frm = (place : Nat)) && decide (m % n ∈ met)
        | none => false))) := fun no {Hx} ex => ⟨e02.trans ex, by rw [filter_snocF false (pe.trans no), if_neg Bool.false_ne_true, List.append_nil]; exact ex _ _ hD2⟩
      refine ite2 (fun hc => ?_) (fun hc => ?_)
      · have hf : h.frm = (place : Nat) := V.int.inj (of_decide_eq_true hc)
        refine ⟨.int (i : Nat), rfl, .ref lv, rfl, lv, L.C, dx, fs, .int (n : Nat), rfl, e02 _ _ i1, L.cl, L.n6, i3, (i : Nat), (n : Nat), rfl, rfl, (by omega), .ref ma, rfl, ?_⟩
        have em : ((i : Nat) : Int) % ((n : Nat) : Int) = ((i % n : Nat) : Int) := by omega
        dsimp only
        rw [em]
        refine ⟨.int ((i % n : Nat) : Int), met.map fun k => PyData.int (k : Nat), .int _, .lst (SqL.of (e02 _ _ hma)) (dp_natsT met), shaped_i _, shaped_nats met, _, rfl, ?_⟩
        rw [any_nats]
        refine ite2 (fun hc2 => ?_) (fun hc2 => skip (by rw [decide_eq_false (fun z => hc2 (decide_eq_true z)), Bool.and_false]) (Evl.Ex.refl H2))
        have yes : (decide (h.frm = (place : Nat)) && decide (i % n ∈ met)) = true := by rw [decide_eq_true hf, hc2]; rfl
        refine ⟨.int (i : Nat), rfl, _, hD2, Nat.lt_of_le_of_lt (by unfold natsT; rw [List.length_map]; exact Nat.le_trans (List.length_filter_le _ _) (by rw [List.length_range]; omega) : (natsT ((List.range i).filter fun m => match hops[m]? with
          | some h => decide (h.frm = (place : Nat)) && decide (m % n ∈ met)
          | none => false)).length ≤ 1000) (by decide), e02.mut nD, ?_⟩
        rw [upd_same, filter_snocF true (pe.trans yes), if_pos rfl]
      · exact skip (by rw [decide_eq_false (fun z => hc (by rw [z]; exact decide_eq_true rfl)), Bool.false_and]) (Evl.Ex.refl H2)
    · rintro H1 ⟨e1, hD1⟩
      rw [hl] at hD1
      exact q H1 Dl e1 nD hD1
theorem ok_hopsT {NV : Hp → V → Prop} (nx : ∀ H H' v, Evl.Ex H H' → NV H v → NV H' v) (L : LvC K mg) (B : Bi mg) : FnOk P w K mg base CX0 1 L.f3 L.d3 ["self", "end"] (spHopsT NV L.C) := by
  refine L.F3.ok scHopsT (fun vs H Q E h => ?_) (fun cdv A outer s H vs Q E hr h => ?_)
  · obtain ⟨lv, v, en, n, hops, on, rfl, _⟩ := h; rfl
  · obtain ⟨lv, v, en, n, hops, on, rfl, ⟨ea, rfl, hea⟩, hL, l1, h1000, hok, q⟩ := h
    have hu65 : A.units + 3 + 65 < cLine := by
      have := hr.un
      have : (A.deeper (envOfC "Level.hops_to" (defScope sHopsT) s.heap.objs.size L.f3 cdv)).units = A.units + 3 := rfl
      omega
    refine ⟨_, (Evl.pss_cut (ps_asg (pv 1) (pg_tup rfl (pgs_cons (pg_name (i := 2) scHopsT.nd rfl (.inl rfl)) (pgs_cons (pg_name (i := 3) scHopsT.nd rfl (.inr rfl)) (pgs_cons (pg_name (i := 4) scHopsT.nd rfl (.inr rfl)) pgs_nil)))))
      (pss_one (ps_ret (pe_lc (own := [("number", 5), ("hop", 6)]) (g := gTup K 2 (gCons (gName 5) (gCons (gName 6) gNil))) (te := tVar 5) (tt := tAnd (tTest (tOp (rInTD K) (tVar 3) (tTup (tCons (tC .non) (tCons (tOp (rIxT K) (tVar 6) (tC (.int 2))) tNil))))) (tTest (tOp (rInD K) (tVar 4) (tOp (rIxL K) (tOp (rIxL K) (tFld K (tVar 0) "onward") (tOp (rIxT K) (tVar 6) (tC (.int 2)))) (tOp (rI (fun _ j => 0 < j) fun i j => .int (i % j)) (tVar 5) (tFld K (tVar 0) "layers")))))) rfl scHopsT.nd (pi_enum (by rfl) B.enum (pa_cons (pe_fld (pv 0) rfl) pa_nil)) (blkOk_by (own := [("number", 5), ("hop", 6)]) (N := nHopsT) (sc := defScope sHopsT) (by decide +kernel))
        (fun _ _ _ _ _ => pg_tup rfl (pgs_cons (pg_name (i := 5) scHopsT.nd rfl (Or.inl rfl)) (pgs_cons (pg_name (i := 6) scHopsT.nd rfl (Or.inl rfl)) pgs_nil)))
        (fun _ _ _ _ _ => pts_one (PW.pt (pw_and (pt_cmpR (r := rInTD K) (op_inTD hu65) (pv 3) (pe_tup (pa_cons pe_non (pa_cons (pe_ix (r := rIxT K) ix_tup (pv 6) pe_int (fun _ _ => rfl)) pa_nil))) rfl) (pw_and1 (pt_cmpR (r := rInD K) (op_inD hu65) (pv 4) (pe_ix (r := rIxL K) ix_list (pe_ix (r := rIxL K) ix_list (pe_fld (pv 0) rfl) (pe_ix (r := rIxT K) ix_tup (pv 6) pe_int (fun _ _ => rfl)) (fun _ _ => rfl)) (pe_op op_mod (pv 5) (pe_fld (pv 0) rfl)) (fun _ _ => rfl)) rfl)))))
        (fun _ _ _ _ _ => pv 5))))), ?_⟩
    obtain ⟨dx, fs, hp, onA, hvs, ovs, i1, i2, i3, ⟨i4, i5, i6⟩, ⟨i7, i8, i9⟩⟩ := hL.at_
    have hl : hvs.length = hops.length := Paired.len i6
    refine ⟨fun σ H' => σ = [some (.ref lv), some (.ref ea), some (.int (en.col : Nat)), some (oT en.last), some (.int (en.upto : Nat)), none, none] ∧ H' = H, ?_, ?_⟩
    · refine ⟨.ref ea, rfl, ea, _, rfl, SqT.of hea, rfl, _, _, rfl, _, _, rfl, _, _, rfl, rfl, ?_⟩
      exact ⟨rfl, rfl⟩
    rintro _ H0 ⟨rfl, rfl⟩
    refine ⟨.ref lv, rfl, lv, L.C, dx, fs, .ref hp, rfl, i1, L.cl, L.n7, i4, hp, hvs, rfl, SqL.of i5, fun Dl nD => ?_⟩
    refine lc_it (walk_enum (K := K) (a := hp) (xs := hvs)) (fun i H' => Evl.Ex H0 H' ∧ H' Dl = some (.lst (natsT ((List.range i).filter fun m => match hops[m]? with
        | some h => decide (en.last = none ∨ en.last = some h.to_) && decide (en.upto ∈ on2 on h.to_ (m % n))
        | none => false)))) ⟨Evl.Ex.new nD, upd_same⟩ ?_ ?_ ?_
    · rintro i H' _ ⟨e, _⟩
      exact SqL.of (e _ _ i5)
    · rintro i x H1 H' hi ⟨e1, hD1⟩ ⟨Tt, x1, x2, rfl, nT, rfl, ex1, ey1⟩
      cases ex1
      obtain ⟨h, hh, ⟨ha, hn, rfl, hha, _⟩⟩ := Paired.get1 i6 ey1
      obtain ⟨pl, row, hto, hrow, rowl⟩ := hok h (List.mem_of_getElem? hh)
      obtain ⟨rv, hrv, ⟨ra, rvs, rfl, hra, hrp⟩⟩ := Paired.get2 i9 hrow
      have ml : i % n < row.length := by rw [rowl]; exact Nat.mod_lt _ (by omega)
      obtain ⟨met, hmet⟩ : ∃ met, row[i % n]? = some met := ⟨_, List.getElem?_eq_getElem ml⟩
      obtain ⟨mv, hmv, ⟨ma, rfl, hma⟩⟩ := Paired.get2 hrp hmet
      have on_eq : on2 on h.to_ (i % n) = met := by
        unfold on2
        rw [hto, Int.toNat_natCast, hrow]
        show (row[i % n]?).getD [] = met
        rw [hmet]; rfl
      have e2 := Evl.Ex.new (o := .tup [.int (i : Nat), .ref ha]) nT
      have gT : (upd H1 Tt (.tup [.int (i : Nat), .ref ha])) Tt = some (.tup [.int (i : Nat), .ref ha]) := upd_same
      generalize upd H1 Tt (.tup [.int (i : Nat), .ref ha]) = H2 at e2 gT
      have e02 := e1.trans e2
      have hD2 := e2 _ _ hD1
      refine ⟨Tt, _, rfl, SqT.of gT, rfl, _, _, rfl, _, _, rfl, rfl, rfl, ?_⟩
      have pe : (match hops[i]? with
        | some h => decide (en.last = none ∨ en.last = some h.to_) && decide (en.upto ∈ on2 on h.to_ (i % n))
        | none => false) = (decide (en.last = none ∨ en.last = some h.to_) && decide (en.upto ∈ met)) := by rw [hh]; show (_ && decide (en.upto ∈ on2 on h.to_ (i % n))) = _; rw [on_eq]
      have skip : (decide (en.last = none ∨ en.last = some h.to_) && decide (en.upto ∈ met)) = false → ∀ {Hx : Hp}, Evl.Ex H2 Hx → Evl.Ex H0 Hx ∧ Hx Dl = some (.lst (natsT ((List.range (i + 1)).filter fun m => match hops[m]? with
        | some h => decide (en.last = none ∨ en.last = some h.to_) && decide (en.upto ∈ on2 on h.to_ (m % n))
        | none => false))) := fun no {Hx} ex => ⟨e02.trans ex, by rw [filter_snocF false (pe.trans no), if_neg Bool.false_ne_true, List.append_nil]; exact ex _ _ hD2⟩
      refine ⟨oT en.last, rfl, .ref ha, rfl, ha, _, 2, .int h.to_, rfl, rfl, SqT.of (e02 _ _ hha), atI_nat (j := 2) rfl, (by show 2 ≤ sizeLine; decide), fun t nt => ?_⟩
      have e3 := Evl.Ex.new (o := .tup [.non, .int h.to_]) nt
      have g3 : (upd H2 t (.tup [.non, .int h.to_])) t = some (.tup [.non, .int h.to_]) := upd_same
      generalize upd H2 t (.tup [.non, .int h.to_]) = H3 at e3 g3
      refine ⟨oTD en.last, [oTD none, oTD (some h.to_)], dp_oT _, .tup (SqT.of g3) (.cons .non (.cons (.int _) .nil)), shaped_oTD _, shaped_two none (some h.to_), _, rfl, ?_⟩
      rw [any_two]
      refine ite2 (fun hc => ?_) (fun hc => skip (by rw [decide_eq_false (fun z => hc (decide_eq_true z)), Bool.false_and]) e3)
      have e03 := e02.trans e3
      refine ⟨.int (en.upto : Nat), rfl, .ref lv, rfl, lv, L.C, dx, fs, .ref onA, rfl, e03 _ _ i1, L.cl, L.n8, i7, .ref ha, rfl, ha, _, 2, .int h.to_, rfl, rfl, SqT.of (e03 _ _ hha), atI_nat (j := 2) rfl, onA, ovs, h.to_, .ref ra, rfl, rfl, SqL.of (e03 _ _ i8), (by rw [hto]; exact atI_nat hrv), .int (i : Nat), rfl, .ref lv, rfl, lv, L.C, dx, fs, .int (n : Nat), rfl, e03 _ _ i1, L.cl, L.n6, i3, (i : Nat), (n : Nat), rfl, rfl, (by omega), ra, rvs, _, .ref ma, rfl, rfl, SqL.of (e03 _ _ hra), ?_, ?_⟩
      · have em : ((i : Nat) : Int) % ((n : Nat) : Int) = ((i % n : Nat) : Int) := by omega
        rw [em]
        exact atI_nat hmv
      refine ⟨.int ((en.upto : Nat) : Int), met.map fun k => PyData.int (k : Nat), .int _, .lst (SqL.of (e03 _ _ hma)) (dp_natsT met), shaped_i _, shaped_nats met, _, rfl, ?_⟩
      rw [any_nats]
      refine ite2 (fun hc2 => ?_) (fun hc2 => skip (by rw [decide_eq_false (fun z => hc2 (decide_eq_true z)), Bool.and_false]) e3)
      have yes : (decide (en.last = none ∨ en.last = some h.to_) && decide (en.upto ∈ met)) = true := by rw [hc, hc2]; rfl
      have hD3 := e3 _ _ hD2
      refine ⟨.int (i : Nat), rfl, _, hD3, Nat.lt_of_le_of_lt (by unfold natsT; rw [List.length_map]; exact Nat.le_trans (List.length_filter_le _ _) (by rw [List.length_range]; omega) : (natsT ((List.range i).filter fun m => match hops[m]? with
          | some h => decide (en.last = none ∨ en.last = some h.to_) && decide (en.upto ∈ on2 on h.to_ (m % n))
          | none => false)).length ≤ 1000) (by decide), e03.mut nD, ?_⟩
      rw [upd_same, filter_snocF true (pe.trans yes), if_pos rfl]
    · rintro H1 ⟨e1, hD1⟩
      rw [hl] at hD1
      exact q H1 Dl e1 nD hD1
end
end Wb

set_option Elab.async false
set_option linter.all false
set_option maxRecDepth 100000
set_option maxHeartbeats 8000000
set_option pp.maxSteps 900
set_option pp.deepTerms false
namespace Wb
open PySem PySem.Spec PyProof.Rows L2
/-! ### behind, move_on -/
abbrev nBehind : List Str := ["self", "number", "column", "_", "there"]
theorem scBehind : FnScope nBehind ["self", "number"] (defScope sBehind) := ⟨rfl, rfl, rfl, by decide +kernel, rfl, by decide +kernel, by decide +kernel⟩
abbrev nMoveOn : List Str := ["self", "best", "queue", "entry", "start", "below", "place", "layer", "number", "column", "_", "price", "note", "total", "old", "led"]
theorem scMoveOn : FnScope nMoveOn ["self", "best", "queue", "entry", "start"] (defScope sMoveOn) := ⟨rfl, rfl, rfl, by decide +kernel, rfl, by decide +kernel, by decide +kernel⟩
structure LevOk (D : LvD) : Prop where
  h1000 : D.hops.length ≤ 900
  m10 : D.many ≤ 10
  hop : ∀ (n : Nat) (h : HopN), D.hops[n]? = some h → (∃ row, D.rows[h.col]? = some row) ∧ ∃ p : Nat, h.to_ = (p : Nat) ∧ p < D.many
  nextl : D.nexts.length = D.many
  nextr : ∀ r ∈ D.nexts, r.length = D.asked.length + 1
  nextn : ∀ (p : Int) (c n : Nat), n ∈ on2 D.nexts p c → n < D.hops.length
  nextk : ∀ (p : Int) (c : Nat), (on2 D.nexts p c).length ≤ D.hops.length
  width : ∀ row ∈ D.rows, ∀ h ∈ D.hops, h.col < row.length
  pr : ∀ h ∈ D.hops, 1 ≤ h.price
  nn : ∀ row ∈ D.rows, ∀ p : Int, some p ∈ row → 0 ≤ p
def outN (D : LvD) (row : List (Option Int)) (ns : List Nat) : List (Nat × Int) := ns.filterMap fun n => (D.hops[n]?).bind fun h => ((row[h.col]?).join).map fun r => (n, r + h.price)
def outR (D : LvD) (row : List (Option Int)) (place layer : Nat) : List (Nat × Int) := outN D row (on2 D.nexts (place : Nat) layer)
theorem mem_outN {D : LvD} {row : List (Option Int)} {ns : List Nat} {y : Nat} {c : Int} : (y, c) ∈ outN D row ns ↔ y ∈ ns ∧ ∃ h r, D.hops[y]? = some h ∧ row[h.col]? = some (some r) ∧ c = r + h.price := by
  unfold outN
  rw [List.mem_filterMap]
  constructor
  · rintro ⟨n, hn, e⟩
    cases hh : D.hops[n]? with
    | none => rw [hh] at e; cases e
    | some h =>
      rw [hh] at e
      cases hr : (row[h.col]?).join with
      | none => rw [Option.bind_some, hr] at e; cases e
      | some r =>
        rw [Option.bind_some, hr] at e
        cases e
        refine ⟨hn, h, r, hh, ?_, rfl⟩
        cases hx : row[h.col]? with
        | none => rw [hx] at hr; cases hr
        | some o => rw [hx] at hr; cases o with
          | none => cases hr
          | some z => cases hr; rfl
  · rintro ⟨hn, h, r, hh, hr, rfl⟩
    exact ⟨y, hn, by rw [hh, Option.bind_some, hr]; rfl⟩
/-- a queue of hops by their prices -/
def ItR (H : Hp) (i : Addr) (k : Int × Nat) : Prop := H i = some (.tup [.int k.1, .int (k.2 : Nat)])
abbrev kw (key : Addr → Int × Nat) : Addr → Hq.Pw := fun i => ((key i).1, ((key i).2 : Int))
abbrev ltN (key : Addr → Int × Nat) : Addr → Addr → Bool := fun i j => Hq.ltK (kw key i) (kw key j)
structure QuT (H : Hp) (q : Addr) (L : List Addr) (key : Addr → Int × Nat) : Prop where
  at_ : H q = some (.lst (L.map V.ref))
  it : ∀ i ∈ L, ItR H i (key i)
  hp : Hq.Heap (ltN key) L
def BestT (NV : Hp → V → Prop) (H : Hp) (b : Addr) (B : List (Option Int)) : Prop := ∃ bvs, H b = some (.lst bvs) ∧ Paired (EntT NV H) bvs B
theorem QuT.mono {H H' : Hp} {q : Addr} {L : List Addr} {key : Addr → Int × Nat} (h : QuT H q L key) (e : Evl.Ex H H') : QuT H' q L key := ⟨e _ _ h.at_, fun i hi => e _ _ (h.it i hi), h.hp⟩
/-- one more in the queue -/
theorem push_n {K : PySem.W.Frag} {De : Ends} {σ : L2.St} {H : Hp} {q : Addr} {L : List Addr} {key : Addr → Int × Nat} {tot : Int} {n : Nat} (h2 : σ[2]? = some (some (.ref q))) (h13 : σ[13]? = some (some (.int tot))) (h8 : σ[8]? = some (some (.int (n : Nat)))) (hq : QuT H q L key) (hL : L.length ≤ 2000000)
    (k : ∀ (H' : Hp) (L2 : List Addr) (key2 : Addr → Int × Nat), (∀ a o, a ≠ q → H a = some o → H' a = some o) → QuT H' q L2 key2 → (L2.map key2).Perm ((tot, n) :: L.map key) → L2.length = L.length + 1 → De.nx σ H') :
    tDrop (tCB (Hq.rPush K) (tCons (tVar 2) (tCons (tTup (tCons (tVar 13) (tCons (tVar 8) tNil))) tNil))) De σ H := by
  refine ⟨.ref q, h2, .int tot, h13, .int (n : Nat), h8, (by show 2 ≤ sizeLine; decide), fun t nt => ?_⟩
  have e2 := Evl.Ex.new (o := .tup [.int tot, .int (n : Nat)]) nt
  have gt : (upd H t (.tup [.int tot, .int (n : Nat)])) t = some (.tup [.int tot, .int (n : Nat)]) := upd_same
  generalize upd H t (.tup [.int tot, .int (n : Nat)]) = H2 at e2 gt
  have nL : t ∉ L := fun h => by
    have := hq.it t h
    unfold ItR at this
    rw [nt] at this
    cases this
  have kold : ∀ i ∈ L, (if i = t then (tot, n) else key i) = key i := fun i hi => if_neg fun (y : i = t) => nL (y ▸ hi)
  have items : ∀ i ∈ L ++ [t], ItR H2 i (if i = t then (tot, n) else key i) := fun i hi => by
    rcases List.mem_append.mp hi with m | m
    · rw [kold i m]
      exact e2 _ _ (hq.it i m)
    · rw [List.mem_singleton.mp m, if_pos rfl]
      exact gt
  have hq2 := e2 _ _ hq.at_
  refine ⟨q, t, L, kw fun i => if i = t then (tot, n) else key i, rfl, hq2, Nat.lt_of_le_of_lt hL (by decide), fun i hi => Evl.st_of (items i hi), ?_⟩
  have hpm : (Hq.hpush (ltN fun i => if i = t then (tot, n) else key i) L t).Perm (t :: L) := Hq.hpush_perm L t
  have hph : Hq.Heap (ltN fun i => if i = t then (tot, n) else key i) (Hq.hpush (ltN fun i => if i = t then (tot, n) else key i) L t) :=
    Hq.hpush_heap (Hq.ord_map Hq.ltK_ord _) (Hq.heap_congr hq.hp fun x hx y hy => by
      show Hq.ltK ((if x = t then (tot, n) else key x).1, ((if x = t then (tot, n) else key x).2 : Int)) ((if y = t then (tot, n) else key y).1, ((if y = t then (tot, n) else key y).2 : Int)) = _
      rw [kold x hx, kold y hy])
  refine k _ _ (fun i => if i = t then (tot, n) else key i) (fun a o na h => by rw [upd_ne na]; exact e2 _ _ h) ⟨upd_same, fun i hi => ?_, hph⟩ ?_ ?_
  · have m := items i (by
      rcases List.mem_cons.mp (hpm.mem_iff.mp hi) with m | m
      · rw [m]; exact List.mem_append_right _ List.mem_cons_self
      · exact List.mem_append_left _ m)
    exact Tk.lst hq2 _ _ m
  · have := hpm.map fun i => if i = t then (tot, n) else key i
    rw [List.map_cons, if_pos rfl] at this
    refine this.trans (List.Perm.of_eq ?_)
    congr 1
    exact List.map_congr_left kold
  · rw [hpm.length_eq, List.length_cons]
section
variable {P : Program} {w : World} {K : PySem.W.Frag} {mg : Str → Option Value} {base : Heap}
def spBehind (N : NtK P w K mg base) (C : Addr) : Sp := fun vs H Q _ => ∃ (lv : Addr) (n : Nat) (h : HopN) (row : List (Option Int)) (D : LvD) (H0 : Hp), vs = [.ref lv, .int (n : Nat)] ∧ Evl.Ex H0 H ∧ LevT N.NV N.At C H0 lv D ∧ D.hops[n]? = some h ∧ D.rows[h.col]? = some row ∧
  ∀ H' t ra, Evl.Ex H H' → H' t = some (.tup [.ref ra, .int h.to_, .int ((n % (D.asked.length + 1) : Nat) : Int)]) → RowT N.NV H0 (.ref ra) row → Q (.ref t) H'
def spMoveOn (N : NtK P w K mg base) (C : Addr) : Sp := fun vs H Q _ => ∃ (lv b q : Addr) (e : V) (st ra : Addr) (place layer : Nat) (row : List (Option Int)) (D : LvD) (H0 : Hp) (B : List (Option Int)) (L : List Addr) (key : Addr → Int × Nat) (src : List (Nat × Int)) (out : Nat → List (Nat × Int)) (E : List Nat) (low : Int) (cur : Option Nat) (dn : List (Nat × Int)),
  vs = [.ref lv, .ref b, .ref q, e, .ref st] ∧ Evl.Ex H0 H ∧ LevT N.NV N.At C H0 lv D ∧ LevOk D ∧ H0 b = none ∧ H0 q = none ∧ b ≠ q ∧ BestT N.NV H b B ∧ B.length = D.hops.length ∧ QuT H q L key ∧ L.length ≤ 1001000 ∧ Dk.Mid src out B (L.map key) E low cur dn ∧ EntT N.NV H e (some low) ∧
  H st = some (.tup [.ref ra, .int (place : Nat), .int (layer : Nat)]) ∧ RowT N.NV H0 (.ref ra) row ∧ (∀ h ∈ D.hops, h.col < row.length) ∧ (∀ p : Int, some p ∈ row → 0 ≤ p) ∧ place < D.many ∧ layer < D.asked.length + 1 ∧ (∀ y c, (y, c) ∈ outR D row place layer → Dk.PathN src out y (low + c)) ∧
  ∀ H' B' L' key', Ex2 b q H H' → BestT N.NV H' b B' → B'.length = D.hops.length → QuT H' q L' key' → L'.length ≤ L.length + D.hops.length → Dk.Mid src out B' (L'.map key') E low cur (dn ++ outR D row place layer) → Q .non H'
theorem ok_behind (N : NtK P w K mg base) (L : LvC K mg) : FnOk P w K mg base CX0 1 L.f6 L.d6 ["self", "number"] (spBehind N L.C) := by
  refine L.F6.ok scBehind (fun vs H Q E h => ?_) (fun cdv A outer s H vs Q E hr h => ?_)
  · obtain ⟨lv, n, h, row, D, H0, rfl, _⟩ := h; rfl
  · obtain ⟨lv, n, h, row, D, H0, rfl, e0, hL, hh, hrow, q⟩ := h
    refine ⟨_, (Evl.pss_cut (ps_asg (pe_ix (r := rIxL K) ix_list (pe_fld (pv 0) rfl) (pv 1) (fun _ _ => rfl)) (pg_tup rfl (pgs_cons (pg_name (i := 2) scBehind.nd rfl (.inl rfl)) (pgs_cons (pg_name (i := 3) scBehind.nd rfl (.inl rfl)) (pgs_cons (pg_name (i := 4) scBehind.nd rfl (.inl rfl)) (pgs_cons (pg_name (i := 3) scBehind.nd rfl (.inl rfl)) (pgs_cons (pg_name (i := 3) scBehind.nd rfl (.inl rfl)) pgs_nil)))))))
      (pss_one (ps_ret (pe_tup (pa_cons (pe_ix (r := rIxL K) ix_list (pe_fld (pv 0) rfl) (pv 2) (fun _ _ => rfl)) (pa_cons (pv 4) (pa_cons (pe_op op_mod (pv 1) (pe_fld (pv 0) rfl)) pa_nil))))))), ?_⟩
    obtain ⟨dx, fs, bl, ak, en, nt, hp, on, nxx, ls, rvs, evs, hvs, ovs, nvs, lvs, h1, h2, ⟨a1, a2, a3⟩, a4, ⟨a5, a6⟩, ⟨a7, a8, a9⟩, ⟨b1, b2⟩, b3, ⟨b4, b5, b6⟩, _⟩ := hL.at_
    obtain ⟨hv, hhv, ⟨ha, hn, rfl, hha, _⟩⟩ := Paired.get2 b6 hh
    obtain ⟨rv, hrv, hrt⟩ := Paired.get2 a3 hrow
    obtain ⟨ra, ras, rfl, hra, hrp⟩ := id hrt
    refine ⟨fun σ H' => ∃ y3, σ = [some (.ref lv), some (.int (n : Nat)), some (.int (h.col : Nat)), y3, some (.int h.to_)] ∧ H' = H, ?_, ?_⟩
    · refine ⟨.ref lv, rfl, lv, L.C, dx, fs, .ref hp, rfl, e0 _ _ h1, L.cl, L.n7, b4, .int (n : Nat), rfl, hp, hvs, (n : Nat), .ref ha, rfl, rfl, SqL.of (e0 _ _ b5), atI_nat hhv, ?_⟩
      refine ⟨ha, _, rfl, SqT.of (e0 _ _ hha), rfl, _, _, rfl, _, _, rfl, _, _, rfl, _, _, rfl, _, _, rfl, rfl, ?_⟩
      exact ⟨_, rfl, rfl⟩
    rintro _ _ ⟨y3, rfl, rfl⟩
    refine ⟨.ref lv, rfl, lv, L.C, dx, fs, .ref bl, rfl, e0 _ _ h1, L.cl, L.n0, a1, .int (h.col : Nat), rfl, bl, rvs, (h.col : Nat), .ref ra, rfl, rfl, SqL.of (e0 _ _ a2), atI_nat hrv, .int h.to_, rfl, .int (n : Nat), rfl, .ref lv, rfl, lv, L.C, dx, fs, .int ((D.asked.length + 1 : Nat) : Int), rfl, e0 _ _ h1, L.cl, L.n6, b3, (n : Nat), ((D.asked.length + 1 : Nat) : Int), rfl, rfl, (by omega), ?_⟩
    refine ⟨(by show 3 ≤ sizeLine; decide), fun t nt' => ?_⟩
    refine q _ t ra (Evl.Ex.new nt') ?_ hrt
    rw [upd_same]
    have em : ((n : Nat) : Int) % ((D.asked.length + 1 : Nat) : Int) = ((n % (D.asked.length + 1) : Nat) : Int) := (Int.natCast_emod _ _).symm
    rw [← em]
end
end Wb

set_option Elab.async false
set_option linter.all false
set_option maxRecDepth 100000
set_option maxHeartbeats 8000000
set_option pp.maxSteps 900
set_option pp.deepTerms false
namespace Wb
open PySem PySem.Spec PyProof.Rows L2
theorem Paired.set {α β : Type} {R : α → β → Prop} {xs : List α} {ys : List β} (h : Paired R xs ys) {x : α} {y : β} (n : Nat) (r : R x y) : Paired R (xs.set n x) (ys.set n y) := by
  induction h generalizing n with
  | nil => exact .nil
  | cons h t ih =>
    cases n with
    | zero => exact .cons r t
    | succ n => exact .cons h (ih n)
theorem set_same {α : Type} {xs : List α} {n : Nat} {x : α} (h : xs[n]? = some x) : xs.set n x = xs := by
  refine List.ext_getElem? fun i => ?_
  rw [List.getElem?_set]
  obtain ⟨hl, _⟩ := List.getElem?_eq_some_iff.mp h
  by_cases e : n = i
  · rw [if_pos e, if_pos hl, ← e, h]
  · rw [if_neg e]
theorem outN_none {D : LvD} {row : List (Option Int)} {ns : List Nat} {n : Nat} {h : HopN} (hh : D.hops[n]? = some h) (hr : row[h.col]? = some none) : outN D row (ns ++ [n]) = outN D row ns := by
  unfold outN
  rw [List.filterMap_append, List.filterMap_cons, hh, Option.bind_some, hr]
  exact List.append_nil _
theorem outN_some {D : LvD} {row : List (Option Int)} {ns : List Nat} {n : Nat} {h : HopN} {r : Int} (hh : D.hops[n]? = some h) (hr : row[h.col]? = some (some r)) : outN D row (ns ++ [n]) = outN D row ns ++ [(n, r + h.price)] := by
  unfold outN
  rw [List.filterMap_append, List.filterMap_cons, hh, Option.bind_some, hr]
  rfl
theorem Ex2.tk {p g : Addr} {H H' : Hp} {ys zs : List V} (e : Ex2 p g H H') (hp : H p = some (.lst ys)) (hg : H g = some (.lst zs)) : Tk H H' := fun _ _ h => e.tup hp hg h
theorem BestT.mono {NV : Hp → V → Prop} (nx : ∀ H H' v, Evl.Ex H H' → NV H v → NV H' v) {H H' : Hp} (e : Evl.Ex H H') {b : Addr} {B : List (Option Int)} (h : BestT NV H b B) : BestT NV H' b B := by
  obtain ⟨bvs, h1, h2⟩ := h
  exact ⟨bvs, e _ _ h1, Paired.imp (fun _ _ z => EntT.ex nx e z) h2⟩
def orOld (f : Int → Int → Bool) (tot : Int) : Option Int → Bool
  | none => true
  | some w => f tot w
theorem test_or {K : PySem.W.Frag} {NV : Hp → V → Prop} {σ : L2.St} {H : Hp} {Q : Bool → Hp → Prop} {f : Int → Int → Bool} {bv : V} {o : Option Int} {tot : Int} (h14 : σ[14]? = some (some bv)) (h13 : σ[13]? = some (some (.int tot))) (hb : EntT NV H bv o) (q : Q (orOld f tot o) H) :
    tOr (tTest (tOp (fun x y H Q => y = V.non ∧ Q (.bl (decide (x = .non))) H) (tVar 14) (tC .non))) (tTest (tOp (rI0 fun i j => .bl (f i j)) (tVar 13) (tOp (rIxT K) (tVar 14) (tC (.int 0))))) σ H Q := by
  cases o with
  | none =>
    obtain rfl : bv = .non := hb
    refine ⟨.non, h14, rfl, _, rfl, ?_⟩
    exact iteT q
  | some w =>
    obtain ⟨a, nv, rfl, h1, _⟩ := hb
    refine ⟨.ref a, h14, rfl, _, rfl, ?_⟩
    refine iteF ?_
    exact ⟨.int tot, h13, .ref a, h14, a, _, 0, .int w, rfl, rfl, SqT.of h1, atI_nat (j := 0) rfl, tot, w, rfl, rfl, _, rfl, q⟩
section
variable {P : Program} {w : World} {K : PySem.W.Frag} {mg : Str → Option Value} {base : Heap}
theorem ok_moveOn (N : NtK P w K mg base) (L : LvC K mg) (gp : mg "heappush" = some (.builtin "_heapq.heappush")) : FnOk P w K mg base CX0 3 L.f8 L.d8 ["self", "best", "queue", "entry", "start"] (spMoveOn N L.C) := by
  have GJ : FnOk P w K mg base CX0 2 L.f12 L.d12 ["self", "entry", "other"] (spJoined N L.C) := ok_joined N L
  have GB : FnOk P w K mg base CX0 2 L.f13 L.d13 ["self", "entry", "other"] (spBetter N L.C) := ok_better N L
  refine L.F8.ok scMoveOn (fun vs H Q E h => ?_) (fun cdv A outer s H vs Q E hr h => ?_)
  · obtain ⟨lv, b, q, e, st, ra, place, layer, row, D, H0, B, Lq, key, src, out, E, low, cur, dn, rfl, _⟩ := h; rfl
  · obtain ⟨lv, b, q, e, st, ra, place, layer, row, D, H0, B, Lq, key, src, out, Es, low, cur, dn, rfl, e0, hL, ok, nb, nq, bq, hB, lB, hQ, lQ, M, he, hst, hrow, wide, rnn, pm, lm, hout, k⟩ := h
    refine ⟨_, (Evl.pss_cut (ps_asg (pv 4) (pg_tup rfl (pgs_cons (pg_name (i := 5) scMoveOn.nd rfl (.inl rfl)) (pgs_cons (pg_name (i := 6) scMoveOn.nd rfl (.inl rfl)) (pgs_cons (pg_name (i := 7) scMoveOn.nd rfl (.inl rfl)) pgs_nil)))))
      (pss_one (ps_for PassesOwn.never rfl (pi_list (pe_ix (r := rIxL K) ix_list (pe_ix (r := rIxL K) ix_list (pe_fld (pv 0) rfl) (pv 6) (fun _ _ => rfl)) (pv 7) (fun _ _ => rfl))) (pg_name (i := 8) scMoveOn.nd rfl (.inl rfl))
        (Evl.pss_cut (ps_asg (pe_ix (r := rIxL K) ix_list (pe_fld (pv 0) rfl) (pv 8) (fun _ _ => rfl)) (pg_tup rfl (pgs_cons (pg_name (i := 9) scMoveOn.nd rfl (.inl rfl)) (pgs_cons (pg_name (i := 10) scMoveOn.nd rfl (.inl rfl)) (pgs_cons (pg_name (i := 10) scMoveOn.nd rfl (.inl rfl)) (pgs_cons (pg_name (i := 11) scMoveOn.nd rfl (.inl rfl)) (pgs_cons (pg_name (i := 12) scMoveOn.nd rfl (.inl rfl)) pgs_nil)))))))
        (pss_cons (ps_if (pt_cmpR op_isN (pe_ix (r := rIxL K) ix_list (pv 5) (pv 9) (fun _ _ => rfl)) pe_non (nomark _)) (pss_one ps_continue) pss_nil)
        (pss_cons (ps_set (i := 13) scMoveOn.nd rfl (.inl rfl) (pe_op op_add (pe_op op_add (pe_ix (r := rIxT K) ix_tup (pv 3) pe_int (fun _ _ => rfl)) (pe_ix (r := rIxT K) ix_tup (pe_ix (r := rIxL K) ix_list (pv 5) (pv 9) (fun _ _ => rfl)) pe_int (fun _ _ => rfl))) (pv 11)))
        (pss_cons (ps_set (i := 14) scMoveOn.nd rfl (.inl rfl) (pe_ix (r := rIxL K) ix_list (pv 1) (pv 8) (fun _ _ => rfl)))
        (pss_one (ps_if (PW.pt (pw_or (pt_cmpR op_isN (pv 14) pe_non (nomark _)) (pw_or1 (pt_cmpR op_le (pv 13) (pe_ix (r := rIxT K) ix_tup (pv 14) pe_int (fun _ _ => rfl)) (nomark _)))))
          (Evl.pss_cut (ps_set (i := 15) scMoveOn.nd rfl (.inl rfl) (pe_meth (pv 0) L.cl L.m12 GJ hr L.b12 .nil pass0 (pa_cons (pe_meth (pv 0) L.cl L.m12 GJ hr L.b12 .nil pass0 (pa_cons (pv 3) (pa_cons (pe_ix (r := rIxL K) ix_list (pv 5) (pv 9) (fun _ _ => rfl)) pa_nil))) (pa_cons (pe_tup (pa_cons (pv 11) (pa_cons (pv 12) pa_nil))) pa_nil))))
          (Evl.pss_cut (ps_asg (pe_meth (pv 0) L.cl L.m13 GB hr L.b13 .nil pass0 (pa_cons (pv 14) (pa_cons (pv 15) pa_nil))) (pg_sub (pv 1) (pv 8) set_list))
          (pss_one (ps_if (PW.pt (pw_or (pt_cmpR op_isN (pv 14) pe_non (nomark _)) (pw_or1 (pt_cmpR op_lt (pv 13) (pe_ix (r := rIxT K) ix_tup (pv 14) pe_int (fun _ _ => rfl)) (nomark _)))))
            (pss_one (ps_expr (pe_callBfun (r := Hq.rPush K) (Hq.cr_push hr.units) (by rfl) gp (pa_cons (pv 2) (pa_cons (pe_tup (pa_cons (pv 13) (pa_cons (pv 8) pa_nil))) pa_nil))))) pss_nil)))) pss_nil))))))))), ?_⟩
    obtain ⟨dx, fs, bl, ak, en, nt, hp, on, nxx, ls, rvs, evs, hvs, ovs, nvs, lvs, h1, h2, _, _, _, _, _, b3, ⟨b4, b5, b6⟩, _, ⟨c1, c2, c3⟩, _⟩ := hL.at_
    obtain ⟨ea, en', rfl, hea, _⟩ := id he
    obtain ⟨ra_, ras, e9, hra, hrp⟩ := id hrow
    cases e9
    refine ⟨fun σ H' => σ = [some (.ref lv), some (.ref b), some (.ref q), some (.ref ea), some (.ref st), some (.ref ra), some (.int (place : Nat)), some (.int (layer : Nat)), none, none, none, none, none, none, none, none] ∧ H = H', ?_, ?_⟩
    · refine ⟨.ref st, rfl, st, _, rfl, SqT.of hst, rfl, _, _, rfl, _, _, rfl, _, _, rfl, rfl, ?_⟩
      exact ⟨rfl, rfl⟩
    rintro _ _ ⟨rfl, rfl⟩
    obtain ⟨prow, hprow⟩ : ∃ r, D.nexts[place]? = some r := ⟨_, List.getElem?_eq_getElem (by rw [ok.nextl]; exact pm)⟩
    have plen := ok.nextr _ (List.mem_of_getElem? hprow)
    obtain ⟨ns, hns⟩ : ∃ ns, prow[layer]? = some ns := ⟨_, List.getElem?_eq_getElem (by rw [plen]; exact lm)⟩
    obtain ⟨pv_, hpv, ⟨pa, pvs, rfl, hpa, hpp⟩⟩ := Paired.get2 c3 hprow
    obtain ⟨nv_, hnv, ⟨na, rfl, hna⟩⟩ := Paired.get2 hpp hns
    have on_eq : on2 D.nexts (place : Nat) layer = ns := by
      unfold on2
      rw [Int.toNat_natCast, hprow]
      show (prow[layer]?).getD [] = ns
      rw [hns]; rfl
    have nl : ∀ n ∈ ns, n < D.hops.length := fun n hn => ok.nextn (place : Nat) layer n (by rw [on_eq]; exact hn)
    have nk : ns.length ≤ D.hops.length := by have := ok.nextk (place : Nat) layer; rw [on_eq] at this; exact this
    unfold outR at hout k
    rw [on_eq] at hout k
    obtain ⟨bvs0, hb0, _⟩ := id hB
    refine ⟨.ref lv, rfl, lv, L.C, dx, fs, .ref nxx, rfl, e0 _ _ h1, L.cl, L.n9, c1, .int (place : Nat), rfl, nxx, nvs, (place : Nat), .ref pa, rfl, rfl, SqL.of (e0 _ _ c2), atI_nat hpv, .int (layer : Nat), rfl, pa, pvs, (layer : Nat), .ref na, rfl, rfl, SqL.of (e0 _ _ hpa), atI_nat hnv, na, rfl, ⟨_, SqL.of (e0 _ _ hna)⟩, ?_⟩
    refine for_list (K := K) (a := na) (xs := natsT ns) (fun i σ H' => ∃ (B' : List (Option Int)) (L' : List Addr) (key' : Addr → Int × Nat) (y8 y9 y10 y11 y12 y13 y14 y15 : Option V), σ = [some (.ref lv), some (.ref b), some (.ref q), some (.ref ea), some (.ref st), some (.ref ra), some (.int (place : Nat)), some (.int (layer : Nat)), y8, y9, y10, y11, y12, y13, y14, y15] ∧
        Ex2 b q H H' ∧ BestT N.NV H' b B' ∧ B'.length = D.hops.length ∧ QuT H' q L' key' ∧ L'.length ≤ Lq.length + i ∧ Dk.Mid src out B' (L'.map key') Es low cur (dn ++ outN D row (ns.take i)))
      ⟨B, Lq, key, none, none, none, none, none, none, none, none, rfl, Ex2.refl b q H, hB, lB, hQ, Nat.le_refl _, by rw [List.take_zero]; show Dk.Mid src out B (Lq.map key) Es low cur (dn ++ []); rw [List.append_nil]; exact M⟩ ?_ ?_ ?_
    · rintro i σ H' _ ⟨_, _, _, _, _, _, _, _, _, _, _, _, e2, _⟩
      exact SqL.of (e2.base e0 nb nq _ _ hna)
    · rintro i x σ H3 hx ⟨B3, L3, key3, y8, y9, y10, y11, y12, y13, y14, y15, rfl, e2, hB3, lB3, hQ3, lL3, M3⟩
      obtain ⟨n, hn, rfl⟩ : ∃ n, ns[i]? = some n ∧ x = .int (n : Nat) := by
        unfold natsT at hx
        rw [List.getElem?_map] at hx
        cases ho : ns[i]? with
        | none => rw [ho] at hx; cases hx
        | some o => rw [ho] at hx; exact ⟨o, rfl, (Option.some.inj hx).symm⟩
      have il : i < ns.length := (List.getElem?_eq_some_iff.mp hn).1
      have nlt := nl n (List.mem_of_getElem? hn)
      have e03 := e2.base e0 nb nq
      obtain ⟨h, hh⟩ : ∃ h, D.hops[n]? = some h := ⟨_, List.getElem?_eq_getElem nlt⟩
      have hmem := List.mem_of_getElem? hh
      obtain ⟨hv, hhv, ⟨ha, hn', rfl, hha, hnn⟩⟩ := Paired.get2 b6 hh
      obtain ⟨o, ho⟩ : ∃ o, row[h.col]? = some o := ⟨_, List.getElem?_eq_getElem (wide h hmem)⟩
      obtain ⟨ov, hov, hoe⟩ := Paired.get2 hrp ho
      have tk : ns.take (i + 1) = ns.take i ++ [n] := take_succ_get hn
      have hra3 := e03 _ _ hra
      have hea3 : H3 ea = some (.tup [.int low, en']) := e2.tup hb0 hQ.at_ hea
      have he3 : EntT N.NV H3 (.ref ea) (some low) := EntT.tk N.tk (e2.tk hb0 hQ.at_) he
      obtain ⟨bvs3, hb3, hbp3⟩ := id hB3
      refine ⟨fun σ H' => ∃ z10, σ = [some (.ref lv), some (.ref b), some (.ref q), some (.ref ea), some (.ref st), some (.ref ra), some (.int (place : Nat)), some (.int (layer : Nat)), some (.int (n : Nat)), some (.int (h.col : Nat)), z10, some (.int h.price), some hn', y13, y14, y15] ∧ H3 = H', ?_, ?_⟩
      · refine ⟨.ref lv, rfl, lv, L.C, dx, fs, .ref hp, rfl, e03 _ _ h1, L.cl, L.n7, b4, .int (n : Nat), rfl, hp, hvs, (n : Nat), .ref ha, rfl, rfl, SqL.of (e03 _ _ b5), atI_nat hhv, ?_⟩
        refine ⟨ha, _, rfl, SqT.of (e03 _ _ hha), rfl, _, _, rfl, _, _, rfl, _, _, rfl, _, _, rfl, _, _, rfl, rfl, ?_⟩
        exact ⟨_, rfl, rfl⟩
      rintro _ _ ⟨z10, rfl, rfl⟩
      cases o with
      | none =>
        obtain rfl : ov = .non := hoe
        refine ⟨.ref ra, rfl, .int (h.col : Nat), rfl, ra, ras, (h.col : Nat), .non, rfl, rfl, SqL.of hra3, atI_nat hov, rfl, _, rfl, iteT ?_⟩
        exact ⟨B3, L3, key3, _, _, _, _, _, _, _, _, rfl, e2, hB3, lB3, hQ3, by omega, by rw [tk, outN_none hh ho]; exact M3⟩
      | some r =>
        obtain ⟨oa, on', rfl, hoa, hon⟩ := id hoe
        have r0 : 0 ≤ r := rnn r (List.mem_of_getElem? ho)
        have p1 : 1 ≤ h.price := ok.pr h hmem
        have Mp := hout n (r + h.price) (mem_outN.mpr ⟨List.mem_of_getElem? hn, h, r, hh, ho, rfl⟩)
        have tk2 : outN D row (ns.take (i + 1)) = outN D row (ns.take i) ++ [(n, r + h.price)] := by rw [tk, outN_some hh ho]
        have hoa3 := e03 _ _ hoa
        refine ⟨.ref ra, rfl, .int (h.col : Nat), rfl, ra, ras, (h.col : Nat), .ref oa, rfl, rfl, SqL.of hra3, atI_nat hov, rfl, _, rfl, iteF ?_⟩
        refine ⟨.ref ea, rfl, ea, _, 0, .int low, rfl, rfl, SqT.of hea3, atI_nat (j := 0) rfl, .ref ra, rfl, .int (h.col : Nat), rfl, ra, ras, (h.col : Nat), .ref oa, rfl, rfl, SqL.of hra3, atI_nat hov, oa, _, 0, .int r, rfl, rfl, SqT.of hoa3, atI_nat (j := 0) rfl, low, r, rfl, rfl, .int h.price, rfl, low + r, h.price, rfl, rfl, ?_⟩
        obtain ⟨o', ho'⟩ : ∃ o', B3[n]? = some o' := ⟨_, List.getElem?_eq_getElem (by rw [lB3]; exact nlt)⟩
        obtain ⟨bv, hbv, hbe⟩ := Paired.get2 hbp3 ho'
        have hbst : Dk.bst B3 n = o' := by unfold Dk.bst; rw [ho']; rfl
        refine ⟨.ref b, rfl, .int (n : Nat), rfl, b, bvs3, (n : Nat), bv, rfl, rfl, SqL.of hb3, atI_nat hbv, ?_⟩
        have tot_eq : low + r + h.price = low + (r + h.price) := by omega
        refine test_or (tot := low + r + h.price) rfl rfl hbe ?_
        refine ite2 (fun hc => ?_) (fun hc => ?_)
        · refine ⟨fun σ H' => ∃ v15, σ = [some (.ref lv), some (.ref b), some (.ref q), some (.ref ea), some (.ref st), some (.ref ra), some (.int (place : Nat)), some (.int (layer : Nat)), some (.int (n : Nat)), some (.int (h.col : Nat)), z10, some (.int h.price), some hn', some (.int (low + r + h.price)), some bv, some v15] ∧ Evl.Ex H3 H' ∧ EntT N.NV H' v15 (some (low + r + h.price)), ?_, ?_⟩
          · refine ⟨.ref lv, rfl, lv, dx, fs, rfl, e03 _ _ h1, h2.m12, .ref lv, rfl, lv, dx, fs, rfl, e03 _ _ h1, h2.m12, .ref ea, rfl, .ref ra, rfl, .int (h.col : Nat), rfl, ra, ras, (h.col : Nat), .ref oa, rfl, rfl, SqL.of hra3, atI_nat hov, ?_⟩
            refine ⟨lv, .ref ea, .ref oa, D, low, some r, rfl, hL.ex N.nx N.ex e03, he3, EntT.ex N.nx e03 hoe, fun H4 v4 e4 hv4 => ?_⟩
            refine ⟨.int h.price, rfl, hn', rfl, (by show 2 ≤ sizeLine; decide), fun t nt' => ?_⟩
            have e5 := Evl.Ex.new (o := .tup [.int h.price, hn']) nt'
            have gt : (upd H4 t (.tup [.int h.price, hn'])) t = some (.tup [.int h.price, hn']) := upd_same
            generalize upd H4 t (.tup [.int h.price, hn']) = H5 at e5 gt
            have e05 := (e03.trans e4).trans e5
            refine ⟨lv, v4, .ref t, D, low + r, some h.price, rfl, hL.ex N.nx N.ex e05, EntT.ex N.nx e5 hv4, ⟨t, hn', rfl, gt, N.nx _ _ _ e05 hnn⟩, fun H6 v6 e6 hv6 => ?_⟩
            exact ⟨v6, rfl, (e4.trans e5).trans e6, hv6⟩
          rintro _ H4 ⟨v15, rfl, e4, hv15⟩
          have e04 := e03.trans e4
          refine ⟨fun σ H' => σ = [some (.ref lv), some (.ref b), some (.ref q), some (.ref ea), some (.ref st), some (.ref ra), some (.int (place : Nat)), some (.int (layer : Nat)), some (.int (n : Nat)), some (.int (h.col : Nat)), z10, some (.int h.price), some hn', some (.int (low + r + h.price)), some bv, some v15] ∧ Ex2 b q H H' ∧ BestT N.NV H' b (B3.set n (betterO o' (some (low + r + h.price)))) ∧ QuT H' q L3 key3 ∧ EntT N.NV H' bv o', ?_, ?_⟩
          · refine ⟨.ref lv, rfl, lv, dx, fs, rfl, e04 _ _ h1, h2.m13, bv, rfl, v15, rfl, ?_⟩
            refine ⟨lv, bv, v15, D, o', some (low + r + h.price), rfl, hL.ex N.nx N.ex e04, EntT.ex N.nx e4 hbe, hv15, fun H6 v6 e6 hv6 => ?_⟩
            have e36 := e4.trans e6
            have hb6 := e36 _ _ hb3
            have hq6 := hQ3.mono e36
            have nlb : n < bvs3.length := by rw [Paired.len hbp3, lB3]; exact nlt
            refine ⟨.ref b, rfl, .int (n : Nat), rfl, b, bvs3, (n : Nat), n, rfl, rfl, hb6, ?_, ?_⟩
            · unfold ixN
              rw [if_pos (by omega), if_pos (by omega)]; simp
            have tk6 : Tk H6 (upd H6 b (.lst (bvs3.set n v6))) := Tk.lst hb6
            refine ⟨rfl, e2.trans ((Ex2.ex e36).trans Ex2.put1), ⟨_, upd_same, ?_⟩, ⟨?_, fun i hi => tk6 _ _ (hq6.it i hi), hq6.hp⟩, EntT.tk N.tk tk6 (EntT.ex N.nx e36 hbe)⟩
            · exact Paired.set (Paired.imp (fun _ _ z => EntT.tk N.tk tk6 (EntT.ex N.nx e36 z)) hbp3) n (EntT.tk N.tk tk6 hv6)
            · rw [upd_ne (Ne.symm bq)]; exact hq6.at_
          rintro _ H7 ⟨rfl, e27, hB7, hQ7, hbe7⟩
          refine test_or (tot := low + r + h.price) rfl rfl hbe7 ?_
          have nB : n < B3.length := by rw [lB3]; exact nlt
          refine ite2 (fun hc2 => ?_) (fun hc2 => ?_)
          · refine push_n rfl rfl rfl hQ7 (by have := ok.h1000; omega) fun H8 L8 key8 o8 hQ8 pm8 ll8 => ?_
            have bo : betterO o' (some (low + r + h.price)) = some (low + (r + h.price)) := by
              cases o' with
              | none => rw [tot_eq]; rfl
              | some w =>
                have lt : low + r + h.price < w := of_decide_eq_true hc2
                show (if w < low + r + h.price then some w else if low + r + h.price < w then some (low + r + h.price) else some w) = _
                rw [if_neg (by omega), if_pos lt, tot_eq]
            rw [bo] at hB7
            obtain ⟨bvs7, hb7, hbp7⟩ := hB7
            have hb8 := o8 _ _ bq hb7
            have t8 : Tk H7 H8 := fun a xs h => o8 _ _ (fun z => by rw [z, hQ7.at_] at h; cases h) h
            rw [tot_eq] at pm8
            refine ⟨_, L8, key8, _, _, _, _, _, _, _, _, rfl, e27.trans (fun a o _ nq' h => o8 a o nq' h), ⟨bvs7, hb8, Paired.imp (fun _ _ z => EntT.tk N.tk t8 z) hbp7⟩, by rw [List.length_set]; exact lB3, hQ8, by omega, ?_⟩
            have M4 := M3.better (c := r + h.price) (y := n) (by omega) nB Mp (fun w hw => by
              rw [hbst] at hw
              subst hw
              have : low + r + h.price < w := of_decide_eq_true hc2
              omega) pm8
            rw [tk2, ← List.append_assoc]
            exact M4
          · cases o' with
            | none => exact absurd rfl hc2
            | some w =>
              have n1 : ¬ low + r + h.price < w := fun z => hc2 (decide_eq_true z)
              have bo : betterO (some w) (some (low + r + h.price)) = some w := by
                show (if w < low + r + h.price then some w else if low + r + h.price < w then some (low + r + h.price) else some w) = _
                rw [if_neg n1]
                split <;> rfl
              rw [bo, set_same ho'] at hB7
              refine ⟨B3, L3, key3, _, _, _, _, _, _, _, _, rfl, e27, hB7, lB3, hQ7, by omega, ?_⟩
              rw [tk2, ← List.append_assoc]
              have le : low + r + h.price ≤ w := of_decide_eq_true hc
              exact M3.skip hbst (by omega)
        · cases o' with
          | none => exact absurd rfl hc
          | some w =>
            have n1 : ¬ low + r + h.price ≤ w := fun z => hc (decide_eq_true z)
            refine ⟨B3, L3, key3, _, _, _, _, _, _, _, _, rfl, e2, hB3, lB3, hQ3, by omega, ?_⟩
            rw [tk2, ← List.append_assoc]
            exact M3.skip hbst (by omega)
    · rintro σ H3 ⟨B3, L3, key3, y8, y9, y10, y11, y12, y13, y14, y15, rfl, e2, hB3, lB3, hQ3, lL3, M3⟩
      have ln : (natsT ns).length = ns.length := by unfold natsT; rw [List.length_map]
      rw [ln] at lL3 M3
      rw [List.take_length] at M3
      exact k H3 B3 L3 key3 e2 hB3 lB3 hQ3 (by omega) M3
end
end Wb

set_option Elab.async false
set_option linter.all false
set_option maxRecDepth 100000
set_option maxHeartbeats 8000000
set_option pp.maxSteps 900
set_option pp.deepTerms false
namespace Wb
open PySem PySem.Spec PyProof.Rows L2
abbrev nMoved : List Str := ["self", "start", "below", "place", "layer", "best", "queue", "at", "price", "number"]
theorem scMoved : FnScope nMoved ["self", "start"] (defScope sMoved') := ⟨rfl, rfl, rfl, by decide +kernel, rfl, by decide +kernel, by decide +kernel⟩
theorem nodup_lt : ∀ (N : Nat) {E : List Nat}, E.Nodup → (∀ e ∈ E, e < N) → E.length ≤ N := fun N E nd h => by
  have : ∀ (ys xs : List Nat), xs.Nodup → (∀ x ∈ xs, x ∈ ys) → xs.length ≤ ys.length := by
    intro ys
    induction ys with
    | nil => intro xs _ h; cases xs with
      | nil => exact Nat.le_refl _
      | cons x xs => exact nomatch h x List.mem_cons_self
    | cons y ys ih =>
      intro xs nd h
      have h1 := ih (xs.erase y) (nd.erase y) (fun x hx => by
        have hx' := (nd.mem_erase_iff).mp hx
        rcases List.mem_cons.mp (h x hx'.2) with e | m
        · exact absurd e hx'.1
        · exact m)
      have h2 : xs.length ≤ (xs.erase y).length + 1 := by
        rw [List.length_erase]; split <;> omega
      rw [List.length_cons]; omega
  have := this (List.range N) E nd (fun x hx => List.mem_range.mpr (h x hx))
  rwa [List.length_range] at this
def srcL (D : LvD) (row : List (Option Int)) (x : Option Int) (layer : Nat) : List (Nat × Int) := (List.range D.many).flatMap fun (at_ : Nat) => if x = none ∨ x = some ((at_ : Nat) : Int) then outR D row at_ layer else []
def outH (D : LvD) (n : Nat) : List (Nat × Int) := match D.hops[n]? with
  | some h => outR D ((D.rows[h.col]?).getD []) h.to_.toNat (n % (D.asked.length + 1))
  | none => []
theorem rep_flat (n : Nat) : (List.replicate n [V.non]).flatten = List.replicate n V.non := by
  induction n with
  | zero => rfl
  | succ n ih => rw [List.replicate_succ, List.replicate_succ, List.flatten_cons, ih]; rfl
theorem rep_ents (NV : Hp → V → Prop) (H : Hp) (n : Nat) : Paired (EntT NV H) (List.replicate n V.non) (List.replicate n none) := by
  induction n with
  | zero => exact .nil
  | succ n ih => rw [List.replicate_succ, List.replicate_succ]; exact .cons rfl ih
theorem flat_snoc {α : Type} (f : Nat → List α) (i : Nat) : (List.range (i + 1)).flatMap f = (List.range i).flatMap f ++ f i := by
  rw [List.range_succ, List.flatMap_append]
  congr 1
  rw [List.flatMap_cons, List.flatMap_nil, List.append_nil]
theorem step_lt {n e l l' : Nat} (he : e + 1 ≤ n) (hl : l' + 1 ≤ l + n) : (n - (e + 1)) * (n + 1) + l' < (n - e) * (n + 1) + l := by
  obtain ⟨r, hr⟩ : ∃ r, n - e = r + 1 := ⟨n - e - 1, by omega⟩
  have h2 : n - (e + 1) = r := by omega
  rw [hr, h2, Nat.succ_mul]
  omega
theorem many_mul {n e : Nat} : (10 + (e + 1)) * n = (10 + e) * n + n := by rw [← Nat.add_assoc, Nat.succ_mul]
section
variable {P : Program} {w : World} {K : PySem.W.Frag} {mg : Str → Option Value} {base : Heap}
structure MvK (mg : Str → Option Value) : Prop where
  pop : mg "heappop" = some (.builtin "_heapq.heappop")
  push : mg "heappush" = some (.builtin "_heapq.heappush")
def spMoved (N : NtK P w K mg base) (C : Addr) : Sp := fun vs H Q _ => ∃ (lv st ra : Addr) (x : Option Int) (layer : Nat) (row : List (Option Int)) (D : LvD), vs = [.ref lv, .ref st] ∧ LevT N.NV N.At C H lv D ∧ LevOk D ∧ H st = some (.tup [.ref ra, oT x, .int (layer : Nat)]) ∧ RowT N.NV H (.ref ra) row ∧
  (∀ h ∈ D.hops, h.col < row.length) ∧ (∀ p : Int, some p ∈ row → 0 ≤ p) ∧ layer < D.asked.length + 1 ∧
  ∀ H' b B E low, Evl.Ex H H' → BestT N.NV H' b B → B.length = D.hops.length → Dk.St (srcL D row x layer) (outH D) B [] E low → Q (.ref b) H'
theorem ok_moved (N : NtK P w K mg base) (L : LvC K mg) (B : Bi mg) (G : MvK mg) : FnOk P w K mg base CX0 4 L.f7 L.d7 ["self", "start"] (spMoved N L.C) := by
  have GM : FnOk P w K mg base CX0 3 L.f8 L.d8 ["self", "best", "queue", "entry", "start"] (spMoveOn N L.C) := ok_moveOn N L G.push
  have GB : FnOk P w K mg base CX0 1 L.f6 L.d6 ["self", "number"] (spBehind N L.C) := ok_behind N L
  refine L.F7.ok scMoved (fun vs H Q E h => ?_) (fun cdv A outer s H vs Q E hr h => ?_)
  · obtain ⟨lv, st, ra, x, layer, row, D, rfl, _⟩ := h; rfl
  · obtain ⟨lv, st, ra, x, layer, row, D, rfl, hL, ok, hst, hrow, wide, rnn, lm, k⟩ := h
    have hr1 : Room 1 _ := hr.mono (by decide)
    have hu65 : A.units + 3 + 65 < cLine := by
      have := hr.un
      have : (A.deeper (envOfC "Level.moved" (defScope sMoved') s.heap.objs.size L.f7 cdv)).units = A.units + 3 := rfl
      omega
    refine ⟨_, (Evl.pss_cut (ps_asg (pv 1) (pg_tup rfl (pgs_cons (pg_name (i := 2) scMoved.nd rfl (.inl rfl)) (pgs_cons (pg_name (i := 3) scMoved.nd rfl (.inl rfl)) (pgs_cons (pg_name (i := 4) scMoved.nd rfl (.inl rfl)) pgs_nil)))))
      (Evl.pss_cut (ps_set (i := 5) scMoved.nd rfl (.inl rfl) (pe_op (r := rRep) op_rep (pe_lst (pa_cons pe_non pa_nil)) (pe_callB call_len_seq (by rfl) B.len PySem.boot_len (pa_cons (pe_fld (pv 0) rfl) pa_nil))))
      (Evl.pss_cut (ps_set (i := 6) scMoved.nd rfl (.inl rfl) (pe_lst pa_nil))
      (Evl.pss_cut (ps_for PassesOwn.never rfl (pi_range1 (by rfl) B.range (pa_cons (pe_fld (pv 0) rfl) pa_nil)) (pg_name (i := 7) scMoved.nd rfl (.inl rfl))
        (pss_one (ps_if (pt_cmpR (r := rInTD K) (op_inTD hu65) (pv 3) (pe_tup (pa_cons pe_non (pa_cons (pv 7) pa_nil))) rfl)
          (pss_one (ps_expr (pe_meth (pv 0) L.cl L.m8 GM hr L.b8 .nil pass0 (pa_cons (pv 5) (pa_cons (pv 6) (pa_cons (pe_tup (pa_cons pe_int (pa_cons (pe_meth0 (pe_fld (pv 0) rfl) N.cl N.m1 N.k1 hr1 N.b1 .nil pass0) pa_nil))) (pa_cons (pe_tup (pa_cons (pv 2) (pa_cons (pv 7) (pa_cons (pv 4) pa_nil)))) pa_nil))))))) pss_nil)))
      (pss_cons (ps_while PassesOwn.never (pt_truth (pv 6) (fun _ => rfl))
        (Evl.pss_cut (ps_asg (pe_callBfun (r := Hq.rPop K) (Hq.cr_pop hr.units) (by rfl) G.pop (pa_cons (pv 6) pa_nil)) (pg_tup rfl (pgs_cons (pg_name (i := 8) scMoved.nd rfl (.inl rfl)) (pgs_cons (pg_name (i := 9) scMoved.nd rfl (.inl rfl)) pgs_nil))))
        (pss_one (ps_if (pt_cmpR op_eq (pv 8) (pe_ix (r := rIxT K) ix_tup (pe_ix (r := rIxL K) ix_list (pv 5) (pv 9) (fun _ _ => rfl)) pe_int (fun _ _ => rfl)) (nomark _))
          (pss_one (ps_expr (pe_meth (pv 0) L.cl L.m8 GM hr L.b8 .nil pass0 (pa_cons (pv 5) (pa_cons (pv 6) (pa_cons (pe_ix (r := rIxL K) ix_list (pv 5) (pv 9) (fun _ _ => rfl)) (pa_cons (pe_meth (pv 0) L.cl L.m6 GB hr1 L.b6 .nil pass0 (pa_cons (pv 9) pa_nil)) pa_nil))))))) pss_nil))))
      (pss_one (ps_ret (pv 5)))))))), ?_⟩
    obtain ⟨dx, fs, bl, ak, en, nt, hp, on, nxx, ls, rvs, evs, hvs, ovs, nvs, lvs, h1, h2, ⟨a1, a2, a3⟩, a4, _, _, ⟨b1, b2⟩, b3, ⟨b4, b5, b6⟩, _, ⟨c1, c2, c3⟩, _⟩ := hL.at_
    obtain ⟨dn, fn, i1, i2, _⟩ := N.ins _ _ b2
    have lh : hvs.length = D.hops.length := Paired.len b6
    generalize hN : D.hops.length = n at *
    have n900 : n ≤ 900 := by rw [← hN]; exact ok.h1000
    refine ⟨fun σ H' => σ = [some (.ref lv), some (.ref st), some (.ref ra), some (oT x), some (.int (layer : Nat)), none, none, none, none, none] ∧ H = H', ?_, ?_⟩
    · refine ⟨.ref st, rfl, st, _, rfl, SqT.of hst, rfl, _, _, rfl, _, _, rfl, _, _, rfl, rfl, ?_⟩
      exact ⟨rfl, rfl⟩
    rintro _ _ ⟨rfl, rfl⟩
    refine ⟨fun σ H' => ∃ b, σ = [some (.ref lv), some (.ref st), some (.ref ra), some (oT x), some (.int (layer : Nat)), some (.ref b), none, none, none, none] ∧ Evl.Ex H H' ∧ H b = none ∧ H' b = some (.lst (List.replicate n .non)), ?_, ?_⟩
    · refine ⟨(by show 1 ≤ sizeLine; decide), fun t nt' => ?_⟩
      have e1 := Evl.Ex.new (o := .lst [.non]) nt'
      have gt : (upd H t (.lst [.non])) t = some (.lst [.non]) := upd_same
      generalize upd H t (.lst [.non]) = H1 at e1 gt
      refine ⟨.ref lv, rfl, lv, L.C, dx, fs, .ref hp, rfl, e1 _ _ h1, L.cl, L.n7, b4, hp, hvs, rfl, .inl (SqL.of (e1 _ _ b5)), ?_⟩
      refine ⟨t, (hvs.length : Nat), [.non], rfl, rfl, gt, (by omega), (by omega), ?_, fun b nb => ?_⟩
      · rw [Int.toNat_natCast, lh]
        show 1 * n ≤ sizeLine
        exact Nat.le_trans (by omega : 1 * n ≤ 900) (by decide)
      have er : (List.replicate ((hvs.length : Nat) : Int).toNat [V.non]).flatten = List.replicate n V.non := by
        rw [Int.toNat_natCast, lh]
        exact rep_flat n
      rw [er]
      exact ⟨b, rfl, e1.trans (Evl.Ex.new nb), Evl.fresh_back e1 nb, upd_same⟩
    rintro _ H1 ⟨b, rfl, e1, nb, hb1⟩
    refine ⟨fun σ H' => ∃ q, σ = [some (.ref lv), some (.ref st), some (.ref ra), some (oT x), some (.int (layer : Nat)), some (.ref b), some (.ref q), none, none, none] ∧ Evl.Ex H1 H' ∧ H1 q = none ∧ H' q = some (.lst []), ?_, ?_⟩
    · refine ⟨(by show 0 ≤ sizeLine; decide), fun q nq => ?_⟩
      exact ⟨q, rfl, Evl.Ex.new nq, nq, upd_same⟩
    rintro _ H2 ⟨q, rfl, e2, nq1, hq2⟩
    have nq : H q = none := Evl.fresh_back e1 nq1
    have bq : b ≠ q := fun z => by rw [← z, hb1] at nq1; cases nq1
    have e02 := e1.trans e2
    have hb2 := e2 _ _ hb1
    have M0 : Dk.Mid (srcL D row x layer) (outH D) (List.replicate n none) (([] : List Addr).map fun _ => ((0 : Int), 0)) [] 0 none [] := Dk.Mid.start n
    refine ⟨fun σ H' => ∃ (B' : List (Option Int)) (L' : List Addr) (key' : Addr → Int × Nat) (y7 y8 y9 : Option V), σ = [some (.ref lv), some (.ref st), some (.ref ra), some (oT x), some (.int (layer : Nat)), some (.ref b), some (.ref q), y7, y8, y9] ∧
        Ex2 b q H2 H' ∧ BestT N.NV H' b B' ∧ B'.length = n ∧ QuT H' q L' key' ∧ L'.length ≤ D.many * n ∧ Dk.Mid (srcL D row x layer) (outH D) B' (L'.map key') [] 0 none (srcL D row x layer), ?_, ?_⟩
    · refine ⟨.ref lv, rfl, lv, L.C, dx, fs, .int (D.many : Nat), rfl, e02 _ _ h1, L.cl, L.n1, a4, (D.many : Nat), rfl, (by omega), (by have := ok.m10; omega), ?_⟩
      rw [Int.toNat_natCast]
      refine for_range (lo := 0) (n := D.many) (fun i σ H' => ∃ (B' : List (Option Int)) (L' : List Addr) (key' : Addr → Int × Nat) (y7 y8 y9 : Option V), σ = [some (.ref lv), some (.ref st), some (.ref ra), some (oT x), some (.int (layer : Nat)), some (.ref b), some (.ref q), y7, y8, y9] ∧
          Ex2 b q H2 H' ∧ BestT N.NV H' b B' ∧ B'.length = n ∧ QuT H' q L' key' ∧ L'.length ≤ i * n ∧ Dk.Mid (srcL D row x layer) (outH D) B' (L'.map key') [] 0 none ((List.range i).flatMap fun (at_ : Nat) => if x = none ∨ x = some ((at_ : Nat) : Int) then outR D row at_ layer else []))
        ⟨List.replicate n none, [], fun _ => (0, 0), none, none, none, rfl, Ex2.refl b q H2, ⟨_, hb2, ?_⟩, List.length_replicate, ⟨hq2, fun i hi => (nomatch hi), fun j x p _ hx => by cases hx⟩, Nat.zero_le _, M0⟩ ?_ ?_
      · exact rep_ents _ _ _
      · rintro i σ H3 il ⟨B3, L3, key3, y7, y8, y9, rfl, e3, hB3, lB3, hQ3, lL3, M3⟩
        have e03 := e3.base e02 nb nq
        have ie : (0 : Int) + (i : Nat) = (i : Nat) := by omega
        rw [ie]
        refine ⟨oT x, rfl, .int (i : Nat), rfl, (by show 2 ≤ sizeLine; decide), fun t nt' => ?_⟩
        have e4 := Evl.Ex.new (o := .tup [.non, .int (i : Nat)]) nt'
        have g4 : (upd H3 t (.tup [.non, .int (i : Nat)])) t = some (.tup [.non, .int (i : Nat)]) := upd_same
        generalize upd H3 t (.tup [.non, .int (i : Nat)]) = H4 at e4 g4
        refine ⟨oTD x, [oTD none, oTD (some (i : Nat))], dp_oT _, .tup (SqT.of g4) (.cons .non (.cons (.int _) .nil)), shaped_oTD _, shaped_two none (some (i : Nat)), _, rfl, ?_⟩
        rw [any_two]
        have mulsucc : (i + 1) * n = i * n + n := Nat.succ_mul _ _
        refine ite2 (fun hc => ?_) (fun hc => ?_)
        · have hx : x = none ∨ x = some ((i : Nat) : Int) := of_decide_eq_true hc
          have e04 := e03.trans e4
          refine ⟨.ref lv, rfl, lv, dx, fs, rfl, e04 _ _ h1, h2.m8, .ref b, rfl, .ref q, rfl, .ref lv, rfl, lv, L.C, dx, fs, .ref nt, rfl, e04 _ _ h1, L.cl, L.n5, b1, nt, dn, fn, rfl, e04 _ _ i1, i2, ?_⟩
          refine ⟨nt, rfl, N.ex _ _ _ e04 b2, fun H5 v e5 hv => ?_⟩
          refine ⟨(by show 2 ≤ sizeLine; decide), fun t2 nt2 => ?_⟩
          have e6 := Evl.Ex.new (o := .tup [.int 0, v]) nt2
          have g6 : (upd H5 t2 (.tup [.int 0, v])) t2 = some (.tup [.int 0, v]) := upd_same
          generalize upd H5 t2 (.tup [.int 0, v]) = H6 at e6 g6
          refine ⟨.ref ra, rfl, .int (i : Nat), rfl, .int (layer : Nat), rfl, (by show 3 ≤ sizeLine; decide), fun t3 nt3 => ?_⟩
          have e7 := Evl.Ex.new (o := .tup [.ref ra, .int (i : Nat), .int (layer : Nat)]) nt3
          have g7 : (upd H6 t3 (.tup [.ref ra, .int (i : Nat), .int (layer : Nat)])) t3 = some (.tup [.ref ra, .int (i : Nat), .int (layer : Nat)]) := upd_same
          generalize upd H6 t3 (.tup [.ref ra, .int (i : Nat), .int (layer : Nat)]) = H7 at e7 g7
          have e37 := ((e4.trans e5).trans e6).trans e7
          have e67 := e6.trans e7
          have iN : i * n ≤ 10 * 900 := Nat.mul_le_mul (by have := ok.m10; omega) n900
          refine ⟨lv, b, q, .ref t2, t3, ra, i, layer, row, D, H, B3, L3, key3, srcL D row x layer, outH D, [], 0, none, _, rfl, e03.trans e37, hL, ok, nb, nq, bq, hB3.mono N.nx e37, by rw [hN]; exact lB3, hQ3.mono e37, by omega, M3, ⟨t2, v, rfl, e7 _ _ g6, N.nx _ _ _ e67 hv⟩, g7, hrow, wide, rnn, il, lm, fun y c hy => ?_, fun H8 B8 L8 key8 e8 hB8 lB8 hQ8 lL8 M8 => ?_⟩
          · rw [Int.zero_add]
            refine .src (List.mem_flatMap.mpr ⟨i, List.mem_range.mpr il, ?_⟩)
            rw [if_pos hx]
            exact hy
          · rw [hN] at lL8
            refine ⟨B8, L8, key8, _, _, _, rfl, e3.trans ((Ex2.ex e37).trans e8), hB8, by rw [← hN]; exact lB8, hQ8, by omega, ?_⟩
            rw [flat_snoc, if_pos hx]
            exact M8
        · have hx : ¬ (x = none ∨ x = some ((i : Nat) : Int)) := fun z => hc (decide_eq_true z)
          refine ⟨B3, L3, key3, _, _, _, rfl, e3.trans (Ex2.ex e4), hB3.mono N.nx e4, lB3, hQ3.mono e4, by omega, ?_⟩
          rw [flat_snoc, if_neg hx, List.append_nil]
          exact M3
      · rintro σ H3 h
        exact h
    rintro _ H3 ⟨B3, L3, key3, y7, y8, y9, rfl, e3, hB3, lB3, hQ3, lL3, M3⟩
    have E_n : ∀ {Bx : List (Option Int)} {Qx : List (Int × Nat)} {Ex : List Nat} {lowx : Int}, Bx.length = n → Dk.St (srcL D row x layer) (outH D) Bx Qx Ex lowx → Ex.length ≤ n := fun {Bx Qx Ex lowx} hl S => by
      refine nodup_lt n S.mid.nde fun e he => ?_
      obtain ⟨v, hv, _⟩ := S.mid.exp e he
      rw [← hl]
      unfold Dk.bst at hv
      cases hx : Bx[e]? with
      | none => rw [hx] at hv; cases hv
      | some o => exact (List.getElem?_eq_some_iff.mp hx).1
    refine ⟨fun m σ H' => ∃ (B' : List (Option Int)) (L' : List Addr) (key' : Addr → Int × Nat) (E' : List Nat) (low : Int) (y7 y8 y9 : Option V), σ = [some (.ref lv), some (.ref st), some (.ref ra), some (oT x), some (.int (layer : Nat)), some (.ref b), some (.ref q), y7, y8, y9] ∧
        Ex2 b q H2 H' ∧ BestT N.NV H' b B' ∧ B'.length = n ∧ QuT H' q L' key' ∧ L'.length ≤ (10 + E'.length) * n ∧ Dk.St (srcL D row x layer) (outH D) B' (L'.map key') E' low ∧ m = (n - E'.length) * (n + 1) + L'.length,
      ⟨_, B3, L3, key3, [], 0, _, _, _, rfl, e3, hB3, lB3, hQ3, Nat.le_trans lL3 (Nat.mul_le_mul (by have := ok.m10; simp; omega) (Nat.le_refl _)), M3.begun, rfl⟩, ?_⟩
    rintro m σ H6 ⟨B6, L6, key, E', low, z7, z8, z9, rfl, e6, hB6, lB6, hQ6, lL6, S0, rfl⟩
    have e06 := e6.base e02 nb nq
    refine ⟨.ref q, rfl, _, .inl ⟨_, SqL.of hQ6.at_, rfl⟩, ?_⟩
    rcases L6 with _ | ⟨xx, L0⟩
    · refine iteF ?_
      exact ⟨.ref b, rfl, k H6 b B6 E' low e06 hB6 lB6 S0⟩
    refine ite2 (fun _ => ?_) (fun hc => absurd hc (by simp))
    generalize hL6 : xx :: L0 = L6 at *
    have h0 : L6[0]? = some xx := by rw [← hL6]; rfl
    have lne : 0 < L6.length := (List.getElem?_eq_some_iff.mp h0).1
    obtain ⟨z, hz⟩ : ∃ z, L6[L6.length - 1]? = some z := ⟨_, List.getElem?_eq_getElem (by omega)⟩
    rcases hkx : key xx with ⟨paid, here⟩
    refine ⟨fun σ' H' => ∃ (B' : List (Option Int)) (L' : List Addr) (key' : Addr → Int × Nat) (E1 : List Nat) (low : Int) (y7 y8 y9 : Option V), σ' = [some (.ref lv), some (.ref st), some (.ref ra), some (oT x), some (.int (layer : Nat)), some (.ref b), some (.ref q), y7, y8, y9] ∧
        Ex2 b q H2 H' ∧ BestT N.NV H' b B' ∧ B'.length = n ∧ QuT H' q L' key' ∧ L'.length ≤ (10 + E1.length) * n ∧ Dk.St (srcL D row x layer) (outH D) B' (L'.map key') E1 low ∧ (n - E1.length) * (n + 1) + L'.length < (n - E'.length) * (n + 1) + L6.length, ?_, ?_⟩
    · rintro σ' H' ⟨B', L', key', E1, low', y7, y8, y9, g1, g2, g3, g4, g5, g6, g7, g8⟩
      exact ⟨_, g8, B', L', key', E1, low', y7, y8, y9, g1, g2, g3, g4, g5, g6, g7, rfl⟩
    have pm : (xx :: Hq.hrest (ltN key) L6 z).Perm L6 := Hq.hrest_perm h0 hz
    have rh : Hq.Heap (ltN key) (Hq.hrest (ltN key) L6 z) := Hq.hrest_heap (Hq.ord_map Hq.ltK_ord (kw key)) hQ6.hp
    have lst : ∀ i ∈ L6, paid ≤ (key i).1 := fun i hi => by
      obtain ⟨j, hj⟩ := List.mem_iff_getElem?.mp hi
      have := Hq.ltK_price (Hq.heap_least (Hq.ord_map Hq.ltK_ord (kw key)) hQ6.hp h0 j j i (Nat.le_refl _) hj)
      have e : (kw key xx).1 = paid := by show (key xx).1 = paid; rw [hkx]
      rw [e] at this
      exact this
    generalize hL' : Hq.hrest (ltN key) L6 z = L' at pm rh
    have pl : L6.length = L'.length + 1 := by rw [← pm.length_eq, List.length_cons]
    have pk : (L6.map key).Perm ((paid, here) :: L'.map key) := by
      have := (pm.map key).symm
      rw [List.map_cons, hkx] at this
      exact this
    have sub : ∀ i ∈ L', i ∈ L6 := fun i hi => pm.mem_iff.mp (List.mem_cons_of_mem _ hi)
    refine ⟨fun σ' H' => σ' = [some (.ref lv), some (.ref st), some (.ref ra), some (oT x), some (.int (layer : Nat)), some (.ref b), some (.ref q), z7, some (.int paid), some (.int (here : Nat))] ∧ Ex2 b q H2 H' ∧ BestT N.NV H' b B6 ∧ QuT H' q L' key, ?_, ?_⟩
    · refine ⟨.ref q, rfl, q, xx, z, L6, kw key, rfl, hQ6.at_, h0, hz, (fun i hi => Evl.st_of (hQ6.it i hi)), ?_⟩
      have hx1 := hQ6.it xx (List.mem_of_getElem? h0)
      unfold ItR at hx1
      rw [hkx] at hx1
      rw [show Hq.hrest (fun i j => Hq.ltK (kw key i) (kw key j)) L6 z = L' from hL']
      have tk := Tk.lst (o := .lst (L'.map V.ref)) hQ6.at_
      obtain ⟨bvs, hb6, hbp⟩ := hB6
      refine ⟨xx, _, rfl, SqT.of (tk _ _ hx1), rfl, _, _, rfl, _, _, rfl, rfl, ?_⟩
      exact ⟨rfl, e6.trans Ex2.put2, ⟨bvs, by rw [upd_ne bq]; exact hb6, Paired.imp (fun _ _ z => EntT.tk N.tk tk z) hbp⟩, upd_same, fun i hi => tk _ _ (hQ6.it i (sub i hi)), rh⟩
    rintro _ H7 ⟨rfl, e7, hB7, hQ7⟩
    have e07 := e7.base e02 nb nq
    have inQ : (paid, here) ∈ L6.map key := pk.mem_iff.mpr List.mem_cons_self
    obtain ⟨v0, hv0, le0⟩ := S0.mid.que _ _ inQ
    obtain ⟨bvs7, hb7, hbp7⟩ := id hB7
    have hv1 : B6[here]? = some (some v0) := by
      unfold Dk.bst at hv0
      cases hx : B6[here]? with
      | none => rw [hx] at hv0; cases hv0
      | some o => rw [hx] at hv0; rw [show o = some v0 from hv0]
    obtain ⟨bv, hbv, hbe⟩ := Paired.get2 hbp7 hv1
    obtain ⟨ba, bn, rfl, hba, hbn⟩ := id hbe
    have hn := (List.getElem?_eq_some_iff.mp hv1).1
    rw [lB6] at hn
    have least' : ∀ p y, (p, y) ∈ L'.map key → paid ≤ p := fun p y hy => by
      obtain ⟨i, hi, ei⟩ := List.mem_map.mp hy
      have := lst i (sub i hi)
      rw [ei] at this
      exact this
    refine ⟨.int paid, rfl, .ref b, rfl, .int (here : Nat), rfl, b, bvs7, (here : Nat), .ref ba, rfl, rfl, SqL.of hb7, atI_nat hbv, ba, _, 0, .int v0, rfl, rfl, SqT.of hba, atI_nat (j := 0) rfl, rfl, _, rfl, ?_⟩
    refine ite2 (fun hc => ?_) (fun hc => ?_)
    · have ev : paid = v0 := V.int.inj (of_decide_eq_true hc)
      subst ev
      obtain ⟨M1, lowle⟩ := S0.go pk hv0 least'
      obtain ⟨h, hh⟩ : ∃ h, D.hops[here]? = some h := ⟨_, List.getElem?_eq_getElem (by rw [hN]; exact hn)⟩
      obtain ⟨⟨hrow2, hrw⟩, pp, hto, ppm⟩ := ok.hop here h hh
      have hmem := List.mem_of_getElem? hh
      have rmem := List.mem_of_getElem? hrw
      have oe : outH D here = outR D hrow2 pp (here % (D.asked.length + 1)) := by
        unfold outH
        rw [hh]
        show outR D ((D.rows[h.col]?).getD []) h.to_.toNat _ = _
        rw [hrw, hto, Int.toNat_natCast]; rfl
      refine ⟨.ref lv, rfl, lv, dx, fs, rfl, e07 _ _ h1, h2.m8, .ref b, rfl, .ref q, rfl, .ref b, rfl, .int (here : Nat), rfl, b, bvs7, (here : Nat), .ref ba, rfl, rfl, SqL.of hb7, atI_nat hbv, .ref lv, rfl, lv, dx, fs, rfl, e07 _ _ h1, h2.m6, .int (here : Nat), rfl, ?_⟩
      refine ⟨lv, here, h, hrow2, D, H, rfl, e07, hL, hh, hrw, fun H8 t ra2 e8 ht hrt => ?_⟩
      rw [hto] at ht
      have lm2 : here % (D.asked.length + 1) < D.asked.length + 1 := Nat.mod_lt _ (by omega)
      have dn0 : ∀ y c, (y, c) ∈ (srcL D row x layer).map (fun p => (p.1, p.2 - paid)) → ∃ w, Dk.bst B6 y = some w ∧ w ≤ paid + c := fun y c hy => by
        obtain ⟨⟨y', c'⟩, hm, e⟩ := List.mem_map.mp hy
        cases e
        obtain ⟨w, hw, le⟩ := S0.srcs _ _ hm
        exact ⟨w, hw, by show w ≤ paid + (c' - paid); omega⟩
      have M2 : Dk.Mid (srcL D row x layer) (outH D) B6 (L'.map key) E' paid (some here) ((srcL D row x layer).map (fun p => (p.1, p.2 - paid))) := ⟨M1.rch, M1.que, M1.qnd, M1.nde, M1.exp, M1.opn, M1.me, M1.lows, dn0⟩
      have En := E_n lB6 S0
      have l900 : (10 + E'.length) * n ≤ (10 + 900) * 900 := Nat.mul_le_mul (by omega) n900
      refine ⟨lv, b, q, .ref ba, t, ra2, pp, here % (D.asked.length + 1), hrow2, D, H, B6, L', key, srcL D row x layer, outH D, E', paid, some here, _, rfl, e07.trans e8, hL, ok, nb, nq, bq, hB7.mono N.nx e8, by rw [hN]; exact lB6, hQ7.mono e8, by omega, M2, EntT.ex N.nx e8 hbe, ht, hrt, fun g hg => ok.width hrow2 rmem g hg, fun p hp => ok.nn hrow2 rmem p hp, ppm, lm2, fun y c hy => ?_, fun H9 B9 L9 key9 e9 hB9 lB9 hQ9 lL9 M9 => ?_⟩
      · exact .step (M1.rch _ _ hv0) (by rw [oe]; exact hy)
      · rw [hN] at lL9 lB9
        have M10 : Dk.Mid (srcL D row x layer) (outH D) B9 (L9.map key9) E' paid (some here) (outH D here) := ⟨M9.rch, M9.que, M9.qnd, M9.nde, M9.exp, M9.opn, M9.me, M9.lows, fun y c hy => M9.dn_ y c (List.mem_append_right _ (by rw [← oe]; exact hy))⟩
        have S1 := M10.done (fun y c hy => by
          obtain ⟨w, hw, le⟩ := M9.dn_ y (c - paid) (List.mem_append_left _ (List.mem_map.mpr ⟨(y, c), hy, rfl⟩))
          exact ⟨w, hw, by omega⟩)
        have En1 := E_n lB9 S1
        rw [List.length_append, List.length_singleton] at En1
        have em : (E' ++ [here]).length = E'.length + 1 := by rw [List.length_append, List.length_singleton]
        refine ⟨B9, L9, key9, E' ++ [here], paid, _, _, _, rfl, e7.trans ((Ex2.ex e8).trans e9), hB9, lB9, hQ9, ?_, S1, ?_⟩
        · rw [em, many_mul]; omega
        · rw [em]
          exact step_lt En1 (by omega)
    · exact ⟨B6, L', key, E', low, _, _, _, rfl, e7, hB7, lB6, hQ7, by omega, S0.old pk (fun z => hc (by rw [hv0] at z; cases z; exact decide_eq_true rfl)) least', by omega⟩
end
end Wb

set_option Elab.async false
set_option linter.all false
set_option maxRecDepth 100000
set_option maxHeartbeats 8000000
set_option pp.maxSteps 900
set_option pp.deepTerms false
namespace Wb
open PySem PySem.Spec PyProof.Rows L2
abbrev nEntry : List Str := ["self", "start", "number", "known", "column", "last", "upto", "found", "hop"]
theorem scEntry : FnScope nEntry ["self", "start", "number", "known"] (defScope sEntry) := ⟨rfl, rfl, rfl, by decide +kernel, rfl, by decide +kernel, by decide +kernel⟩
abbrev nEntries : List Str := ["self", "start", "known", "number"]
theorem scEntries : FnScope nEntries ["self", "start"] (defScope sEntries) := ⟨rfl, rfl, rfl, by decide +kernel, rfl, by decide +kernel, by decide +kernel⟩
theorem cut_mid (as_ : List (Option Int)) {a c : Nat} (h : a ≤ c) (hc : c ≤ as_.length) : cutV (as_.map oT) (some ((a : Nat) : Int)) (some ((c : Nat) : Int)) = ((as_.drop a).take (c - a)).map oT := by
  unfold cutV
  rw [HT.sIx_nat, HT.sIx_nat, List.length_map, Nat.min_eq_left hc, Nat.min_eq_left (by omega), List.map_take, List.map_drop]
theorem Lst.better {S T : Int → Prop} {o o' : Option Int} (h : Lst S o) (h' : Lst T o') : Lst (fun p => S p ∨ T p) (betterO o o') := by
  cases o with
  | none =>
    cases o' with
    | none => exact fun p z => z.elim (h p) (h' p)
    | some q => exact ⟨.inr h'.1, fun p z => z.elim (fun y => absurd y (h p)) (h'.2 p)⟩
  | some p =>
    cases o' with
    | none => exact ⟨.inl h.1, fun q z => z.elim (h.2 q) (fun y => absurd y (h' q))⟩
    | some q =>
      show Lst _ (if p < q then some p else if q < p then some q else some p)
      by_cases c : p < q
      · rw [if_pos c]
        exact ⟨.inl h.1, fun r z => z.elim (h.2 r) (fun y => by have := h'.2 r y; omega)⟩
      · rw [if_neg c]
        by_cases c2 : q < p
        · rw [if_pos c2]
          exact ⟨.inr h'.1, fun r z => z.elim (fun y => by have := h.2 r y; omega) (h'.2 r)⟩
        · rw [if_neg c2]
          exact ⟨.inl h.1, fun r z => z.elim (h.2 r) (fun y => by have := h'.2 r y; omega)⟩
/-- the prices of the ways that end with some hops -/
def viaH (D : LvD) (B : List (Option Int)) (ls : List Nat) (col : Nat) (p : Int) : Prop := ∃ n h row q r, n ∈ ls ∧ D.hops[n]? = some h ∧ D.rows[h.col]? = some row ∧ Dk.bst B n = some q ∧ row[col]? = some (some r) ∧ p = q + r
/-- the answer of entry, by what is known of the start -/
def EntA (D : LvD) (x : Option Int) (layer : Nat) (row : List (Option Int)) (B : List (Option Int)) (n : Nat) (o : Option Int) : Prop := ∃ e ls, D.ends[n]? = some e ∧ D.lasts[n]? = some ls ∧
  (e.upto < layer → o = none) ∧ (layer ≤ e.upto → (oneP (x :: e.last :: (D.asked.drop layer).take (e.upto - layer)) → row[e.col]? = some o) ∧ (¬ oneP (x :: e.last :: (D.asked.drop layer).take (e.upto - layer)) → Lst (viaH D B ls e.col) o))
structure LevOk2 (D : LvD) : Prop where
  ok : LevOk D
  a10 : D.asked.length ≤ 10
  lens : D.lasts.length = D.ends.length
  e1000 : D.ends.length ≤ 1000
  upto : ∀ e ∈ D.ends, e.upto ≤ D.asked.length
  cols : ∀ e ∈ D.ends, ∀ row ∈ D.rows, e.col < row.length
  lastn : ∀ ls ∈ D.lasts, ∀ n ∈ ls, n < D.hops.length
structure TbK (K : PySem.W.Frag) (mg : Str → Option Value) where
  f34 : Addr
  d34 : FuncData
  F34 : Fun K "layers_from" "layers_from" sLayers f34 d34
  b34 : Binds K d34 ["asked", "place", "layer"] []
  g34 : mg "layers_from" = some (.ref f34)
  f35 : Addr
  d35 : FuncData
  F35 : Fun K "are_one" "are_one" sAreOne f35 d35
  b35 : Binds K d35 ["places"] []
  g35 : mg "are_one" = some (.ref f35)
  mv : MvK mg
section
variable {P : Program} {w : World} {K : PySem.W.Frag} {mg : Str → Option Value} {base : Heap}
def spEntry (N : NtK P w K mg base) (C : Addr) : Sp := fun vs H Q _ => ∃ (lv st b ra : Addr) (n : Nat) (x : Option Int) (layer : Nat) (row : List (Option Int)) (D : LvD) (B : List (Option Int)), vs = [.ref lv, .ref st, .int (n : Nat), .ref b] ∧ LevT N.NV N.At C H lv D ∧ LevOk2 D ∧ H st = some (.tup [.ref ra, oT x, .int (layer : Nat)]) ∧ RowT N.NV H (.ref ra) row ∧
  (∀ e ∈ D.ends, e.col < row.length) ∧ layer ≤ D.asked.length ∧ BestT N.NV H b B ∧ B.length = D.hops.length ∧ n < D.ends.length ∧
  ∀ H' r o, Evl.Ex H H' → EntT N.NV H' r o → EntA D x layer row B n o → Q r H'
theorem ok_entry (N : NtK P w K mg base) (L : LvC K mg) (B : Bi mg) (T : TbK K mg) : FnOk P w K mg base CX0 3 L.f5 L.d5 ["self", "start", "number", "known"] (spEntry N L.C) := by
  have GJ : FnOk P w K mg base CX0 2 L.f12 L.d12 ["self", "entry", "other"] (spJoined N L.C) := ok_joined N L
  have GB : FnOk P w K mg base CX0 2 L.f13 L.d13 ["self", "entry", "other"] (spBetter N L.C) := ok_better N L
  have GO : FnOk P w K mg base CX0 1 T.f35 T.d35 ["places"] spAreOne := ok_areOne T.F35 B
  refine L.F5.ok scEntry (fun vs H Q E h => ?_) (fun cdv A outer s H vs Q E hr h => ?_)
  · obtain ⟨lv, st, b, ra, n, x, layer, row, D, Bs, rfl, _⟩ := h; rfl
  · obtain ⟨lv, st, b, ra, n, x, layer, row, D, Bs, rfl, hL, ok, hst, hrow, wide, lm, hB, lB, hn, k⟩ := h
    have hr1 : Room 1 _ := hr.mono (by decide)
    refine ⟨_, (Evl.pss_cut (ps_asg (pe_ix (r := rIxL K) ix_list (pe_fld (pv 0) rfl) (pv 2) (fun _ _ => rfl)) (pg_tup rfl (pgs_cons (pg_name (i := 4) scEntry.nd rfl (.inl rfl)) (pgs_cons (pg_name (i := 5) scEntry.nd rfl (.inl rfl)) (pgs_cons (pg_name (i := 6) scEntry.nd rfl (.inl rfl)) pgs_nil)))))
      (pss_cons (ps_if (pt_cmpR op_lt (pv 6) (pe_ix (r := rIxT K) ix_tup (pv 1) pe_int (fun _ _ => rfl)) (nomark _)) (pss_one (ps_ret pe_non)) pss_nil)
      (pss_cons (ps_if (pt_val (pe_call GO hr1 (by rfl) T.g35 T.F35.kp T.b35 .nil pass0 (pa_cons (pe_op (r := rCat) op_cat (pe_lst (pa_cons (pe_ix (r := rIxT K) ix_tup (pv 1) pe_int (fun _ _ => rfl)) (pa_cons (pv 5) pa_nil))) (pe_slice sl_list (pe_fld (pv 0) rfl) (po_some (pe_ix (r := rIxT K) ix_tup (pv 1) pe_int (fun _ _ => rfl))) (po_some (pv 6)))) pa_nil)))
        (pss_one (ps_ret (pe_ix (r := rIxL K) ix_list (pe_ix (r := rIxT K) ix_tup (pv 1) pe_int (fun _ _ => rfl)) (pv 4) (fun _ _ => rfl)))) pss_nil)
      (pss_cons (ps_set (i := 7) scEntry.nd rfl (.inl rfl) pe_non)
      (pss_cons (ps_for PassesOwn.never rfl (pi_list (pe_ix (r := rIxL K) ix_list (pe_fld (pv 0) rfl) (pv 2) (fun _ _ => rfl))) (pg_name (i := 8) scEntry.nd rfl (.inl rfl))
        (pss_one (ps_if (pt_cmpR op_notN (pe_ix (r := rIxL K) ix_list (pv 3) (pv 8) (fun _ _ => rfl)) pe_non (nomark _))
          (pss_one (ps_set (i := 7) scEntry.nd rfl (.inl rfl) (pe_meth (pv 0) L.cl L.m13 GB hr L.b13 .nil pass0 (pa_cons (pv 7) (pa_cons (pe_meth (pv 0) L.cl L.m12 GJ hr L.b12 .nil pass0 (pa_cons (pe_ix (r := rIxL K) ix_list (pv 3) (pv 8) (fun _ _ => rfl)) (pa_cons (pe_ix (r := rIxL K) ix_list (pe_ix (r := rIxL K) ix_list (pe_fld (pv 0) rfl) (pe_ix (r := rIxT K) ix_tup (pe_ix (r := rIxL K) ix_list (pe_fld (pv 0) rfl) (pv 8) (fun _ _ => rfl)) pe_int (fun _ _ => rfl)) (fun _ _ => rfl)) (pv 4) (fun _ _ => rfl)) pa_nil))) pa_nil))))) pss_nil)))
      (pss_one (ps_ret (pv 7)))))))), ?_⟩
    obtain ⟨dx, fs, bl, ak, en, nt, hp, on, nxx, ls, rvs, evs, hvs, ovs, nvs, lvs, h1, h2, ⟨a1, a2, a3⟩, a4, ⟨a5, a6⟩, ⟨a7, a8, a9⟩, ⟨b1, b2⟩, b3, ⟨b4, b5, b6⟩, _, _, ⟨c4, c5, c6⟩⟩ := hL.at_
    obtain ⟨e, he⟩ : ∃ e, D.ends[n]? = some e := ⟨_, List.getElem?_eq_getElem hn⟩
    obtain ⟨lsn, hls⟩ : ∃ l, D.lasts[n]? = some l := ⟨_, List.getElem?_eq_getElem (by rw [ok.lens]; exact hn)⟩
    have em := List.mem_of_getElem? he
    have lsm := List.mem_of_getElem? hls
    obtain ⟨ev, hev, ⟨ea, rfl, hea⟩⟩ := Paired.get2 a9 he
    obtain ⟨lv_, hlv, ⟨la, rfl, hla⟩⟩ := Paired.get2 c6 hls
    obtain ⟨ra_, ras, e9, hra, hrp⟩ := id hrow
    cases e9
    refine ⟨fun σ H' => σ = [some (.ref lv), some (.ref st), some (.int (n : Nat)), some (.ref b), some (.int (e.col : Nat)), some (oT e.last), some (.int (e.upto : Nat)), none, none] ∧ H = H', ?_, ?_⟩
    · refine ⟨.ref lv, rfl, lv, L.C, dx, fs, .ref en, rfl, h1, L.cl, L.n4, a7, .int (n : Nat), rfl, en, evs, (n : Nat), .ref ea, rfl, rfl, SqL.of a8, atI_nat hev, ?_⟩
      refine ⟨ea, _, rfl, SqT.of hea, rfl, _, _, rfl, _, _, rfl, _, _, rfl, rfl, ?_⟩
      exact ⟨rfl, rfl⟩
    rintro _ _ ⟨rfl, rfl⟩
    refine ⟨.int (e.upto : Nat), rfl, .ref st, rfl, st, _, 2, .int (layer : Nat), rfl, rfl, SqT.of hst, atI_nat (j := 2) rfl, (e.upto : Nat), (layer : Nat), rfl, rfl, _, rfl, ?_⟩
    refine ite2 (fun hc => ?_) (fun hc => ?_)
    · have c1 : e.upto < layer := by have := of_decide_eq_true hc; omega
      exact k H .non none (Evl.Ex.refl H) rfl ⟨e, lsn, he, hls, fun _ => rfl, fun c => absurd c (by omega)⟩
    have le : layer ≤ e.upto := by
      have : ¬ ((e.upto : Nat) : Int) < (layer : Nat) := fun z => hc (decide_eq_true z)
      omega
    have ue := ok.upto e em
    have a10 := ok.a10
    refine ⟨.ref st, rfl, st, _, 1, oT x, rfl, rfl, SqT.of hst, atI_nat (j := 1) rfl, oT e.last, rfl, (by show 2 ≤ sizeLine; decide), fun t nt' => ?_⟩
    have e1 := Evl.Ex.new (o := .lst [oT x, oT e.last]) nt'
    have g1 : (upd H t (.lst [oT x, oT e.last])) t = some (.lst [oT x, oT e.last]) := upd_same
    generalize upd H t (.lst [oT x, oT e.last]) = H1 at e1 g1
    refine ⟨.ref lv, rfl, lv, L.C, dx, fs, .ref ak, rfl, e1 _ _ h1, L.cl, L.n3, a5, .ref st, rfl, st, _, 2, .int (layer : Nat), rfl, rfl, SqT.of (e1 _ _ hst), atI_nat (j := 2) rfl, (layer : Nat), rfl, .int (e.upto : Nat), rfl, (e.upto : Nat), rfl, ak, _, rfl, SqL.of (e1 _ _ a6), fun zl nzl => ?_⟩
    rw [cut_mid D.asked le ue]
    have e2 := Evl.Ex.new (o := .lst (((D.asked.drop layer).take (e.upto - layer)).map oT)) nzl
    have g2 : (upd H1 zl (.lst (((D.asked.drop layer).take (e.upto - layer)).map oT))) zl = some (.lst (((D.asked.drop layer).take (e.upto - layer)).map oT)) := upd_same
    generalize upd H1 zl (.lst (((D.asked.drop layer).take (e.upto - layer)).map oT)) = H2 at e2 g2
    have sl : ((D.asked.drop layer).take (e.upto - layer)).length ≤ 10 := by rw [List.length_take, List.length_drop]; omega
    refine ⟨t, zl, [oT x, oT e.last], _, rfl, rfl, e2 _ _ g1, g2, ?_, fun pl npl => ?_⟩
    · rw [List.length_map]
      exact Nat.le_trans (by show 2 + _ ≤ 12; omega) (by decide)
    have e3 := Evl.Ex.new (o := .lst ([oT x, oT e.last] ++ ((D.asked.drop layer).take (e.upto - layer)).map oT)) npl
    have g3 : (upd H2 pl (.lst ([oT x, oT e.last] ++ ((D.asked.drop layer).take (e.upto - layer)).map oT))) pl = some (.lst ((x :: e.last :: (D.asked.drop layer).take (e.upto - layer)).map oT)) := upd_same
    generalize upd H2 pl (.lst ([oT x, oT e.last] ++ ((D.asked.drop layer).take (e.upto - layer)).map oT)) = H3 at e3 g3
    have e03 := (e1.trans e2).trans e3
    refine ⟨pl, _, rfl, g3, (by rw [List.length_cons, List.length_cons]; omega), fun H4 one e4 hone => ?_⟩
    have e04 := e03.trans e4
    refine ⟨one, rfl, ite2 (fun hc1 => ?_) (fun hc1 => ?_)⟩
    · have one' := hone.mp hc1
      obtain ⟨o, ho⟩ : ∃ o, row[e.col]? = some o := ⟨_, List.getElem?_eq_getElem (wide e em)⟩
      obtain ⟨ov, hov, hoe⟩ := Paired.get2 hrp ho
      refine ⟨.ref st, rfl, st, _, 0, .ref ra, rfl, rfl, SqT.of (e04 _ _ hst), atI_nat (j := 0) rfl, .int (e.col : Nat), rfl, ra, ras, (e.col : Nat), ov, rfl, rfl, SqL.of (e04 _ _ hra), atI_nat hov, ?_⟩
      exact k H4 ov o e04 (EntT.ex N.nx e04 hoe) ⟨e, lsn, he, hls, fun c => absurd c (by omega), fun _ => ⟨fun _ => ho, fun no => absurd one' no⟩⟩
    have none' : ¬ oneP (x :: e.last :: (D.asked.drop layer).take (e.upto - layer)) := fun z => hc1 (hone.mpr z)
    refine ⟨.ref lv, rfl, lv, L.C, dx, fs, .ref ls, rfl, e04 _ _ h1, L.cl, L.n10, c4, .int (n : Nat), rfl, ls, lvs, (n : Nat), .ref la, rfl, rfl, SqL.of (e04 _ _ c5), atI_nat hlv, la, rfl, ⟨_, SqL.of (e04 _ _ hla)⟩, ?_⟩
    refine for_list (K := K) (a := la) (xs := natsT lsn) (fun i σ H' => ∃ (v : V) (o : Option Int) (y8 : Option V), σ = [some (.ref lv), some (.ref st), some (.int (n : Nat)), some (.ref b), some (.int (e.col : Nat)), some (oT e.last), some (.int (e.upto : Nat)), some v, y8] ∧ Evl.Ex H H' ∧ EntT N.NV H' v o ∧ Lst (viaH D Bs (lsn.take i) e.col) o)
      ⟨.non, none, none, rfl, e04, rfl, fun p ⟨m, _, _, _, _, hm, _⟩ => by simp at hm⟩ ?_ ?_ ?_
    · rintro i σ H' _ ⟨_, _, _, _, e5, _⟩
      exact SqL.of (e5 _ _ hla)
    · rintro i xv σ H5 hx ⟨v, o, y8, rfl, e5, hv, hl⟩
      obtain ⟨m, hm, rfl⟩ : ∃ n, lsn[i]? = some n ∧ xv = .int (n : Nat) := by
        unfold natsT at hx
        rw [List.getElem?_map] at hx
        cases ho : lsn[i]? with
        | none => rw [ho] at hx; cases hx
        | some o => rw [ho] at hx; exact ⟨o, rfl, (Option.some.inj hx).symm⟩
      have mlt := ok.lastn lsn lsm m (List.mem_of_getElem? hm)
      obtain ⟨bvs, hb, hbp⟩ := id hB
      obtain ⟨o', ho'⟩ : ∃ o', Bs[m]? = some o' := ⟨_, List.getElem?_eq_getElem (by rw [lB]; exact mlt)⟩
      obtain ⟨bv, hbv, hbe⟩ := Paired.get2 hbp ho'
      have hbst : Dk.bst Bs m = o' := by unfold Dk.bst; rw [ho']; rfl
      obtain ⟨h, hh⟩ : ∃ h, D.hops[m]? = some h := ⟨_, List.getElem?_eq_getElem mlt⟩
      obtain ⟨⟨row2, hrw⟩, _⟩ := ok.ok.hop m h hh
      have rmem := List.mem_of_getElem? hrw
      obtain ⟨o2, ho2⟩ : ∃ o, row2[e.col]? = some o := ⟨_, List.getElem?_eq_getElem (ok.cols e em row2 rmem)⟩
      have tk : lsn.take (i + 1) = lsn.take i ++ [m] := take_succ_get hm
      refine ⟨.ref b, rfl, .int (m : Nat), rfl, b, bvs, (m : Nat), bv, rfl, rfl, SqL.of (e5 _ _ hb), atI_nat hbv, rfl, _, rfl, ?_⟩
      cases o' with
      | none =>
        obtain rfl : bv = .non := hbe
        refine iteF ?_
        refine ⟨v, o, _, rfl, e5, hv, ?_⟩
        refine hl.congr fun p => ⟨fun ⟨m', h', r', q, r, hm', z⟩ => ⟨m', h', r', q, r, by rw [tk]; exact List.mem_append_left _ hm', z⟩, fun ⟨m', h', r', q, r, hm', z1, z2, z3, z4⟩ => ?_⟩
        rw [tk] at hm'
        rcases List.mem_append.mp hm' with y | y
        · exact ⟨m', h', r', q, r, y, z1, z2, z3, z4⟩
        · rw [List.mem_singleton.mp y, hbst] at z3
          cases z3
      | some q =>
        obtain ⟨ba, bn, rfl, hba, hbn⟩ := id hbe
        refine iteT ?_
        obtain ⟨hv_, hhv, ⟨ha, hn', rfl, hha, _⟩⟩ := Paired.get2 b6 hh
        obtain ⟨rv, hrv, ⟨r2a, r2s, rfl, hr2, hr2p⟩⟩ := Paired.get2 a3 hrw
        obtain ⟨ov, hov, hoe⟩ := Paired.get2 hr2p ho2
        refine ⟨.ref lv, rfl, lv, dx, fs, rfl, e5 _ _ h1, h2.m13, v, rfl, .ref lv, rfl, lv, dx, fs, rfl, e5 _ _ h1, h2.m12, .ref b, rfl, .int (m : Nat), rfl, b, bvs, (m : Nat), .ref ba, rfl, rfl, SqL.of (e5 _ _ hb), atI_nat hbv, ?_⟩
        refine ⟨.ref lv, rfl, lv, L.C, dx, fs, .ref bl, rfl, e5 _ _ h1, L.cl, L.n0, a1, .ref lv, rfl, lv, L.C, dx, fs, .ref hp, rfl, e5 _ _ h1, L.cl, L.n7, b4, .int (m : Nat), rfl, hp, hvs, (m : Nat), .ref ha, rfl, rfl, SqL.of (e5 _ _ b5), atI_nat hhv, ha, _, 0, .int (h.col : Nat), rfl, rfl, SqT.of (e5 _ _ hha), atI_nat (j := 0) rfl, bl, rvs, (h.col : Nat), .ref r2a, rfl, rfl, SqL.of (e5 _ _ a2), atI_nat hrv, .int (e.col : Nat), rfl, r2a, r2s, (e.col : Nat), ov, rfl, rfl, SqL.of (e5 _ _ hr2), atI_nat hov, ?_⟩
        refine ⟨lv, .ref ba, ov, D, q, o2, rfl, hL.ex N.nx N.ex e5, EntT.ex N.nx e5 hbe, EntT.ex N.nx e5 hoe, fun H6 v6 e6 hv6 => ?_⟩
        have e56 := e5.trans e6
        refine ⟨lv, v, v6, D, o, o2.map fun r => q + r, rfl, hL.ex N.nx N.ex e56, EntT.ex N.nx e6 hv, hv6, fun H7 v7 e7 hv7 => ?_⟩
        refine ⟨v7, _, _, rfl, e56.trans e7, hv7, ?_⟩
        have lst2 : Lst (fun p => ∃ r, o2 = some r ∧ p = q + r) (o2.map fun r => q + r) := by
          cases o2 with
          | none => exact fun p ⟨r, z, _⟩ => nomatch z
          | some r => exact ⟨⟨r, rfl, rfl⟩, fun p ⟨r', z, zp⟩ => by cases z; show q + r ≤ p; omega⟩
        refine (hl.better lst2).congr fun p => ⟨fun z => ?_, fun ⟨m', h', r', q', r, hm', z1, z2, z3, z4, z5⟩ => ?_⟩
        · rcases z with ⟨m', h', r', q', r, hm', z⟩ | ⟨r, rfl, rfl⟩
          · exact ⟨m', h', r', q', r, by rw [tk]; exact List.mem_append_left _ hm', z⟩
          · exact ⟨m, h, row2, q, r, by rw [tk]; exact List.mem_append_right _ List.mem_cons_self, hh, hrw, hbst, ho2, rfl⟩
        · rw [tk] at hm'
          rcases List.mem_append.mp hm' with y | y
          · exact .inl ⟨m', h', r', q', r, y, z1, z2, z3, z4, z5⟩
          · have ey := List.mem_singleton.mp y
            subst ey
            rw [hbst] at z3
            cases z3
            rw [hh] at z1
            cases z1
            rw [hrw] at z2
            cases z2
            rw [ho2] at z4
            exact .inr ⟨r, Option.some.inj z4, z5⟩
    · rintro σ H5 ⟨v, o, y8, rfl, e5, hv, hl⟩
      have ln : (natsT lsn).length = lsn.length := by unfold natsT; rw [List.length_map]
      rw [ln, List.take_length] at hl
      refine ⟨v, rfl, ?_⟩
      exact k H5 v o e5 hv ⟨e, lsn, he, hls, fun c => absurd c (by omega), fun _ => ⟨fun z => absurd z none', fun _ => hl⟩⟩
end
end Wb

set_option Elab.async false
set_option linter.all false
set_option maxRecDepth 100000
set_option maxHeartbeats 4000000
namespace Wb
open PySem PySem.Spec PyProof.Rows L2
/-! ### a heap without one place; lists that grow by a comprehension -/
def hid (H : Hp) (a : Addr) : Hp := fun c => if c = a then none else H c
theorem hid_ex (H : Hp) (a : Addr) : Evl.Ex (hid H a) H := fun b o h => by
  unfold hid at h
  by_cases c : b = a
  · rw [if_pos c] at h; cases h
  · rwa [if_neg c] at h
theorem hid_at {H : Hp} {a b : Addr} {o : HO} (n : b ≠ a) (h : H b = some o) : hid H a b = some o := by
  unfold hid
  rw [if_neg n]; exact h
theorem ex_hid {H H' : Hp} {a : Addr} (k : ∀ b o, b ≠ a → H b = some o → H' b = some o) : Evl.Ex (hid H a) (hid H' a) := fun b o h => by
  have nb : b ≠ a := fun z => by unfold hid at h; rw [if_pos z] at h; cases h
  exact hid_at nb (k b o nb (hid_ex H a _ _ h))
theorem ex_hid_of {H H' : Hp} {a : Addr} (e : Evl.Ex H H') : Evl.Ex (hid H a) (hid H' a) := ex_hid fun b o _ h => e b o h
theorem hid_upd (H : Hp) (a : Addr) (o : HO) : hid (upd H a o) a = hid H a := by
  funext c
  unfold hid
  by_cases e : c = a
  · rw [if_pos e, if_pos e]
  · rw [if_neg e, if_neg e, upd_ne e]
theorem ex_to_hid {H0 H : Hp} {a : Addr} (e : Evl.Ex H0 H) (n : H0 a = none) : Evl.Ex H0 (hid H a) := fun b o h => hid_at (fun z => by rw [z, n] at h; cases h) (e b o h)
theorem Tk.hide {H : Hp} {a : Addr} {xs : List V} (h : H a = some (.lst xs)) : Tk H (hid H a) := fun b ys z => hid_at (ne_of z h (fun q => nomatch q)) z
theorem Tk.hideI {H : Hp} {a : Addr} {C dx : Addr} {fs : List (Str × V)} (h : H a = some (.ins C dx fs)) : Tk H (hid H a) := fun b ys z => hid_at (ne_of z h (fun q => nomatch q)) z
structure Blt {β : Type} (R : Hp → V → β → Prop) (H0 H : Hp) (D : Addr) (ys : List β) : Prop where
  ex : Evl.Ex H0 H
  nd : H0 D = none
  at_ : ∃ vs, H D = some (.lst vs) ∧ Paired (R (hid H D)) vs ys
section
variable {β : Type} {R : Hp → V → β → Prop}
theorem Blt.start {H : Hp} {D : Addr} (n : H D = none) : Blt R H (upd H D (.lst [])) D [] := ⟨Evl.Ex.new n, n, [], upd_same, .nil⟩
theorem Paired.snoc {α γ : Type} {S : α → γ → Prop} {xs : List α} {ys : List γ} (h : Paired S xs ys) {x : α} {y : γ} (r : S x y) : Paired S (xs ++ [x]) (ys ++ [y]) := by
  induction h with
  | nil => exact .cons r .nil
  | cons h t ih => exact .cons h ih
theorem Blt.ne {H0 H : Hp} {D : Addr} {ys : List β} (b : Blt R H0 H D ys) : ∃ vs, H D = some (.lst vs) := by
  obtain ⟨vs, h, _⟩ := b.at_
  exact ⟨vs, h⟩
theorem Blt.mono (mono : ∀ G G' v y, Evl.Ex G G' → R G v y → R G' v y) {H0 H H1 : Hp} {D : Addr} {ys : List β} (b : Blt R H0 H D ys) (e : Evl.Ex H H1) : Blt R H0 H1 D ys := by
  obtain ⟨vs, h, p⟩ := b.at_
  exact ⟨b.ex.trans e, b.nd, vs, e _ _ h, Paired.imp (fun _ _ z => mono _ _ _ _ (ex_hid_of e) z) p⟩
theorem Blt.step (mono : ∀ G G' v y, Evl.Ex G G' → R G v y → R G' v y) {H0 H H1 : Hp} {D : Addr} {ys : List β} (b : Blt R H0 H D ys) (e : Evl.Ex H H1) {v : V} {y : β} (r : R (hid H1 D) v y) (small : ys.length ≤ 100000) : ∃ acc, H1 D = some (.lst acc) ∧ acc.length < sizeLine ∧ Blt R H0 (upd H1 D (.lst (acc ++ [v]))) D (ys ++ [y]) := by
  obtain ⟨vs, h, p⟩ := b.at_
  have l := Paired.len p
  refine ⟨vs, e _ _ h, Nat.lt_of_le_of_lt (by omega : vs.length ≤ 100000) (by decide), (b.ex.trans e).mut b.nd, b.nd, _, upd_same, ?_⟩
  rw [hid_upd]
  exact Paired.snoc (Paired.imp (fun _ _ z => mono _ _ _ _ (ex_hid_of e) z) p) r
theorem Blt.done (mono : ∀ G G' v y, Evl.Ex G G' → R G v y → R G' v y) {H0 H : Hp} {D : Addr} {ys : List β} (b : Blt R H0 H D ys) : ∃ vs, H D = some (.lst vs) ∧ Paired (R H) vs ys := by
  obtain ⟨vs, h, p⟩ := b.at_
  exact ⟨vs, h, Paired.imp (fun _ _ z => mono _ _ _ _ (hid_ex H D) z) p⟩
end
theorem w_it {J : It} {n : Nat} {G : Hp → Prop} {Y : Nat → Hp → V → Hp → Prop} (wk : Walk J n G Y) {H0 : Hp} {Qd : Hp → Prop} {Body : V → Hp → (Hp → Prop) → Prop} (Pv : Nat → Hp → Prop) (h0 : Pv 0 H0) (hG : ∀ i H, i ≤ n → Pv i H → G H)
    (hs : ∀ i x H H', i < n → Pv i H → Y i H x H' → Body x H' (Pv (i + 1))) (hd : ∀ H, Pv n H → Qd H) :
    ∃ W : Nat → Nat → Hp → Prop, (∃ m, W 0 m H0) ∧ ∀ i m H, W i m H → (J.stop i H ∧ Qd H) ∨ (J.go i H ∧ ∃ Nx : Hp → Prop, (∀ H', Nx H' → ∃ m', m' < m ∧ W (i + 1) m' H') ∧ ∀ x H', J.yld i H x H' → Body x H' Nx) := by
  refine ⟨fun i m H => (m = n - i ∧ i ≤ n) ∧ Pv i H, ⟨n, ⟨rfl, Nat.zero_le _⟩, h0⟩, ?_⟩
  rintro i m H ⟨⟨rfl, hi⟩, p⟩
  have gg := hG i H hi p
  rcases Nat.lt_or_eq_of_le hi with lt | rfl
  · exact .inr ⟨wk.goes i H lt gg, Pv (i + 1), fun H' p' => ⟨n - (i + 1), by omega, ⟨rfl, lt⟩, p'⟩, fun x H' y => hs i x H H' lt p (wk.yields i H x H' lt gg y)⟩
  · exact .inl ⟨wk.stops H gg, hd H p⟩
/-! ### all tuples and lists kept -/
def Kl (H H' : Hp) : Prop := ∀ a xs, (H a = some (.tup xs) → H' a = some (.tup xs)) ∧ (H a = some (.lst xs) → H' a = some (.lst xs))
theorem Kl.refl (H : Hp) : Kl H H := fun _ _ => ⟨id, id⟩
theorem Kl.trans {H H1 H2 : Hp} (a : Kl H H1) (b : Kl H1 H2) : Kl H H2 := fun x xs => ⟨fun h => (b x xs).1 ((a x xs).1 h), fun h => (b x xs).2 ((a x xs).2 h)⟩
theorem Kl.ex {H H' : Hp} (e : Evl.Ex H H') : Kl H H' := fun a xs => ⟨fun h => e _ _ h, fun h => e _ _ h⟩
theorem Kl.ins {H : Hp} {p C dx : Addr} {fs : List (Str × V)} {o : HO} (h : H p = some (.ins C dx fs)) : Kl H (upd H p o) := fun a xs => ⟨fun z => by rw [upd_ne (ne_of z h (fun q => nomatch q))]; exact z, fun z => by rw [upd_ne (ne_of z h (fun q => nomatch q))]; exact z⟩
theorem Kl.tk {H H' : Hp} (k : Kl H H') : Tk H H' := fun a xs h => (k a xs).1 h
section
variable {NV : Hp → V → Prop} (tk : ∀ H H' v, Tk H H' → NV H v → NV H' v) {H H' : Hp} (k : Kl H H') {v : V}
include tk k
theorem HopT.kl {h : HopN} (z : HopT NV H v h) : HopT NV H' v h := by
  obtain ⟨a, nv, r, h1, h2⟩ := z
  exact ⟨a, nv, r, (k _ _).1 h1, tk _ _ _ k.tk h2⟩
theorem RowT.kl {os : List (Option Int)} (z : RowT NV H v os) : RowT NV H' v os := by
  obtain ⟨a, vs, r, h1, h2⟩ := z
  exact ⟨a, vs, r, (k _ _).2 h1, Paired.imp (fun _ _ z => EntT.tk tk k.tk z) h2⟩
end
section
variable {H H' : Hp} (k : Kl H H') {v : V}
include k
theorem IntsT.kl {x : List Nat} (h : IntsT H v x) : IntsT H' v x := by
  obtain ⟨a, r, h⟩ := h
  exact ⟨a, r, (k _ _).2 h⟩
theorem Ints2.kl {x : List (List Nat)} (h : Ints2 H v x) : Ints2 H' v x := by
  obtain ⟨a, vs, r, h, p⟩ := h
  exact ⟨a, vs, r, (k _ _).2 h, Paired.imp (fun _ _ z => IntsT.kl k z) p⟩
theorem EndNT.kl {x : EndN} (h : EndNT H v x) : EndNT H' v x := by
  obtain ⟨a, r, h⟩ := h
  exact ⟨a, r, (k _ _).1 h⟩
end
end Wb

set_option Elab.async false
set_option linter.all false
set_option maxRecDepth 100000
set_option maxHeartbeats 8000000
set_option pp.maxSteps 900
set_option pp.deepTerms false
namespace Wb
open PySem PySem.Spec PyProof.Rows L2
theorem snoc_get {β : Type} {ys : List β} {y : β} {Pa : Nat → β → Prop} (h : ∀ a z, ys[a]? = some z → Pa a z) (hy : Pa ys.length y) : ∀ a z, (ys ++ [y])[a]? = some z → Pa a z := fun a z hz => by
  by_cases c : a < ys.length
  · rw [List.getElem?_append_left c] at hz
    exact h a z hz
  · have lt := (List.getElem?_eq_some_iff.mp hz).1
    rw [List.length_append, List.length_singleton] at lt
    have ea : a = ys.length := by omega
    rw [List.getElem?_append_right (by omega), show a - ys.length = 0 by omega] at hz
    have h0 : some y = some z := hz
    cases h0
    rw [ea]
    exact hy
section
variable {P : Program} {w : World} {K : PySem.W.Frag} {mg : Str → Option Value} {base : Heap}
def spEntries (N : NtK P w K mg base) (C : Addr) : Sp := fun vs H Q _ => ∃ (lv st ra : Addr) (x : Option Int) (layer : Nat) (row : List (Option Int)) (D : LvD), vs = [.ref lv, .ref st] ∧ LevT N.NV N.At C H lv D ∧ LevOk2 D ∧ H st = some (.tup [.ref ra, oT x, .int (layer : Nat)]) ∧ RowT N.NV H (.ref ra) row ∧
  (∀ h ∈ D.hops, h.col < row.length) ∧ (∀ p : Int, some p ∈ row → 0 ≤ p) ∧ (∀ e ∈ D.ends, e.col < row.length) ∧ layer ≤ D.asked.length ∧
  ∀ H' r os B E low, Evl.Ex H H' → H r = none → RowT N.NV H' (.ref r) os → os.length = D.ends.length → B.length = D.hops.length → Dk.St (srcL D row x layer) (outH D) B [] E low → (∀ n o, os[n]? = some o → EntA D x layer row B n o) → Q (.ref r) H'
theorem ok_entries (N : NtK P w K mg base) (L : LvC K mg) (B : Bi mg) (T : TbK K mg) : FnOk P w K mg base CX0 5 L.f4 L.d4 ["self", "start"] (spEntries N L.C) := by
  have GM : FnOk P w K mg base CX0 4 L.f7 L.d7 ["self", "start"] (spMoved N L.C) := ok_moved N L B T.mv
  have GE : FnOk P w K mg base CX0 3 L.f5 L.d5 ["self", "start", "number", "known"] (spEntry N L.C) := ok_entry N L B T
  refine L.F4.ok scEntries (fun vs H Q E h => ?_) (fun cdv A outer s H vs Q E hr h => ?_)
  · obtain ⟨lv, st, ra, x, layer, row, D, rfl, _⟩ := h; rfl
  · obtain ⟨lv, st, ra, x, layer, row, D, rfl, hL, ok, hst, hrow, wide, rnn, wide2, lm, k⟩ := h
    have hr3 : Room 3 _ := hr.mono (by decide)
    refine ⟨_, (Evl.pss_cut (ps_set (i := 2) scEntries.nd rfl (.inr rfl) (pe_meth (pv 0) L.cl L.m7 GM hr L.b7 .nil pass0 (pa_cons (pv 1) pa_nil)))
      (pss_one (ps_ret (pe_lc (own := [("number", 3)]) (g := gName 3) (te := tMeth L.C "entry" (spEntry N L.C) [] E0 (tVar 0) (tCons (tVar 1) (tCons (tVar 3) (tCons (tVar 2) tNil)))) rfl scEntries.nd (pi_range1 (by rfl) B.range (pa_cons (pe_callB call_len_seq (by rfl) B.len PySem.boot_len (pa_cons (pe_fld (pv 0) rfl) pa_nil)) pa_nil)) (blkOk_by (own := [("number", 3)]) (N := nEntries) (sc := defScope sEntries) (by decide +kernel))
        (fun _ _ _ _ _ => pg_name (i := 3) scEntries.nd rfl (Or.inl rfl)) (fun _ _ _ _ _ => pts_nil)
        (fun _ _ _ _ _ => pe_meth (pv 0) L.cl L.m5 GE hr3 L.b5 .nil pass0 (pa_cons (pv 1) (pa_cons (pv 3) (pa_cons (pv 2) pa_nil)))))))), ?_⟩
    obtain ⟨dx, fs, bl, ak, en, nt, hp, on, nxx, ls, rvs, evs, hvs, ovs, nvs, lvs, h1, h2, _, _, _, ⟨a7, a8, a9⟩, _⟩ := hL.at_
    refine ⟨fun σ H' => ∃ (b : Addr) (Bs : List (Option Int)) (E' : List Nat) (low : Int), σ = [some (.ref lv), some (.ref st), some (.ref b), none] ∧ Evl.Ex H H' ∧ BestT N.NV H' b Bs ∧ Bs.length = D.hops.length ∧ Dk.St (srcL D row x layer) (outH D) Bs [] E' low, ?_, ?_⟩
    · refine ⟨.ref lv, rfl, lv, dx, fs, rfl, h1, h2.m7, .ref st, rfl, ?_⟩
      exact ⟨lv, st, ra, x, layer, row, D, rfl, hL, ok.ok, hst, hrow, wide, rnn, by omega, fun H1 b Bs E' low e1 hB lB S => ⟨b, Bs, E', low, rfl, e1, hB, lB, S⟩⟩
    rintro _ H1 ⟨b, Bs, E', low, rfl, e1, hB, lB, S⟩
    have le : evs.length = D.ends.length := Paired.len a9
    have l1000 := ok.e1000
    refine ⟨.ref lv, rfl, lv, L.C, dx, fs, .ref en, rfl, e1 _ _ h1, L.cl, L.n4, a7, en, evs, rfl, .inl (SqL.of (e1 _ _ a8)), _, rfl, by omega, by omega, fun Dl nD => ?_⟩
    rw [le, Int.toNat_natCast]
    have mono : ∀ G G' v y, Evl.Ex G G' → EntT N.NV G v y → EntT N.NV G' v y := fun G G' v y e h => EntT.ex N.nx e h
    refine lc_range (lo := 0) (n := D.ends.length) (fun i H' => ∃ os, Blt (EntT N.NV) H1 H' Dl os ∧ os.length = i ∧ ∀ n o, os[n]? = some o → EntA D x layer row Bs n o) ⟨[], Blt.start nD, rfl, fun n o h => by simp at h⟩ ?_ ?_
    · rintro i H2 hi ⟨os, b2, ol, ha⟩
      have z0 : (0 : Int) + (i : Nat) = (i : Int) := by omega
      have e02 := e1.trans b2.ex
      refine ⟨rfl, .ref lv, rfl, lv, dx, fs, rfl, e02 _ _ h1, h2.m5, .ref st, rfl, .int ((0 : Int) + (i : Nat)), rfl, .ref b, rfl, ?_⟩
      rw [z0]
      refine ⟨lv, st, b, ra, i, x, layer, row, D, Bs, rfl, hL.ex N.nx N.ex e02, ok, e02 _ _ hst, RowT.ex N.nx e02 hrow, wide2, lm, hB.mono N.nx b2.ex, lB, hi, fun H3 r o e3 hr hea => ?_⟩
      obtain ⟨vs, hD⟩ := b2.ne
      obtain ⟨acc, g1, g2, g3⟩ := b2.step mono e3 (v := r) (y := o) (EntT.tk N.tk (Tk.hide (e3 _ _ hD)) hr) (by omega)
      exact ⟨acc, g1, g2, os ++ [o], g3, by rw [List.length_append, List.length_singleton, ol], snoc_get ha (by rw [ol]; exact hea)⟩
    · rintro H2 ⟨os, b2, ol, ha⟩
      obtain ⟨vs, g1, g2⟩ := b2.done mono
      exact k H2 Dl os Bs E' low (e1.trans b2.ex) (Evl.fresh_back e1 nD) ⟨Dl, vs, rfl, g1, g2⟩ ol lB S ha
end
end Wb

set_option Elab.async false
set_option linter.all false
set_option maxRecDepth 100000
set_option maxHeartbeats 8000000
set_option pp.maxSteps 900
set_option pp.deepTerms false
namespace Wb
open PySem PySem.Spec PyProof.Rows L2
abbrev nLvInit : List Str := ["self", "below", "many", "moves", "asked", "ends", "notes", "layers", "word", "here", "there", "price", "note", "met", "place", "layer", "end"]
theorem scLvInit : FnScope nLvInit ["self", "below", "many", "moves", "asked", "ends", "notes"] (defScope sLvInit) := ⟨rfl, rfl, rfl, by decide +kernel, rfl, by decide +kernel, by decide +kernel⟩
abbrev blkOn : Scope := { kind := .function, names := [(".0", .local), ("place", .cell), ("asked", .cell), ("layers", .cell)], isGenerator := false, isCoroutine := false }
abbrev blkNx : Scope := { kind := .function, names := [(".0", .local), ("place", .cell), ("layers", .cell), ("self", .cell)], isGenerator := false, isCoroutine := false }
/-! ### what a level is made of -/
def hopsOf (L : Nat) (m : HopN) : List HopN := (List.range L).map fun c => ⟨m.col * L + c, m.frm, m.to_, m.price⟩
def mkHops (L : Nat) (moves : List HopN) : List HopN := moves.flatMap (hopsOf L)
def mkOn (many L : Nat) (asked : List (Option Int)) : List (List (List Nat)) := (List.range many).map fun p => (List.range L).map fun c => lfrom asked (p : Nat) c
def mkNx (many L : Nat) (hops : List HopN) (on : List (List (List Nat))) : List (List (List Nat)) := (List.range many).map fun p => (List.range L).map fun c => hfrom hops L (p : Nat) (on2 on (p : Nat) c)
def mkLev (rows : List (List (Option Int))) (many : Nat) (moves : List HopN) (asked : List (Option Int)) (ends : List EndN) : LvD :=
  let L := asked.length + 1
  let hops := mkHops L moves
  let on := mkOn many L asked
  ⟨rows, many, asked, ends, hops, on, mkNx many L hops on, ends.map (htoE hops on L)⟩
abbrev rRng1 : List V → Hp → VK → Prop := fun vs H Q => ∃ j, vs = [V.int j] ∧ ∀ p, H p = none → Q (.ref p) (upd H p (.rng 0 j))
abbrev ownHp : List (Str × Nat) := [("word", 8), ("here", 9), ("there", 10), ("price", 11), ("note", 12), ("met", 13)]
abbrev rAddI : R2 := rI0 fun i j => .int (i + j)
abbrev rMulI : R2 := rI CMul fun i j => .int (i * j)
abbrev tHop (K : PySem.W.Frag) : TE := tTup (tCons (tOp rAddI (tOp rMulI (tVar 8) (tFld K (tVar 0) "layers")) (tVar 13)) (tCons (tVar 9) (tCons (tVar 10) (tCons (tVar 11) (tCons (tVar 12) tNil)))))
theorem LevH.ex {NV : Hp → V → Prop} (nx : ∀ H H' v, Evl.Ex H H' → NV H v → NV H' v) {C : Addr} {H H' : Hp} (e : Evl.Ex H H') {lv : Addr} {L : Nat} {hops : List HopN} {on : List (List (List Nat))} (h : LevH NV C H lv L hops on) : LevH NV C H' lv L hops on := by
  obtain ⟨dx, fs, hp, onA, hvs, ovs, i1, i2, i3, ⟨i4, i5, i6⟩, ⟨i7, i8, i9⟩⟩ := h.at_
  exact ⟨dx, fs, hp, onA, hvs, ovs, e _ _ i1, i2, i3, ⟨i4, e _ _ i5, Paired.imp (fun _ _ z => HopT.ex nx e z) i6⟩, ⟨i7, e _ _ i8, Paired.imp (fun _ _ z => Ints2.ex e z) i9⟩⟩
theorem map_snoc {α : Type} (f : Nat → α) (i : Nat) : (List.range (i + 1)).map f = (List.range i).map f ++ [f i] := by
  rw [List.range_succ, List.map_append]; rfl
theorem mem_hops {L : Nat} {moves : List HopN} {h : HopN} : h ∈ mkHops L moves ↔ ∃ m ∈ moves, ∃ c, c < L ∧ h = ⟨m.col * L + c, m.frm, m.to_, m.price⟩ := by
  unfold mkHops hopsOf
  simp only [List.mem_flatMap, List.mem_map, List.mem_range]
  constructor
  · rintro ⟨m, hm, c, hc, e⟩
    exact ⟨m, hm, c, hc, e.symm⟩
  · rintro ⟨m, hm, c, hc, e⟩
    exact ⟨m, hm, c, hc, e.symm⟩
theorem len_hops (L : Nat) : ∀ moves : List HopN, (mkHops L moves).length = moves.length * L
  | [] => by simp [mkHops]
  | m :: ms => by
    have ih := len_hops L ms
    unfold mkHops at ih ⊢
    rw [List.flatMap_cons, List.length_append, ih, List.length_cons, Nat.succ_mul]
    unfold hopsOf
    rw [List.length_map, List.length_range]
    omega
theorem on_at {many L : Nat} {asked : List (Option Int)} {p : Nat} (h : p < many) : (mkOn many L asked)[p]? = some ((List.range L).map fun c => lfrom asked (p : Nat) c) := by
  unfold mkOn
  rw [List.getElem?_map, List.getElem?_range h]; rfl
abbrev fsA (bl : Addr) (many : Nat) (mv ak en nt : Addr) (L : Nat) : List (Str × V) := [("below", .ref bl), ("many", .int (many : Nat)), ("moves", .ref mv), ("asked", .ref ak), ("ends", .ref en), ("notes", .ref nt), ("layers", .int (L : Nat))]
abbrev fsB (bl : Addr) (many : Nat) (mv ak en nt : Addr) (L : Nat) (a : Addr) : List (Str × V) := [("below", .ref bl), ("many", .int (many : Nat)), ("moves", .ref mv), ("asked", .ref ak), ("ends", .ref en), ("notes", .ref nt), ("layers", .int (L : Nat)), ("hops", .ref a)]
abbrev fsC (bl : Addr) (many : Nat) (mv ak en nt : Addr) (L : Nat) (a b : Addr) : List (Str × V) := [("below", .ref bl), ("many", .int (many : Nat)), ("moves", .ref mv), ("asked", .ref ak), ("ends", .ref en), ("notes", .ref nt), ("layers", .int (L : Nat)), ("hops", .ref a), ("onward", .ref b)]
abbrev fsD (bl : Addr) (many : Nat) (mv ak en nt : Addr) (L : Nat) (a b c : Addr) : List (Str × V) := [("below", .ref bl), ("many", .int (many : Nat)), ("moves", .ref mv), ("asked", .ref ak), ("ends", .ref en), ("notes", .ref nt), ("layers", .int (L : Nat)), ("hops", .ref a), ("onward", .ref b), ("nexts", .ref c)]
abbrev fsE (bl : Addr) (many : Nat) (mv ak en nt : Addr) (L : Nat) (a b c d : Addr) : List (Str × V) := [("below", .ref bl), ("many", .int (many : Nat)), ("moves", .ref mv), ("asked", .ref ak), ("ends", .ref en), ("notes", .ref nt), ("layers", .int (L : Nat)), ("hops", .ref a), ("onward", .ref b), ("nexts", .ref c), ("lasts", .ref d)]
section
variable {P : Program} {w : World} {K : PySem.W.Frag} {mg : Str → Option Value} {base : Heap}
def spLvInit (N : NtK P w K mg base) (C : Addr) : Sp := fun vs H Q _ => ∃ (lv dx bl mv ak en nt : Addr) (many : Nat) (rvs mvs evs : List V) (rows : List (List (Option Int))) (moves : List HopN) (asked : List (Option Int)) (ends : List EndN) (G : Hp),
  vs = [.ref lv, .ref bl, .int (many : Nat), .ref mv, .ref ak, .ref en, .ref nt] ∧ Evl.Ex G H ∧ G lv = none ∧ H lv = some (.ins C dx []) ∧
  (G bl = some (.lst rvs) ∧ Paired (RowT N.NV G) rvs rows) ∧ (G mv = some (.lst mvs) ∧ Paired (HopT N.NV G) mvs moves) ∧ G ak = some (.lst (asked.map oT)) ∧ (G en = some (.lst evs) ∧ Paired (EndNT G) evs ends) ∧ N.At G nt ∧
  many ≤ 10 ∧ asked.length ≤ 10 ∧ moves.length ≤ 80 ∧ ends.length ≤ 1000 ∧ (∀ m ∈ moves, m.col ≤ 1000 ∧ ∃ p : Nat, m.to_ = (p : Nat) ∧ p < many) ∧
  ∀ H', Evl.Ex G H' → LevT N.NV N.At C H' lv (mkLev rows many moves asked ends) → Q .non H'
theorem ok_lvInit (N : NtK P w K mg base) (L : LvC K mg) (B : Bi mg) (T : TbK K mg) : FnOk P w K mg base CX0 2 L.f0 L.d0 ["self", "below", "many", "moves", "asked", "ends", "notes"] (spLvInit N L.C) := by
  have GL : FnOk P w K mg base CX0 1 T.f34 T.d34 ["asked", "place", "layer"] (spLayers K) := ok_layers T.F34 B
  have G2 : FnOk P w K mg base CX0 1 L.f2 L.d2 ["self", "place", "layer"] (spHopsF N.NV L.C) := ok_hopsF N.nx L B
  have G3 : FnOk P w K mg base CX0 1 L.f3 L.d3 ["self", "end"] (spHopsT N.NV L.C) := ok_hopsT N.nx L B
  refine L.F0.ok scLvInit (fun vs H Q E h => ?_) (fun cdv A outer s H vs Q E hr h => ?_)
  · obtain ⟨lv, dx, bl, mv, ak, en, nt, many, rvs, mvs, evs, rows, moves, asked, ends, G, rfl, _⟩ := h; rfl
  · obtain ⟨lv, dx, bl, mv, ak, en, nt, many, rvs, mvs, evs, rows, moves, asked, ends, G, rfl, eG, nlv, hlv, ⟨hbl, hrows⟩, ⟨hmv, hmoves⟩, hak, ⟨hen, hends⟩, hnt, m10, a10, mv80, e1000, mok, k⟩ := h
    refine ⟨_, (pss_cons (ps_fld (pv 0) (pv 1) rfl)
      (pss_cons (ps_fld (pv 0) (pv 2) rfl)
      (pss_cons (ps_fld (pv 0) (pv 3) rfl)
      (pss_cons (ps_fld (pv 0) (pv 4) rfl)
      (pss_cons (ps_fld (pv 0) (pv 5) rfl)
      (pss_cons (ps_fld (pv 0) (pv 6) rfl)
      (Evl.pss_cut (ps_fld (pv 0) (pe_op op_add (pe_callB call_len_seq (by rfl) B.len PySem.boot_len (pa_cons (pv 4) pa_nil)) pe_int) rfl)
      (Evl.pss_cut (ps_set (i := 7) scLvInit.nd rfl (.inr rfl) (pe_callTy (r := rRng1) cr_range1 (by rfl) B.range boot_range (pa_cons (pe_fld (pv 0) rfl) pa_nil)))
      (Evl.pss_cut (ps_fld (pv 0) (pe_lc2 (own := ownHp) (vs1 := [13]) (g := gTup K 5 (gCons (gName 8) (gCons (gName 9) (gCons (gName 10) (gCons (gName 11) (gCons (gName 12) gNil)))))) (g1 := gName 13) (wi1 := iRngV (tVar 7)) (te := tHop K) rfl scLvInit.nd (pi_list (pv 3)) (blkOk_by (own := ownHp) (N := nLvInit) (sc := defScope sLvInit) (by decide +kernel)) (by decide)
          (fun _ _ _ _ _ => pg_tup rfl (pgs_cons (pg_name (i := 8) scLvInit.nd rfl (Or.inl rfl)) (pgs_cons (pg_name (i := 9) scLvInit.nd rfl (Or.inl rfl)) (pgs_cons (pg_name (i := 10) scLvInit.nd rfl (Or.inl rfl)) (pgs_cons (pg_name (i := 11) scLvInit.nd rfl (Or.inl rfl)) (pgs_cons (pg_name (i := 12) scLvInit.nd rfl (Or.inl rfl)) pgs_nil)))))) (fun _ _ _ _ _ => pts_nil)
          (fun _ _ _ _ _ => pi_rng (pv 7)) (fun _ _ _ _ _ => pg_name (i := 13) scLvInit.nd rfl (Or.inl rfl)) (fun _ _ _ _ _ => pts_nil)
          (fun _ _ _ _ _ => pe_tup (pa_cons (pe_op op_add (pe_op op_mul (pv 8) (pe_fld (pv 0) rfl)) (pv 13)) (pa_cons (pv 9) (pa_cons (pv 10) (pa_cons (pv 11) (pa_cons (pv 12) pa_nil))))))) rfl)
      (Evl.pss_cut (ps_fld (pv 0) (pe_lc (own := [("place", 14)]) (g := gName 14) (te := tLc (iRngV (tVar 7)) (gName 15) tYes (tCall (spLayers K) [] E0 (tCons (tVar 4) (tCons (tVar 14) (tCons (tVar 15) tNil)))) [15]) rfl scLvInit.nd (pi_range1 (by rfl) B.range (pa_cons (pv 2) pa_nil)) (blkOk_by (own := [("place", 14)]) (N := nLvInit) (sc := defScope sLvInit) (by decide +kernel))
          (fun _ _ _ _ _ => pg_name (i := 14) scLvInit.nd rfl (Or.inr rfl)) (fun _ _ _ _ _ => pts_nil)
          (fun _ _ _ _ _ => pe_lc (own := [("layer", 15)]) (wi := iRngV (tVar 7)) (g := gName 15) (te := tCall (spLayers K) [] E0 (tCons (tVar 4) (tCons (tVar 14) (tCons (tVar 15) tNil)))) rfl scLvInit.nd (pi_rng (pv 7)) (blkOk_by (own := [("layer", 15)]) (N := nLvInit) (sc := blkOn) (by decide +kernel))
            (fun _ _ _ _ _ => pg_name (i := 15) scLvInit.nd rfl (Or.inl rfl)) (fun _ _ _ _ _ => pts_nil)
            (fun _ _ _ _ _ => pe_call GL hr (by rfl) T.g34 T.F34.kp T.b34 .nil pass0 (pa_cons (pv 4) (pa_cons (pv 14) (pa_cons (pv 15) pa_nil)))))) rfl)
      (Evl.pss_cut (ps_fld (pv 0) (pe_lc (own := [("place", 14)]) (g := gName 14) (te := tLc (iRngV (tVar 7)) (gName 15) tYes (tMeth L.C "hops_from" (spHopsF N.NV L.C) [] E0 (tVar 0) (tCons (tVar 14) (tCons (tVar 15) tNil))) [15]) rfl scLvInit.nd (pi_range1 (by rfl) B.range (pa_cons (pv 2) pa_nil)) (blkOk_by (own := [("place", 14)]) (N := nLvInit) (sc := defScope sLvInit) (by decide +kernel))
          (fun _ _ _ _ _ => pg_name (i := 14) scLvInit.nd rfl (Or.inr rfl)) (fun _ _ _ _ _ => pts_nil)
          (fun _ _ _ _ _ => pe_lc (own := [("layer", 15)]) (wi := iRngV (tVar 7)) (g := gName 15) (te := tMeth L.C "hops_from" (spHopsF N.NV L.C) [] E0 (tVar 0) (tCons (tVar 14) (tCons (tVar 15) tNil))) rfl scLvInit.nd (pi_rng (pv 7)) (blkOk_by (own := [("layer", 15)]) (N := nLvInit) (sc := blkNx) (by decide +kernel))
            (fun _ _ _ _ _ => pg_name (i := 15) scLvInit.nd rfl (Or.inl rfl)) (fun _ _ _ _ _ => pts_nil)
            (fun _ _ _ _ _ => pe_meth (pv 0) L.cl L.m2 G2 hr L.b2 .nil pass0 (pa_cons (pv 14) (pa_cons (pv 15) pa_nil))))) rfl)
      (pss_one (ps_fld (pv 0) (pe_lc (own := [("end", 16)]) (g := gName 16) (te := tMeth L.C "hops_to" (spHopsT N.NV L.C) [] E0 (tVar 0) (tCons (tVar 16) tNil)) rfl scLvInit.nd (pi_list (pv 5)) (blkOk_by (own := [("end", 16)]) (N := nLvInit) (sc := defScope sLvInit) (by decide +kernel))
          (fun _ _ _ _ _ => pg_name (i := 16) scLvInit.nd rfl (Or.inl rfl)) (fun _ _ _ _ _ => pts_nil)
          (fun _ _ _ _ _ => pe_meth (pv 0) L.cl L.m3 G3 hr L.b3 .nil pass0 (pa_cons (pv 16) pa_nil))) rfl))))))))))))), ?_⟩
    generalize hLn : asked.length + 1 = L0 at *
    have L1 : 1 ≤ L0 := by omega
    have L11 : L0 ≤ 11 := by omega
    refine ⟨.ref bl, rfl, .ref lv, rfl, lv, L.C, dx, [], rfl, hlv, L.cl, L.n0, (by decide), ?_⟩
    refine ⟨.int (many : Nat), rfl, .ref lv, rfl, lv, L.C, dx, _, rfl, upd_same, L.cl, L.n1, (by show 1 < 1000; decide), ?_⟩
    refine ⟨.ref mv, rfl, .ref lv, rfl, lv, L.C, dx, _, rfl, upd_same, L.cl, L.n2, (by show 2 < 1000; decide), ?_⟩
    refine ⟨.ref ak, rfl, .ref lv, rfl, lv, L.C, dx, _, rfl, upd_same, L.cl, L.n3, (by show 3 < 1000; decide), ?_⟩
    refine ⟨.ref en, rfl, .ref lv, rfl, lv, L.C, dx, _, rfl, upd_same, L.cl, L.n4, (by show 4 < 1000; decide), ?_⟩
    refine ⟨.ref nt, rfl, .ref lv, rfl, lv, L.C, dx, _, rfl, upd_same, L.cl, L.n5, (by show 5 < 1000; decide), ?_⟩
    refine ⟨fun σ H' => σ = [some (.ref lv), some (.ref bl), some (.int (many : Nat)), some (.ref mv), some (.ref ak), some (.ref en), some (.ref nt), none, none, none, none, none, none, none, none, none, none] ∧ H' lv = some (.ins L.C dx (fsA bl many mv ak en nt L0)) ∧ Evl.Ex G H', ?_, ?_⟩
    · have e6 := fun {a b c d e f : HO} => (((((((eG.mut nlv).mut nlv).mut nlv).mut nlv).mut nlv).mut nlv) : Evl.Ex G (upd (upd (upd (upd (upd (upd H lv a) lv b) lv c) lv d) lv e) lv f))
      refine ⟨.ref ak, rfl, ak, asked.map oT, rfl, .inl (SqL.of (e6 _ _ hak)), _, 1, rfl, rfl, .ref lv, rfl, lv, L.C, dx, _, rfl, upd_same, L.cl, L.n6, (by show 6 < 1000; decide), ?_⟩
      refine ⟨rfl, ?_, e6.mut nlv⟩
      rw [upd_same]
      have eL : (((asked.map oT).length : Nat) : Int) + 1 = ((L0 : Nat) : Int) := by rw [List.length_map, ← hLn]; rfl
      show some (HO.ins L.C dx [("below", V.ref bl), ("many", .int (many : Nat)), ("moves", .ref mv), ("asked", .ref ak), ("ends", .ref en), ("notes", .ref nt), ("layers", V.int ((((asked.map oT).length : Nat) : Int) + 1))]) = _
      rw [eL]
    rintro _ H7 ⟨rfl, hlv7, e7⟩
    refine ⟨fun σ H' => ∃ lr, σ = [some (.ref lv), some (.ref bl), some (.int (many : Nat)), some (.ref mv), some (.ref ak), some (.ref en), some (.ref nt), some (.ref lr), none, none, none, none, none, none, none, none, none] ∧ H' lv = some (.ins L.C dx (fsA bl many mv ak en nt L0)) ∧ Evl.Ex G H' ∧ H' lr = some (.rng 0 (L0 : Nat)), ?_, ?_⟩
    · refine ⟨.ref lv, rfl, lv, L.C, dx, _, .int (L0 : Nat), rfl, hlv7, L.cl, L.n6, rfl, (L0 : Nat), rfl, fun lr nlr => ?_⟩
      have e := Evl.Ex.new (o := .rng 0 ((L0 : Nat) : Int)) nlr
      exact ⟨lr, rfl, e _ _ hlv7, e7.trans e, upd_same⟩
    rintro _ H8 ⟨lr, rfl, hlv8, e8, hlr8⟩
    refine ⟨fun σ H' => ∃ Dh hvs, σ = [some (.ref lv), some (.ref bl), some (.int (many : Nat)), some (.ref mv), some (.ref ak), some (.ref en), some (.ref nt), some (.ref lr), none, none, none, none, none, none, none, none, none] ∧ H' lv = some (.ins L.C dx (fsB bl many mv ak en nt L0 Dh)) ∧ Evl.Ex G H' ∧ H' lr = some (.rng 0 (L0 : Nat)) ∧ H' Dh = some (.lst hvs) ∧ Paired (HopT N.NV H') hvs (mkHops L0 moves), ?_, ?_⟩
    · have hmv8 := e8 _ _ hmv
      have monoH : ∀ G G' v y, Evl.Ex G G' → HopT N.NV G v y → HopT N.NV G' v y := fun G G' v y e h => HopT.ex N.nx e h
      have ml : mvs.length = moves.length := Paired.len hmoves
      refine ⟨.ref mv, rfl, mv, rfl, ⟨mvs, SqL.of hmv8⟩, fun Dh nDh => ?_⟩
      refine w_it (walk_list (K := K) (a := mv) (xs := mvs)) (fun j H' => Blt (HopT N.NV) H8 H' Dh ((moves.take j).flatMap (hopsOf L0))) (Blt.start nDh) ?_ ?_ ?_
      · rintro j H' _ b
        exact SqL.of (b.ex _ _ hmv8)
      · rintro j x H9 H9' hj b2 ⟨rfl, hx⟩
        obtain ⟨m, hm, ⟨ma, nv, rfl, hma, hnv⟩⟩ := Paired.get1 hmoves hx
        have mm := List.mem_of_getElem? hm
        obtain ⟨c1000, _⟩ := mok m mm
        have e09 := e8.trans b2.ex
        refine ⟨ma, _, rfl, SqT.of (e09 _ _ hma), rfl, _, _, rfl, _, _, rfl, _, _, rfl, _, _, rfl, _, _, rfl, rfl, ?_⟩
        refine ⟨by kernel_rfl, ?_⟩
        refine ⟨.ref lr, rfl, lr, 0, ((L0 : Nat) : Int), rfl, b2.ex _ _ hlr8, ⟨by omega, by omega, by omega, by omega⟩, ?_⟩
        have eL : (((L0 : Nat) : Int) - 0).toNat = L0 := by omega
        rw [eL]
        have tk : (moves.take (j + 1)).flatMap (hopsOf L0) = (moves.take j).flatMap (hopsOf L0) ++ hopsOf L0 m := by
          rw [take_succ_get hm, List.flatMap_append, List.flatMap_singleton]
        refine w_it (walk_range (lo := 0) (n := L0)) (fun t H' => Blt (HopT N.NV) H8 H' Dh ((moves.take j).flatMap (hopsOf L0) ++ (List.range t).map fun c => ⟨m.col * L0 + c, m.frm, m.to_, m.price⟩)) (by rw [List.range_zero, List.map_nil, List.append_nil]; exact b2) (fun _ _ _ _ => trivial) ?_ ?_
        · rintro t x H10 H10' ht b3 ⟨rfl, rfl⟩
          have e010 := e8.trans b3.ex
          refine ⟨by kernel_rfl, ?_⟩
          refine ⟨.int (m.col : Nat), rfl, .ref lv, rfl, lv, L.C, dx, _, .int (L0 : Nat), rfl, b3.ex _ _ hlv8, L.cl, L.n6, rfl, (m.col : Nat), (L0 : Nat), rfl, rfl, .inl ⟨by omega, by omega⟩, .int ((0 : Int) + (t : Nat)), rfl, _, _, rfl, rfl, ?_⟩
          refine ⟨.int m.frm, rfl, .int m.to_, rfl, .int m.price, rfl, nv, rfl, (by show 5 ≤ sizeLine; decide), fun p np => ?_⟩
          have e11 := Evl.Ex.new (o := .tup [.int (((m.col : Nat) : Int) * ((L0 : Nat) : Int) + ((0 : Int) + (t : Nat))), .int m.frm, .int m.to_, .int m.price, nv]) np
          obtain ⟨vs, hD⟩ := b3.ne
          have npD : p ≠ Dh := fun z => by rw [z, hD] at np; cases np
          have hl : ((moves.take j).flatMap (hopsOf L0) ++ (List.range t).map fun c => (⟨m.col * L0 + c, m.frm, m.to_, m.price⟩ : HopN)).length ≤ 100000 := by
            have := len_hops L0 (moves.take j)
            unfold mkHops at this
            rw [List.length_append, this, List.length_map, List.length_range, List.length_take]
            have : min j moves.length * L0 ≤ 80 * 11 := Nat.mul_le_mul (by omega) L11
            omega
          rw [map_snoc, ← List.append_assoc]
          refine b3.step monoH e11 ⟨p, nv, rfl, ?_, ?_⟩ hl
          · refine hid_at npD ?_
            rw [upd_same]
            have eq : ((m.col : Nat) : Int) * ((L0 : Nat) : Int) + ((0 : Int) + (t : Nat)) = ((m.col * L0 + t : Nat) : Int) := by
              rw [Int.zero_add, Int.natCast_add, Int.natCast_mul]
            rw [eq]
          · exact N.tk _ _ _ (Tk.hide (e11 _ _ hD)) (N.nx _ _ _ (e010.trans e11) hnv)
        · rintro H10 b3
          rw [tk]
          exact b3
      · rintro H9 b2
        rw [ml, List.take_length] at b2
        obtain ⟨hvs, hD, hp⟩ := b2.done monoH
        have hlv9 := b2.ex _ _ hlv8
        have kl := Kl.ins (o := .ins L.C dx (fsB bl many mv ak en nt L0 Dh)) hlv9
        refine ⟨.ref lv, rfl, lv, L.C, dx, _, rfl, hlv9, L.cl, L.n7, (by show 7 < 1000; decide), ?_⟩
        refine ⟨Dh, hvs, rfl, upd_same, (e8.trans b2.ex).mut nlv, ?_, (kl _ _).2 hD, Paired.imp (fun _ _ z => HopT.kl N.tk kl z) hp⟩
        have hr9 := b2.ex _ _ hlr8
        exact (upd_ne (ne_of hr9 hlv9 (fun q => nomatch q))).trans hr9
    rintro _ H10 ⟨Dh, hvs, rfl, hlv10, e10, hlr10, hDh10, hhv10⟩
    refine ⟨fun σ H' => ∃ Do ovs, σ = [some (.ref lv), some (.ref bl), some (.int (many : Nat)), some (.ref mv), some (.ref ak), some (.ref en), some (.ref nt), some (.ref lr), none, none, none, none, none, none, none, none, none] ∧ H' lv = some (.ins L.C dx (fsC bl many mv ak en nt L0 Dh Do)) ∧ Evl.Ex G H' ∧ H' lr = some (.rng 0 (L0 : Nat)) ∧ H' Dh = some (.lst hvs) ∧ Paired (HopT N.NV H') hvs (mkHops L0 moves) ∧ H' Do = some (.lst ovs) ∧ Paired (Ints2 H') ovs (mkOn many L0 asked), ?_, ?_⟩
    · have hak10 := e10 _ _ hak
      have mono2 : ∀ G G' v y, Evl.Ex G G' → Ints2 G v y → Ints2 G' v y := fun G G' v y e h => Ints2.ex e h
      refine ⟨.int (many : Nat), rfl, (many : Nat), rfl, by omega, by omega, fun Do nDo => ?_⟩
      rw [Int.toNat_natCast]
      refine lc_range (lo := 0) (n := many) (fun p H' => Blt Ints2 H10 H' Do ((List.range p).map fun p => (List.range L0).map fun c => lfrom asked (p : Nat) c)) (Blt.start nDo) ?_ ?_
      · rintro p H2 hp b2
        have zp : (0 : Int) + (p : Nat) = (p : Int) := by omega
        have eL : (((L0 : Nat) : Int) - 0).toNat = L0 := by omega
        refine ⟨by kernel_rfl, ?_⟩
        refine ⟨.ref lr, rfl, lr, 0, ((L0 : Nat) : Int), rfl, b2.ex _ _ hlr10, ⟨by omega, by omega, by omega, by omega⟩, fun Di nDi => ?_⟩
        rw [eL]
        have monoI : ∀ G G' (v : V) (y : List Nat), Evl.Ex G G' → (IntsT G v y ∧ ∃ a, v = .ref a ∧ H2 a = none) → (IntsT G' v y ∧ ∃ a, v = .ref a ∧ H2 a = none) := fun G G' v y e h => ⟨h.1.ex e, h.2⟩
        refine lc_range (lo := 0) (n := L0) (fun c H' => Blt (fun G v y => IntsT G v y ∧ ∃ a, v = .ref a ∧ H2 a = none) H2 H' Di ((List.range c).map fun c => lfrom asked (p : Nat) c)) (Blt.start nDi) ?_ ?_
        · rintro c H3 hc b3
          have zc : (0 : Int) + (c : Nat) = (c : Int) := by omega
          have e3 := b2.ex.trans b3.ex
          refine ⟨by kernel_rfl, ?_⟩
          refine ⟨.ref ak, rfl, .int ((0 : Int) + (p : Nat)), rfl, .int ((0 : Int) + (c : Nat)), rfl, ?_⟩
          rw [zp, zc]
          refine ⟨ak, asked, (p : Nat), c, rfl, e3 _ _ hak10, a10, fun H4 a e4 na ha => ?_⟩
          obtain ⟨vs, hD⟩ := b3.ne
          rw [map_snoc]
          exact b3.step monoI e4 ⟨⟨a, rfl, hid_at (fun z => by rw [z, hD] at na; cases na) ha⟩, a, rfl, Evl.fresh_back b3.ex na⟩ (by rw [List.length_map, List.length_range]; omega)
        · rintro H3 b3
          obtain ⟨ivs, hDi, pp⟩ := b3.done monoI
          obtain ⟨vs, hD⟩ := b2.ne
          rw [map_snoc]
          exact b2.step mono2 b3.ex ⟨Di, ivs, rfl, hid_at (fun z => by rw [z, hD] at nDi; cases nDi) hDi, Paired.imp (fun _ _ ⟨⟨a, r, z⟩, a', r', na⟩ => ⟨a, r, hid_at (fun y => by rw [r] at r'; cases r'; rw [y, hD] at na; cases na) z⟩) pp⟩ (by rw [List.length_map, List.length_range]; omega)
      · rintro H2 b2
        obtain ⟨ovs, hD, hp⟩ := b2.done mono2
        have hlv2 := b2.ex _ _ hlv10
        have kl := Kl.ins (o := .ins L.C dx (fsC bl many mv ak en nt L0 Dh Do)) hlv2
        have k2 := (Kl.ex b2.ex).trans kl
        refine ⟨.ref lv, rfl, lv, L.C, dx, _, rfl, hlv2, L.cl, L.n8, (by show 8 < 1000; decide), ?_⟩
        refine ⟨Do, ovs, rfl, upd_same, (e10.trans b2.ex).mut nlv, ?_, (k2 _ _).2 hDh10, Paired.imp (fun _ _ z => HopT.kl N.tk k2 z) hhv10, (kl _ _).2 hD, Paired.imp (fun _ _ z => Ints2.kl kl z) hp⟩
        have hr9 := b2.ex _ _ hlr10
        exact (upd_ne (ne_of hr9 hlv2 (fun q => nomatch q))).trans hr9
    rintro _ H12 ⟨Do, ovs, rfl, hlv12, e12, hlr12, hDh12, hhv12, hDo12, hov12⟩
    refine ⟨fun σ H' => ∃ Dn nvs, σ = [some (.ref lv), some (.ref bl), some (.int (many : Nat)), some (.ref mv), some (.ref ak), some (.ref en), some (.ref nt), some (.ref lr), none, none, none, none, none, none, none, none, none] ∧ H' lv = some (.ins L.C dx (fsD bl many mv ak en nt L0 Dh Do Dn)) ∧ Evl.Ex G H' ∧ H' Dh = some (.lst hvs) ∧ Paired (HopT N.NV H') hvs (mkHops L0 moves) ∧ H' Do = some (.lst ovs) ∧ Paired (Ints2 H') ovs (mkOn many L0 asked) ∧ H' Dn = some (.lst nvs) ∧ Paired (Ints2 H') nvs (mkNx many L0 (mkHops L0 moves) (mkOn many L0 asked)), ?_, ?_⟩
    · have hak12 := e12 _ _ hak
      have mono2 : ∀ G G' v y, Evl.Ex G G' → Ints2 G v y → Ints2 G' v y := fun G G' v y e h => Ints2.ex e h
      have LH : LevH N.NV L.C H12 lv L0 (mkHops L0 moves) (mkOn many L0 asked) := ⟨dx, fsC bl many mv ak en nt L0 Dh Do, Dh, Do, hvs, ovs, hlv12, ⟨rfl, rfl, rfl, rfl, rfl, rfl, rfl, rfl, rfl⟩, rfl, ⟨rfl, hDh12, hhv12⟩, ⟨rfl, hDo12, hov12⟩⟩
      have l900 : (mkHops L0 moves).length ≤ 1000 := by
        rw [len_hops]
        have : moves.length * L0 ≤ 80 * 11 := Nat.mul_le_mul mv80 L11
        omega
      refine ⟨.int (many : Nat), rfl, (many : Nat), rfl, by omega, by omega, fun Do2 nDo => ?_⟩
      rw [Int.toNat_natCast]
      refine lc_range (lo := 0) (n := many) (fun p H' => Blt Ints2 H12 H' Do2 ((List.range p).map fun p => (List.range L0).map fun c => hfrom (mkHops L0 moves) L0 (p : Nat) (on2 (mkOn many L0 asked) (p : Nat) c))) (Blt.start nDo) ?_ ?_
      · rintro p H2 hp b2
        have zp : (0 : Int) + (p : Nat) = (p : Int) := by omega
        have eL : (((L0 : Nat) : Int) - 0).toNat = L0 := by omega
        refine ⟨by kernel_rfl, ?_⟩
        refine ⟨.ref lr, rfl, lr, 0, ((L0 : Nat) : Int), rfl, b2.ex _ _ hlr12, ⟨by omega, by omega, by omega, by omega⟩, fun Di nDi => ?_⟩
        rw [eL]
        have monoI : ∀ G G' (v : V) (y : List Nat), Evl.Ex G G' → (IntsT G v y ∧ ∃ a, v = .ref a ∧ H2 a = none) → (IntsT G' v y ∧ ∃ a, v = .ref a ∧ H2 a = none) := fun G G' v y e h => ⟨h.1.ex e, h.2⟩
        refine lc_range (lo := 0) (n := L0) (fun c H' => Blt (fun G v y => IntsT G v y ∧ ∃ a, v = .ref a ∧ H2 a = none) H2 H' Di ((List.range c).map fun c => hfrom (mkHops L0 moves) L0 (p : Nat) (on2 (mkOn many L0 asked) (p : Nat) c))) (Blt.start nDi) ?_ ?_
        · rintro c H3 hc b3
          have zc : (0 : Int) + (c : Nat) = (c : Int) := by omega
          have e3 := b2.ex.trans b3.ex
          refine ⟨by kernel_rfl, ?_⟩
          refine ⟨.ref lv, rfl, lv, dx, _, rfl, e3 _ _ hlv12, rfl, .int ((0 : Int) + (p : Nat)), rfl, .int ((0 : Int) + (c : Nat)), rfl, ?_⟩
          rw [zp, zc]
          refine ⟨lv, p, c, L0, mkHops L0 moves, mkOn many L0 asked, rfl, LH.ex N.nx e3, L1, l900, ⟨_, on_at hp, by rw [List.length_map, List.length_range]; exact hc⟩, fun H4 a e4 na ha => ?_⟩
          obtain ⟨vs, hD⟩ := b3.ne
          rw [map_snoc]
          exact b3.step monoI e4 ⟨⟨a, rfl, hid_at (fun z => by rw [z, hD] at na; cases na) ha⟩, a, rfl, Evl.fresh_back b3.ex na⟩ (by rw [List.length_map, List.length_range]; omega)
        · rintro H3 b3
          obtain ⟨ivs, hDi, pp⟩ := b3.done monoI
          obtain ⟨vs, hD⟩ := b2.ne
          rw [map_snoc]
          exact b2.step mono2 b3.ex ⟨Di, ivs, rfl, hid_at (fun z => by rw [z, hD] at nDi; cases nDi) hDi, Paired.imp (fun _ _ ⟨⟨a, r, z⟩, a', r', na⟩ => ⟨a, r, hid_at (fun y => by rw [r] at r'; cases r'; rw [y, hD] at na; cases na) z⟩) pp⟩ (by rw [List.length_map, List.length_range]; omega)
      · rintro H2 b2
        obtain ⟨nvs, hD, hp⟩ := b2.done mono2
        have hlv2 := b2.ex _ _ hlv12
        have kl := Kl.ins (o := .ins L.C dx (fsD bl many mv ak en nt L0 Dh Do Do2)) hlv2
        have k2 := (Kl.ex b2.ex).trans kl
        refine ⟨.ref lv, rfl, lv, L.C, dx, _, rfl, hlv2, L.cl, L.n9, (by show 9 < 1000; decide), ?_⟩
        exact ⟨Do2, nvs, rfl, upd_same, (e12.trans b2.ex).mut nlv, (k2 _ _).2 hDh12, Paired.imp (fun _ _ z => HopT.kl N.tk k2 z) hhv12, (k2 _ _).2 hDo12, Paired.imp (fun _ _ z => Ints2.kl k2 z) hov12, (kl _ _).2 hD, Paired.imp (fun _ _ z => Ints2.kl kl z) hp⟩
    rintro _ H14 ⟨Dn, nvs, rfl, hlv14, e14, hDh14, hhv14, hDo14, hov14, hDn14, hnv14⟩
    have hen14 := e14 _ _ hen
    have el : evs.length = ends.length := Paired.len hends
    have monoI : ∀ G G' v y, Evl.Ex G G' → IntsT G v y → IntsT G' v y := fun G G' v y e h => IntsT.ex e h
    have LH : LevH N.NV L.C H14 lv L0 (mkHops L0 moves) (mkOn many L0 asked) := ⟨dx, fsD bl many mv ak en nt L0 Dh Do Dn, Dh, Do, hvs, ovs, hlv14, ⟨rfl, rfl, rfl, rfl, rfl, rfl, rfl, rfl, rfl⟩, rfl, ⟨rfl, hDh14, hhv14⟩, ⟨rfl, hDo14, hov14⟩⟩
    have l900 : (mkHops L0 moves).length ≤ 1000 := by
      rw [len_hops]
      have : moves.length * L0 ≤ 80 * 11 := Nat.mul_le_mul mv80 L11
      omega
    refine ⟨.ref en, rfl, en, rfl, ⟨evs, SqL.of hen14⟩, fun Dl nDl => ?_⟩
    refine lc_list (K := K) (a := en) (xs := evs) (fun i H' => Blt IntsT H14 H' Dl ((ends.take i).map (htoE (mkHops L0 moves) (mkOn many L0 asked) L0))) (Blt.start nDl) ?_ ?_ ?_
    · rintro i H' _ b
      exact SqL.of (b.ex _ _ hen14)
    · rintro i x H2 hx b2
      obtain ⟨e, he, hev⟩ := Paired.get1 hends hx
      refine ⟨by kernel_rfl, ?_⟩
      refine ⟨.ref lv, rfl, lv, dx, _, rfl, b2.ex _ _ hlv14, rfl, x, rfl, ?_⟩
      refine ⟨lv, x, e, L0, mkHops L0 moves, mkOn many L0 asked, rfl, hev.ex (e14.trans b2.ex), LH.ex N.nx b2.ex, L1, l900, fun h hh => ?_, fun H4 a e4 na ha => ?_⟩
      · obtain ⟨m, hm, c, hc, rfl⟩ := mem_hops.mp hh
        obtain ⟨_, p, hp1, hp2⟩ := mok m hm
        exact ⟨p, _, hp1, on_at hp2, by rw [List.length_map, List.length_range]⟩
      · obtain ⟨vs, hD⟩ := b2.ne
        rw [take_succ_get he, List.map_append]
        exact b2.step monoI e4 ⟨a, rfl, hid_at (fun z => by rw [z, hD] at na; cases na) ha⟩ (by rw [List.length_map, List.length_take]; omega)
    · rintro H2 b2
      rw [el, List.take_length] at b2
      obtain ⟨lvs, hD, hp⟩ := b2.done monoI
      have hlv2 := b2.ex _ _ hlv14
      have kl := Kl.ins (o := .ins L.C dx (fsE bl many mv ak en nt L0 Dh Do Dn Dl)) hlv2
      have k2 := (Kl.ex b2.ex).trans kl
      refine ⟨.ref lv, rfl, lv, L.C, dx, _, rfl, hlv2, L.cl, L.n10, (by show 10 < 1000; decide), ?_⟩
      have eF := (e14.trans b2.ex).mut (o := .ins L.C dx (fsE bl many mv ak en nt L0 Dh Do Dn Dl)) nlv
      refine k _ eF ⟨dx, fsE bl many mv ak en nt L0 Dh Do Dn Dl, bl, ak, en, nt, Dh, Do, Dn, Dl, rvs, evs, hvs, ovs, nvs, lvs, upd_same, ⟨rfl, rfl, rfl, rfl, rfl, rfl, rfl, rfl, rfl⟩, ⟨rfl, eF _ _ hbl, Paired.imp (fun _ _ z => RowT.ex N.nx eF z) hrows⟩, rfl, ⟨rfl, eF _ _ hak⟩, ⟨rfl, eF _ _ hen, Paired.imp (fun _ _ z => EndNT.ex eF z) hends⟩, ⟨rfl, N.ex _ _ _ eF hnt⟩, ?_, ?_, ?_, ?_, ?_⟩
      · show _ = some (V.int ((asked.length + 1 : Nat) : Int))
        rw [hLn]; rfl
      · show _ ∧ _ ∧ Paired _ _ (mkHops (asked.length + 1) moves)
        rw [hLn]
        exact ⟨rfl, (k2 _ _).2 hDh14, Paired.imp (fun _ _ z => HopT.kl N.tk k2 z) hhv14⟩
      · show _ ∧ _ ∧ Paired _ _ (mkOn many (asked.length + 1) asked)
        rw [hLn]
        exact ⟨rfl, (k2 _ _).2 hDo14, Paired.imp (fun _ _ z => Ints2.kl k2 z) hov14⟩
      · show _ ∧ _ ∧ Paired _ _ (mkNx many (asked.length + 1) (mkHops (asked.length + 1) moves) (mkOn many (asked.length + 1) asked))
        rw [hLn]
        exact ⟨rfl, (k2 _ _).2 hDn14, Paired.imp (fun _ _ z => Ints2.kl k2 z) hnv14⟩
      · show _ ∧ _ ∧ Paired _ _ (ends.map (htoE (mkHops (asked.length + 1) moves) (mkOn many (asked.length + 1) asked) (asked.length + 1)))
        rw [hLn]
        exact ⟨rfl, (kl _ _).2 hD, Paired.imp (fun _ _ z => IntsT.kl kl z) hp⟩
end
end Wb

set_option Elab.async false
set_option linter.all false
set_option maxRecDepth 100000
set_option maxHeartbeats 4000000
set_option pp.maxSteps 900
set_option pp.deepTerms false
namespace Wb
/-! ### rows and tables of least prices: no program here -/
def colB (ws : List Word) (last : WishL) (k L j : Nat) (u : Word) : Prop := if j < ws.length * L then ws[j / L]? = some u else u.length = k ∧ meetsM k u last
def colC (ws : List Word) (L j : Nat) : Nat := if j < ws.length * L then j % L else L - 1
structure RowIs (l : Lock) (ask : List WishL) (last : WishL) (ws : List Word) (k : Nat) (A : Word → Prop) (a : Nat) (row : List (Option Int)) : Prop where
  len : row.length = ws.length * (ask.length + 1) + 1
  at_ : ∀ j o, row[j]? = some o → Lst (S0 l ask k A a (colB ws last k (ask.length + 1) j) (colC ws (ask.length + 1) j)) o
structure TabIs (l : Lock) (ask : List WishL) (last : WishL) (ws : List Word) (k : Nat) (rows : List (List (Option Int))) : Prop where
  len : rows.length = ws.length * (ask.length + 1)
  at_ : ∀ (i : Nat) (v : Word) (a : Nat) (row : List (Option Int)), ws[i]? = some v → a < ask.length + 1 → rows[i * (ask.length + 1) + a]? = some row → RowIs l ask last ws k (· = v) a row
def askOf (ask : List WishL) (k : Nat) : List (Option Int) := ask.map fun x => (x[k]?).join
theorem askOf_get {ask : List WishL} {k i : Nat} {x : WishL} (h : ask[i]? = some x) : (askOf ask k)[i]? = some ((x[k]?).join) := by
  unfold askOf
  rw [List.getElem?_map, h]; rfl
theorem WayM.le {l : Lock} {ask : List WishL} {m : Nat} {w u : Word} {a c : Nat} {p : Int} (h : WayM l ask m w a u c p) (ha : a ≤ ask.length) : c ≤ ask.length := by
  induction h with
  | refl => exact ha
  | step _ _ _ _ _ _ ih => exact ih
  | meet _ hx _ _ => exact (List.getElem?_eq_some_iff.mp hx).1
theorem mem_lfrom {ask : List WishL} {k a c : Nat} {y : Int} (ha : a ≤ ask.length) : c ∈ lfrom (askOf ask k) y a ↔ a ≤ c ∧ c ≤ ask.length ∧ stays ask k y a c := by
  have la : (askOf ask k).length = ask.length := by unfold askOf; rw [List.length_map]
  rw [lfrom_mem (by rw [la]; exact ha), la]
  refine and_congr_right fun h1 => and_congr_right fun h2 => ⟨fun h i x z i1 i2 i3 i4 => ?_, fun h i o i1 i2 i3 => ?_⟩
  · have := h i _ i1 i2 (askOf_get i3)
    unfold okAt at this
    rcases of_decide_eq_true this with e | e
    · rw [i4] at e; cases e
    · rw [i4] at e; exact Option.some.inj e
  · obtain ⟨x, hx⟩ : ∃ x, ask[i]? = some x := ⟨_, List.getElem?_eq_getElem (by omega)⟩
    rw [askOf_get hx] at i3
    cases i3
    refine decide_eq_true ?_
    cases hz : x[k]? with
    | none => exact .inl rfl
    | some q =>
      cases q with
      | none => exact .inl rfl
      | some z => exact .inr (by rw [← h i x z i1 i2 hx hz]; rfl)
theorem flat_get {L : Nat} (L1 : 1 ≤ L) : ∀ (moves : List HopN) (n : Nat), (mkHops L moves)[n]? = (moves[n / L]?).map fun m => ⟨m.col * L + n % L, m.frm, m.to_, m.price⟩
  | [], n => by simp [mkHops]
  | m :: ms, n => by
    have e : mkHops L (m :: ms) = hopsOf L m ++ mkHops L ms := by unfold mkHops; rw [List.flatMap_cons]
    have lh : (hopsOf L m).length = L := by unfold hopsOf; rw [List.length_map, List.length_range]
    rw [e]
    by_cases c : n < L
    · rw [List.getElem?_append_left (by rw [lh]; exact c), Nat.div_eq_of_lt c, Nat.mod_eq_of_lt c]
      unfold hopsOf
      rw [List.getElem?_map, List.getElem?_range c]; rfl
    · obtain ⟨r, rfl⟩ : ∃ r, n = r + L := ⟨n - L, by omega⟩
      rw [List.getElem?_append_right (by rw [lh]; omega), lh, Nat.add_sub_cancel, flat_get L1 ms r, Nat.add_div_right _ (by omega), Nat.add_mod_right]
      rfl
structure MovesOk (b : Bolt) (ws : List Word) (moves : List HopN) : Prop where
  snd : ∀ m ∈ moves, ∃ v g, ws[m.col]? = some v ∧ g ∈ b.gaps ∧ v ∈ g.ways ∧ m.frm = g.frm ∧ m.to_ = g.to_ ∧ m.price = g.price
  cmp : ∀ g ∈ b.gaps, ∀ v ∈ g.ways, ∃ m ∈ moves, ws[m.col]? = some v ∧ m.frm = g.frm ∧ m.to_ = g.to_ ∧ m.price = g.price
structure EndsOk (ws ws' : List Word) (last : WishL) (k L : Nat) (many : Nat) (ends : List EndN) : Prop where
  len : ends.length = ws'.length * L + 1
  word : ∀ (j : Nat) (e : EndN), ends[j]? = some e → j < ws'.length * L → ∃ (w' : Word) (i : Nat) (z : Nat), ws'[j / L]? = some w' ∧ ws[i]? = some (w'.take k) ∧ e.col = i * L + j % L ∧ w'[k]? = some (z : Nat) ∧ z < many ∧ e.last = some (z : Nat) ∧ e.upto = j % L
  last_ : ∀ (e : EndN), ends[ws'.length * L]? = some e → e = ⟨ws.length * L, (last[k]?).join, L - 1⟩
theorem mod_small {i L c : Nat} (h : c < L) : (i * L + c) / L = i ∧ (i * L + c) % L = c := by
  constructor
  · rw [Nat.mul_comm, Nat.mul_add_div (by omega), Nat.div_eq_of_lt h, Nat.add_zero]
  · rw [Nat.mul_comm, Nat.mul_add_mod, Nat.mod_eq_of_lt h]
theorem idx_lt {α : Type} {ws : List α} {i L c : Nat} {v : α} (h : ws[i]? = some v) (hc : c < L) : i * L + c < ws.length * L := by
  have hi := (List.getElem?_eq_some_iff.mp h).1
  have : (i + 1) * L ≤ ws.length * L := Nat.mul_le_mul hi (Nat.le_refl _)
  rw [Nat.succ_mul] at this
  omega
theorem colB_word {ws : List Word} {last : WishL} {k L i c : Nat} {v : Word} (h : ws[i]? = some v) (hc : c < L) (u : Word) : colB ws last k L (i * L + c) u ↔ u = v := by
  unfold colB
  rw [if_pos (idx_lt h hc), (mod_small hc).1, h]
  exact ⟨fun e => (Option.some.inj e).symm, fun e => by rw [e]⟩
theorem colC_word {ws : List Word} {L i c : Nat} {v : Word} (h : ws[i]? = some v) (hc : c < L) : colC ws L (i * L + c) = c := by
  unfold colC
  rw [if_pos (idx_lt h hc), (mod_small hc).2]
theorem S0.congr {l : Lock} {ask : List WishL} {m : Nat} {A A' B B' : Word → Prop} {a c : Nat} (hA : ∀ w, A w ↔ A' w) (hB : ∀ w, B w ↔ B' w) (p : Int) : S0 l ask m A a B c p ↔ S0 l ask m A' a B' c p :=
  ⟨fun ⟨w, u, h1, h2, h3⟩ => ⟨w, u, (hA w).mp h1, (hB u).mp h2, h3⟩, fun ⟨w, u, h1, h2, h3⟩ => ⟨w, u, (hA w).mpr h1, (hB u).mpr h2, h3⟩⟩
/-- what is at hand of one level -/
structure LvX (l : Lock) (ask : List WishL) (last : WishL) (k : Nat) (b : Bolt) (ws : List Word) (many : Nat) (rows : List (List (Option Int))) (moves : List HopN) : Prop where
  hb : l[k]? = some b
  hm : b.many = (many : Nat)
  m2 : 2 ≤ many
  tab : TabIs l ask last ws k rows
  mok : MovesOk b ws moves
  wl : ∀ v ∈ ws, v.length = k
  gf : ∀ g ∈ b.gaps, (∃ f : Nat, g.frm = (f : Nat) ∧ f < many) ∧ (∃ t : Nat, g.to_ = (t : Nat) ∧ t < many)
  pr : ∀ (k : Nat) (b : Bolt) (g : Gap), l[k]? = some b → g ∈ b.gaps → 1 ≤ g.price
section
variable {l : Lock} {ask : List WishL} {last : WishL} {k : Nat} {b : Bolt} {ws : List Word} {many : Nat} {rows : List (List (Option Int))} {moves : List HopN}
def NodeIs (ask : List WishL) (ws : List Word) (moves : List HopN) (n : Nat) (h : HopD) : Prop := ∃ m v, moves[n / (ask.length + 1)]? = some m ∧ ws[m.col]? = some v ∧ h = ⟨v, n % (ask.length + 1), m.frm, m.to_, m.price⟩
theorem NodeIs.isHop (X : LvX l ask last k b ws many rows moves) {n : Nat} {h : HopD} (nd : NodeIs ask ws moves n h) : IsHop l k h := by
  obtain ⟨m, v, h1, h2, rfl⟩ := nd
  obtain ⟨v', g, g1, g2, g3, g4, g5, g6⟩ := X.mok.snd m (List.mem_of_getElem? h1)
  rw [h2] at g1
  cases g1
  exact ⟨X.wl v (List.mem_of_getElem? h2), b, g, X.hb, g2, g3, g4, g5, g6⟩
theorem node_of (X : LvX l ask last k b ws many rows moves) {h : HopD} (hh : IsHop l k h) (hc : h.c ≤ ask.length) : ∃ n, NodeIs ask ws moves n h := by
  obtain ⟨vl, b', g, hb, hg, hv, e1, e2, e3⟩ := hh
  rw [X.hb] at hb
  cases hb
  obtain ⟨m, hm, w1, w2, w3, w4⟩ := X.mok.cmp g hg h.v hv
  obtain ⟨i, hi⟩ := List.mem_iff_getElem?.mp hm
  have ml := mod_small (i := i) (L := ask.length + 1) (c := h.c) (by omega)
  refine ⟨i * (ask.length + 1) + h.c, m, h.v, by rw [ml.1]; exact hi, w1, ?_⟩
  rw [ml.2]
  cases h
  simp only at *
  subst e1 e2 e3
  rw [w2, w3, w4]
end
end Wb

set_option Elab.async false
set_option linter.all false
set_option maxRecDepth 100000
set_option maxHeartbeats 4000000
set_option pp.maxSteps 900
set_option pp.deepTerms false
namespace Wb
/-! ### the paths over hops are the ways -/
theorem on2_on {many L : Nat} {asked : List (Option Int)} {p c : Nat} (hp : p < many) (hc : c < L) : on2 (mkOn many L asked) (p : Nat) c = lfrom asked (p : Nat) c := by
  unfold on2
  rw [Int.toNat_natCast, on_at hp]
  show (((List.range L).map fun c => lfrom asked (p : Nat) c)[c]?).getD [] = _
  rw [List.getElem?_map, List.getElem?_range hc]; rfl
theorem on2_nx {many L : Nat} {hops : List HopN} {on : List (List (List Nat))} {p c : Nat} (hp : p < many) (hc : c < L) : on2 (mkNx many L hops on) (p : Nat) c = hfrom hops L (p : Nat) (on2 on (p : Nat) c) := by
  unfold on2 mkNx
  rw [Int.toNat_natCast, List.getElem?_map, List.getElem?_range hp]
  show (((List.range L).map fun c => hfrom hops L (p : Nat) (on2 on (p : Nat) c))[c]?).getD [] = _
  rw [List.getElem?_map, List.getElem?_range hc]
  show hfrom hops L (p : Nat) (on2 on (p : Nat) c) = _
  unfold on2
  rw [Int.toNat_natCast]
theorem mem_hfrom {hops : List HopN} {L n : Nat} {place : Int} {met : List Nat} : n ∈ hfrom hops L place met ↔ ∃ h, hops[n]? = some h ∧ h.frm = place ∧ n % L ∈ met := by
  unfold hfrom
  rw [List.mem_filter, List.mem_range]
  constructor
  · rintro ⟨_, e⟩
    cases hh : hops[n]? with
    | none => rw [hh] at e; cases e
    | some h =>
      rw [hh] at e
      simp only [Bool.and_eq_true, decide_eq_true_eq] at e
      exact ⟨h, rfl, e.1, e.2⟩
  · rintro ⟨h, hh, e1, e2⟩
    refine ⟨(List.getElem?_eq_some_iff.mp hh).1, ?_⟩
    rw [hh]
    simp only [Bool.and_eq_true, decide_eq_true_eq]
    exact ⟨e1, e2⟩
theorem mem_htoE {hops : List HopN} {on : List (List (List Nat))} {L n : Nat} {e : EndN} : n ∈ htoE hops on L e ↔ ∃ h, hops[n]? = some h ∧ (e.last = none ∨ e.last = some h.to_) ∧ e.upto ∈ on2 on h.to_ (n % L) := by
  unfold htoE
  rw [List.mem_filter, List.mem_range]
  constructor
  · rintro ⟨_, z⟩
    cases hh : hops[n]? with
    | none => rw [hh] at z; cases z
    | some h =>
      rw [hh] at z
      simp only [Bool.and_eq_true, decide_eq_true_eq] at z
      exact ⟨h, rfl, z.1, z.2⟩
  · rintro ⟨h, hh, e1, e2⟩
    refine ⟨(List.getElem?_eq_some_iff.mp hh).1, ?_⟩
    rw [hh]
    simp only [Bool.and_eq_true, decide_eq_true_eq]
    exact ⟨e1, e2⟩
section
variable {l : Lock} {ask : List WishL} {last : WishL} {k : Nat} {b : Bolt} {ws : List Word} {many : Nat} {rows : List (List (Option Int))} {moves : List HopN} {ends : List EndN}
abbrev levD (ask : List WishL) (k : Nat) (rows : List (List (Option Int))) (many : Nat) (moves : List HopN) (ends : List EndN) : LvD := mkLev rows many moves (askOf ask k) ends
theorem askOf_len : (askOf ask k).length = ask.length := by unfold askOf; rw [List.length_map]
theorem levD_hops : (levD ask k rows many moves ends).hops = mkHops (ask.length + 1) moves := by
  show mkHops ((askOf ask k).length + 1) moves = _
  rw [askOf_len]
theorem levD_on : (levD ask k rows many moves ends).onward = mkOn many (ask.length + 1) (askOf ask k) := by
  show mkOn many ((askOf ask k).length + 1) (askOf ask k) = _
  rw [askOf_len]
theorem levD_nx : (levD ask k rows many moves ends).nexts = mkNx many (ask.length + 1) (mkHops (ask.length + 1) moves) (mkOn many (ask.length + 1) (askOf ask k)) := by
  show mkNx many ((askOf ask k).length + 1) (mkHops ((askOf ask k).length + 1) moves) (mkOn many ((askOf ask k).length + 1) (askOf ask k)) = _
  rw [askOf_len]
theorem mem_outR {row : List (Option Int)} {p c y : Nat} {d : Int} (hp : p < many) (hc : c < ask.length + 1) : (y, d) ∈ outR (levD ask k rows many moves ends) row p c ↔
    ∃ m r, moves[y / (ask.length + 1)]? = some m ∧ m.frm = (p : Nat) ∧ c ≤ y % (ask.length + 1) ∧ stays ask k (p : Nat) c (y % (ask.length + 1)) ∧ row[m.col * (ask.length + 1) + y % (ask.length + 1)]? = some (some r) ∧ d = r + m.price := by
  unfold outR
  rw [mem_outN, levD_nx, on2_nx hp hc, on2_on hp hc, mem_hfrom, levD_hops]
  have ym : y % (ask.length + 1) ≤ ask.length := by have : y % (ask.length + 1) < ask.length + 1 := Nat.mod_lt _ (by omega); omega
  constructor
  · rintro ⟨⟨h, hh, e1, e2⟩, h', r, hh', hr, rfl⟩
    rw [hh] at hh'
    cases hh'
    rw [flat_get (by omega)] at hh
    cases hm : moves[y / (ask.length + 1)]? with
    | none => rw [hm] at hh; cases hh
    | some m =>
      rw [hm] at hh
      cases hh
      obtain ⟨s1, s2, s3⟩ := (mem_lfrom (by omega)).mp e2
      exact ⟨m, r, rfl, e1, s1, s3, hr, rfl⟩
  · rintro ⟨m, r, hm, e1, s1, s3, hr, rfl⟩
    have hh : (mkHops (ask.length + 1) moves)[y]? = some ⟨m.col * (ask.length + 1) + y % (ask.length + 1), m.frm, m.to_, m.price⟩ := by rw [flat_get (by omega), hm]; rfl
    exact ⟨⟨_, hh, e1, (mem_lfrom (by omega)).mpr ⟨s1, ym, s3⟩⟩, _, r, hh, hr, rfl⟩
/-- the place where a level's bolt stands at first -/
def stX (many : Nat) (x : Option Int) (z : Int) : Prop := 0 ≤ z ∧ z < (many : Nat) ∧ (x = none ∨ x = some z)
variable {A : Word → Prop} {a : Nat} {row : List (Option Int)} {x : Option Int}
theorem path_known (X : LvX l ask last k b ws many rows moves) (R : RowIs l ask last ws k A a row) (ha : a < ask.length + 1) {n : Nat} {p : Int} (P : Dk.PathN (srcL (levD ask k rows many moves ends) row x a) (outH (levD ask k rows many moves ends)) n p) : ∀ h, NodeIs ask ws moves n h → KnownP l ask k A a (stX many x) h p := by
  induction P with
  | @src y c hm =>
    intro h nd
    obtain ⟨at_, hat, hy⟩ := List.mem_flatMap.mp hm
    rw [List.mem_range] at hat
    have hat' : at_ < many := hat
    have cx : x = none ∨ x = some ((at_ : Nat) : Int) := by
      by_cases c : x = none ∨ x = some ((at_ : Nat) : Int)
      · exact c
      · rw [if_neg c] at hy; cases hy
    rw [if_pos cx] at hy
    have hop := nd.isHop X
    obtain ⟨m, v, h1, h2, rfl⟩ := nd
    obtain ⟨m', r, g1, g2, g3, g4, g5, rfl⟩ := (mem_outR hat' ha).mp hy
    rw [h1] at g1
    cases g1
    have cl : y % (ask.length + 1) < ask.length + 1 := Nat.mod_lt _ (by omega)
    obtain ⟨⟨w, u, hw, hu, way⟩, _⟩ := R.at_ _ _ g5
    rw [colB_word h2 cl] at hu
    subst hu
    rw [colC_word h2 cl] at way
    exact .first hw ⟨by show 0 ≤ m.frm; rw [g2]; omega, by show m.frm < _; rw [g2]; omega, by show x = none ∨ x = some m.frm; rw [g2]; exact cx⟩ hop way (by show stays ask k m.frm _ _; rw [g2]; exact g4)
  | @step y0 y v c P0 hy ih =>
    intro h nd
    have hop := nd.isHop X
    obtain ⟨m, u, h1, h2, rfl⟩ := nd
    unfold outH at hy
    rw [levD_hops, flat_get (by omega)] at hy
    cases hm0 : moves[y0 / (ask.length + 1)]? with
    | none => rw [hm0] at hy; cases hy
    | some m0 =>
      rw [hm0] at hy
      obtain ⟨v0, g, w1, w2, w3, w4, w5, w6⟩ := X.mok.snd m0 (List.mem_of_getElem? hm0)
      have nd0 : NodeIs ask ws moves y0 ⟨v0, y0 % (ask.length + 1), m0.frm, m0.to_, m0.price⟩ := ⟨m0, v0, hm0, w1, rfl⟩
      have k0 := ih _ nd0
      have cl0 : y0 % (ask.length + 1) < ask.length + 1 := Nat.mod_lt _ (by omega)
      have cl : y % (ask.length + 1) < ask.length + 1 := Nat.mod_lt _ (by omega)
      obtain ⟨row0, hr0⟩ : ∃ r, rows[m0.col * (ask.length + 1) + y0 % (ask.length + 1)]? = some r := ⟨_, List.getElem?_eq_getElem (by rw [X.tab.len]; exact idx_lt w1 cl0)⟩
      have R0 := X.tab.at_ _ _ _ _ w1 cl0 hr0
      obtain ⟨_, t, ht, htm⟩ := X.gf g w2
      have hy' : (y, c) ∈ outR (levD ask k rows many moves ends) row0 t (y0 % (ask.length + 1)) := by
        have e1 : ((levD ask k rows many moves ends).rows[m0.col * (ask.length + 1) + y0 % (ask.length + 1)]?).getD [] = row0 := by
          show (rows[_]?).getD [] = row0
          rw [hr0]; rfl
        have e2 : m0.to_.toNat = t := by rw [w5, ht, Int.toNat_natCast]
        have e3 : (levD ask k rows many moves ends).asked.length + 1 = ask.length + 1 := by show (askOf ask k).length + 1 = _; rw [askOf_len]
        have hy2 : (y, c) ∈ outR (levD ask k rows many moves ends) (((levD ask k rows many moves ends).rows[m0.col * (ask.length + 1) + y0 % (ask.length + 1)]?).getD []) m0.to_.toNat (y0 % ((levD ask k rows many moves ends).asked.length + 1)) := hy
        rw [e1, e2, e3] at hy2
        exact hy2
      obtain ⟨m', r, g1, g2, g3, g4, g5, rfl⟩ := (mem_outR htm cl0).mp hy'
      rw [h1] at g1
      cases g1
      obtain ⟨⟨w, u', hw, hu, way⟩, _⟩ := R0.at_ _ _ g5
      rw [colB_word h2 cl] at hu
      subst hu
      rw [colC_word h2 cl] at way
      subst hw
      have kn := KnownP.next k0 hop way (by show m.frm = m0.to_; rw [g2, w5, ht]) (by show stays ask k m0.to_ _ _; rw [w5, ht]; exact g4)
      rw [← Int.add_assoc]
      exact kn
theorem known_path (X : LvX l ask last k b ws many rows moves) (R : RowIs l ask last ws k A a row) (ha : a < ask.length + 1) {h : HopD} {p : Int} (kn : KnownP l ask k A a (stX many x) h p) : h.c ≤ ask.length ∧ ∀ n, NodeIs ask ws moves n h → ∃ q, q ≤ p ∧ Dk.PathN (srcL (levD ask k rows many moves ends) row x a) (outH (levD ask k rows many moves ends)) n q := by
  induction kn with
  | @first w h q hw hx hop way st =>
    have cle := way.le (by omega)
    refine ⟨cle, fun n nd => ?_⟩
    obtain ⟨m, v, h1, h2, rfl⟩ := nd
    have cl : n % (ask.length + 1) < ask.length + 1 := Nat.mod_lt _ (by omega)
    obtain ⟨o, ho⟩ : ∃ o, row[m.col * (ask.length + 1) + n % (ask.length + 1)]? = some o := ⟨_, List.getElem?_eq_getElem (by rw [R.len]; have := idx_lt h2 cl; omega)⟩
    have L0 := R.at_ _ _ ho
    have inS : S0 l ask k A a (colB ws last k (ask.length + 1) (m.col * (ask.length + 1) + n % (ask.length + 1))) (colC ws (ask.length + 1) (m.col * (ask.length + 1) + n % (ask.length + 1))) q := by
      rw [colC_word h2 cl]
      exact ⟨w, v, hw, (colB_word h2 cl v).mpr rfl, way⟩
    cases o with
    | none => exact absurd inS (L0 q)
    | some r =>
      have le := L0.2 q inS
      obtain ⟨x0, x1, x2⟩ := hx
      obtain ⟨f, hf⟩ : ∃ f : Nat, m.frm = (f : Nat) := ⟨m.frm.toNat, by have : 0 ≤ m.frm := x0; omega⟩
      have fm : f < many := by have : m.frm < (many : Nat) := x1; omega
      refine ⟨r + m.price, by show r + m.price ≤ q + m.price; omega, .src (List.mem_flatMap.mpr ⟨f, List.mem_range.mpr fm, ?_⟩)⟩
      have x2' : x = none ∨ x = some ((f : Nat) : Int) := by rw [← hf]; exact x2
      rw [if_pos x2']
      exact (mem_outR fm ha).mpr ⟨m, r, h1, hf, way.mono, by rw [← hf]; exact st, ho, rfl⟩
  | @next h h' q r k0 hop way e st ih =>
    obtain ⟨c0, ih⟩ := ih
    have cle := way.le c0
    refine ⟨cle, fun n nd => ?_⟩
    obtain ⟨n0, nd0⟩ := node_of X k0.hop c0
    obtain ⟨q0, le0, P0⟩ := ih n0 nd0
    obtain ⟨m, v, h1, h2, rfl⟩ := nd
    obtain ⟨m0, v0, g1, g2, rfl⟩ := nd0
    have cl0 : n0 % (ask.length + 1) < ask.length + 1 := Nat.mod_lt _ (by omega)
    have cl : n % (ask.length + 1) < ask.length + 1 := Nat.mod_lt _ (by omega)
    obtain ⟨row0, hr0⟩ : ∃ r, rows[m0.col * (ask.length + 1) + n0 % (ask.length + 1)]? = some r := ⟨_, List.getElem?_eq_getElem (by rw [X.tab.len]; exact idx_lt g2 cl0)⟩
    have R0 := X.tab.at_ _ _ _ _ g2 cl0 hr0
    obtain ⟨o, ho⟩ : ∃ o, row0[m.col * (ask.length + 1) + n % (ask.length + 1)]? = some o := ⟨_, List.getElem?_eq_getElem (by rw [R0.len]; have := idx_lt h2 cl; omega)⟩
    have L0 := R0.at_ _ _ ho
    have inS : S0 l ask k (· = v0) (n0 % (ask.length + 1)) (colB ws last k (ask.length + 1) (m.col * (ask.length + 1) + n % (ask.length + 1))) (colC ws (ask.length + 1) (m.col * (ask.length + 1) + n % (ask.length + 1))) r := by
      rw [colC_word h2 cl]
      exact ⟨v0, v, rfl, (colB_word h2 cl v).mpr rfl, way⟩
    cases o with
    | none => exact absurd inS (L0 r)
    | some r' =>
      have le := L0.2 r inS
      obtain ⟨v', g, w1, w2, w3, w4, w5, w6⟩ := X.mok.snd m0 (List.mem_of_getElem? g1)
      obtain ⟨_, t, ht, htm⟩ := X.gf g w2
      have e' : m.frm = m0.to_ := e
      refine ⟨q0 + (r' + m.price), by show q0 + (r' + m.price) ≤ q + r + m.price; omega, .step P0 ?_⟩
      unfold outH
      rw [levD_hops, flat_get (by omega), g1]
      show (n, r' + m.price) ∈ outR (levD ask k rows many moves ends) (((levD ask k rows many moves ends).rows[m0.col * (ask.length + 1) + n0 % (ask.length + 1)]?).getD []) m0.to_.toNat (n0 % ((levD ask k rows many moves ends).asked.length + 1))
      have e1 : ((levD ask k rows many moves ends).rows[m0.col * (ask.length + 1) + n0 % (ask.length + 1)]?).getD [] = row0 := by
        show (rows[_]?).getD [] = row0
        rw [hr0]; rfl
      have e2 : m0.to_.toNat = t := by rw [w5, ht, Int.toNat_natCast]
      have e3 : (levD ask k rows many moves ends).asked.length + 1 = ask.length + 1 := by show (askOf ask k).length + 1 = _; rw [askOf_len]
      rw [e1, e2, e3]
      exact (mem_outR htm cl0).mpr ⟨m, r', h1, by rw [e', w5, ht], way.mono, by rw [← ht, ← w5]; exact st, ho, rfl⟩
end
end Wb

set_option Elab.async false
set_option linter.all false
set_option maxRecDepth 100000
set_option maxHeartbeats 4000000
set_option pp.maxSteps 900
set_option pp.deepTerms false
namespace Wb
/-! ### the row of a level's entries -/
theorem mem_slice {α : Type} {as_ : List α} {a c : Nat} {o : α} : o ∈ (as_.drop a).take (c - a) ↔ ∃ i, a ≤ i ∧ i < c ∧ as_[i]? = some o := by
  rw [List.mem_iff_getElem?]
  constructor
  · rintro ⟨i, hi⟩
    rw [List.getElem?_take] at hi
    by_cases h : i < c - a
    · rw [if_pos h, List.getElem?_drop] at hi
      exact ⟨a + i, by omega, by omega, hi⟩
    · rw [if_neg h] at hi; cases hi
  · rintro ⟨i, h1, h2, h3⟩
    refine ⟨i - a, ?_⟩
    rw [List.getElem?_take, if_pos (by omega), List.getElem?_drop, show a + (i - a) = i by omega]
    exact h3
theorem mem_ask {ask : List WishL} {k i : Nat} {q : Int} : (askOf ask k)[i]? = some (some q) ↔ ∃ x : WishL, ask[i]? = some x ∧ x[k]? = some (some q) := by
  unfold askOf
  rw [List.getElem?_map]
  cases h : ask[i]? with
  | none => simp
  | some x =>
    simp only [Option.map_some, Option.some.injEq]
    constructor
    · intro e
      refine ⟨x, rfl, ?_⟩
      cases hx : x[k]? with
      | none => rw [hx] at e; cases e
      | some o =>
        rw [hx] at e
        rw [show o = some q from e]
    · rintro ⟨x', rfl, e⟩
      rw [e]; rfl
section
variable {l : Lock} {ask : List WishL} {last : WishL} {k : Nat} {b : Bolt} {ws : List Word} {many : Nat} {rows : List (List (Option Int))} {moves : List HopN} {ends : List EndN}
variable {A : Word → Prop} {a : Nat} {row : List (Option Int)} {x : Option Int}
theorem one_to {e : EndN} (m2 : 2 ≤ many) (xs : ∀ z, x = some z → 0 ≤ z ∧ z < (many : Nat)) (es : ∀ z, e.last = some z → 0 ≤ z ∧ z < (many : Nat)) (aw : ∀ (i : Nat) (y : WishL) (z : Int), ask[i]? = some y → y[k]? = some (some z) → 0 ≤ z ∧ z < (many : Nat))
    (one : oneP (x :: e.last :: ((askOf ask k).drop a).take (e.upto - a))) : ∃ z, stX many x z ∧ (e.last = none ∨ e.last = some z) ∧ stays ask k z a e.upto := by
  have key : ∃ z : Int, 0 ≤ z ∧ z < (many : Nat) ∧ ∀ y, some y ∈ (x :: e.last :: ((askOf ask k).drop a).take (e.upto - a)) → y = z := by
    by_cases h : ∃ y, some y ∈ (x :: e.last :: ((askOf ask k).drop a).take (e.upto - a))
    · obtain ⟨y, hy⟩ := h
      refine ⟨y, ?_, ?_, fun y' hy' => one y' y hy' hy⟩
      all_goals
        rcases List.mem_cons.mp hy with c | c
        · first | exact (xs y c.symm).1 | exact (xs y c.symm).2
        rcases List.mem_cons.mp c with c | c
        · first | exact (es y c.symm).1 | exact (es y c.symm).2
        obtain ⟨i, _, _, h3⟩ := mem_slice.mp c
        obtain ⟨wx, w1, w2⟩ := mem_ask.mp h3
        first | exact (aw i wx y w1 w2).1 | exact (aw i wx y w1 w2).2
    · exact ⟨0, by omega, by omega, fun y hy => absurd ⟨y, hy⟩ h⟩
  obtain ⟨z, z0, z1, zz⟩ := key
  refine ⟨z, ⟨z0, z1, ?_⟩, ?_, fun i wx q i1 i2 i3 i4 => ?_⟩
  · cases x with
    | none => exact .inl rfl
    | some y => exact .inr (by rw [zz y List.mem_cons_self])
  · cases he : e.last with
    | none => exact .inl rfl
    | some y => exact .inr (by rw [zz y (List.mem_cons_of_mem _ (by rw [← he]; exact List.mem_cons_self))])
  · exact zz q (List.mem_cons_of_mem _ (List.mem_cons_of_mem _ (mem_slice.mpr ⟨i, i1, i2, mem_ask.mpr ⟨wx, i3, i4⟩⟩)))
theorem one_from {e : EndN} {z : Int} (hx : stX many x z) (hy : e.last = none ∨ e.last = some z) (st : stays ask k z a e.upto) : oneP (x :: e.last :: ((askOf ask k).drop a).take (e.upto - a)) := by
  have key : ∀ y, some y ∈ (x :: e.last :: ((askOf ask k).drop a).take (e.upto - a)) → y = z := by
    intro y h
    rcases List.mem_cons.mp h with c | c
    · rcases hx.2.2 with n | n
      · rw [n] at c; cases c
      · rw [n] at c; exact Option.some.inj c
    rcases List.mem_cons.mp c with c | c
    · rcases hy with n | n
      · rw [n] at c; cases c
      · rw [n] at c; exact Option.some.inj c
    obtain ⟨i, i1, i2, h3⟩ := mem_slice.mp c
    obtain ⟨wx, w1, w2⟩ := mem_ask.mp h3
    exact st i wx y i1 i2 w1 w2
  intro y y' h h'
  rw [key y h, key y' h']
theorem bst_lst {src : List (Nat × Int)} {out : Nat → List (Nat × Int)} {B : List (Option Int)} {E : List Nat} {low : Int} (S : Dk.St src out B [] E low) (n : Nat) : Lst (Dk.PathN src out n) (Dk.bst B n) := by
  have := S.all n
  cases h : Dk.bst B n with
  | none => rw [h] at this; exact this
  | some v => rw [h] at this; exact this
theorem entry_up (X : LvX l ask last k b ws many rows moves) (R : RowIs l ask last ws k A a row) (ha : a < ask.length + 1) (hA : ∀ w, A w → w.length = k) {e : EndN}
    (xs : ∀ z, x = some z → 0 ≤ z ∧ z < (many : Nat)) (es : ∀ z, e.last = some z → 0 ≤ z ∧ z < (many : Nat)) (aw : ∀ (i : Nat) (y : WishL) (z : Int), ask[i]? = some y → y[k]? = some (some z) → 0 ≤ z ∧ z < (many : Nat))
    (eu : e.upto ≤ ask.length) (ec : colC ws (ask.length + 1) e.col = e.upto) (el : e.col < ws.length * (ask.length + 1) + 1)
    {B : List (Option Int)} {E : List Nat} {low : Int} (S : Dk.St (srcL (levD ask k rows many moves ends) row x a) (outH (levD ask k rows many moves ends)) B [] E low) {n : Nat} {o : Option Int} (he : ends[n]? = some e)
    (en : EntA (levD ask k rows many moves ends) x a row B n o) : Lst (S0 l ask (k + 1) (ext1 A (stX many x)) a (ext1 (colB ws last k (ask.length + 1) e.col) fun z => e.last = none ∨ e.last = some z) e.upto) o := by
  have hB : ∀ u, colB ws last k (ask.length + 1) e.col u → u.length = k := by
    intro u hu
    unfold colB at hu
    split at hu
    · exact X.wl u (List.mem_of_getElem? hu)
    · exact hu.1
  obtain ⟨e', ls, he', hls, c1, c2⟩ := en
  have ee : e' = e := by
    have : ends[n]? = some e' := he'
    rw [he] at this
    exact (Option.some.inj this).symm
  subst ee
  have lse : ls = htoE (mkHops (ask.length + 1) moves) (mkOn many (ask.length + 1) (askOf ask k)) (ask.length + 1) e' := by
    have h1 : ((levD ask k rows many moves ends).lasts)[n]? = some ls := hls
    have h2 : (levD ask k rows many moves ends).lasts = ends.map (htoE (mkHops (ask.length + 1) moves) (mkOn many (ask.length + 1) (askOf ask k)) (ask.length + 1)) := by
      show ends.map (htoE (mkHops ((askOf ask k).length + 1) moves) (mkOn many ((askOf ask k).length + 1) (askOf ask k)) ((askOf ask k).length + 1)) = _
      rw [askOf_len]
    rw [h2, List.getElem?_map, he] at h1
    exact (Option.some.inj h1).symm
  by_cases cu : e'.upto < a
  · rw [c1 cu]
    rintro p ⟨w, u, _, _, way⟩
    have := way.mono
    omega
  obtain ⟨d1, d2⟩ := c2 (by omega)
  by_cases one : oneP (x :: e'.last :: ((askOf ask k).drop a).take (e'.upto - a))
  · have hrow := d1 one
    obtain ⟨z, z1, z2, z3⟩ := one_to X.m2 xs es aw one
    have L0 := R.at_ _ _ hrow
    rw [ec] at L0
    exact entry_one X.pr hA hB z1 z2 z3 L0
  · have L0 := d2 one
    refine Lst.congr (fun p => (entry_hops hA (fun z h1 h2 h3 => one (one_from h1 h2 h3)) p).symm) ?_
    have hmod : ∀ n : Nat, n % (ask.length + 1) < ask.length + 1 := fun n => Nat.mod_lt _ (by omega)
    refine Lst.down (fun p hp => ?_) (fun p hp => ?_) L0
    · obtain ⟨n, h, row2, q, r, hn, hh, hr2, hq, hr, rfl⟩ := hp
      rw [lse] at hn
      obtain ⟨h', hh', hl, hup⟩ := mem_htoE.mp hn
      have hh2 : (mkHops (ask.length + 1) moves)[n]? = some h := by rw [← levD_hops (rows := rows) (ends := ends) (k := k) (many := many)]; exact hh
      rw [hh2] at hh'
      cases hh'
      rw [flat_get (by omega)] at hh2
      cases hm : moves[n / (ask.length + 1)]? with
      | none => rw [hm] at hh2; cases hh2
      | some m =>
        rw [hm] at hh2
        cases hh2
        obtain ⟨v, g, w1, w2, w3, w4, w5, w6⟩ := X.mok.snd m (List.mem_of_getElem? hm)
        obtain ⟨_, t, ht, htm⟩ := X.gf g w2
        have et : m.to_ = (t : Nat) := by rw [w5, ht]
        have nd : NodeIs ask ws moves n ⟨v, n % (ask.length + 1), m.frm, m.to_, m.price⟩ := ⟨m, v, hm, w1, rfl⟩
        have Lb := bst_lst S n
        rw [hq] at Lb
        have kn := path_known X R ha Lb.1 _ nd
        have R0 := X.tab.at_ _ _ _ _ w1 (hmod n) (show rows[m.col * (ask.length + 1) + n % (ask.length + 1)]? = some row2 from hr2)
        have Lr := R0.at_ _ _ hr
        obtain ⟨⟨w, u, hw, hu, way⟩, _⟩ := Lr
        subst hw
        rw [ec] at way
        have hup' : e'.upto ∈ on2 (mkOn many (ask.length + 1) (askOf ask k)) m.to_ (n % (ask.length + 1)) := hup
        rw [et, on2_on htm (hmod n)] at hup'
        obtain ⟨s1, s2, s3⟩ := (mem_lfrom (by have := hmod n; omega)).mp hup'
        exact ⟨_, q, u, r, kn, hl, by show stays ask k m.to_ _ _; rw [et]; exact s3, hu, way, rfl⟩
    · obtain ⟨h, q, u, r, kn, hy, st, hu, way, rfl⟩ := hp
      obtain ⟨cle, kp⟩ := known_path (ends := ends) X R ha kn
      obtain ⟨n, nd⟩ := node_of X kn.hop cle
      obtain ⟨q', qle, P⟩ := kp n nd
      obtain ⟨m, v, g1, g2, rfl⟩ := nd
      obtain ⟨v', g, w1, w2, w3, w4, w5, w6⟩ := X.mok.snd m (List.mem_of_getElem? g1)
      obtain ⟨_, t, ht, htm⟩ := X.gf g w2
      have et : m.to_ = (t : Nat) := by rw [w5, ht]
      have Lb := bst_lst S n
      cases hb : Dk.bst B n with
      | none => rw [hb] at Lb; exact absurd P (Lb q')
      | some q0 =>
        rw [hb] at Lb
        have le0 := Lb.2 q' P
        obtain ⟨row2, hr2⟩ : ∃ r, rows[m.col * (ask.length + 1) + n % (ask.length + 1)]? = some r := ⟨_, List.getElem?_eq_getElem (by rw [X.tab.len]; exact idx_lt g2 (hmod n))⟩
        have R0 := X.tab.at_ _ _ _ _ g2 (hmod n) hr2
        obtain ⟨o2, ho2⟩ : ∃ o, row2[e'.col]? = some o := ⟨_, List.getElem?_eq_getElem (by rw [R0.len]; exact el)⟩
        have Lr := R0.at_ _ _ ho2
        rw [ec] at Lr
        have inS : S0 l ask k (· = v) (n % (ask.length + 1)) (colB ws last k (ask.length + 1) e'.col) e'.upto r := ⟨v, u, rfl, hu, way⟩
        cases o2 with
        | none => exact absurd inS (Lr r)
        | some r' =>
          have le1 := Lr.2 r inS
          have hh : (mkHops (ask.length + 1) moves)[n]? = some ⟨m.col * (ask.length + 1) + n % (ask.length + 1), m.frm, m.to_, m.price⟩ := by rw [flat_get (by omega), g1]; rfl
          refine ⟨q0 + r', ⟨n, ⟨m.col * (ask.length + 1) + n % (ask.length + 1), m.frm, m.to_, m.price⟩, row2, q0, r', ?_, by rw [levD_hops]; exact hh, hr2, hb, ho2, rfl⟩, by omega⟩
          rw [lse]
          refine mem_htoE.mpr ⟨_, hh, hy, ?_⟩
          show e'.upto ∈ on2 (mkOn many (ask.length + 1) (askOf ask k)) m.to_ (n % (ask.length + 1))
          rw [et, on2_on htm (hmod n)]
          refine (mem_lfrom (by have := hmod n; omega)).mpr ⟨way.mono, eu, ?_⟩
          rw [← et]; exact st
theorem row_up (X : LvX l ask last k b ws many rows moves) (R : RowIs l ask last ws k A a row) (ha : a < ask.length + 1) (hA : ∀ w, A w → w.length = k) {ws' : List Word}
    (xs : ∀ z, x = some z → 0 ≤ z ∧ z < (many : Nat)) (lw : ∀ z, last[k]? = some (some z) → 0 ≤ z ∧ z < (many : Nat)) (aw : ∀ (i : Nat) (y : WishL) (z : Int), ask[i]? = some y → y[k]? = some (some z) → 0 ≤ z ∧ z < (many : Nat))
    (EO : EndsOk ws ws' last k (ask.length + 1) many ends) (wl' : ∀ v ∈ ws', v.length = k + 1)
    {B : List (Option Int)} {E : List Nat} {low : Int} (S : Dk.St (srcL (levD ask k rows many moves ends) row x a) (outH (levD ask k rows many moves ends)) B [] E low) {os : List (Option Int)} (lo : os.length = ends.length)
    (en : ∀ n o, os[n]? = some o → EntA (levD ask k rows many moves ends) x a row B n o) : RowIs l ask last ws' (k + 1) (ext1 A (stX many x)) a os := by
  refine ⟨by rw [lo, EO.len], fun j o hj => ?_⟩
  have jl : j < ends.length := by rw [← lo]; exact (List.getElem?_eq_some_iff.mp hj).1
  obtain ⟨e, he⟩ : ∃ e, ends[j]? = some e := ⟨_, List.getElem?_eq_getElem jl⟩
  by_cases c : j < ws'.length * (ask.length + 1)
  · obtain ⟨w', i, z, h1, h2, h3, h4, h5, h6, h7⟩ := EO.word j e he c
    have hmod : j % (ask.length + 1) < ask.length + 1 := Nat.mod_lt _ (by omega)
    have ec : colC ws (ask.length + 1) e.col = e.upto := by rw [h3, colC_word h2 hmod, h7]
    have ci : e.col < ws.length * (ask.length + 1) := by rw [h3]; exact idx_lt h2 hmod
    have U := entry_up (e := e) X R ha hA xs (fun y hy => by rw [h6] at hy; cases hy; omega) aw (by rw [h7]; omega) ec (by omega) S he (en j o hj)
    have cc : colC ws' (ask.length + 1) j = e.upto := by unfold colC; rw [if_pos c, h7]
    rw [cc]
    refine Lst.congr (S0.congr (fun _ => Iff.rfl) fun u => ?_) U
    have lw' := wl' w' (List.mem_of_getElem? h1)
    have w'e : w' = w'.take k ++ [(z : Int)] := by
      have e1 : w'.take (k + 1) = w'.take k ++ [(z : Int)] := take_succ_get h4
      rwa [List.take_of_length_le (by omega)] at e1
    constructor
    · rintro ⟨v, y, rfl, hv, hy⟩
      rw [h3, colB_word h2 hmod] at hv
      rw [h6] at hy
      have ey : y = (z : Int) := by
        rcases hy with n | n
        · cases n
        · exact (Option.some.inj n).symm
      unfold colB
      rw [if_pos c, h1, hv, ey, ← w'e]
    · intro hu
      unfold colB at hu
      rw [if_pos c, h1] at hu
      have eu := (Option.some.inj hu).symm
      exact ⟨w'.take k, (z : Int), by rw [eu]; exact w'e, by rw [h3, colB_word h2 hmod], .inr h6⟩
  · have ej : j = ws'.length * (ask.length + 1) := by have := EO.len; omega
    subst ej
    have ee := EO.last_ e he
    have ec : colC ws (ask.length + 1) e.col = e.upto := by
      rw [ee]
      unfold colC
      rw [if_neg (by show ¬ ws.length * (ask.length + 1) < _; omega)]
    have U := entry_up (e := e) X R ha hA xs (fun y hy => by
      rw [ee] at hy
      have hy' : (last[k]?).join = some y := hy
      refine lw y ?_
      cases hl : last[k]? with
      | none => rw [hl] at hy'; cases hy'
      | some q => rw [hl] at hy'; rw [show q = some y from hy']) aw (by rw [ee]; show ask.length + 1 - 1 ≤ _; omega) ec (by rw [ee]; show ws.length * (ask.length + 1) < _; omega) S he (en _ o hj)
    have cc : colC ws' (ask.length + 1) (ws'.length * (ask.length + 1)) = e.upto := by unfold colC; rw [if_neg c, ee]
    rw [cc]
    refine Lst.congr (S0.congr (fun _ => Iff.rfl) fun u => ?_) U
    have cb : ∀ v, colB ws last k (ask.length + 1) e.col v ↔ v.length = k ∧ meetsM k v last := fun v => by
      unfold colB
      rw [if_neg (by rw [ee]; show ¬ ws.length * (ask.length + 1) < _; omega)]
    have cb' : colB ws' last (k + 1) (ask.length + 1) (ws'.length * (ask.length + 1)) u ↔ u.length = k + 1 ∧ meetsM (k + 1) u last := by
      unfold colB
      rw [if_neg c]
    rw [cb']
    have yl : ∀ y : Int, (e.last = none ∨ e.last = some y) ↔ ∀ z, last[k]? = some (some z) → z = y := fun y => by
      rw [ee]
      show ((last[k]?).join = none ∨ (last[k]?).join = some y) ↔ _
      cases hl : last[k]? with
      | none => exact ⟨fun _ z hz => (nomatch hz), fun _ => .inl rfl⟩
      | some q =>
        cases q with
        | none => exact ⟨fun _ z hz => (by cases hz), fun _ => .inl rfl⟩
        | some q =>
          constructor
          · rintro (n | n) z hz
            · cases n
            · cases hz; exact Option.some.inj n
          · intro h
            have := h q rfl
            exact .inr (by rw [this]; rfl)
    constructor
    · rintro ⟨v, y, rfl, hv, hy⟩
      obtain ⟨v1, v2⟩ := (cb v).mp hv
      exact ⟨by rw [List.length_append, v1]; rfl, (meets_app v1).mpr ⟨v2, (yl y).mp hy⟩⟩
    · rintro ⟨u1, u2⟩
      obtain ⟨v, y, rfl, vl⟩ := snoc_of u1
      obtain ⟨m1, m2⟩ := (meets_app vl).mp u2
      exact ⟨v, y, rfl, (cb v).mpr ⟨vl, m1⟩, (yl y).mpr m2⟩
end
end Wb

set_option Elab.async false
set_option linter.all false
set_option maxRecDepth 100000
set_option maxHeartbeats 8000000
set_option pp.maxSteps 900
set_option pp.deepTerms false
namespace Wb
open PySem PySem.Spec PyProof.Rows L2
/-! ### table_of, ground_row -/
abbrev sTableOf : Stmt := topS 33
abbrev nTableOf : List Str := ["level", "stops", "row", "place", "layer"]
theorem scTableOf : FnScope nTableOf ["level", "stops"] (defScope sTableOf) := ⟨rfl, rfl, rfl, by decide +kernel, rfl, by decide +kernel, by decide +kernel⟩
abbrev sGround : Stmt := topS 36
abbrev nGround : List Str := ["many", "layer", "layers", "notes", "ends", "_", "upto"]
theorem scGround : FnScope nGround ["many", "layer", "layers", "notes"] (defScope sGround) := ⟨rfl, rfl, rfl, by decide +kernel, rfl, by decide +kernel, by decide +kernel⟩
theorem RowT.hide {NV : Hp → V → Prop} (tk : ∀ H H' v, Tk H H' → NV H v → NV H' v) {H : Hp} {r D : Addr} {acc : List V} {os : List (Option Int)} (n : r ≠ D) (hD : H D = some (.lst acc)) (h : RowT NV H (.ref r) os) : RowT NV (hid H D) (.ref r) os := by
  obtain ⟨a, vs, e, h1, h2⟩ := h
  cases e
  exact ⟨r, vs, rfl, hid_at n h1, Paired.imp (fun _ _ z => EntT.tk tk (Tk.hide hD) z) h2⟩
def TabA (D : LvD) (stops : List EndN) (i : Nat) (os : List (Option Int)) : Prop := ∃ s row B E low, stops[i]? = some s ∧ D.rows[s.col]? = some row ∧ os.length = D.ends.length ∧ Dk.St (srcL D row s.last s.upto) (outH D) B [] E low ∧ ∀ n o, os[n]? = some o → EntA D s.last s.upto row B n o
def gEnds (W L : Nat) : List Nat := ((List.range W).flatMap fun _ => List.range L) ++ [L - 1]
def grow (W a L : Nat) : List (Option Int) := (gEnds W L).map fun u => if a ≤ u then some 0 else none
theorem flat_len (L : Nat) : ∀ W, ((List.range W).flatMap fun _ => List.range L).length = W * L
  | 0 => by simp
  | W + 1 => by rw [flat_snoc, List.length_append, flat_len L W, List.length_range, Nat.succ_mul]
theorem natsT_snoc (ns : List Nat) (n : Nat) : natsT (ns ++ [n]) = natsT ns ++ [V.int (n : Nat)] := by unfold natsT; rw [List.map_append]; rfl
theorem natsT_len (ns : List Nat) : (natsT ns).length = ns.length := by unfold natsT; rw [List.length_map]
section
variable {P : Program} {w : World} {K : PySem.W.Frag} {mg : Str → Option Value} {base : Heap}
def spTableOf (N : NtK P w K mg base) (C : Addr) : Sp := fun vs H Q _ => ∃ (lv sp : Addr) (svs : List V) (stops : List EndN) (D : LvD), vs = [.ref lv, .ref sp] ∧ LevT N.NV N.At C H lv D ∧ LevOk2 D ∧ H sp = some (.lst svs) ∧ Paired (EndNT H) svs stops ∧ stops.length ≤ 1000 ∧
  (∀ s ∈ stops, s.upto ≤ D.asked.length ∧ ∃ row, D.rows[s.col]? = some row) ∧
  ∀ H' r tvs T, Evl.Ex H H' → H r = none → H' r = some (.lst tvs) → Paired (RowT N.NV H') tvs T → T.length = stops.length → (∀ i os, T[i]? = some os → TabA D stops i os) → Q (.ref r) H'
theorem ok_tableOf (N : NtK P w K mg base) (L : LvC K mg) (B : Bi mg) (T : TbK K mg) {f : Addr} {fd : FuncData} (F : Fun K "table_of" "table_of" sTableOf f fd) : FnOk P w K mg base CX0 6 f fd ["level", "stops"] (spTableOf N L.C) := by
  have GE : FnOk P w K mg base CX0 5 L.f4 L.d4 ["self", "start"] (spEntries N L.C) := ok_entries N L B T
  refine F.ok scTableOf (fun vs H Q E h => ?_) (fun cdv A outer s H vs Q E hr h => ?_)
  · obtain ⟨lv, sp, svs, stops, D, rfl, _⟩ := h; rfl
  · obtain ⟨lv, sp, svs, stops, D, rfl, hL, ok, hsp, hst, s1000, sok, k⟩ := h
    refine ⟨_, pss_one (ps_ret (pe_lc (own := [("row", 2), ("place", 3), ("layer", 4)]) (g := gTup K 3 (gCons (gName 2) (gCons (gName 3) (gCons (gName 4) gNil)))) (te := tMeth L.C "entries" (spEntries N L.C) [] E0 (tVar 0) (tCons (tTup (tCons (tOp (rIxL K) (tFld K (tVar 0) "below") (tVar 2)) (tCons (tVar 3) (tCons (tVar 4) tNil)))) tNil)) rfl scTableOf.nd (pi_list (pv 1)) (blkOk_by (own := [("row", 2), ("place", 3), ("layer", 4)]) (N := nTableOf) (sc := defScope sTableOf) (by decide +kernel))
      (fun _ _ _ _ _ => pg_tup rfl (pgs_cons (pg_name (i := 2) scTableOf.nd rfl (Or.inl rfl)) (pgs_cons (pg_name (i := 3) scTableOf.nd rfl (Or.inl rfl)) (pgs_cons (pg_name (i := 4) scTableOf.nd rfl (Or.inl rfl)) pgs_nil)))) (fun _ _ _ _ _ => pts_nil)
      (fun _ _ _ _ _ => pe_meth (pv 0) L.cl L.m4 GE hr L.b4 .nil pass0 (pa_cons (pe_tup (pa_cons (pe_ix (r := rIxL K) ix_list (pe_fld (pv 0) rfl) (pv 2) (fun _ _ => rfl)) (pa_cons (pv 3) (pa_cons (pv 4) pa_nil)))) pa_nil)))), ?_⟩
    obtain ⟨dx, fs, bl, ak, en, nt, hp, on, nxx, ls, rvs, evs, hvs, ovs, nvs, lvs, h1, h2, ⟨a1, a2, a3⟩, _⟩ := hL.at_
    have sl : svs.length = stops.length := Paired.len hst
    have mono : ∀ G G' v y, Evl.Ex G G' → RowT N.NV G v y → RowT N.NV G' v y := fun G G' v y e h => RowT.ex N.nx e h
    refine ⟨.ref sp, rfl, sp, rfl, ⟨svs, SqL.of hsp⟩, fun Dl nD => ?_⟩
    refine lc_list (K := K) (a := sp) (xs := svs) (fun i H' => ∃ T, Blt (RowT N.NV) H H' Dl T ∧ T.length = i ∧ ∀ n os, T[n]? = some os → TabA D stops n os) ⟨[], Blt.start nD, rfl, fun n o h => by simp at h⟩ ?_ ?_ ?_
    · rintro i H' _ ⟨T, b, _⟩
      exact SqL.of (b.ex _ _ hsp)
    · rintro i x H2 hx ⟨T, b2, tl, ha⟩
      obtain ⟨s, hs, ⟨sa, rfl, hsa⟩⟩ := Paired.get1 hst hx
      have il := (List.getElem?_eq_some_iff.mp hx).1
      have sm := List.mem_of_getElem? hs
      obtain ⟨su, row, hrow⟩ := sok s sm
      have rmem := List.mem_of_getElem? hrow
      obtain ⟨rv, hrv, hrt⟩ := Paired.get2 a3 hrow
      obtain ⟨ra, ras, rfl, hra, hrp⟩ := id hrt
      refine ⟨sa, _, rfl, SqT.of (b2.ex _ _ hsa), rfl, _, _, rfl, _, _, rfl, _, _, rfl, rfl, ?_⟩
      refine ⟨rfl, ?_⟩
      refine ⟨.ref lv, rfl, lv, dx, fs, rfl, b2.ex _ _ h1, h2.m4, .ref lv, rfl, lv, L.C, dx, fs, .ref bl, rfl, b2.ex _ _ h1, L.cl, L.n0, a1, .int (s.col : Nat), rfl, bl, rvs, (s.col : Nat), .ref ra, rfl, rfl, SqL.of (b2.ex _ _ a2), atI_nat hrv, oT s.last, rfl, .int (s.upto : Nat), rfl, (by show 3 ≤ sizeLine; decide), fun t nt' => ?_⟩
      have e3 := Evl.Ex.new (o := .tup [.ref ra, oT s.last, .int (s.upto : Nat)]) nt'
      have g3 : (upd H2 t (.tup [.ref ra, oT s.last, .int (s.upto : Nat)])) t = some (.tup [.ref ra, oT s.last, .int (s.upto : Nat)]) := upd_same
      generalize upd H2 t (.tup [.ref ra, oT s.last, .int (s.upto : Nat)]) = H3 at e3 g3
      have e03 := b2.ex.trans e3
      refine ⟨lv, t, ra, s.last, s.upto, row, D, rfl, hL.ex N.nx N.ex e03, ok, g3, RowT.ex N.nx e03 hrt, fun h hh => ok.ok.width row rmem h hh, fun p hp => ok.ok.nn row rmem p hp, fun e he => ok.cols e he row rmem, su, fun H4 r os Bs E' low e4 nr hr ol lB S hen => ?_⟩
      obtain ⟨vs, hD⟩ := b2.ne
      have hD3 := e3 _ _ hD
      obtain ⟨acc, q1, q2, q3⟩ := b2.step mono (e3.trans e4) (v := .ref r) (y := os) (RowT.hide N.tk (fun z => by rw [z, hD3] at nr; cases nr) (e4 _ _ hD3) hr) (by omega)
      exact ⟨acc, q1, q2, T ++ [os], q3, by rw [List.length_append, List.length_singleton, tl], snoc_get ha (by rw [tl]; exact ⟨s, row, Bs, E', low, hs, hrow, ol, S, hen⟩)⟩
    · rintro H2 ⟨T, b2, tl, ha⟩
      obtain ⟨vs, g1, g2⟩ := b2.done mono
      exact k H2 Dl vs T b2.ex nD g1 g2 (by rw [tl, sl]) ha
def spGround (N : NtK P w K mg base) : Sp := fun vs H Q _ => ∃ (nt : Addr) (W a L : Nat), vs = [.int (W : Nat), .int (a : Nat), .int (L : Nat), .ref nt] ∧ N.At H nt ∧ W ≤ 100 ∧ 1 ≤ L ∧ L ≤ 100 ∧
  ∀ H' r, Evl.Ex H H' → H r = none → RowT N.NV H' (.ref r) (grow W a L) → Q (.ref r) H'
theorem ok_ground (N : NtK P w K mg base) (B : Bi mg) {f : Addr} {fd : FuncData} (F : Fun K "ground_row" "ground_row" sGround f fd) : FnOk P w K mg base CX0 2 f fd ["many", "layer", "layers", "notes"] (spGround N) := by
  refine F.ok scGround (fun vs H Q E h => ?_) (fun cdv A outer s H vs Q E hr h => ?_)
  · obtain ⟨nt, W, a, L, rfl, _⟩ := h; rfl
  · obtain ⟨nt, W, a, L, rfl, hnt, w100, l1, l100, k⟩ := h
    refine ⟨_, (Evl.pss_cut (ps_set (i := 4) scGround.nd rfl (.inl rfl) (pe_op (r := rCat) op_cat (pe_lc2 (own := [("_", 5), ("upto", 6)]) (vs1 := [6]) (g := gName 5) (g1 := gName 6) (wi1 := iRng1 (tCons (tVar 2) tNil)) (te := tVar 6) rfl scGround.nd (pi_range1 (by rfl) B.range (pa_cons (pv 0) pa_nil)) (blkOk_by (own := [("_", 5), ("upto", 6)]) (N := nGround) (sc := defScope sGround) (by decide +kernel)) (by decide)
        (fun _ _ _ _ _ => pg_name (i := 5) scGround.nd rfl (Or.inl rfl)) (fun _ _ _ _ _ => pts_nil)
        (fun _ _ _ _ _ => pi_range1 (by rfl) B.range (pa_cons (pv 2) pa_nil)) (fun _ _ _ _ _ => pg_name (i := 6) scGround.nd rfl (Or.inl rfl)) (fun _ _ _ _ _ => pts_nil)
        (fun _ _ _ _ _ => pv 6)) (pe_lst (pa_cons (pe_op op_sub (pv 2) pe_int) pa_nil))))
      (pss_one (ps_ret (pe_lc (own := [("upto", 6)]) (g := gName 6) (te := tIf (tTest (tOp (rI0 fun i j => .bl (decide (i ≤ j))) (tVar 1) (tVar 6))) (tTup (tCons (tC (.int 0)) (tCons (tMeth N.C "standing" (fun vs H Q _ => ∃ nt, vs = [.ref nt] ∧ N.At H nt ∧ ∀ H' v, Evl.Ex H H' → N.NV H' v → Q v H') [] E0 (tVar 3) tNil) tNil))) (tC .non)) rfl scGround.nd (pi_list (pv 4)) (blkOk_by (own := [("upto", 6)]) (N := nGround) (sc := defScope sGround) (by decide +kernel))
        (fun _ _ _ _ _ => pg_name (i := 6) scGround.nd rfl (Or.inl rfl)) (fun _ _ _ _ _ => pts_nil)
        (fun _ _ _ _ _ => pe_ifExp (pt_cmpR op_le (pv 1) (pv 6) (nomark _)) (pe_tup (pa_cons pe_int (pa_cons (pe_meth0 (pv 3) N.cl N.m1 N.k1 hr N.b1 .nil pass0) pa_nil))) pe_non))))), ?_⟩
    refine ⟨fun σ H' => ∃ e, σ = [some (.int (W : Nat)), some (.int (a : Nat)), some (.int (L : Nat)), some (.ref nt), some (.ref e), none, none] ∧ Evl.Ex H H' ∧ H' e = some (.lst (natsT (gEnds W L))), ?_, ?_⟩
    · refine ⟨.int (W : Nat), rfl, (W : Nat), rfl, by omega, by omega, fun Dl nD => ?_⟩
      rw [Int.toNat_natCast]
      refine w_it (walk_range (lo := 0) (n := W)) (fun i H' => Evl.Ex H H' ∧ H' Dl = some (.lst (natsT ((List.range i).flatMap fun _ => List.range L)))) ⟨Evl.Ex.new nD, upd_same⟩ (fun _ _ _ _ => trivial) ?_ ?_
      · rintro i x H1 H1' hi ⟨e1, hD1⟩ ⟨rfl, rfl⟩
        refine ⟨rfl, ?_⟩
        refine ⟨.int (L : Nat), rfl, (L : Nat), rfl, by omega, by omega, ?_⟩
        rw [Int.toNat_natCast]
        refine w_it (walk_range (lo := 0) (n := L)) (fun t H' => Evl.Ex H H' ∧ H' Dl = some (.lst (natsT (((List.range i).flatMap fun _ => List.range L) ++ List.range t)))) ⟨e1, by rw [List.range_zero, List.append_nil]; exact hD1⟩ (fun _ _ _ _ => trivial) ?_ ?_
        · rintro t x H2 H2' ht ⟨e2, hD2⟩ ⟨rfl, rfl⟩
          refine ⟨rfl, ?_⟩
          refine ⟨.int ((0 : Int) + (t : Nat)), rfl, _, hD2, ?_, e2.mut nD, ?_⟩
          · rw [natsT_len, List.length_append, flat_len, List.length_range]
            have : i * L ≤ 100 * 100 := Nat.mul_le_mul (by omega) l100
            exact Nat.lt_of_le_of_lt (by omega : i * L + t ≤ 20000) (by decide)
          · rw [upd_same, List.range_succ, ← List.append_assoc, natsT_snoc, Int.zero_add]
        · rintro H2 h
          rw [flat_snoc]
          exact h
      · rintro H1 ⟨e1, hD1⟩
        refine ⟨.int (L : Nat), rfl, (L : Nat), 1, rfl, rfl, (by show 1 ≤ sizeLine; decide), fun t nt' => ?_⟩
        have e2 := Evl.Ex.new (o := .lst [.int (((L : Nat) : Int) - 1)]) nt'
        have g2 : (upd H1 t (.lst [.int (((L : Nat) : Int) - 1)])) t = some (.lst [.int (((L : Nat) : Int) - 1)]) := upd_same
        generalize upd H1 t (.lst [.int (((L : Nat) : Int) - 1)]) = H2 at e2 g2
        refine ⟨Dl, t, _, _, rfl, rfl, e2 _ _ hD1, g2, ?_, fun p np => ?_⟩
        · rw [natsT_len, flat_len]
          have : W * L ≤ 100 * 100 := Nat.mul_le_mul w100 l100
          exact Nat.le_trans (by show W * L + 1 ≤ 20000; omega) (by decide)
        · refine ⟨p, rfl, (e1.trans e2).trans (Evl.Ex.new np), ?_⟩
          rw [upd_same]
          unfold gEnds
          rw [natsT_snoc, show ((L : Nat) : Int) - 1 = ((L - 1 : Nat) : Int) by omega]
    rintro _ H1 ⟨e, rfl, e1, he⟩
    obtain ⟨dn, fn, i1, i2, _⟩ := N.ins _ _ hnt
    have mono : ∀ G G' v y, Evl.Ex G G' → EntT N.NV G v y → EntT N.NV G' v y := fun G G' v y e h => EntT.ex N.nx e h
    have gl : (gEnds W L).length ≤ 10001 := by
      unfold gEnds
      rw [List.length_append, flat_len]
      have : W * L ≤ 100 * 100 := Nat.mul_le_mul w100 l100
      show W * L + 1 ≤ _
      omega
    refine ⟨.ref e, rfl, e, rfl, ⟨_, SqL.of he⟩, fun Dl nD => ?_⟩
    refine lc_list (K := K) (a := e) (xs := natsT (gEnds W L)) (fun i H' => Blt (EntT N.NV) H1 H' Dl (((gEnds W L).take i).map fun u => if a ≤ u then some 0 else none)) (Blt.start nD) ?_ ?_ ?_
    · rintro i H' _ b
      exact SqL.of (b.ex _ _ he)
    · rintro i x H2 hx b2
      obtain ⟨u, hu, rfl⟩ : ∃ n, (gEnds W L)[i]? = some n ∧ x = .int (n : Nat) := by
        unfold natsT at hx
        rw [List.getElem?_map] at hx
        cases ho : (gEnds W L)[i]? with
        | none => rw [ho] at hx; cases hx
        | some o => rw [ho] at hx; exact ⟨o, rfl, (Option.some.inj hx).symm⟩
      have il := (List.getElem?_eq_some_iff.mp hu).1
      have lt : (((gEnds W L).take i).map fun u => if a ≤ u then some (0 : Int) else none).length ≤ 100000 := by rw [List.length_map, List.length_take]; omega
      rw [take_succ_get hu, List.map_append]
      refine ⟨rfl, ?_⟩
      refine ⟨.int (a : Nat), rfl, .int (u : Nat), rfl, (a : Nat), (u : Nat), rfl, rfl, _, rfl, ?_⟩
      refine ite2 (fun hc => ?_) (fun hc => ?_)
      · have c1 : a ≤ u := by have := of_decide_eq_true hc; omega
        have e02 := e1.trans b2.ex
        refine ⟨.ref nt, rfl, nt, dn, fn, rfl, e02 _ _ i1, i2, ?_⟩
        refine ⟨nt, rfl, N.ex _ _ _ e02 hnt, fun H3 v e3 hv => ?_⟩
        refine ⟨(by show 2 ≤ sizeLine; decide), fun t nt' => ?_⟩
        have e4 := Evl.Ex.new (o := .tup [.int 0, v]) nt'
        have g4 : (upd H3 t (.tup [.int 0, v])) t = some (.tup [.int 0, v]) := upd_same
        generalize upd H3 t (.tup [.int 0, v]) = H4 at e4 g4
        obtain ⟨vs, hD⟩ := b2.ne
        have e24 := e3.trans e4
        refine b2.step mono e24 (v := .ref t) (y := if a ≤ u then some 0 else none) ?_ lt
        rw [if_pos c1]
        exact EntT.tk (o := some 0) N.tk (Tk.hide (e24 _ _ hD)) ⟨t, v, rfl, g4, N.nx _ _ _ e4 hv⟩
      · have c1 : ¬ a ≤ u := fun z => hc (decide_eq_true (by omega))
        refine b2.step mono (Evl.Ex.refl H2) (v := .non) (y := if a ≤ u then some 0 else none) ?_ lt
        rw [if_neg c1]
        rfl
    · rintro H2 b2
      rw [natsT_len, List.take_length] at b2
      obtain ⟨vs, g1, g2⟩ := b2.done mono
      exact k H2 Dl (e1.trans b2.ex) (Evl.fresh_back e1 nD) ⟨Dl, vs, rfl, g1, g2⟩
end
end Wb

set_option Elab.async false
set_option linter.all false
set_option maxRecDepth 100000
set_option maxHeartbeats 4000000
namespace Wb
open PySem PySem.Spec PyProof.Rows L2
/-- words of all levels, none behind the last -/
structure Levels (l : Lock) (ws : Nat → List Word) : Prop where
  zero : ∀ u ∈ ws 0, u = []
  len : ∀ k, k ≤ l.length → ∀ u ∈ ws k, u.length = k
  down : ∀ k, k < l.length → ∀ u ∈ ws (k + 1), u.dropLast ∈ ws k
  ways : ∀ (k : Nat) (b : Bolt), l[k]? = some b → ∀ g ∈ b.gaps, ∀ u ∈ g.ways, u ∈ ws k
  top : ws l.length = []
def idxW (ws : List Word) (u : Word) : Nat := ws.idxOf u
theorem idx_at {ws : List Word} {u : Word} (h : u ∈ ws) : ws[idxW ws u]? = some u := by
  unfold idxW
  have lt : ws.idxOf u < ws.length := List.idxOf_lt_length_of_mem h
  rw [List.getElem?_eq_getElem lt, List.getElem_idxOf lt]
theorem cut_small {l : Lock} (ok : LockOk l) {k : Nat} {w : Word} (h : cutsFrom l k w) : (w.length ≤ 60 ∧ ∀ x ∈ w, 0 ≤ x ∧ x < 10) ∧ w.length = k := by
  obtain ⟨j, b, g, u, hj, hb, hg, hu, rfl⟩ := h
  have lt := (List.getElem?_eq_some_iff.mp hb).1
  obtain ⟨h1, h2⟩ := ((ok.bolts j b hb).gaps g hg).words u hu
  have l60 := ok.n1
  have ml : (manysOf (l.take j)).length = j := by
    unfold manysOf
    rw [List.length_map, List.length_take]
    omega
  refine ⟨⟨by rw [List.length_take]; omega, fun x hx => ?_⟩, by rw [List.length_take]; omega⟩
  obtain ⟨i, hi⟩ := List.mem_iff_getElem?.mp (List.mem_of_mem_take hx)
  have il := (List.getElem?_eq_some_iff.mp hi).1
  have hm : (manysOf (l.take j))[i]? = some (l[i]'(by omega)).many := by
    unfold manysOf
    rw [List.getElem?_map, List.getElem?_take, if_pos (by omega), List.getElem?_eq_getElem (by omega)]
    rfl
  have z := h2 i x _ hi hm
  have m4 := (ok.bolts i l[i] (List.getElem?_eq_getElem (by omega))).m1
  omega
theorem cutV_whole {xs : List V} {lo hi : Option Int} (h : HT.sIx xs.length 0 lo = 0 ∧ HT.sIx xs.length xs.length hi = xs.length) : cutV xs lo hi = xs := by
  unfold cutV
  rw [h.1, h.2, List.drop_zero, Nat.sub_zero, List.take_length]
theorem cut_range {l : Lock} (ok : LockOk l) {k : Nat} {w : Word} {b : Bolt} (hb : l[k]? = some b) (h : cutsFrom l (k + 1) w) : ∃ z, w[k]? = some z ∧ 0 ≤ z ∧ z < b.many := by
  obtain ⟨j, b', g, u, hj, hb', hg, hu, rfl⟩ := h
  have lt := (List.getElem?_eq_some_iff.mp hb').1
  obtain ⟨h1, h2⟩ := ((ok.bolts j b' hb').gaps g hg).words u hu
  have ml : (manysOf (l.take j)).length = j := by
    unfold manysOf
    rw [List.length_map, List.length_take]
    omega
  obtain ⟨z, hz⟩ : ∃ z, u[k]? = some z := ⟨_, List.getElem?_eq_getElem (by omega)⟩
  refine ⟨z, by rw [List.getElem?_take, if_pos (by omega)]; exact hz, ?_⟩
  refine h2 k z b.many hz ?_
  unfold manysOf
  rw [List.getElem?_map, List.getElem?_take, if_pos (by omega), hb]; rfl
/-! ### the words of all levels -/
def WsFor (l : Lock) (ws : Nat → List Word) : Prop := (∀ k, k < l.length → WordsAt l k (ws k)) ∧ ∀ k, l.length ≤ k → ws k = []
section
variable {l : Lock} {ws : Nat → List Word}
theorem WsFor.nodup (h : WsFor l ws) (k : Nat) : (ws k).Nodup := by
  by_cases c : k < l.length
  · exact (h.1 k c).1
  · rw [h.2 k (by omega)]; exact List.nodup_nil
theorem WsFor.few (ok : LockOk l) (h : WsFor l ws) (k : Nat) : (ws k).length ≤ 8 := by
  by_cases c : k < l.length
  · exact ok.words k _ c (h.1 k c).1 fun u hu => ((h.1 k c).2 u).mp hu
  · rw [h.2 k (by omega)]; exact Nat.zero_le _
theorem levels_of (ok : LockOk l) (h : WsFor l ws) : Levels l ws := by
  have len : ∀ k, k ≤ l.length → ∀ u ∈ ws k, u.length = k := fun k hk u hu => by
    by_cases c : k < l.length
    · exact (cut_small ok (((h.1 k c).2 u).mp hu)).2
    · rw [h.2 k (by omega)] at hu; cases hu
  refine ⟨fun u hu => List.eq_nil_of_length_eq_zero (len 0 (Nat.zero_le _) u hu), len, fun k hk u hu => ?_, fun k b hb g hg u hu => ?_, h.2 _ (Nat.le_refl _)⟩
  · have ul := len (k + 1) (by omega) u hu
    by_cases c : k + 1 < l.length
    · obtain ⟨j, b, g, u0, h1, h2, h3, h4, h5⟩ := ((h.1 _ c).2 u).mp hu
      refine ((h.1 k hk).2 _).mpr ⟨j, b, g, u0, by omega, h2, h3, h4, ?_⟩
      rw [List.dropLast_eq_take, ul, h5, List.take_take]
      congr 1
      omega
    · rw [h.2 _ (by omega)] at hu; cases hu
  · have kl := (List.getElem?_eq_some_iff.mp hb).1
    exact ((h.1 k kl).2 u).mpr ((cuts_step ok hb u).mpr (.inr ⟨g, hg, hu⟩))
end
/-- lists of the words -/
structure Rows (K : PySem.W.Frag) (H : Hp) (W : Addr) (n : Nat) (ws : Nat → List Word) : Prop where
  at_ : ∃ rs : List Addr, H W = some (.lst (rs.map V.ref)) ∧ rs.length = n + 1 ∧ ∀ (k : Nat) (r : Addr), rs[k]? = some r → RowAt K H r (ws k)
theorem Rows.ex {K : PySem.W.Frag} {H H' : Hp} (e : Evl.Ex H H') {W : Addr} {n : Nat} {ws : Nat → List Word} (h : Rows K H W n ws) : Rows K H' W n ws := by
  obtain ⟨rs, h1, h2, h3⟩ := h.at_
  exact ⟨rs, e _ _ h1, h2, fun k r hk => (h3 k r hk).ex e⟩
theorem Rows.row {K : PySem.W.Frag} {H : Hp} {W : Addr} {n : Nat} {ws : Nat → List Word} (h : Rows K H W n ws) {k : Nat} (hk : k ≤ n) : ∃ (rs : List Addr) (r : Addr) (us : List V), H W = some (.lst (rs.map V.ref)) ∧ (rs.map V.ref)[k]? = some (.ref r) ∧ H r = some (.lst us) ∧ Paired (Wd K H) us (ws k) := by
  obtain ⟨rs, h1, h2, h3⟩ := h.at_
  obtain ⟨r, hr⟩ : ∃ r, rs[k]? = some r := ⟨_, List.getElem?_eq_getElem (by omega)⟩
  obtain ⟨us, hu, hp⟩ := h3 k r hr
  exact ⟨rs, r, us, h1, by rw [List.getElem?_map, hr]; rfl, hu, hp⟩
/-- the words' numbers, as a dict -/
def numF (us : List Word) (n : Nat) : List (List Key × V) := (us.zipIdx n).map fun p => (keyW p.1, V.int (p.2 : Nat))
abbrev numD (us : List Word) : List (List Key × V) := numF us 0
theorem num_val {u : Word} : ∀ (us : List Word) (n : Nat), u ∈ us → valV (numF us n) (keyW u) = some (V.int ((idxW us u + n : Nat) : Int))
  | [], _, h => nomatch h
  | x :: us, n, h => by
    by_cases c : x = u
    · subst c
      have z : idxW (x :: us) x = 0 := by unfold idxW; exact List.idxOf_cons_self
      rw [z, Nat.zero_add]
      exact valV_pos rfl
    · have hm : u ∈ us := (List.mem_cons.mp h).resolve_left fun z => c z.symm
      have ne : ¬ keyW x = keyW u := fun e => c (keyW_inj e)
      have z1 : valV (numF (x :: us) n) (keyW u) = valV (numF us (n + 1)) (keyW u) := valV_neg ne
      have z2 : idxW (x :: us) u = idxW us u + 1 := by
        unfold idxW
        rw [List.idxOf_cons, beq_false_of_ne c]
        rfl
      rw [z1, num_val us (n + 1) hm, z2]
      congr 3
      omega
theorem num_len (us : List Word) (n : Nat) : (numF us n).length = us.length := by
  unfold numF
  rw [List.length_map, List.length_zipIdx]
theorem num_put {us : List Word} {u : Word} (h : u ∉ us) : putK (numD us) (keyW u) (V.int (us.length : Nat)) = numD (us ++ [u]) := by
  have na : ((numD us).any fun kv => decide (kv.1 = keyW u)) = false := by
    rw [List.any_eq_false]
    intro kv hkv
    obtain ⟨p, hp, rfl⟩ := List.mem_map.mp hkv
    rw [decide_eq_true_eq]
    intro e
    have := List.fst_mem_of_mem_zipIdx hp
    rw [keyW_inj e] at this
    exact h this
  unfold putK
  rw [na, if_neg Bool.false_ne_true]
  show numF us 0 ++ [(keyW u, V.int (us.length : Nat))] = numF (us ++ [u]) 0
  unfold numF
  rw [List.zipIdx_append, List.map_append]
  simp
section
variable {K : PySem.W.Frag} {H : Hp} {Q : VK} {a : Addr} {xs : List V}
theorem sl_own {lo hi : Option Int} (ha : H a = some (.tup xs)) (q : ∀ H' z, Evl.Ex H H' → H' z = some (.tup (cutV xs lo hi)) → Q (.ref z) H') : rSlA K (.ref a) lo hi H Q := by
  refine ⟨a, xs, rfl, .inl (.inl ha), fun h => ?_, fun _ t nt => ?_⟩
  · exact q H a (Evl.Ex.refl H) (by rw [cutV_whole h]; exact ha)
  · exact q _ t (Evl.Ex.new nt) upd_same
end
theorem nopart1 {σ : L2.St} {H : Hp} {F : Option Int → Hp → Prop} (h : F none H) : tNoPart σ H F := h
end Wb

set_option Elab.async false
set_option linter.all false
set_option maxRecDepth 100000
set_option maxHeartbeats 8000000
set_option pp.maxSteps 900
set_option pp.deepTerms false
namespace Wb
open PySem PySem.Spec PyProof.Rows L2
/-! ### the class Tower -/
abbrev cTower : Stmt := topS 32
abbrev tS (i : Nat) : Stmt := (clsB cTower).getD i (.Pass ⟨0, 0, 0, 0⟩)
abbrev sTwInit : Stmt := tS 0
abbrev sTwPut : Stmt := tS 1
abbrev sTwRows : Stmt := tS 2
abbrev sTwEntry : Stmt := tS 3
structure TwC (K : PySem.W.Frag) (mg : Str → Option Value) where
  C : Addr
  cl : Cls K C
  n0 : NoAttr K C "wishes"
  n1 : NoAttr K C "notes"
  n2 : NoAttr K C "layers"
  n3 : NoAttr K C "levels"
  n4 : NoAttr K C "stops"
  n5 : NoAttr K C "words"
  n6 : NoAttr K C "ground"
  g : mg "Tower" = some (.ref C)
  f0 : Addr
  d0 : FuncData
  F0 : Fun K "__init__" "Tower.__init__" sTwInit f0 d0
  b0 : Binds K d0 ["self", "lock", "wishes", "notes"] []
  M : Mk K C f0
  f1 : Addr
  d1 : FuncData
  F1 : Fun K "put" "Tower.put" sTwPut f1 d1
  b1 : Binds K d1 ["self", "below", "k", "bolt"] []
  m1 : Meth K C "put" f1
  f2 : Addr
  d2 : FuncData
  F2 : Fun K "rows_from" "Tower.rows_from" sTwRows f2 d2
  b2 : Binds K d2 ["self", "wish"] []
  m2 : Meth K C "rows_from" f2
  f3 : Addr
  d3 : FuncData
  F3 : Fun K "entry_from" "Tower.entry_from" sTwEntry f3 d3
  b3 : Binds K d3 ["self", "wish"] []
  m3 : Meth K C "entry_from" f3
  f33 : Addr
  d33 : FuncData
  F33 : Fun K "table_of" "table_of" sTableOf f33 d33
  b33 : Binds K d33 ["level", "stops"] []
  g33 : mg "table_of" = some (.ref f33)
  f36 : Addr
  d36 : FuncData
  F36 : Fun K "ground_row" "ground_row" sGround f36 d36
  b36 : Binds K d36 ["many", "layer", "layers", "notes"] []
  g36 : mg "ground_row" = some (.ref f36)
  f13 : Addr
  d13 : FuncData
  F13 : Fun K "words_of" "words_of" sWords f13 d13
  b13 : Binds K d13 ["lock"] []
  g13 : mg "words_of" = some (.ref f13)
abbrev nPut : List Str := ["self", "below", "k", "bolt", "many", "gaps", "numbers", "moves", "stops", "ends", "level", "number", "word", "here", "there", "price", "ways", "way", "layer", "wish"]
theorem scPut : FnScope nPut ["self", "below", "k", "bolt"] (defScope sTwPut) := ⟨rfl, rfl, rfl, by decide +kernel, rfl, by decide +kernel, by decide +kernel⟩
abbrev ownPm : List (Str × Nat) := [("here", 13), ("there", 14), ("price", 15), ("ways", 16), ("way", 17)]
abbrev ownPs : List (Str × Nat) := [("word", 12), ("layer", 18)]
section
variable {P : Program} {w : World} {K : PySem.W.Frag} {mg : Str → Option Value} {base : Heap}
abbrev spStep (N : NtK P w K mg base) : Sp := fun vs H Q _ => ∃ (nt : Addr) (k h t : Int) (u : V) (ws : Word), vs = [.ref nt, .int k, .int h, .int t, u] ∧ N.At H nt ∧ Wd K H u ws ∧ ∀ H' v, Evl.Ex H H' → N.NV H' v → Q v H'
abbrev tPm (N : NtK P w K mg base) : TE := tTup (tCons (tDGet (tVar 6) (tVar 17)) (tCons (tVar 13) (tCons (tVar 14) (tCons (tVar 15) (tCons (tMeth N.C "stepping" (spStep N) [] E0 (tFld K (tVar 0) "notes") (tCons (tVar 2) (tCons (tVar 13) (tCons (tVar 14) (tCons (tVar 17) tNil))))) tNil)))))
abbrev tPs (K : PySem.W.Frag) : TE := tTup (tCons (tOp rAddI (tOp rMulI (tDGet (tVar 6) (tSl (rSlA K) (tVar 12) tNoPart (tPart (tVar 2)))) (tFld K (tVar 0) "layers")) (tVar 18)) (tCons (tOp (rIxT K) (tVar 12) (tVar 2)) (tCons (tVar 18) tNil)))
end
end Wb

set_option Elab.async false
set_option linter.all false
set_option maxRecDepth 100000
set_option maxHeartbeats 4000000
namespace Wb
open PySem PySem.Spec PyProof.Rows L2
/-! ### a call that need not know of a list leaves it as it is -/
def frSp (sp : Sp) : Sp := fun vs H Q E => ∃ a xs, H a = some (.lst xs) ∧ sp vs (hid H a) (fun v H' => H' a = none → Q v (upd H' a (.lst xs))) E
theorem hid_none {H : Hp} {a b : Addr} (h : H b = none) : hid H a b = none := by
  unfold hid
  split
  · rfl
  · exact h
theorem hid_self (H : Hp) (a : Addr) : hid H a a = none := by
  unfold hid
  rw [if_pos rfl]
theorem FnOk.frame {P : Program} {w : World} {K : PySem.W.Frag} {mg : Str → Option Value} {base : Heap} {k : Nat} {f : Addr} {fd : FuncData} {ps : List Str} {sp : Sp} (F : FnOk P w K mg base CX0 k f fd ps sp) : FnOk P w K mg base CX0 k f fd ps (frSp sp) := by
  refine ⟨fun vs H Q E ⟨a, xs, _, h⟩ => F.len vs _ _ E h, fun A outer s H args us vs Q E hr he hb hv ⟨a, xs, ha, h⟩ => ?_⟩
  have he' : Env0 P w K mg base A outer s (hid H a) := ⟨he.frames, he.mod, fun b o q => ⟨(he.bs b o q).1, hid_none (he.bs b o q).2⟩, he.bsz, he.funs, fun b q => hid_none (he.frf b q), fun b o q => by
    have q' := hid_ex H a b o q
    exact (he.hok b o q').stay (fun _ _ _ z => z) (fun c z => hid_at (ne_of z ha (fun y => nomatch y)) z) (fun c ys z => hid_at (ne_of z ha (fun y => nomatch y)) z), he.bare⟩
  refine codeAny_mono (F.run A outer s (hid H a) args us vs _ E hr he' hb hv h) fun r s' c => ?_
  match r, c with
  | .ok (.ret u), c =>
    obtain ⟨v, H', os, br, un, hok, rel, q⟩ := c
    obtain ⟨z, its, n, rv, e⟩ := he.hok a _ ha
    have na : H' a = none := un.free a _ e (hid_self H a) (by simp)
    have nf : a ∉ frs outer := fun m => by
      have := he.frf a m
      rw [ha] at this
      cases this
    refine ⟨v, upd H' a (.lst xs), os, br, ⟨fun b o q1 q2 q3 q4 => un.keep b o q1 (hid_none q2) q3 q4, fun b o q1 q2 q3 q4 => un.slot b o q1 (hid_none q2) q3 q4, fun b o q1 q2 q3 => ?_, fun b o q1 q2 => un.there b o q1 q2, fun b ys q1 => ?_, fun b o u q1 => ?_, fun b ps q1 => ?_⟩, fun b o q1 => ?_, rel, q na⟩
    · rw [upd_ne (fun z => by rw [z, ha] at q2; cases q2)]
      exact un.free b o q1 (hid_none q2) q3
    · have nb := ne_of q1 ha (fun y => nomatch y)
      rw [upd_ne nb]
      exact un.tups b ys (hid_at nb q1)
    · have nb := ne_of q1 ha (fun y => nomatch y)
      rw [upd_ne nb]
      exact un.frzs b o u (hid_at nb q1)
    · have nb := ne_of q1 ha (fun y => nomatch y)
      rw [upd_ne nb]
      exact un.tbls b ps (hid_at nb q1)
    · by_cases c : b = a
      · subst c
        rw [upd_same] at q1
        cases q1
        exact ⟨z, its, n, rv, un.keep b _ e (hid_self H b) nf (by simp)⟩
      · rw [upd_ne c] at q1
        refine (hok b o q1).stay (fun _ _ _ z => z) (fun d z => ?_) (fun d ys z => ?_)
        · rw [upd_ne (fun y => by rw [y, na] at z; cases z)]; exact z
        · rw [upd_ne (fun y => by rw [y, na] at z; cases z)]; exact z
end Wb

set_option Elab.async false
set_option linter.all false
set_option maxRecDepth 100000
set_option maxHeartbeats 4000000
set_option pp.maxSteps 900
set_option pp.deepTerms false
namespace Wb
open PySem PySem.Spec PyProof.Rows L2
/-! ### the level of one bolt: no program here -/
def mvsOf (ws : List Word) (b : Bolt) : List HopN := b.gaps.flatMap fun g => g.ways.map fun u => ⟨idxW ws u, g.frm, g.to_, g.price⟩
def stopsL (ws ws' : List Word) (k L : Nat) : List EndN := ws'.flatMap fun u => (List.range L).map fun c => ⟨idxW ws (u.take k) * L + c, u[k]?, c⟩
def endsL (ws ws' : List Word) (last : WishL) (k L : Nat) : List EndN := stopsL ws ws' k L ++ [⟨ws.length * L, (last[k]?).join, L - 1⟩]
theorem const_get {α β : Type} {L : Nat} (L1 : 1 ≤ L) (f : α → Nat → β) : ∀ (xs : List α) (n : Nat), (xs.flatMap fun x => (List.range L).map (f x))[n]? = (xs[n / L]?).map fun x => f x (n % L)
  | [], n => by simp
  | m :: ms, n => by
    have lh : ((List.range L).map (f m)).length = L := by rw [List.length_map, List.length_range]
    rw [List.flatMap_cons]
    by_cases c : n < L
    · rw [List.getElem?_append_left (by rw [lh]; exact c), Nat.div_eq_of_lt c, Nat.mod_eq_of_lt c, List.getElem?_map, List.getElem?_range c]; rfl
    · obtain ⟨r, rfl⟩ : ∃ r, n = r + L := ⟨n - L, by omega⟩
      rw [List.getElem?_append_right (by rw [lh]; omega), lh, Nat.add_sub_cancel, const_get L1 f ms r, Nat.add_div_right _ (by omega), Nat.add_mod_right]
      rfl
theorem const_len {α β : Type} {L : Nat} (f : α → Nat → β) : ∀ xs : List α, (xs.flatMap fun x => (List.range L).map (f x)).length = xs.length * L
  | [] => by simp
  | m :: ms => by rw [List.flatMap_cons, List.length_append, const_len f ms, List.length_map, List.length_range, List.length_cons, Nat.succ_mul]; omega
theorem sum_flat (f : Gap → List HopN) (hf : ∀ g, (f g).length = g.ways.length) : ∀ gs : List Gap, (gs.flatMap f).length = (gs.map fun g => g.ways.length).sum
  | [] => rfl
  | g :: gs => by rw [List.flatMap_cons, List.length_append, sum_flat f hf gs, hf, List.map_cons, List.sum_cons]
theorem moves_len (ws : List Word) (b : Bolt) : (mvsOf ws b).length = (b.gaps.map fun g => g.ways.length).sum := sum_flat _ (fun g => by rw [List.length_map]) b.gaps
section
variable {l : Lock} {ask : List WishL} {last : WishL} {k : Nat} {b : Bolt} {ws : Nat → List Word} {rows : List (List (Option Int))}
theorem moves_ok (lv : Levels l ws) (hb : l[k]? = some b) : MovesOk b (ws k) (mvsOf (ws k) b) := by
  refine ⟨fun m hm => ?_, fun g hg v hv => ?_⟩
  · obtain ⟨g, hg, hm⟩ := List.mem_flatMap.mp hm
    obtain ⟨u, hu, rfl⟩ := List.mem_map.mp hm
    exact ⟨u, g, idx_at (lv.ways k b hb g hg u hu), hg, hu, rfl, rfl, rfl⟩
  · exact ⟨_, List.mem_flatMap.mpr ⟨g, hg, List.mem_map.mpr ⟨v, hv, rfl⟩⟩, idx_at (lv.ways k b hb g hg v hv), rfl, rfl, rfl⟩
theorem ends_ok (ok : LockOk l) (wf : WsFor l ws) (lv : Levels l ws) (hb : l[k]? = some b) {many L : Nat} (hm : b.many = (many : Nat)) (L1 : 1 ≤ L) : EndsOk (ws k) (ws (k + 1)) last k L many (endsL (ws k) (ws (k + 1)) last k L) := by
  have sl : (stopsL (ws k) (ws (k + 1)) k L).length = (ws (k + 1)).length * L := const_len _ _
  have kl := (List.getElem?_eq_some_iff.mp hb).1
  refine ⟨by unfold endsL; rw [List.length_append, sl]; rfl, fun j e he c => ?_, fun e he => ?_⟩
  · unfold endsL at he
    rw [List.getElem?_append_left (by rw [sl]; exact c)] at he
    unfold stopsL at he
    rw [const_get L1] at he
    cases hu : (ws (k + 1))[j / L]? with
    | none => rw [hu] at he; cases he
    | some u =>
      rw [hu] at he
      cases he
      have um := List.mem_of_getElem? hu
      have ul := lv.len (k + 1) kl u um
      have dm := lv.down k kl u um
      rw [List.dropLast_eq_take, ul, Nat.add_sub_cancel] at dm
      obtain ⟨z, hz, z0, z1⟩ : ∃ z, u[k]? = some z ∧ 0 ≤ z ∧ z < b.many := by
        by_cases c : k + 1 < l.length
        · exact cut_range ok hb (((wf.1 _ c).2 u).mp um)
        · rw [wf.2 (k + 1) (by omega)] at um; cases um
      refine ⟨u, idxW (ws k) (u.take k), z.toNat, rfl, idx_at dm, rfl, ?_, by omega, ?_, rfl⟩
      · rw [hz]; congr 1; omega
      · show u[k]? = _
        rw [hz]; congr 1; omega
  · unfold endsL at he
    rw [List.getElem?_append_right (by rw [sl]; exact Nat.le_refl _), sl, Nat.sub_self] at he
    exact (Option.some.inj he).symm
theorem lvX_of (ok : LockOk l) (lv : Levels l ws) (hb : l[k]? = some b) {many : Nat} (hm : b.many = (many : Nat)) (tab : TabIs l ask last (ws k) k rows) : LvX l ask last k b (ws k) many rows (mvsOf (ws k) b) := by
  have kl := (List.getElem?_eq_some_iff.mp hb).1
  have BO := ok.bolts k b hb
  refine ⟨hb, hm, by have := BO.m0; omega, tab, moves_ok lv hb, lv.len k (by omega), fun g hg => ?_, fun k' b' g hb' hg => ((ok.bolts k' b' hb').gaps g hg).p0⟩
  obtain ⟨f0, f1, t0, t1, _⟩ := BO.gaps g hg
  exact ⟨⟨g.frm.toNat, by omega, by omega⟩, ⟨g.to_.toNat, by omega, by omega⟩⟩
theorem row_nn {w : List Word} {A : Word → Prop} {a : Nat} {row : List (Option Int)} (pr : ∀ (k : Nat) (b : Bolt) (g : Gap), l[k]? = some b → g ∈ b.gaps → 1 ≤ g.price) (R : RowIs l ask last w k A a row) : ∀ p : Int, some p ∈ row → 0 ≤ p := fun p hp => by
  obtain ⟨j, hj⟩ := List.mem_iff_getElem?.mp hp
  obtain ⟨⟨_, _, _, _, way⟩, _⟩ := R.at_ j _ hj
  exact way.pos pr
theorem tab_row {rows : List (List (Option Int))} {w : List Word} (tab : TabIs l ask last w k rows) {row : List (Option Int)} (h : row ∈ rows) : ∃ A a, RowIs l ask last w k A a row := by
  obtain ⟨n, hn⟩ := List.mem_iff_getElem?.mp h
  have nl := (List.getElem?_eq_some_iff.mp hn).1
  rw [tab.len] at nl
  have cl : n % (ask.length + 1) < ask.length + 1 := Nat.mod_lt _ (by omega)
  have il : n / (ask.length + 1) < w.length := Nat.div_lt_of_lt_mul (by rw [Nat.mul_comm]; exact nl)
  have e : n = n / (ask.length + 1) * (ask.length + 1) + n % (ask.length + 1) := by rw [Nat.mul_comm]; exact (Nat.div_add_mod _ _).symm
  rw [e] at hn
  exact ⟨_, _, tab.at_ _ _ _ _ (List.getElem?_eq_getElem il) cl hn⟩
theorem levOk2_of (ok : LockOk l) (wf : WsFor l ws) (X : LvX l ask last k b (ws k) many rows (mvsOf (ws k) b)) (EO : EndsOk (ws k) (ws (k + 1)) last k (ask.length + 1) many ends) (m4 : many ≤ 10) (a10 : ask.length ≤ 10) (mv8 : (mvsOf (ws k) b).length ≤ 8) : LevOk2 (levD ask k rows many (mvsOf (ws k) b) ends) := by
  have w8 := wf.few ok k
  have w8' := wf.few ok (k + 1)
  have hopm : ∀ h ∈ (levD ask k rows many (mvsOf (ws k) b) ends).hops, ∃ m ∈ mvsOf (ws k) b, ∃ c, c < ask.length + 1 ∧ h = ⟨m.col * (ask.length + 1) + c, m.frm, m.to_, m.price⟩ := fun h hh => by
    rw [levD_hops] at hh
    exact mem_hops.mp hh
  have col : ∀ h ∈ (levD ask k rows many (mvsOf (ws k) b) ends).hops, h.col < (ws k).length * (ask.length + 1) := fun h hh => by
    obtain ⟨m, hm, c, hc, rfl⟩ := hopm h hh
    obtain ⟨v, g, w1, _⟩ := X.mok.snd m hm
    exact idx_lt w1 hc
  have sub : ∀ (p : Int) (c n : Nat), n ∈ on2 (levD ask k rows many (mvsOf (ws k) b) ends).nexts p c → ∃ place met, n ∈ hfrom (levD ask k rows many (mvsOf (ws k) b) ends).hops (ask.length + 1) place met := fun p c n hn => by
    rw [levD_nx] at hn
    unfold on2 mkNx at hn
    rw [List.getElem?_map] at hn
    rw [levD_hops]
    cases hp : (List.range many)[p.toNat]? with
    | none => rw [hp] at hn; simp at hn
    | some q =>
      rw [hp] at hn
      have hn2 : n ∈ (((List.range (ask.length + 1)).map fun c => hfrom (mkHops (ask.length + 1) (mvsOf (ws k) b)) (ask.length + 1) (q : Nat) (on2 (mkOn many (ask.length + 1) (askOf ask k)) (q : Nat) c))[c]?).getD [] := hn
      rw [List.getElem?_map] at hn2
      cases hc : (List.range (ask.length + 1))[c]? with
      | none => rw [hc] at hn2; simp at hn2
      | some d =>
        rw [hc] at hn2
        exact ⟨_, _, hn2⟩
  have hl : (levD ask k rows many (mvsOf (ws k) b) ends).hops.length = (mvsOf (ws k) b).length * (ask.length + 1) := by rw [levD_hops, len_hops]
  have el : ends.length ≤ 1000 := by
    rw [EO.len]
    have : (ws (k + 1)).length * (ask.length + 1) ≤ 8 * 11 := Nat.mul_le_mul w8' (by omega)
    omega
  have endp : ∀ e ∈ ends, e.upto ≤ ask.length ∧ e.col < (ws k).length * (ask.length + 1) + 1 := fun e he => by
    obtain ⟨j, hj⟩ := List.mem_iff_getElem?.mp he
    have jl := (List.getElem?_eq_some_iff.mp hj).1
    by_cases c : j < (ws (k + 1)).length * (ask.length + 1)
    · obtain ⟨w', i, z, q1, q2, q3, q4, q5, q6, q7⟩ := EO.word j e hj c
      have cl : j % (ask.length + 1) < ask.length + 1 := Nat.mod_lt _ (by omega)
      have := idx_lt q2 cl
      omega
    · have ej : j = (ws (k + 1)).length * (ask.length + 1) := by have := EO.len; omega
      subst ej
      rw [EO.last_ e hj]
      exact ⟨by show ask.length + 1 - 1 ≤ _; omega, by show (ws k).length * (ask.length + 1) < _; omega⟩
  refine ⟨⟨?_, m4, fun n h hh => ?_, ?_, fun r hr => ?_, fun p c n hn => ?_, fun p c => ?_, fun row hr h hh => ?_, fun h hh => ?_, fun row hr => ?_⟩, by show (askOf ask k).length ≤ 10; rw [askOf_len]; exact a10, by show (ends.map _).length = ends.length; rw [List.length_map], el, fun e he => ?_, fun e he row hr => ?_, fun lsn hls n hn => ?_⟩
  · rw [hl]
    have : (mvsOf (ws k) b).length * (ask.length + 1) ≤ 8 * 11 := Nat.mul_le_mul mv8 (by omega)
    omega
  · have hm := List.mem_of_getElem? hh
    have c := col h hm
    obtain ⟨m, hmm, d, hd, rfl⟩ := hopm h hm
    obtain ⟨v, g, w1, w2, w3, w4, w5, w6⟩ := X.mok.snd m hmm
    obtain ⟨_, t, ht, htm⟩ := X.gf g w2
    exact ⟨⟨_, List.getElem?_eq_getElem (by show _ < rows.length; rw [X.tab.len]; exact c)⟩, t, by show m.to_ = _; rw [w5, ht], htm⟩
  · show (mkNx _ _ _ _).length = many
    unfold mkNx
    rw [List.length_map, List.length_range]
  · have hr' : r ∈ mkNx many ((askOf ask k).length + 1) (mkHops ((askOf ask k).length + 1) (mvsOf (ws k) b)) (mkOn many ((askOf ask k).length + 1) (askOf ask k)) := hr
    unfold mkNx at hr'
    obtain ⟨p, _, rfl⟩ := List.mem_map.mp hr'
    show _ = (askOf ask k).length + 1
    rw [List.length_map, List.length_range]
  · obtain ⟨_, _, hm⟩ := sub p c n hn
    obtain ⟨h, hh, _⟩ := mem_hfrom.mp hm
    exact (List.getElem?_eq_some_iff.mp hh).1
  · rw [levD_nx]
    unfold on2 mkNx
    rw [List.getElem?_map]
    cases hp : (List.range many)[p.toNat]? with
    | none => show (([] : List (List Nat))[c]?.getD []).length ≤ _; simp
    | some q =>
      show ((((List.range (ask.length + 1)).map fun c => hfrom (mkHops (ask.length + 1) (mvsOf (ws k) b)) (ask.length + 1) (q : Nat) (on2 (mkOn many (ask.length + 1) (askOf ask k)) (q : Nat) c))[c]?).getD []).length ≤ _
      rw [List.getElem?_map]
      cases hc : (List.range (ask.length + 1))[c]? with
      | none => show ([] : List Nat).length ≤ _; simp
      | some d =>
        show (hfrom _ _ _ _).length ≤ _
        unfold hfrom
        refine Nat.le_trans (List.length_filter_le _ _) ?_
        rw [List.length_range, levD_hops]
        exact Nat.le_refl _
  · obtain ⟨A, a, R⟩ := tab_row X.tab hr
    have := col h hh
    rw [R.len]; omega
  · obtain ⟨m, hm, c, hc, rfl⟩ := hopm h hh
    obtain ⟨v, g, w1, w2, w3, w4, w5, w6⟩ := X.mok.snd m hm
    show 1 ≤ m.price
    rw [w6]
    exact X.pr k b g X.hb w2
  · obtain ⟨A, a, R⟩ := tab_row X.tab hr
    exact row_nn X.pr R
  · show e.upto ≤ (askOf ask k).length
    rw [askOf_len]
    exact (endp e he).1
  · obtain ⟨A, a, R⟩ := tab_row X.tab hr
    rw [R.len]
    exact (endp e he).2
  · have hls' : lsn ∈ ends.map (htoE (mkHops ((askOf ask k).length + 1) (mvsOf (ws k) b)) (mkOn many ((askOf ask k).length + 1) (askOf ask k)) ((askOf ask k).length + 1)) := hls
    obtain ⟨e, _, rfl⟩ := List.mem_map.mp hls'
    obtain ⟨h, hh, _⟩ := mem_htoE.mp hn
    exact (List.getElem?_eq_some_iff.mp hh).1
end
end Wb

set_option Elab.async false
set_option linter.all false
set_option maxRecDepth 100000
set_option maxHeartbeats 4000000
set_option pp.maxSteps 900
set_option pp.deepTerms false
namespace Wb
open PySem PySem.Spec PyProof.Rows L2
theorem RowIs.congr {l : Lock} {ask : List WishL} {last : WishL} {ws : List Word} {k : Nat} {A A' : Word → Prop} {a : Nat} {row : List (Option Int)} (h : ∀ w, A w ↔ A' w) (R : RowIs l ask last ws k A a row) : RowIs l ask last ws k A' a row :=
  ⟨R.len, fun j o hj => Lst.congr (S0.congr h fun _ => Iff.rfl) (R.at_ j o hj)⟩
section
variable {l : Lock} {ask : List WishL} {last : WishL} {k : Nat} {b : Bolt} {ws : Nat → List Word} {rows : List (List (Option Int))} {many : Nat} {moves : List HopN} {ends : List EndN}
theorem tab_up (ok : LockOk l) (wf : WsFor l ws) (lv : Levels l ws) (X : LvX l ask last k b (ws k) many rows moves) (EO : EndsOk (ws k) (ws (k + 1)) last k (ask.length + 1) many ends)
    (lw : ∀ z, last[k]? = some (some z) → 0 ≤ z ∧ z < (many : Nat)) (aw : ∀ (i : Nat) (y : WishL) (z : Int), ask[i]? = some y → y[k]? = some (some z) → 0 ≤ z ∧ z < (many : Nat))
    {T : List (List (Option Int))} (tl : T.length = (stopsL (ws k) (ws (k + 1)) k (ask.length + 1)).length) (ta : ∀ i os, T[i]? = some os → TabA (levD ask k rows many moves ends) (stopsL (ws k) (ws (k + 1)) k (ask.length + 1)) i os) : TabIs l ask last (ws (k + 1)) (k + 1) T := by
  have kl := (List.getElem?_eq_some_iff.mp X.hb).1
  refine ⟨by rw [tl]; exact const_len _ _, fun i u a os hu ha hos => ?_⟩
  obtain ⟨s, row, B, E, low, hs, hrow, ol, S, hen⟩ := ta _ _ hos
  have um := List.mem_of_getElem? hu
  have ul := lv.len (k + 1) kl u um
  have dm := lv.down k kl u um
  rw [List.dropLast_eq_take, ul, Nat.add_sub_cancel] at dm
  obtain ⟨z, hz, z0, z1⟩ : ∃ z, u[k]? = some z ∧ 0 ≤ z ∧ z < b.many := by
    by_cases c : k + 1 < l.length
    · exact cut_range ok X.hb (((wf.1 _ c).2 u).mp um)
    · rw [wf.2 (k + 1) (by omega)] at um; cases um
  have ml := mod_small (i := i) ha
  have se : s = ⟨idxW (ws k) (u.take k) * (ask.length + 1) + a, u[k]?, a⟩ := by
    unfold stopsL at hs
    rw [const_get (by omega), ml.1, ml.2, hu] at hs
    exact (Option.some.inj hs).symm
  subst se
  have R0 := X.tab.at_ _ _ _ row (idx_at dm) ha hrow
  have R1 := row_up X R0 ha (fun w hw => by rw [hw, List.length_take, ul]; omega) (fun y hy => by
    have hy' : u[k]? = some y := hy
    rw [hz] at hy'
    cases hy'
    have := X.hm
    omega) lw aw EO (lv.len (k + 1) kl) S ol hen
  refine R1.congr fun w => ?_
  have ue : u = u.take k ++ [z] := by
    have e1 : u.take (k + 1) = u.take k ++ [z] := take_succ_get hz
    rwa [List.take_of_length_le (by omega)] at e1
  constructor
  · rintro ⟨v, y, rfl, rfl, hx⟩
    rcases hx.2.2 with n | n
    · have n' : u[k]? = none := n
      rw [hz] at n'; cases n'
    · have n' : u[k]? = some y := n
      rw [hz] at n'
      cases n'
      exact ue.symm
  · rintro rfl
    exact ⟨w.take k, z, ue, rfl, z0, by have := X.hm; omega, .inr hz⟩
theorem way_zero {w u : Word} {a c : Nat} {p : Int} (h : WayM l ask 0 w a u c p) : p = 0 ∧ u = w := by
  induction h with
  | refl => exact ⟨rfl, rfl⟩
  | step _ hk _ _ _ _ _ => omega
  | meet _ _ _ ih => exact ih
theorem way_up (w : Word) (a : Nat) : ∀ d, a + d ≤ ask.length → WayM l ask 0 w a w (a + d) 0
  | 0, _ => .refl
  | d + 1, h => by
    obtain ⟨x, hx⟩ : ∃ x, ask[a + d]? = some x := ⟨_, List.getElem?_eq_getElem (by omega)⟩
    exact .meet (way_up w a d (by omega)) hx fun i z hi => absurd hi (by omega)
theorem gEnds_get {W L j : Nat} (L1 : 1 ≤ L) (hj : j < W * L + 1) : (gEnds W L)[j]? = some (if j < W * L then j % L else L - 1) := by
  unfold gEnds
  have hl := flat_len L W
  by_cases c : j < W * L
  · rw [List.getElem?_append_left (by rw [hl]; exact c), if_pos c]
    have e : ((List.range W).flatMap fun _ => List.range L) = (List.range W).flatMap fun x => (List.range L).map ((fun _ c => c) x) := by
      congr 1
      funext x
      exact (List.map_id' _).symm
    rw [e, const_get L1, List.getElem?_range (Nat.div_lt_of_lt_mul (by rw [Nat.mul_comm]; exact c))]
    rfl
  · have ej : j = W * L := by omega
    rw [if_neg c, List.getElem?_append_right (by rw [hl]; omega), hl, ej, Nat.sub_self]
    rfl
theorem ground_is {w0 : List Word} (z : ∀ u ∈ w0, u = []) {a : Nat} (ha : a < ask.length + 1) : RowIs l ask last w0 0 (· = []) a (grow w0.length a (ask.length + 1)) := by
  have gl : (gEnds w0.length (ask.length + 1)).length = w0.length * (ask.length + 1) + 1 := by
    unfold gEnds
    rw [List.length_append, flat_len]; rfl
  refine ⟨by unfold grow; rw [List.length_map, gl], fun j o hj => ?_⟩
  unfold grow at hj
  rw [List.getElem?_map] at hj
  have jl : j < w0.length * (ask.length + 1) + 1 := by
    rw [← gl]
    cases h : (gEnds w0.length (ask.length + 1))[j]? with
    | none => rw [h] at hj; cases hj
    | some x => exact (List.getElem?_eq_some_iff.mp h).1
  rw [gEnds_get (by omega) jl] at hj
  have ec : (if j < w0.length * (ask.length + 1) then j % (ask.length + 1) else ask.length + 1 - 1) = colC w0 (ask.length + 1) j := rfl
  rw [ec] at hj
  have cl : colC w0 (ask.length + 1) j ≤ ask.length := by
    unfold colC
    split
    · have : j % (ask.length + 1) < ask.length + 1 := Nat.mod_lt _ (by omega)
      omega
    · omega
  have eo : o = if a ≤ colC w0 (ask.length + 1) j then some 0 else none := (Option.some.inj hj).symm
  have B0 : colB w0 last 0 (ask.length + 1) j [] := by
    unfold colB
    split
    · rename_i c
      have il : j / (ask.length + 1) < w0.length := Nat.div_lt_of_lt_mul (by rw [Nat.mul_comm]; exact c)
      rw [List.getElem?_eq_getElem il]
      congr 1
      exact z _ (List.getElem_mem il)
    · exact ⟨rfl, fun i z hi => absurd hi (by omega)⟩
  rw [eo]
  by_cases c : a ≤ colC w0 (ask.length + 1) j
  · rw [if_pos c]
    refine ⟨⟨[], [], rfl, B0, ?_⟩, fun q ⟨w, u, _, _, way⟩ => by rw [(way_zero way).1]; exact Int.le_refl _⟩
    have := way_up (l := l) (ask := ask) [] a (colC w0 (ask.length + 1) j - a) (by omega)
    rwa [show a + (colC w0 (ask.length + 1) j - a) = colC w0 (ask.length + 1) j by omega] at this
  · rw [if_neg c]
    rintro p ⟨w, u, _, _, way⟩
    exact c way.mono
end
end Wb

set_option Elab.async false
set_option linter.all false
set_option maxRecDepth 100000
set_option maxHeartbeats 8000000
set_option pp.maxSteps 900
set_option pp.deepTerms false
namespace Wb
open PySem PySem.Spec PyProof.Rows L2
/-! ### Tower.put -/
def hd2 (H : Hp) (a b : Addr) : Hp := hid (hid H a) b
theorem hd2_ex (H : Hp) (a b : Addr) : Evl.Ex (hd2 H a b) H := (hid_ex _ _).trans (hid_ex _ _)
theorem hd2_of {H H' : Hp} {a b : Addr} (e : Evl.Ex H H') : Evl.Ex (hd2 H a b) (hd2 H' a b) := ex_hid_of (ex_hid_of e)
theorem ex_to_hd2 {H0 H : Hp} {a b : Addr} (e : Evl.Ex H0 H) (na : H0 a = none) (nb : H0 b = none) : Evl.Ex H0 (hd2 H a b) := ex_to_hid (ex_to_hid e na) nb
theorem hd2_at {H : Hp} {a b x : Addr} {o : HO} (n1 : x ≠ a) (n2 : x ≠ b) (h : H x = some o) : hd2 H a b x = some o := hid_at n2 (hid_at n1 h)
theorem hd2_a (H : Hp) (a b : Addr) : hd2 H a b a = none := hid_none (hid_self H a)
theorem hd2_b (H : Hp) (a b : Addr) : hd2 H a b b = none := hid_self _ b
theorem Tk.hd2 {H : Hp} {a b : Addr} {xs ys : List V} (ha : H a = some (.lst xs)) (hb : H b = some (.lst ys)) : Tk H (Wb.hd2 H a b) := fun c zs z => hd2_at (ne_of z ha (fun q => nomatch q)) (ne_of z hb (fun q => nomatch q)) z
theorem HopT.tk {NV : Hp → V → Prop} (tk : ∀ H H' v, Tk H H' → NV H v → NV H' v) {H H' : Hp} (k : Tk H H') {v : V} {h : HopN} (z : HopT NV H v h) : HopT NV H' v h := by
  obtain ⟨a, nv, r, h1, h2⟩ := z
  exact ⟨a, nv, r, k _ _ h1, tk _ _ _ k h2⟩
theorem EndNT.tk {H H' : Hp} (k : Tk H H') {v : V} {e : EndN} (z : EndNT H v e) : EndNT H' v e := by
  obtain ⟨a, r, h1⟩ := z
  exact ⟨a, r, k _ _ h1⟩
theorem nopart2 {σ : L2.St} {H : Hp} {F : Option Int → Hp → Prop} (h : F none H) : tNoPart σ H F := h
section
variable {K : PySem.W.Frag} {H : Hp} {Q : VK} {a : Addr} {xs : List V}
theorem sl_any {lo hi : Option Int} (ha : SqT K H a xs) (q : ∀ H' z, Evl.Ex H H' → SqT K H' z (cutV xs lo hi) → Q (.ref z) H') : rSlA K (.ref a) lo hi H Q := by
  refine ⟨a, xs, rfl, ha, fun h => ?_, fun _ t nt => ?_⟩
  · exact q H a (Evl.Ex.refl H) (by rw [cutV_whole h]; exact ha)
  · exact q _ t (Evl.Ex.new nt) (.inl (.inl upd_same))
end
theorem cut_last (xs : List V) : cutV xs none (some (-1)) = xs.dropLast := by
  unfold cutV
  rw [HT.sIx_none]
  have e : HT.sIx xs.length xs.length (some (-1)) = xs.length - 1 := by
    unfold HT.sIx
    simp
    try omega
  rw [e, Nat.sub_zero, List.drop_zero, List.dropLast_eq_take]
theorem pre_len {α β : Type} {f : α → List β} {xs : List α} {j : Nat} {x : α} (h : xs[j]? = some x) : ((xs.take j).flatMap f).length + (f x).length ≤ (xs.flatMap f).length := by
  have e : xs.flatMap f = (xs.take (j + 1)).flatMap f ++ (xs.drop (j + 1)).flatMap f := by rw [← List.flatMap_append, List.take_append_drop]
  rw [e, List.length_append, take_succ_get h, List.flatMap_append, List.length_append, List.flatMap_singleton]
  omega
/-- a wish, as a tuple of places or none -/
def WishT (K : PySem.W.Frag) (H : Hp) (v : V) (x : WishL) : Prop := ∃ a, v = .ref a ∧ SqT K H a (x.map oT)
def wishOk (l : Lock) (x : WishL) : Prop := x.length = l.length ∧ ∀ (k : Nat) (b : Bolt) (z : Int), l[k]? = some b → x[k]? = some (some z) → 0 ≤ z ∧ z < b.many
structure LvlIs (l : Lock) (ask : List WishL) (last : WishL) (ws : Nat → List Word) (k : Nat) (D : LvD) : Prop where
  at_ : ∃ b many rows, D = levD ask k rows many (mvsOf (ws k) b) (endsL (ws k) (ws (k + 1)) last k (ask.length + 1)) ∧ LvX l ask last k b (ws k) many rows (mvsOf (ws k) b) ∧ EndsOk (ws k) (ws (k + 1)) last k (ask.length + 1) many (endsL (ws k) (ws (k + 1)) last k (ask.length + 1)) ∧ LevOk2 D
/-- what put reads of a tower -/
structure TwAt (K : PySem.W.Frag) (CT : Addr) (At : Hp → Addr → Prop) (H : Hp) (tw dx : Addr) (fs : List (Str × V)) (ll sl wl wt nt : Addr) (wvs : List V) (l : Lock) (ws : Nat → List Word) (wishes : List WishL) : Prop where
  obj : H tw = some (.ins CT dx fs)
  f0 : fs.lookup ("wishes" : Str) = some (V.ref wt)
  f1 : fs.lookup ("notes" : Str) = some (V.ref nt)
  f2 : fs.lookup ("layers" : Str) = some (V.int (wishes.length : Nat))
  f3 : fs.lookup ("levels" : Str) = some (V.ref ll)
  f4 : fs.lookup ("stops" : Str) = some (V.ref sl)
  f5 : fs.lookup ("words" : Str) = some (V.ref wl)
  rows : Rows K H wl l.length ws
  wt_ : SqT K H wt wvs
  wp : Paired (WishT K H) wvs wishes
  nt_ : At H nt
theorem TwAt.ex {K : PySem.W.Frag} {CT : Addr} {At : Hp → Addr → Prop} (ax : ∀ H H' nt, Evl.Ex H H' → At H nt → At H' nt) {H H' : Hp} {tw dx : Addr} {fs : List (Str × V)} {ll sl wl wt nt : Addr} {wvs : List V} {l : Lock} {ws : Nat → List Word} {wishes : List WishL} (e : Evl.Ex H H') (h : TwAt K CT At H tw dx fs ll sl wl wt nt wvs l ws wishes) : TwAt K CT At H' tw dx fs ll sl wl wt nt wvs l ws wishes :=
  ⟨e _ _ h.obj, h.f0, h.f1, h.f2, h.f3, h.f4, h.f5, h.rows.ex e, Evl.ex_t e h.wt_, Paired.imp (fun _ _ ⟨a, r, z⟩ => ⟨a, r, Evl.ex_t e z⟩) h.wp, ax _ _ _ e h.nt_⟩
section
variable {P : Program} {w : World} {K : PySem.W.Frag} {mg : Str → Option Value} {base : Heap}
def spPut (N : NtK P w K mg base) (CL CT : Addr) : Sp := fun vs H Q E => ∃ (tw dx bl ll sl wl wt nt : Addr) (fs : List (Str × V)) (k : Nat) (bv : V) (l : Lock) (b : Bolt) (ws : Nat → List Word) (wvs : List V) (ask : List WishL) (last : WishL) (rvs lvs sps : List V) (rows : List (List (Option Int))) (Hb : Hp),
  vs = [.ref tw, .ref bl, .int (k : Nat), bv] ∧ Evl.Ex Hb H ∧ Hb ll = none ∧ Hb sl = none ∧ ll ≠ sl ∧ H ll = some (.lst lvs) ∧ H sl = some (.lst sps) ∧ lvs.length ≤ 1000 ∧ sps.length ≤ 1000 ∧
  TwAt K CT N.At Hb tw dx fs ll sl wl wt nt wvs l ws (ask ++ [last]) ∧ WsFor l ws ∧ LockOk l ∧ l[k]? = some b ∧ BoltAt K Hb bv b ∧ (∀ x ∈ ask ++ [last], wishOk l x) ∧ ask.length ≤ 10 ∧
  Hb bl = some (.lst rvs) ∧ Paired (RowT N.NV Hb) rvs rows ∧ TabIs l ask last (ws k) k rows ∧
  ∀ H' Hb' (r lv sp : Addr) (tvs : List V) (T : List (List (Option Int))) (D : LvD), Evl.Ex Hb Hb' → Evl.Ex Hb' H' → Hb' ll = none → Hb' sl = none → H' ll = some (.lst (lvs ++ [.ref lv])) → H' sl = some (.lst (sps ++ [.ref sp])) → LevT N.NV N.At CL Hb' lv D → LvlIs l ask last ws k D →
    Hb' r = some (.lst tvs) → Paired (RowT N.NV Hb') tvs T → TabIs l ask last (ws (k + 1)) (k + 1) T → Q (.ref r) H'
theorem ok_put (N : NtK P w K mg base) (L : LvC K mg) (T : TbK K mg) (W : TwC K mg) (B : Bi mg) : FnOk P w K mg base CX0 7 W.f1 W.d1 ["self", "below", "k", "bolt"] (spPut N L.C W.C) := by
  have GI : FnOk P w K mg base CX0 2 L.f0 L.d0 ["self", "below", "many", "moves", "asked", "ends", "notes"] (frSp (frSp (spLvInit N L.C))) := FnOk.frame (FnOk.frame (ok_lvInit N L B T))
  have GT : FnOk P w K mg base CX0 6 W.f33 W.d33 ["level", "stops"] (frSp (frSp (spTableOf N L.C))) := FnOk.frame (FnOk.frame (ok_tableOf N L B T W.F33))
  refine W.F1.ok scPut (fun vs H Q E h => ?_) (fun cdv A outer s H vs Q E hr h => ?_)
  · obtain ⟨tw, dx, bl, ll, sl, wl, wt, nt, fs, k, bv, l, b, ws, wvs, ask, last, rvs, lvs, sps, rows, Hb, rfl, _⟩ := h; rfl
  obtain ⟨tw, dx, bl, ll, sl, wl, wt, nt, fs, k, bv, l, b, ws, wvs, ask, last, rvs, lvs, sps, rows, Hb, rfl, eb, nll, nsl, nls, hll, hsl, l1000, s1000, TA, wf, ok, hb, hbv, wok, a10, hbl, hrows, tab, q⟩ := h
  have hu := hu_of hr
  have hr1 : Room 1 _ := hr.mono (by decide)
  have hr3 : Room 3 _ := hr.mono (by decide)
  refine ⟨_, (Evl.pss_cut (ps_asg (pv 3) (pg_tup rfl (pgs_cons (pg_name (i := 4) scPut.nd rfl (.inl rfl)) (pgs_cons (pg_name (i := 5) scPut.nd rfl (.inl rfl)) pgs_nil))))
    (Evl.pss_cut (ps_set (i := 6) scPut.nd rfl (.inr rfl) (pe_dcT (own := [("number", 11), ("word", 12)]) (g := gTup K 2 (gCons (gName 11) (gCons (gName 12) gNil))) (tk := tVar 12) (tv := tVar 11) hu rfl scPut.nd (pi_enum (by rfl) B.enum (pa_cons (pe_ix (r := rIxL K) ix_list (pe_fld (pv 0) rfl) (pv 2) (fun _ _ => rfl)) pa_nil)) (blkOk_by (own := [("number", 11), ("word", 12)]) (N := nPut) (sc := defScope sTwPut) (by decide +kernel))
      (fun _ _ _ _ _ => pg_tup rfl (pgs_cons (pg_name (i := 11) scPut.nd rfl (Or.inl rfl)) (pgs_cons (pg_name (i := 12) scPut.nd rfl (Or.inl rfl)) pgs_nil))) (fun _ _ _ _ _ => pts_nil) (fun _ _ _ _ _ => pv 12) (fun _ _ _ _ _ => pv 11)))
    (Evl.pss_cut (ps_setLc2 (i := 7) (own := ownPm) (vs1 := [17]) (g := gTup K 4 (gCons (gName 13) (gCons (gName 14) (gCons (gName 15) (gCons (gName 16) gNil))))) (g1 := gName 17) (wi1 := iTup K (tVar 16)) (te := tPm N) rfl scPut.nd rfl rfl rfl (pi_tup (pv 5)) (blkOk_by (own := ownPm) (N := nPut) (sc := defScope sTwPut) (by decide +kernel)) (by decide)
      (fun _ _ _ _ _ => pg_tup rfl (pgs_cons (pg_name (i := 13) scPut.nd rfl (Or.inl rfl)) (pgs_cons (pg_name (i := 14) scPut.nd rfl (Or.inl rfl)) (pgs_cons (pg_name (i := 15) scPut.nd rfl (Or.inl rfl)) (pgs_cons (pg_name (i := 16) scPut.nd rfl (Or.inl rfl)) pgs_nil))))) (fun _ _ _ _ _ => pts_nil)
      (fun _ _ _ _ _ => pi_tup (pv 16)) (fun _ _ _ _ _ => pg_name (i := 17) scPut.nd rfl (Or.inl rfl)) (fun _ _ _ _ _ => pts_nil)
      (fun _ _ _ _ _ => pe_tup (pa_cons (pe_dget hu (pv 6) (pv 17) (fun _ _ => rfl)) (pa_cons (pv 13) (pa_cons (pv 14) (pa_cons (pv 15) (pa_cons (pe_meth (pe_fld (pv 0) rfl) N.cl N.m2 N.k2 hr1 N.b2 .nil pass0 (pa_cons (pv 2) (pa_cons (pv 13) (pa_cons (pv 14) (pa_cons (pv 17) pa_nil))))) pa_nil)))))))
    (Evl.pss_cut (ps_setLc2 (i := 8) (own := ownPs) (vs1 := [18]) (g := gName 12) (g1 := gName 18) (wi1 := iRng1 (tCons (tFld K (tVar 0) "layers") tNil)) (te := tPs K) rfl scPut.nd rfl rfl rfl (pi_list (pe_ix (r := rIxL K) ix_list (pe_fld (pv 0) rfl) (pe_op op_add (pv 2) pe_int) (fun _ _ => rfl))) (blkOk_by (own := ownPs) (N := nPut) (sc := defScope sTwPut) (by decide +kernel)) (by decide)
      (fun _ _ _ _ _ => pg_name (i := 12) scPut.nd rfl (Or.inl rfl)) (fun _ _ _ _ _ => pts_nil)
      (fun _ _ _ _ _ => pi_range1 (by rfl) B.range (pa_cons (pe_fld (pv 0) rfl) pa_nil)) (fun _ _ _ _ _ => pg_name (i := 18) scPut.nd rfl (Or.inl rfl)) (fun _ _ _ _ _ => pts_nil)
      (fun _ _ _ _ _ => pe_tup (pa_cons (pe_op op_add (pe_op op_mul (pe_dget hu (pv 6) (pe_slice (r := rSlA K) sl_tupA (pv 12) po_none (po_some (pv 2))) (fun _ _ => rfl)) (pe_fld (pv 0) rfl)) (pv 18)) (pa_cons (pe_ix (r := rIxT K) ix_tup (pv 12) (pv 2) (fun _ _ => rfl)) (pa_cons (pv 18) pa_nil)))))
    (Evl.pss_cut (ps_set (i := 9) scPut.nd rfl (.inl rfl) (pe_op (r := rCat) op_cat (pv 8) (pe_lst (pa_cons (pe_tup (pa_cons (pe_callB call_len_seq (by rfl) B.len PySem.boot_len (pa_cons (pv 1) pa_nil)) (pa_cons (pe_ix (r := rIxT K) ix_tup (pe_ix (r := rIxT K) ix_tup (pe_fld (pv 0) rfl) (pe_un un_neg pe_int) (fun _ _ => rfl)) (pv 2) (fun _ _ => rfl)) (pa_cons (pe_op op_sub (pe_fld (pv 0) rfl) pe_int) pa_nil)))) pa_nil))))
    (Evl.pss_cut (ps_set (i := 10) scPut.nd rfl (.inl rfl) (pe_make L.M GI hr3 (by rfl) L.g L.b0 .nil pass0 (pa_cons (pv 1) (pa_cons (pv 4) (pa_cons (pv 7) (pa_cons (pe_lc (own := [("wish", 19)]) (wi := iTup K (tSl (rSlA K) (tFld K (tVar 0) "wishes") tNoPart (tPart (tUn (rU fun i => .int (-i)) (tC (.int 1)))))) (g := gName 19) (te := tOp (rIxT K) (tVar 19) (tVar 2)) rfl scPut.nd (pi_tup (pe_slice (r := rSlA K) sl_tupA (pe_fld (pv 0) rfl) po_none (po_some (pe_un un_neg pe_int)))) (blkOk_by (own := [("wish", 19)]) (N := nPut) (sc := defScope sTwPut) (by decide +kernel))
        (fun _ _ _ _ _ => pg_name (i := 19) scPut.nd rfl (Or.inl rfl)) (fun _ _ _ _ _ => pts_nil) (fun _ _ _ _ _ => pe_ix (r := rIxT K) ix_tup (pv 19) (pv 2) (fun _ _ => rfl))) (pa_cons (pv 9) (pa_cons (pe_fld (pv 0) rfl) pa_nil))))))))
    (Evl.pss_cut (ps_expr (pe_bm PySem.F.plainAttrs_list PySem.F.slot_list_append PySem.F.type_list_append mt_append (pe_fld (pv 0) rfl) (pa_cons (pv 10) pa_nil)))
    (Evl.pss_cut (ps_expr (pe_bm PySem.F.plainAttrs_list PySem.F.slot_list_append PySem.F.type_list_append mt_append (pe_fld (pv 0) rfl) (pa_cons (pv 8) pa_nil)))
    (pss_one (ps_ret (pe_call GT hr (by rfl) W.g33 W.F33.kp W.b33 .nil pass0 (pa_cons (pv 10) (pa_cons (pv 8) pa_nil))))))))))))), ?_⟩
  have lv := levels_of ok wf
  have BO := ok.bolts k b hb
  have kl := (List.getElem?_eq_some_iff.mp hb).1
  obtain ⟨many, hm⟩ : ∃ n : Nat, b.many = (n : Nat) := ⟨b.many.toNat, by have := BO.m0; omega⟩
  have L1 : (ask ++ [last]).length = ask.length + 1 := by rw [List.length_append]; rfl
  obtain ⟨ab, cb, gs, rfl, k1, k2, k3⟩ := id hbv
  have txb : TX K Hb H := TX.ex eb
  rw [hm] at k1
  refine ⟨fun σ H' => σ = [some (.ref tw), some (.ref bl), some (.int (k : Nat)), some (.ref ab), some (.int (many : Nat)), some (.ref cb), none, none, none, none, none, none, none, none, none, none, none, none, none, none] ∧ H = H', ?_, ?_⟩
  · refine ⟨.ref ab, rfl, ab, _, rfl, txb.1 _ _ k1, rfl, _, _, rfl, _, _, rfl, rfl, ?_⟩
    exact ⟨rfl, rfl⟩
  rintro _ _ ⟨rfl, rfl⟩
  have TH := TA.ex N.ex eb
  obtain ⟨rs, ri, ui, hW0, hri, hui, hpi⟩ := TH.rows.row (Nat.le_of_lt kl)
  refine ⟨fun σ H' => ∃ Dn, σ = [some (.ref tw), some (.ref bl), some (.int (k : Nat)), some (.ref ab), some (.int (many : Nat)), some (.ref cb), some (.ref Dn), none, none, none, none, none, none, none, none, none, none, none, none, none] ∧ Evl.Ex H H' ∧ H' Dn = some (.dT (numD (ws k))), ?_, ?_⟩
  · refine ⟨.ref tw, rfl, tw, W.C, dx, fs, .ref wl, rfl, TH.obj, W.cl, W.n5, TH.f5, .int (k : Nat), rfl, wl, _, (k : Nat), .ref ri, rfl, rfl, SqL.of hW0, atI_nat hri, ri, ui, rfl, SqL.of hui, fun D nD => ?_⟩
    have uil : ui.length = (ws k).length := Paired.len hpi
    have wi8 := wf.few ok k
    refine dct_it (walk_enum (K := K) (a := ri) (xs := ui)) (fun m H' => Evl.Ex H H' ∧ H' D = some (.dT (numD ((ws k).take m)))) ⟨Evl.Ex.new nD, upd_same⟩ ?_ ?_ ?_
    · rintro m H' _ ⟨e, _⟩
      exact SqL.of (e _ _ hui)
    · rintro m x H9 H10 hm' ⟨e9, hD9⟩ ⟨T2, v1, v2, rfl, nT2, rfl, ex2, ey2⟩
      cases ex2
      obtain ⟨t, ht, ⟨ax, rfl, hax⟩⟩ := Paired.get1 hpi ey2
      have e10 := Evl.Ex.new (o := .tup [.int (m : Nat), .ref ax]) nT2
      have gT2 : (upd H9 T2 (.tup [.int (m : Nat), .ref ax])) T2 = some (.tup [.int (m : Nat), .ref ax]) := upd_same
      generalize upd H9 T2 (.tup [.int (m : Nat), .ref ax]) = H10 at e10 gT2
      have ml : m < (ws k).length := (List.getElem?_eq_some_iff.mp ht).1
      have tn : t ∉ (ws k).take m := by
        intro hmem
        obtain ⟨j, hj, ej⟩ := List.getElem_of_mem hmem
        rw [List.length_take] at hj
        rw [List.getElem_take] at ej
        obtain ⟨l1, q1⟩ := List.getElem?_eq_some_iff.mp ht
        have := (List.getElem_inj (wf.nodup k)).mp (ej.trans q1.symm)
        omega
      refine ⟨T2, _, rfl, .inl (.inl gT2), rfl, _, _, rfl, _, _, rfl, rfl, ?_⟩
      refine ⟨rfl, .ref ax, rfl, .int (m : Nat), rfl, numD ((ws k).take m), keyW t, ax, rfl, ?_, e10 _ _ hD9, ?_, (e9.trans e10).mut nD, ?_⟩
      · rw [keyW_kV]
        exact (e9.trans e10) _ _ hax
      · rw [num_len, List.length_take]
        exact Nat.lt_of_le_of_lt (by omega : min m (ws k).length ≤ 8) (by decide)
      · have pe := num_put tn
        rw [List.length_take, Nat.min_eq_left (Nat.le_of_lt ml)] at pe
        rw [upd_same, pe, take_succ_get ht]
    · rintro H9 ⟨e9, hD9⟩
      rw [uil, List.take_length] at hD9
      exact ⟨D, rfl, e9, hD9⟩
  rintro _ H1 ⟨Dn, rfl, e1, hD1⟩
  refine ⟨fun σ H' => ∃ M mvs, σ = [some (.ref tw), some (.ref bl), some (.int (k : Nat)), some (.ref ab), some (.int (many : Nat)), some (.ref cb), some (.ref Dn), some (.ref M), none, none, none, none, none, none, none, none, none, none, none, none] ∧ Evl.Ex H1 H' ∧ H1 M = none ∧ H' M = some (.lst mvs) ∧ Paired (HopT N.NV H') mvs (mvsOf (ws k) b), ?_, ?_⟩
  · have monoH : ∀ G G' v y, Evl.Ex G G' → HopT N.NV G v y → HopT N.NV G' v y := fun G G' v y e h => HopT.ex N.nx e h
    have gl : gs.length = b.gaps.length := Paired.len k3
    have m8 : (mvsOf (ws k) b).length ≤ 8 := by rw [moves_len]; exact BO.few
    have b01 := eb.trans e1
    obtain ⟨dn, fn, i1, _, i2, _⟩ := N.ins _ _ TA.nt_
    refine ⟨.ref cb, rfl, cb, rfl, ⟨gs, Evl.ex_t b01 k2⟩, fun M nM => ?_⟩
    refine w_it (walk_tup (K := K) (a := cb) (xs := gs)) (fun j H' => Blt (HopT N.NV) H1 H' M ((b.gaps.take j).flatMap fun g => g.ways.map fun u => ⟨idxW (ws k) u, g.frm, g.to_, g.price⟩)) (Blt.start nM) ?_ ?_ ?_
    · rintro j H' _ b2
      exact Evl.ex_t (b01.trans b2.ex) k2
    · rintro j x H10 H10' hj b2 ⟨rfl, hx3⟩
      obtain ⟨g, hg, ⟨ag, bg, uvs, rfl, j1, j2, j3⟩⟩ := Paired.get1 k3 hx3
      have gm : g ∈ b.gaps := List.mem_of_getElem? hg
      have uvl : uvs.length = g.ways.length := Paired.len j3
      have b02 := b01.trans b2.ex
      have pl := pre_len (f := fun g : Gap => g.ways.map fun u => (⟨idxW (ws k) u, g.frm, g.to_, g.price⟩ : HopN)) hg
      rw [List.length_map] at pl
      have pl2 : ((b.gaps.take j).flatMap fun g => g.ways.map fun u => (⟨idxW (ws k) u, g.frm, g.to_, g.price⟩ : HopN)).length + g.ways.length ≤ 8 := Nat.le_trans pl m8
      refine ⟨ag, _, rfl, Evl.ex_t b02 j1, rfl, _, _, rfl, _, _, rfl, _, _, rfl, _, _, rfl, rfl, ?_⟩
      refine ⟨by kernel_rfl, ?_⟩
      refine ⟨.ref bg, rfl, bg, rfl, ⟨uvs, Evl.ex_t b02 j2⟩, ?_⟩
      refine w_it (walk_tup (K := K) (a := bg) (xs := uvs)) (fun t H' => Blt (HopT N.NV) H1 H' M (((b.gaps.take j).flatMap fun g => g.ways.map fun u => ⟨idxW (ws k) u, g.frm, g.to_, g.price⟩) ++ (g.ways.take t).map fun u => ⟨idxW (ws k) u, g.frm, g.to_, g.price⟩)) (by rw [List.take_zero, List.map_nil, List.append_nil]; exact b2) ?_ ?_ ?_
      · rintro t H' _ b3
        exact Evl.ex_t (b01.trans b3.ex) j2
      · rintro t x H11 H11' ht b3 ⟨rfl, hx4⟩
        obtain ⟨u, hu', ⟨ax, rfl, hax⟩⟩ := Paired.get1 j3 hx4
        have um : u ∈ ws k := lv.ways k b hb g gm u (List.mem_of_getElem? hu')
        have tl := (List.getElem?_eq_some_iff.mp hu').1
        have b03 := b01.trans b3.ex
        have ax11 := b03 _ _ hax
        refine ⟨by kernel_rfl, ?_⟩
        refine ⟨.ref Dn, rfl, .ref ax, rfl, Dn, .int ((idxW (ws k) u : Nat) : Int), rfl, ?_, ?_⟩
        · have z := DGet.t (k := keyW u) (b3.ex _ _ hD1) (by rw [keyW_kV]; exact ax11)
          rw [num_val _ _ um] at z
          exact z
        refine ⟨.int g.frm, rfl, .int g.to_, rfl, .int g.price, rfl, .ref tw, rfl, tw, W.C, dx, fs, .ref nt, rfl, b03 _ _ TA.obj, W.cl, W.n1, TA.f1, nt, dn, fn, rfl, b03 _ _ i1, i2, .int (k : Nat), rfl, .int g.frm, rfl, .int g.to_, rfl, .ref ax, rfl, ?_⟩
        refine ⟨nt, (k : Nat), g.frm, g.to_, .ref ax, u, rfl, N.ex _ _ _ b03 TA.nt_, ⟨ax, rfl, ax11⟩, fun H12 v e12 hv => ?_⟩
        refine ⟨(by show 5 ≤ sizeLine; decide), fun p np => ?_⟩
        have e13 := Evl.Ex.new (o := .tup [.int ((idxW (ws k) u : Nat) : Int), .int g.frm, .int g.to_, .int g.price, v]) np
        have gp : (upd H12 p (.tup [.int ((idxW (ws k) u : Nat) : Int), .int g.frm, .int g.to_, .int g.price, v])) p = some (.tup [.int ((idxW (ws k) u : Nat) : Int), .int g.frm, .int g.to_, .int g.price, v]) := upd_same
        generalize upd H12 p (.tup [.int ((idxW (ws k) u : Nat) : Int), .int g.frm, .int g.to_, .int g.price, v]) = H13 at e13 gp
        obtain ⟨vs, hD⟩ := b3.ne
        have e1113 := e12.trans e13
        rw [take_succ_get hu', List.map_append, ← List.append_assoc]
        refine b3.step monoH e1113 (v := .ref p) (y := ⟨idxW (ws k) u, g.frm, g.to_, g.price⟩) (HopT.tk N.tk (Tk.hide (e1113 _ _ hD)) ⟨p, v, rfl, gp, N.nx _ _ _ e13 hv⟩) ?_
        rw [List.length_append, List.length_map, List.length_take]
        omega
      · rintro H11 b3
        rw [uvl, List.take_length] at b3
        rw [take_succ_get hg, List.flatMap_append, List.flatMap_singleton]
        exact b3
    · rintro H10 b2
      rw [gl, List.take_length] at b2
      obtain ⟨mvs, g1, g2⟩ := b2.done monoH
      exact ⟨M, mvs, rfl, b2.ex, nM, g1, g2⟩
  rintro _ H2 ⟨M, mvs, rfl, e2, nM, hM2, hmv2⟩
  refine ⟨fun σ H' => ∃ S svs, σ = [some (.ref tw), some (.ref bl), some (.int (k : Nat)), some (.ref ab), some (.int (many : Nat)), some (.ref cb), some (.ref Dn), some (.ref M), some (.ref S), none, none, none, none, none, none, none, none, none, none, none] ∧ Evl.Ex H2 H' ∧ H2 S = none ∧ H' S = some (.lst svs) ∧ Paired (EndNT H') svs (stopsL (ws k) (ws (k + 1)) k (ask.length + 1)), ?_, ?_⟩
  · have e02 := e1.trans e2
    have T2 := TH.ex N.ex e02
    obtain ⟨rs2, rn, un, hW2, hrn, hun, hpn⟩ := T2.rows.row (show k + 1 ≤ l.length from kl)
    have unl : un.length = (ws (k + 1)).length := Paired.len hpn
    have wn8 := wf.few ok (k + 1)
    have w8 := wf.few ok k
    have monoE : ∀ G G' v y, Evl.Ex G G' → EndNT G v y → EndNT G' v y := fun G G' v y e h => EndNT.ex e h
    refine ⟨.ref tw, rfl, tw, W.C, dx, fs, .ref wl, rfl, T2.obj, W.cl, W.n5, T2.f5, .int (k : Nat), rfl, _, _, rfl, rfl, wl, _, _, .ref rn, rfl, rfl, SqL.of hW2, atI_nat (j := k + 1) hrn, rn, rfl, ⟨un, SqL.of hun⟩, fun S nS => ?_⟩
    refine w_it (walk_list (K := K) (a := rn) (xs := un)) (fun t H' => Blt EndNT H2 H' S (((ws (k + 1)).take t).flatMap fun u => (List.range (ask.length + 1)).map fun c => ⟨idxW (ws k) (u.take k) * (ask.length + 1) + c, u[k]?, c⟩)) (Blt.start nS) ?_ ?_ ?_
    · rintro t H' _ b3
      exact SqL.of (b3.ex _ _ hun)
    · rintro t x H11 H11' ht b3 ⟨rfl, ex⟩
      obtain ⟨u, hu', ⟨ax, rfl, hax⟩⟩ := Paired.get1 hpn ex
      have um : u ∈ ws (k + 1) := List.mem_of_getElem? hu'
      have ul1 : u.length = k + 1 := lv.len (k + 1) kl u um
      have dm := lv.down k kl u um
      rw [List.dropLast_eq_take, ul1, Nat.add_sub_cancel] at dm
      obtain ⟨z, hz⟩ : ∃ z, u[k]? = some z := ⟨_, List.getElem?_eq_getElem (by omega)⟩
      refine ⟨by kernel_rfl, ?_⟩
      refine ⟨.ref tw, rfl, tw, W.C, dx, fs, .int ((ask ++ [last]).length : Nat), rfl, b3.ex _ _ T2.obj, W.cl, W.n2, T2.f2, ((ask ++ [last]).length : Nat), rfl, by omega, by omega, ?_⟩
      rw [Int.toNat_natCast, L1]
      have tl := (List.getElem?_eq_some_iff.mp hu').1
      refine w_it (walk_range (lo := 0) (n := ask.length + 1)) (fun c H' => Blt EndNT H2 H' S ((((ws (k + 1)).take t).flatMap fun u => (List.range (ask.length + 1)).map fun c => ⟨idxW (ws k) (u.take k) * (ask.length + 1) + c, u[k]?, c⟩) ++ (List.range c).map fun c => ⟨idxW (ws k) (u.take k) * (ask.length + 1) + c, u[k]?, c⟩)) (by rw [List.range_zero, List.map_nil, List.append_nil]; exact b3) (fun _ _ _ _ => trivial) ?_ ?_
      · rintro c x H12 H12' hc b4 ⟨rfl, rfl⟩
        have hax12 := b4.ex _ _ hax
        refine ⟨by kernel_rfl, ?_⟩
        refine ⟨.ref Dn, rfl, .ref ax, rfl, ?_⟩
        refine nopart1 ?_
        refine ⟨.int (k : Nat), rfl, (k : Nat), rfl, ?_⟩
        refine sl_own (K := K) (lo := none) (hi := some ((k : Nat) : Int)) hax12 fun H13 zz e13 hzz => ?_
        rw [cut_take, ← List.map_take] at hzz
        have e213 := b4.ex.trans e13
        have ixl : idxW (ws k) (u.take k) < (ws k).length := (List.getElem?_eq_some_iff.mp (idx_at dm)).1
        refine ⟨Dn, .int ((idxW (ws k) (u.take k) : Nat) : Int), rfl, ?_, ?_⟩
        · have y := DGet.t (k := keyW (u.take k)) ((e2.trans e213) _ _ hD1) (by rw [keyW_kV]; exact hzz)
          rw [num_val _ _ dm] at y
          exact y
        refine ⟨.ref tw, rfl, tw, W.C, dx, fs, .int ((ask ++ [last]).length : Nat), rfl, e213 _ _ T2.obj, W.cl, W.n2, T2.f2, _, _, rfl, rfl, .inl ⟨by omega, by omega⟩, .int ((0 : Int) + (c : Nat)), rfl, _, _, rfl, rfl, ?_⟩
        have hl : (u.map V.int)[k]? = some (V.int z) := by rw [List.getElem?_map, hz]; rfl
        refine ⟨.ref ax, rfl, .int (k : Nat), rfl, ax, _, (k : Nat), .int z, rfl, rfl, .inl (.inl (e13 _ _ hax12)), atI_nat hl, .int ((0 : Int) + (c : Nat)), rfl, (by show 3 ≤ sizeLine; decide), fun p np => ?_⟩
        have eq : ((idxW (ws k) (u.take k) : Nat) : Int) * (((ask ++ [last]).length : Nat) : Int) + ((0 : Int) + (c : Nat)) = ((idxW (ws k) (u.take k) * (ask.length + 1) + c : Nat) : Int) := by
          rw [L1, Int.zero_add]
          generalize ask.length + 1 = LL
          rw [Int.natCast_add, Int.natCast_mul]
        have ez : (0 : Int) + (c : Nat) = (c : Nat) := Int.zero_add _
        have gp : (upd H13 p (.tup [.int (((idxW (ws k) (u.take k) : Nat) : Int) * (((ask ++ [last]).length : Nat) : Int) + ((0 : Int) + (c : Nat))), .int z, .int ((0 : Int) + (c : Nat))])) p = some (.tup [.int ((idxW (ws k) (u.take k) * (ask.length + 1) + c : Nat) : Int), .int z, .int (c : Nat)]) := by rw [upd_same, eq, ez]
        have e14 := Evl.Ex.new (o := .tup [.int (((idxW (ws k) (u.take k) : Nat) : Int) * (((ask ++ [last]).length : Nat) : Int) + ((0 : Int) + (c : Nat))), .int z, .int ((0 : Int) + (c : Nat))]) np
        obtain ⟨vs, hD⟩ := b4.ne
        have e1214 := e13.trans e14
        rw [map_snoc, ← List.append_assoc]
        refine b4.step monoE e1214 (v := .ref p) (y := ⟨idxW (ws k) (u.take k) * (ask.length + 1) + c, u[k]?, c⟩) (EndNT.tk (Tk.hide (e1214 _ _ hD)) ⟨p, rfl, ?_⟩) ?_
        · rw [gp, hz]; rfl
        · have cl := const_len (L := ask.length + 1) (fun (u : Word) c => (⟨idxW (ws k) (u.take k) * (ask.length + 1) + c, u[k]?, c⟩ : EndN)) ((ws (k + 1)).take t)
          rw [List.length_append, cl, List.length_map, List.length_range, List.length_take]
          have : min t (ws (k + 1)).length * (ask.length + 1) ≤ 8 * 11 := Nat.mul_le_mul (by omega) (by omega)
          omega
      · rintro H12 b4
        rw [take_succ_get hu', List.flatMap_append, List.flatMap_singleton]
        exact b4
    · rintro H11 b3
      rw [unl, List.take_length] at b3
      obtain ⟨svs, g1, g2⟩ := b3.done monoE
      exact ⟨S, svs, rfl, b3.ex, nS, g1, g2⟩
  rintro _ H3 ⟨S, svs, rfl, e3, nS, hS3, hsv3⟩
  refine ⟨fun σ H' => ∃ En evs, σ = [some (.ref tw), some (.ref bl), some (.int (k : Nat)), some (.ref ab), some (.int (many : Nat)), some (.ref cb), some (.ref Dn), some (.ref M), some (.ref S), some (.ref En), none, none, none, none, none, none, none, none, none, none] ∧ Evl.Ex H3 H' ∧ H3 En = none ∧ H' En = some (.lst evs) ∧ Paired (EndNT H') evs (endsL (ws k) (ws (k + 1)) last k (ask.length + 1)), ?_, ?_⟩
  · have e03 := (e1.trans e2).trans e3
    have T3 := TH.ex N.ex e03
    have b03 := eb.trans e03
    have rl : rvs.length = (ws k).length * (ask.length + 1) := by rw [Paired.len hrows, tab.len]
    have wl1 : wvs.length = (ask ++ [last]).length := Paired.len TA.wp
    have hlast : (ask ++ [last])[ask.length]? = some last := by rw [List.getElem?_append_right (Nat.le_refl _), Nat.sub_self]; rfl
    obtain ⟨lwv, hlwv, ⟨la, rfl, hla⟩⟩ := Paired.get2 T3.wp hlast
    have hneg : atI wvs (-1) = some (V.ref la) := by
      have e : wvs = wvs.dropLast ++ [V.ref la] := by
        have ne : wvs ≠ [] := fun z => by rw [z, L1] at wl1; cases wl1
        have e2 := List.dropLast_concat_getLast ne
        have e3 : wvs.getLast ne = V.ref la := by
          rw [List.getLast_eq_getElem]
          obtain ⟨_, q2⟩ := List.getElem?_eq_some_iff.mp hlwv
          rw [← q2]
          congr 1
          rw [wl1, L1]; rfl
        rw [e3] at e2
        exact e2.symm
      rw [e]
      exact atI_last _ _
    obtain ⟨lln, lrng⟩ := wok last (by simp)
    obtain ⟨o, ho⟩ : ∃ o, last[k]? = some o := ⟨_, List.getElem?_eq_getElem (by rw [lln]; exact kl)⟩
    have hol : (last.map oT)[k]? = some (oT o) := by rw [List.getElem?_map, ho]; rfl
    refine ⟨.ref S, rfl, .ref bl, rfl, bl, rvs, rfl, .inl (SqL.of (b03 _ _ hbl)), ?_⟩
    refine ⟨.ref tw, rfl, tw, W.C, dx, fs, .ref wt, rfl, T3.obj, W.cl, W.n0, T3.f0, 1, rfl, wt, wvs, -1, .ref la, rfl, rfl, T3.wt_, hneg, .int (k : Nat), rfl, la, _, (k : Nat), oT o, rfl, rfl, hla, atI_nat hol, ?_⟩
    refine ⟨.ref tw, rfl, tw, W.C, dx, fs, .int ((ask ++ [last]).length : Nat), rfl, T3.obj, W.cl, W.n2, T3.f2, _, 1, rfl, rfl, (by show 3 ≤ sizeLine; decide), fun p np => ?_⟩
    have e4 := Evl.Ex.new (o := .tup [.int (rvs.length : Nat), oT o, .int ((((ask ++ [last]).length : Nat) : Int) - 1)]) np
    have gp : (upd H3 p (.tup [.int (rvs.length : Nat), oT o, .int ((((ask ++ [last]).length : Nat) : Int) - 1)])) p = some (.tup [.int ((ws k).length * (ask.length + 1) : Nat), oT o, .int ((ask.length + 1 - 1 : Nat) : Int)]) := by
      rw [upd_same, rl, L1]
      have : (((ask.length + 1 : Nat) : Int) - 1) = ((ask.length + 1 - 1 : Nat) : Int) := by omega
      rw [this]
    generalize upd H3 p (.tup [.int (rvs.length : Nat), oT o, .int ((((ask ++ [last]).length : Nat) : Int) - 1)]) = H4 at e4 gp
    refine ⟨(by show 1 ≤ sizeLine; decide), fun t nt' => ?_⟩
    have e5 := Evl.Ex.new (o := .lst [.ref p]) nt'
    have gt : (upd H4 t (.lst [.ref p])) t = some (.lst [.ref p]) := upd_same
    generalize upd H4 t (.lst [.ref p]) = H5 at e5 gt
    have e35 := e4.trans e5
    have svl : svs.length ≤ 88 := by
      have z := Paired.len hsv3
      have cl : (stopsL (ws k) (ws (k + 1)) k (ask.length + 1)).length = (ws (k + 1)).length * (ask.length + 1) := const_len _ _
      have : (ws (k + 1)).length * (ask.length + 1) ≤ 8 * 11 := Nat.mul_le_mul (wf.few ok (k + 1)) (by omega)
      omega
    refine ⟨S, t, svs, [.ref p], rfl, rfl, e35 _ _ hS3, gt, Nat.le_trans (by rw [List.length_singleton]; omega : svs.length + [V.ref p].length ≤ 100) (by decide), fun En nE => ?_⟩
    have e6 := Evl.Ex.new (o := .lst (svs ++ [.ref p])) nE
    have e36 := e35.trans e6
    refine ⟨En, _, rfl, e36, Evl.fresh_back e35 nE, upd_same, ?_⟩
    unfold endsL
    refine Paired.snoc (Paired.imp (fun _ _ z => EndNT.ex e36 z) hsv3) ⟨p, rfl, ?_⟩
    rw [(e5.trans e6) _ _ gp, ho]
    cases o <;> rfl
  rintro _ H4 ⟨En, evs, rfl, e4, nE, hE4, hev4⟩
  have e04 := ((e1.trans e2).trans e3).trans e4
  have T4 := TH.ex N.ex e04
  have wl1 : wvs.length = (ask ++ [last]).length := Paired.len TA.wp
  have hm1 : ∀ m ∈ mvsOf (ws k) b, m.col ≤ 1000 ∧ ∃ p : Nat, m.to_ = (p : Nat) ∧ p < many := fun m hmm => by
    obtain ⟨g, hg, hm'⟩ := List.mem_flatMap.mp hmm
    obtain ⟨u, hu', rfl⟩ := List.mem_map.mp hm'
    have GO := BO.gaps g hg
    have i1 := (List.getElem?_eq_some_iff.mp (idx_at (lv.ways k b hb g hg u hu'))).1
    have w8 := wf.few ok k
    have t0 := GO.t0
    have t1 := GO.t1
    exact ⟨by show idxW (ws k) u ≤ 1000; omega, g.to_.toNat, by show g.to_ = _; omega, by omega⟩
  have m8 : (mvsOf (ws k) b).length ≤ 8 := by rw [moves_len]; exact BO.few
  have many4 : many ≤ 4 := by have := BO.m1; omega
  have EO : EndsOk (ws k) (ws (k + 1)) last k (ask.length + 1) many (endsL (ws k) (ws (k + 1)) last k (ask.length + 1)) := ends_ok ok wf lv hb hm (by omega)
  have X : LvX l ask last k b (ws k) many rows (mvsOf (ws k) b) := lvX_of ok lv hb hm tab
  have O2 : LevOk2 (levD ask k rows many (mvsOf (ws k) b) (endsL (ws k) (ws (k + 1)) last k (ask.length + 1))) := levOk2_of ok wf X EO (by omega) a10 m8
  have hll4 := e04 _ _ hll
  have hsl4 := e04 _ _ hsl
  refine ⟨fun σ H' => ∃ lvA H7, σ = [some (.ref tw), some (.ref bl), some (.int (k : Nat)), some (.ref ab), some (.int (many : Nat)), some (.ref cb), some (.ref Dn), some (.ref M), some (.ref S), some (.ref En), some (.ref lvA), none, none, none, none, none, none, none, none, none] ∧ Evl.Ex (hd2 H4 ll sl) H7 ∧ H7 ll = none ∧ H7 sl = none ∧ H' = upd (upd H7 sl (.lst sps)) ll (.lst lvs) ∧ LevT N.NV N.At L.C H7 lvA (levD ask k rows many (mvsOf (ws k) b) (endsL (ws k) (ws (k + 1)) last k (ask.length + 1))), ?_, ?_⟩
  · refine ⟨.ref bl, rfl, .int (many : Nat), rfl, .ref M, rfl, ?_⟩
    refine ⟨.ref tw, rfl, tw, W.C, dx, fs, .ref wt, rfl, T4.obj, W.cl, W.n0, T4.f0, ?_⟩
    refine nopart1 ?_
    refine ⟨1, rfl, -1, rfl, ?_⟩
    refine sl_any (K := K) (lo := none) (hi := some (-1)) T4.wt_ fun H5 z e5 hz => ?_
    rw [cut_last] at hz
    have dl : wvs.dropLast.length = ask.length := by rw [List.length_dropLast, wl1, L1]; rfl
    refine ⟨z, rfl, ⟨_, hz⟩, fun Da nDa => ?_⟩
    refine lc_tup (K := K) (a := z) (xs := wvs.dropLast) (fun i H' => Evl.Ex H5 H' ∧ H' Da = some (.lst (((ask.take i).map fun x => (x[k]?).join).map oT))) ⟨Evl.Ex.new nDa, upd_same⟩ ?_ ?_ ?_
    · rintro i H' _ ⟨e, _⟩
      exact Evl.ex_t e hz
    · rintro i x H6 hx ⟨e6, hD6⟩
      have il : i < ask.length := by rw [← dl]; exact (List.getElem?_eq_some_iff.mp hx).1
      have hx' : wvs[i]? = some x := by
        rw [List.getElem?_dropLast, if_pos (by rw [wl1, L1]; omega)] at hx
        exact hx
      obtain ⟨y, hy, ⟨wa, rfl, hwa⟩⟩ := Paired.get1 T4.wp hx'
      rw [List.getElem?_append_left il] at hy
      obtain ⟨yl, _⟩ := wok y (List.mem_append_left _ (List.mem_of_getElem? hy))
      obtain ⟨o, ho⟩ : ∃ o, y[k]? = some o := ⟨_, List.getElem?_eq_getElem (by rw [yl]; exact kl)⟩
      have hol : (y.map oT)[k]? = some (oT o) := by rw [List.getElem?_map, ho]; rfl
      refine ⟨by kernel_rfl, .ref wa, rfl, .int (k : Nat), rfl, wa, _, (k : Nat), oT o, rfl, rfl, Evl.ex_t (e5.trans e6) hwa, atI_nat hol, _, hD6, ?_, e6.mut nDa, ?_⟩
      · rw [List.length_map, List.length_map, List.length_take]
        exact Nat.lt_of_le_of_lt (by omega : min i ask.length ≤ 10) (by decide)
      · rw [upd_same, take_succ_get hy, List.map_append, List.map_append, List.map_cons, List.map_cons, ho]
        rfl
    · rintro H6 ⟨e6, hD6⟩
      rw [dl, List.take_length] at hD6
      have e46 := e5.trans e6
      have e06 := e04.trans e46
      have b06 := eb.trans e06
      have T6 := T4.ex N.ex e46
      refine ⟨.ref En, rfl, .ref tw, rfl, tw, W.C, dx, fs, .ref nt, rfl, T6.obj, W.cl, W.n1, T6.f1, ?_⟩
      intro lvA dxl nlv ndx ndl
      have e67 : Evl.Ex H6 (upd (upd H6 dxl (.own lvA)) lvA (.ins L.C dxl [])) := fun c y h => by
        rw [upd_ne (fun z => by rw [z, nlv] at h; cases h), upd_ne (fun z => by rw [z, ndx] at h; cases h)]
        exact h
      have glv : (upd (upd H6 dxl (.own lvA)) lvA (.ins L.C dxl [])) lvA = some (.ins L.C dxl []) := upd_same
      generalize upd (upd H6 dxl (.own lvA)) lvA (.ins L.C dxl []) = H65 at e67 glv
      have hll6 := e46 _ _ hll4
      have hsl6 := e46 _ _ hsl4
      have hll65 := e67 _ _ hll6
      have hsl65 := e67 _ _ hsl6
      have tkG : Tk H6 (hd2 H6 ll sl) := Tk.hd2 hll6 hsl6
      have eG := ex_to_hd2 b06 nll nsl
      have inG : ∀ {Hx : Hp} {c : Addr} {o : HO}, Hx c = none → Evl.Ex H Hx → Evl.Ex Hx H6 → H6 c = some o → (hd2 H6 ll sl) c = some o := fun {Hx c o} nc ex1 ex2 h => hd2_at (fun z => by rw [z, ex1 _ _ hll] at nc; cases nc) (fun z => by rw [z, ex1 _ _ hsl] at nc; cases nc) h
      refine ⟨ll, lvs, hll65, sl, sps, hid_at (Ne.symm nls) hsl65, ?_⟩
      refine ⟨lvA, dxl, bl, M, Da, En, nt, many, rvs, mvs, evs, rows, mvsOf (ws k) b, askOf ask k, endsL (ws k) (ws (k + 1)) last k (ask.length + 1), hd2 H6 ll sl, rfl, hd2_of e67, hid_none (hid_none nlv), hd2_at (fun z => by rw [← z, nlv] at hll6; cases hll6) (fun z => by rw [← z, nlv] at hsl6; cases hsl6) glv, ⟨eG _ _ hbl, Paired.imp (fun _ _ z => RowT.ex N.nx eG z) hrows⟩, ⟨inG nM e1 (((e2.trans e3).trans e4).trans e46) ((((e3.trans e4).trans e46)) _ _ hM2), Paired.imp (fun _ _ z => HopT.tk N.tk tkG (HopT.ex N.nx ((e3.trans e4).trans e46) z)) hmv2⟩, inG nDa (e04.trans e5) e6 hD6, ⟨inG nE ((e1.trans e2).trans e3) (e4.trans e46) (e46 _ _ hE4), Paired.imp (fun _ _ z => EndNT.tk tkG (EndNT.ex e46 z)) hev4⟩, N.ex _ _ _ eG TA.nt_, by omega, by rw [askOf_len]; exact a10, by omega, O2.e1000, hm1, fun H7 e7 hL7 => ?_⟩
      intro nsl7 nll7
      have nll7' : H7 ll = none := by rw [upd_ne nls] at nll7; exact nll7
      exact ⟨rfl, lvA, H7, rfl, (hd2_of e46).trans e7, nll7', nsl7, rfl, hL7⟩
  rintro _ H8 ⟨lvA, H7, rfl, e47, nll7, nsl7, rfl, hL7⟩
  have eb7 : Evl.Ex Hb H7 := (ex_to_hd2 (eb.trans e04) nll nsl).trans e47
  have T7 := TA.ex N.ex eb7
  have x7 : Evl.Ex H7 (upd (upd H7 sl (.lst sps)) ll (.lst lvs)) := (Evl.Ex.new nsl7).mut nll7
  have T8 := T7.ex N.ex x7
  have hsl8 : (upd (upd H7 sl (.lst sps)) ll (.lst lvs)) sl = some (.lst sps) := by rw [upd_ne (Ne.symm nls), upd_same]
  refine ⟨fun σ H' => σ = [some (.ref tw), some (.ref bl), some (.int (k : Nat)), some (.ref ab), some (.int (many : Nat)), some (.ref cb), some (.ref Dn), some (.ref M), some (.ref S), some (.ref En), some (.ref lvA), none, none, none, none, none, none, none, none, none] ∧ Evl.Ex H7 H' ∧ H' ll = some (.lst (lvs ++ [.ref lvA])) ∧ H' sl = some (.lst sps), ?_, ?_⟩
  · refine ⟨.ref tw, rfl, tw, W.C, dx, fs, .ref ll, rfl, T8.obj, W.cl, W.n3, T8.f3, .inl ⟨rfl, _, SqL.of upd_same⟩, .ref lvA, rfl, ll, lvs, _, rfl, rfl, upd_same, Nat.lt_of_le_of_lt l1000 (by decide), ?_⟩
    exact ⟨rfl, x7.mut nll7, upd_same, by rw [upd_ne (Ne.symm nls)]; exact hsl8⟩
  rintro _ H9 ⟨rfl, e79, hll9, hsl9⟩
  have T9 := T7.ex N.ex e79
  refine ⟨fun σ H' => σ = [some (.ref tw), some (.ref bl), some (.int (k : Nat)), some (.ref ab), some (.int (many : Nat)), some (.ref cb), some (.ref Dn), some (.ref M), some (.ref S), some (.ref En), some (.ref lvA), none, none, none, none, none, none, none, none, none] ∧ Evl.Ex H7 H' ∧ H' ll = some (.lst (lvs ++ [.ref lvA])) ∧ H' sl = some (.lst (sps ++ [.ref S])), ?_, ?_⟩
  · refine ⟨.ref tw, rfl, tw, W.C, dx, fs, .ref sl, rfl, T9.obj, W.cl, W.n4, T9.f4, .inl ⟨rfl, _, SqL.of hsl9⟩, .ref S, rfl, sl, sps, _, rfl, rfl, hsl9, Nat.lt_of_le_of_lt s1000 (by decide), ?_⟩
    exact ⟨rfl, e79.mut nsl7, by rw [upd_ne nls]; exact hll9, upd_same⟩
  rintro _ H10 ⟨rfl, e710, hll10, hsl10⟩
  refine ⟨.ref lvA, rfl, .ref S, rfl, ?_⟩
  refine ⟨ll, _, hll10, sl, _, hid_at (Ne.symm nls) hsl10, ?_⟩
  have e7Y : Evl.Ex H7 (hd2 H10 ll sl) := ex_to_hd2 e710 nll7 nsl7
  have hS4 := e4 _ _ hS3
  have nSl : S ≠ ll := fun z => by rw [z, (e1.trans e2) _ _ hll] at nS; cases nS
  have nSs : S ≠ sl := fun z => by rw [z, (e1.trans e2) _ _ hsl] at nS; cases nS
  have hS7 : H7 S = some (.lst svs) := e47 _ _ (hd2_at nSl nSs hS4)
  have tk47 : Tk H4 H7 := (Tk.hd2 hll4 hsl4).trans (Tk.ex e47)
  have sv7 : Paired (EndNT H7) svs (stopsL (ws k) (ws (k + 1)) k (ask.length + 1)) := Paired.imp (fun _ _ z => EndNT.tk tk47 (EndNT.ex e4 z)) hsv3
  have slen : (stopsL (ws k) (ws (k + 1)) k (ask.length + 1)).length = (ws (k + 1)).length * (ask.length + 1) := const_len _ _
  refine ⟨lvA, S, svs, _, _, rfl, hL7.ex N.nx N.ex e7Y, O2, e7Y _ _ hS7, Paired.imp (fun _ _ z => EndNT.ex e7Y z) sv7, ?_, fun s hs => ?_, fun H11 r tvs Tb e11 nr hr hp tl ta => ?_⟩
  · rw [slen]
    have : (ws (k + 1)).length * (ask.length + 1) ≤ 8 * 11 := Nat.mul_le_mul (wf.few ok (k + 1)) (by omega)
    omega
  · have hs' : s ∈ endsL (ws k) (ws (k + 1)) last k (ask.length + 1) := List.mem_append_left _ hs
    refine ⟨O2.upto s hs', ?_⟩
    obtain ⟨j, hj⟩ := List.mem_iff_getElem?.mp hs
    have jl := (List.getElem?_eq_some_iff.mp hj).1
    rw [slen] at jl
    unfold stopsL at hj
    rw [const_get (by omega)] at hj
    cases hu' : (ws (k + 1))[j / (ask.length + 1)]? with
    | none => rw [hu'] at hj; cases hj
    | some u =>
      rw [hu'] at hj
      cases hj
      have um := List.mem_of_getElem? hu'
      have ul := lv.len (k + 1) kl u um
      have dm := lv.down k kl u um
      rw [List.dropLast_eq_take, ul, Nat.add_sub_cancel] at dm
      have cl : j % (ask.length + 1) < ask.length + 1 := Nat.mod_lt _ (by omega)
      exact ⟨_, List.getElem?_eq_getElem (by show _ < rows.length; rw [tab.len]; exact idx_lt (idx_at dm) cl)⟩
  intro nsl11 nll11
  have nll11' : H11 ll = none := by rw [upd_ne nls] at nll11; exact nll11
  have lw : ∀ z, last[k]? = some (some z) → 0 ≤ z ∧ z < (many : Nat) := fun z hz => by
    have := (wok last (by simp)).2 k b z hb hz
    omega
  have aw : ∀ (i : Nat) (y : WishL) (z : Int), ask[i]? = some y → y[k]? = some (some z) → 0 ≤ z ∧ z < (many : Nat) := fun i y z hy hz => by
    have := (wok y (List.mem_append_left _ (List.mem_of_getElem? hy))).2 k b z hb hz
    omega
  refine q _ H11 r lvA S tvs Tb _ ((eb7.trans e7Y).trans e11) ((Evl.Ex.new nsl11).mut nll11') nll11' nsl11 upd_same (by rw [upd_ne (Ne.symm nls), upd_same]) (hL7.ex N.nx N.ex (e7Y.trans e11)) ⟨b, many, rows, rfl, X, EO, O2⟩ hr hp (tab_up ok wf lv X EO lw aw tl ta)
end
end Wb

set_option Elab.async false
set_option linter.all false
set_option maxRecDepth 100000
set_option maxHeartbeats 8000000
set_option pp.maxSteps 900
set_option pp.deepTerms false
namespace Wb
open PySem PySem.Spec PyProof.Rows L2
/-! ### rows_from, entry_from -/
abbrev nTwRows : List Str := ["self", "wish", "rows", "level", "place"]
theorem scTwRows : FnScope nTwRows ["self", "wish"] (defScope sTwRows) := ⟨rfl, rfl, rfl, by decide +kernel, rfl, by decide +kernel, by decide +kernel⟩
theorem scTwEntry : FnScope ["self", "wish"] ["self", "wish"] (defScope sTwEntry) := ⟨rfl, rfl, rfl, by decide +kernel, rfl, by decide +kernel, by decide +kernel⟩
/-- the words of the lowest bolts that meet a wish -/
def stA (l : Lock) (x : WishL) : Nat → Word → Prop
  | 0 => fun w => w = []
  | k + 1 => ext1 (stA l x k) (stX (((l[k]?).map fun b => b.many.toNat).getD 0) ((x[k]?).join))
theorem stA_len {l : Lock} {x : WishL} : ∀ (k : Nat) (w : Word), stA l x k w → w.length = k
  | 0, w, h => by
    have : w = [] := h
    rw [this]; rfl
  | k + 1, w, h => by
    obtain ⟨v, y, rfl, hv, _⟩ := h
    rw [List.length_append, stA_len k v hv]; rfl
/-- what is read of a whole tower -/
structure TowT (NV : Hp → V → Prop) (At : Hp → Addr → Prop) (CL CT : Addr) (H : Hp) (tw : Addr) (l : Lock) (ask : List WishL) (last : WishL) (ws : Nat → List Word) : Prop where
  at_ : ∃ (dx ll gr : Addr) (fs : List (Str × V)) (lvs : List V), H tw = some (.ins CT dx fs) ∧ fs.lookup ("rows_from" : Str) = none ∧ fs.lookup ("entry_from" : Str) = none ∧ fs.lookup ("levels" : Str) = some (V.ref ll) ∧ fs.lookup ("ground" : Str) = some (V.ref gr) ∧ H ll = some (.lst lvs) ∧ lvs.length = l.length ∧
    (∀ k v, lvs[k]? = some v → ∃ lva D, v = .ref lva ∧ LevT NV At CL H lva D ∧ LvlIs l ask last ws k D) ∧ RowT NV H (.ref gr) (grow (ws 0).length 0 (ask.length + 1))
theorem TowT.ex {NV : Hp → V → Prop} {At : Hp → Addr → Prop} (nx : ∀ H H' v, Evl.Ex H H' → NV H v → NV H' v) (ax : ∀ H H' nt, Evl.Ex H H' → At H nt → At H' nt) {CL CT : Addr} {H H' : Hp} (e : Evl.Ex H H') {tw : Addr} {l : Lock} {ask : List WishL} {last : WishL} {ws : Nat → List Word} (h : TowT NV At CL CT H tw l ask last ws) : TowT NV At CL CT H' tw l ask last ws := by
  obtain ⟨dx, ll, gr, fs, lvs, h1, h2, h3, h4, h5, h6, h7, h8, h9⟩ := h.at_
  exact ⟨dx, ll, gr, fs, lvs, e _ _ h1, h2, h3, h4, h5, e _ _ h6, h7, fun k v hv => by
    obtain ⟨lva, D, r, a, b⟩ := h8 k v hv
    exact ⟨lva, D, r, a.ex nx ax e, b⟩, RowT.ex nx e h9⟩
section
variable {P : Program} {w : World} {K : PySem.W.Frag} {mg : Str → Option Value} {base : Heap}
def spTwRows (N : NtK P w K mg base) (CL CT : Addr) : Sp := fun vs H Q _ => ∃ (tw wa : Addr) (x : WishL) (l : Lock) (ask : List WishL) (last : WishL) (ws : Nat → List Word), vs = [.ref tw, .ref wa] ∧ TowT N.NV N.At CL CT H tw l ask last ws ∧ LockOk l ∧ WsFor l ws ∧ (∀ y ∈ ask ++ [last], wishOk l y) ∧ wishOk l x ∧ SqT K H wa (x.map oT) ∧
  ∀ H' r rvs rows, Evl.Ex H H' → H' r = some (.lst rvs) → Paired (RowT N.NV H') rvs rows → rows.length = l.length + 1 → (∀ k row, rows[k]? = some row → RowIs l ask last (ws k) k (stA l x k) 0 row) → Q (.ref r) H'
theorem ok_twRows (N : NtK P w K mg base) (L : LvC K mg) (T : TbK K mg) (W : TwC K mg) (B : Bi mg) : FnOk P w K mg base CX0 6 W.f2 W.d2 ["self", "wish"] (spTwRows N L.C W.C) := by
  have GE : FnOk P w K mg base CX0 5 L.f4 L.d4 ["self", "start"] (spEntries N L.C) := ok_entries N L B T
  refine W.F2.ok scTwRows (fun vs H Q E h => ?_) (fun cdv A outer s H vs Q E hr h => ?_)
  · obtain ⟨tw, wa, x, l, ask, last, ws, rfl, _⟩ := h; rfl
  · obtain ⟨tw, wa, x, l, ask, last, ws, rfl, hT, ok, wf, wok, xok, hwa, q⟩ := h
    refine ⟨_, (Evl.pss_cut (ps_set (i := 2) scTwRows.nd rfl (.inl rfl) (pe_lst (pa_cons (pe_fld (pv 0) rfl) pa_nil)))
      (pss_cons (ps_for PassesOwn.never rfl (pi_zipX (by rfl) B.zip (pa_cons (pe_fld (pv 0) rfl) (pa_cons (pv 1) pa_nil))) (pg_tup rfl (pgs_cons (pg_name (i := 3) scTwRows.nd rfl (.inl rfl)) (pgs_cons (pg_name (i := 4) scTwRows.nd rfl (.inl rfl)) pgs_nil)))
        (pss_one (ps_expr (pe_bm PySem.F.plainAttrs_list PySem.F.slot_list_append PySem.F.type_list_append mt_append (pv 2) (pa_cons (pe_meth (pv 3) L.cl L.m4 GE hr L.b4 .nil pass0 (pa_cons (pe_tup (pa_cons (pe_ix (r := rIxL K) ix_list (pv 2) (pe_un un_neg pe_int) (fun _ _ => rfl)) (pa_cons (pv 4) (pa_cons pe_int pa_nil)))) pa_nil)) pa_nil)))))
      (pss_one (ps_ret (pv 2))))), ?_⟩
    have lv := levels_of ok wf
    obtain ⟨dx, ll, gr, fs, lvs, h1, h2, h3, h4, h5, h6, h7, h8, h9⟩ := hT.at_
    have mono : ∀ G G' v y, Evl.Ex G G' → RowT N.NV G v y → RowT N.NV G' v y := fun G G' v y e h => RowT.ex N.nx e h
    have R0 : RowIs l ask last (ws 0) 0 (stA l x 0) 0 (grow (ws 0).length 0 (ask.length + 1)) := ground_is lv.zero (by omega)
    refine ⟨fun σ H' => ∃ R, σ = [some (.ref tw), some (.ref wa), some (.ref R), none, none] ∧ Blt (RowT N.NV) H H' R [grow (ws 0).length 0 (ask.length + 1)], ?_, ?_⟩
    · refine ⟨.ref tw, rfl, tw, W.C, dx, fs, .ref gr, rfl, h1, W.cl, W.n6, h5, (by show 1 ≤ sizeLine; decide), fun R nR => ?_⟩
      refine ⟨R, rfl, Evl.Ex.new nR, nR, _, upd_same, .cons ?_ .nil⟩
      rw [hid_upd]
      exact RowT.ex N.nx (ex_to_hid (Evl.Ex.refl H) nR) h9
    rintro _ H1 ⟨R, rfl, b1⟩
    have xl := xok.1
    refine ⟨.ref tw, rfl, tw, W.C, dx, fs, .ref ll, rfl, b1.ex _ _ h1, W.cl, W.n3, h4, .ref wa, rfl, true, false, ll, wa, lvs, x.map oT, rfl, SqL.of (b1.ex _ _ h6), Evl.ex_t b1.ex hwa, ?_⟩
    refine for_it (walk_zx (l := true) (m := false) (xs := lvs) (ys := x.map oT) (by rw [List.length_map, h7, xl])) (fun i σ H' => ∃ rows y3 y4, σ = [some (.ref tw), some (.ref wa), some (.ref R), y3, y4] ∧ Blt (RowT N.NV) H H' R rows ∧ rows.length = i + 1 ∧ ∀ k row, rows[k]? = some row → RowIs l ask last (ws k) k (stA l x k) 0 row)
      ⟨_, none, none, rfl, b1, rfl, fun k row h => ?_⟩ ?_ ?_ ?_
    · cases k with
      | zero => cases h; exact R0
      | succ k => cases h
    · rintro i σ H' _ ⟨_, _, _, _, b, _⟩
      exact ⟨SqL.of (b.ex _ _ h6), Evl.ex_t b.ex hwa⟩
    · rintro i v σ H2 H3 hi ⟨rows, y3, y4, rfl, b2, rl, hR⟩ ⟨Tt, v1, v2, rfl, nT, rfl, ex1, ey1⟩
      obtain ⟨lva, D, rfl, hL, ⟨b, many, trows, rfl, X, EO, O2⟩⟩ := h8 i v1 ex1
      have il : i < l.length := by rw [← h7]; exact (List.getElem?_eq_some_iff.mp ex1).1
      obtain ⟨o, ho, rfl⟩ : ∃ o, x[i]? = some o ∧ v2 = oT o := by
        have ey2 : (x.map oT)[i]? = some v2 := ey1
        rw [List.getElem?_map] at ey2
        cases ho : x[i]? with
        | none => rw [ho] at ey2; cases ey2
        | some o => rw [ho] at ey2; exact ⟨o, rfl, (Option.some.inj ey2).symm⟩
      have e3 := Evl.Ex.new (o := .tup [.ref lva, oT o]) nT
      have gT : (upd H2 Tt (.tup [.ref lva, oT o])) Tt = some (.tup [.ref lva, oT o]) := upd_same
      generalize upd H2 Tt (.tup [.ref lva, oT o]) = H3 at e3 gT
      have b3 := b2.mono mono e3
      obtain ⟨rvs, hRv, hRp⟩ := b3.done mono
      obtain ⟨row, hrow⟩ : ∃ row, rows[i]? = some row := ⟨_, List.getElem?_eq_getElem (by omega)⟩
      have R1 := hR i row hrow
      obtain ⟨rv, hrv, hrt⟩ := Paired.get2 hRp hrow
      obtain ⟨ra, ras, rfl, hra, hrp⟩ := id hrt
      have rvl : rvs.length = i + 1 := by rw [Paired.len hRp, rl]
      have hneg : atI rvs (-1) = some (V.ref ra) := by
        have ne : rvs ≠ [] := fun z => by rw [z] at rvl; cases rvl
        have e2 := List.dropLast_concat_getLast ne
        have e3 : rvs.getLast ne = V.ref ra := by
          rw [List.getLast_eq_getElem]
          obtain ⟨_, q2⟩ := List.getElem?_eq_some_iff.mp hrv
          rw [← q2]
          congr 1
          omega
        rw [e3] at e2
        rw [← e2]
        exact atI_last _ _
      have hL3 := hL.ex N.nx N.ex b3.ex
      obtain ⟨dl, fl, _, _, _, _, _, _, _, _, _, _, _, _, _, _, hlo, hlm, _⟩ := hL3.at_
      refine ⟨Tt, _, rfl, SqT.of gT, rfl, _, _, rfl, _, _, rfl, rfl, ?_⟩
      refine ⟨.ref R, rfl, .inl ⟨rfl, _, SqL.of hRv⟩, .ref lva, rfl, lva, dl, fl, rfl, hlo, hlm.m4, .ref R, rfl, 1, rfl, R, rvs, -1, .ref ra, rfl, rfl, SqL.of hRv, hneg, oT o, rfl, (by show 3 ≤ sizeLine; decide), fun t nt' => ?_⟩
      have e4 := Evl.Ex.new (o := .tup [.ref ra, oT o, .int 0]) nt'
      have g4 : (upd H3 t (.tup [.ref ra, oT o, .int 0])) t = some (.tup [.ref ra, oT o, .int ((0 : Nat) : Int)]) := upd_same
      generalize upd H3 t (.tup [.ref ra, oT o, .int 0]) = H4 at e4 g4
      have m10 := O2.ok.m10
      have xr : ∀ z, o = some z → 0 ≤ z ∧ z < (many : Nat) := fun z hz => by
        subst hz
        have := xok.2 i b z X.hb ho
        have := X.hm
        omega
      refine ⟨lva, t, ra, o, 0, row, _, rfl, hL3.ex N.nx N.ex e4, O2, g4, RowT.ex N.nx e4 hrt, fun h hh => ?_, row_nn X.pr R1, fun e he => ?_, Nat.zero_le _, fun H5 r os Bs E' low e5 nr hr5 ol lB S hen => ?_⟩
      · rw [R1.len]
        rw [levD_hops] at hh
        obtain ⟨m, hm, c, hc, rfl⟩ := mem_hops.mp hh
        obtain ⟨v, g, w1, _⟩ := X.mok.snd m hm
        have := idx_lt w1 hc
        show m.col * (ask.length + 1) + c < _
        omega
      · rw [R1.len]
        obtain ⟨j, hj⟩ := List.mem_iff_getElem?.mp he
        have jl := (List.getElem?_eq_some_iff.mp hj).1
        have jl' : j < (endsL (ws i) (ws (i + 1)) last i (ask.length + 1)).length := jl
        have hj' : (endsL (ws i) (ws (i + 1)) last i (ask.length + 1))[j]? = some e := hj
        by_cases c : j < (ws (i + 1)).length * (ask.length + 1)
        · obtain ⟨w', ii, z, q1, q2, q3, q4, q5, q6, q7⟩ := EO.word j e hj' c
          have cl : j % (ask.length + 1) < ask.length + 1 := Nat.mod_lt _ (by omega)
          have := idx_lt q2 cl
          omega
        · have ej : j = (ws (i + 1)).length * (ask.length + 1) := by have := EO.len; omega
          subst ej
          rw [EO.last_ e hj']
          show (ws i).length * (ask.length + 1) < _
          omega
      · have hRv5 := (e4.trans e5) _ _ hRv
        obtain ⟨acc, g1, g2, g3⟩ := b3.step mono (e4.trans e5) (v := .ref r) (y := os) (RowT.hide N.tk (fun z => by rw [z, e4 _ _ hRv] at nr; cases nr) hRv5 hr5) (by have := ok.n1; omega)
        refine ⟨R, acc, .ref r, rfl, rfl, g1, g2, ?_⟩
        refine ⟨rows ++ [os], _, _, rfl, g3, by rw [List.length_append, rl]; rfl, ?_⟩
        refine snoc_get hR ?_
        rw [rl]
        have lw : ∀ z, last[i]? = some (some z) → 0 ≤ z ∧ z < (many : Nat) := fun z hz => by
          have := (wok last (by simp)).2 i b z X.hb hz
          have := X.hm
          omega
        have aw : ∀ (j : Nat) (y : WishL) (z : Int), ask[j]? = some y → y[i]? = some (some z) → 0 ≤ z ∧ z < (many : Nat) := fun j y z hy hz => by
          have := (wok y (List.mem_append_left _ (List.mem_of_getElem? hy))).2 i b z X.hb hz
          have := X.hm
          omega
        have U := row_up X R1 (by omega) (stA_len i) xr lw aw EO (lv.len (i + 1) il) S ol hen
        have es : stA l x (i + 1) = ext1 (stA l x i) (stX many o) := by
          show ext1 (stA l x i) (stX (((l[i]?).map fun b => b.many.toNat).getD 0) ((x[i]?).join)) = _
          rw [X.hb, ho]
          show ext1 (stA l x i) (stX b.many.toNat o) = _
          rw [X.hm, Int.toNat_natCast]
        rw [es]
        exact U
    · rintro σ H2 ⟨rows, y3, y4, rfl, b2, rl, hR⟩
      obtain ⟨rvs, g1, g2⟩ := b2.done mono
      refine ⟨.ref R, rfl, ?_⟩
      exact q H2 R rvs rows b2.ex g1 g2 (by rw [rl, h7]) hR
/-- the least of the prices of the ways that meet a row of wishes -/
def rowS (l : Lock) (first : WishL) (ask : List WishL) (last : WishL) : Int → Prop := S0 l ask l.length (stA l first l.length) 0 (fun u => u.length = l.length ∧ meetsM l.length u last) ask.length
def spTwEntry (N : NtK P w K mg base) (CL CT : Addr) : Sp := fun vs H Q _ => ∃ (tw wa : Addr) (x : WishL) (l : Lock) (ask : List WishL) (last : WishL) (ws : Nat → List Word), vs = [.ref tw, .ref wa] ∧ TowT N.NV N.At CL CT H tw l ask last ws ∧ LockOk l ∧ WsFor l ws ∧ (∀ y ∈ ask ++ [last], wishOk l y) ∧ wishOk l x ∧ SqT K H wa (x.map oT) ∧
  ∀ H' v o, Evl.Ex H H' → EntT N.NV H' v o → Lst (rowS l x ask last) o → Q v H'
theorem ok_twEntry (N : NtK P w K mg base) (L : LvC K mg) (T : TbK K mg) (W : TwC K mg) (B : Bi mg) : FnOk P w K mg base CX0 7 W.f3 W.d3 ["self", "wish"] (spTwEntry N L.C W.C) := by
  have GR : FnOk P w K mg base CX0 6 W.f2 W.d2 ["self", "wish"] (spTwRows N L.C W.C) := ok_twRows N L T W B
  refine W.F3.ok scTwEntry (fun vs H Q E h => ?_) (fun cdv A outer s H vs Q E hr h => ?_)
  · obtain ⟨tw, wa, x, l, ask, last, ws, rfl, _⟩ := h; rfl
  · obtain ⟨tw, wa, x, l, ask, last, ws, rfl, hT, ok, wf, wok, xok, hwa, q⟩ := h
    refine ⟨_, pss_one (ps_ret (pe_ix (r := rIxL K) ix_list (pe_ix (r := rIxL K) ix_list (pe_meth (pv 0) W.cl W.m2 GR hr W.b2 .nil pass0 (pa_cons (pv 1) pa_nil)) (pe_un un_neg pe_int) (fun _ _ => rfl)) (pe_un un_neg pe_int) (fun _ _ => rfl))), ?_⟩
    obtain ⟨dx, ll, gr, fs, lvs, h1, h2, h3, h4, h5, h6, h7, h8, h9⟩ := hT.at_
    have lv := levels_of ok wf
    refine ⟨.ref tw, rfl, tw, dx, fs, rfl, h1, h2, .ref wa, rfl, ?_⟩
    refine ⟨tw, wa, x, l, ask, last, ws, rfl, hT, ok, wf, wok, xok, hwa, fun H1 r rvs rows e1 hr hp rl hR => ?_⟩
    obtain ⟨row, hrow⟩ : ∃ row, rows[l.length]? = some row := ⟨_, List.getElem?_eq_getElem (by omega)⟩
    have R1 := hR _ row hrow
    have top : ws l.length = [] := lv.top
    have rl1 : row.length = 1 := by rw [R1.len, top]; simp
    obtain ⟨rv, hrv, ⟨ra, ras, rfl, hra, hrp⟩⟩ := Paired.get2 hp hrow
    obtain ⟨o, ho⟩ : ∃ o, row[0]? = some o := ⟨_, List.getElem?_eq_getElem (by omega)⟩
    obtain ⟨ov, hov, hoe⟩ := Paired.get2 hrp ho
    have lastI : ∀ {xs : List V} {v : V} {n : Nat}, xs.length = n + 1 → xs[n]? = some v → atI xs (-1) = some v := fun {xs v n} hl hv => by
      have ne : xs ≠ [] := fun z => by rw [z] at hl; cases hl
      have e2 := List.dropLast_concat_getLast ne
      have e3 : xs.getLast ne = v := by
        rw [List.getLast_eq_getElem]
        obtain ⟨_, q2⟩ := List.getElem?_eq_some_iff.mp hv
        rw [← q2]
        congr 1
        omega
      rw [e3] at e2
      rw [← e2]
      exact atI_last _ _
    have h1' := lastI (by rw [Paired.len hp, rl]) hrv
    have h2' := lastI (n := 0) (by rw [Paired.len hrp, rl1]) hov
    refine ⟨1, rfl, r, rvs, -1, .ref ra, rfl, rfl, SqL.of hr, h1', 1, rfl, ra, ras, -1, ov, rfl, rfl, SqL.of hra, h2', ?_⟩
    refine q H1 ov o e1 hoe ?_
    have L0 := R1.at_ 0 o ho
    have ec : colC (ws l.length) (ask.length + 1) 0 = ask.length := by
      unfold colC
      rw [top, if_neg (by simp)]; rfl
    rw [ec] at L0
    refine L0.congr (S0.congr (fun _ => Iff.rfl) fun u => ?_)
    unfold colB
    rw [top, if_neg (by simp)]
end
end Wb

set_option Elab.async false
set_option linter.all false
set_option maxRecDepth 100000
set_option maxHeartbeats 8000000
set_option pp.maxSteps 900
set_option pp.deepTerms false
namespace Wb
open PySem PySem.Spec PyProof.Rows L2
/-! ### Tower.__init__ -/
abbrev nTwInit : List Str := ["self", "lock", "wishes", "notes", "many", "table", "k", "bolt", "_", "layer"]
theorem scTwInit : FnScope nTwInit ["self", "lock", "wishes", "notes"] (defScope sTwInit) := ⟨rfl, rfl, rfl, by decide +kernel, rfl, by decide +kernel, by decide +kernel⟩
theorem Rows.kl {K : PySem.W.Frag} {H H' : Hp} (k : Kl H H') {W : Addr} {n : Nat} {ws : Nat → List Word} (h : Rows K H W n ws) : Rows K H' W n ws := by
  obtain ⟨rs, h1, h2, h3⟩ := h.at_
  exact ⟨rs, (k _ _).2 h1, h2, fun i r hi => by
    obtain ⟨us, a, b⟩ := h3 i r hi
    exact ⟨us, (k _ _).2 a, Paired.imp (fun _ _ ⟨c, e, z⟩ => ⟨c, e, (k _ _).1 z⟩) b⟩⟩
theorem Kl.hd2 {H H' : Hp} {a b : Addr} (k : Kl H H') : Kl (Wb.hd2 H a b) (Wb.hd2 H' a b) := fun c xs => by
  have na : ∀ o, Wb.hd2 H a b c = some o → c ≠ a ∧ c ≠ b := fun o h => ⟨fun z => (by rw [z, hd2_a] at h; cases h), fun z => (by rw [z, hd2_b] at h; cases h)⟩
  exact ⟨fun h => hd2_at (na _ h).1 (na _ h).2 ((k _ _).1 (hd2_ex _ _ _ _ _ h)), fun h => hd2_at (na _ h).1 (na _ h).2 ((k _ _).2 (hd2_ex _ _ _ _ _ h))⟩
abbrev ownTb : List (Str × Nat) := [("_", 8), ("layer", 9)]
section
variable {P : Program} {w : World} {K : PySem.W.Frag} {mg : Str → Option Value} {base : Heap}
def spTwInit (N : NtK P w K mg base) (CL CT : Addr) : Sp := fun vs H Q _ => ∃ (tw dx wt nt : Addr) (lk : V) (l : Lock) (wvs : List V) (ask : List WishL) (last : WishL) (G : Hp), vs = [.ref tw, lk, .ref wt, .ref nt] ∧ Evl.Ex G H ∧ G tw = none ∧ H tw = some (.ins CT dx []) ∧ LockAt K G lk l ∧ LockOk l ∧ SqT K G wt wvs ∧ Paired (WishT K G) wvs (ask ++ [last]) ∧
  (∀ y ∈ ask ++ [last], wishOk l y) ∧ ask.length ≤ 10 ∧ N.At G nt ∧ ∀ H' ws, Evl.Ex G H' → TowT N.NV N.At CL CT H' tw l ask last ws → WsFor l ws → Q .non H'
theorem ok_twInit (N : NtK P w K mg base) (L : LvC K mg) (T : TbK K mg) (W : TwC K mg) (B : Bi mg) : FnOk P w K mg base CX0 8 W.f0 W.d0 ["self", "lock", "wishes", "notes"] (spTwInit N L.C W.C) := by
  have GP : FnOk P w K mg base CX0 7 W.f1 W.d1 ["self", "below", "k", "bolt"] (spPut N L.C W.C) := ok_put N L T W B
  have GG : FnOk P w K mg base CX0 2 W.f36 W.d36 ["many", "layer", "layers", "notes"] (spGround N) := ok_ground N B W.F36
  have GW : FnOk P w K mg base CX0 1 W.f13 W.d13 ["lock"] (spWords K) := ok_words W.F13 B
  refine W.F0.ok scTwInit (fun vs H Q E h => ?_) (fun cdv A outer s H vs Q E hr h => ?_)
  · obtain ⟨tw, dx, wt, nt, lk, l, wvs, ask, last, G, rfl, _⟩ := h; rfl
  obtain ⟨tw, dx, wt, nt, lk, l, wvs, ask, last, G, rfl, eG, ntw, htw, hlk, ok, hwt, hwp, wok, a10, hnt, q⟩ := h
  have hr1 : Room 1 _ := hr.mono (by decide)
  have hr2 : Room 2 _ := hr.mono (by decide)
  refine ⟨_, (pss_cons (ps_fld (pv 0) (pv 2) rfl)
    (pss_cons (ps_fld (pv 0) (pv 3) rfl)
    (pss_cons (ps_fld (pv 0) (pe_callB call_len_seq (by rfl) B.len PySem.boot_len (pa_cons (pv 2) pa_nil)) rfl)
    (Evl.pss_cut (ps_fld (pv 0) (pe_lst pa_nil) rfl)
    (Evl.pss_cut (ps_fld (pv 0) (pe_lst pa_nil) rfl)
    (Evl.pss_cut (ps_fld (pv 0) (pe_op (r := rCat) op_cat (pe_call GW hr1 (by rfl) W.g13 W.F13.kp W.b13 .nil pass0 (pa_cons (pv 1) pa_nil)) (pe_lst (pa_cons (pe_lst pa_nil) pa_nil))) rfl)
    (pss_cons (ps_set (i := 4) scTwInit.nd rfl (.inr rfl) (pe_callB call_len_seq (by rfl) B.len PySem.boot_len (pa_cons (pe_ix (r := rIxL K) ix_list (pe_fld (pv 0) rfl) pe_int (fun _ _ => rfl)) pa_nil)))
    (Evl.pss_cut (ps_fld (pv 0) (pe_call GG hr2 (by rfl) W.g36 W.F36.kp W.b36 .nil pass0 (pa_cons (pv 4) (pa_cons pe_int (pa_cons (pe_fld (pv 0) rfl) (pa_cons (pv 3) pa_nil))))) rfl)
    (Evl.pss_cut (ps_setLc2 (i := 5) (own := ownTb) (vs1 := [9]) (g := gName 8) (g1 := gName 9) (wi1 := iRng1 (tCons (tFld K (tVar 0) "layers") tNil)) (te := tCall (spGround N) [] E0 (tCons (tVar 4) (tCons (tVar 9) (tCons (tFld K (tVar 0) "layers") (tCons (tVar 3) tNil))))) rfl scTwInit.nd rfl rfl rfl (pi_range1 (by rfl) B.range (pa_cons (pv 4) pa_nil)) (blkOk_by (own := ownTb) (N := nTwInit) (sc := defScope sTwInit) (by decide +kernel)) (by decide)
      (fun _ _ _ _ _ => pg_name (i := 8) scTwInit.nd rfl (Or.inl rfl)) (fun _ _ _ _ _ => pts_nil)
      (fun _ _ _ _ _ => pi_range1 (by rfl) B.range (pa_cons (pe_fld (pv 0) rfl) pa_nil)) (fun _ _ _ _ _ => pg_name (i := 9) scTwInit.nd rfl (Or.inl rfl)) (fun _ _ _ _ _ => pts_nil)
      (fun _ _ _ _ _ => pe_call GG hr2 (by rfl) W.g36 W.F36.kp W.b36 .nil pass0 (pa_cons (pv 4) (pa_cons (pv 9) (pa_cons (pe_fld (pv 0) rfl) (pa_cons (pv 3) pa_nil))))))
    (pss_one (ps_for PassesOwn.never rfl (pi_enumT (by rfl) B.enum (pa_cons (pv 1) pa_nil)) (pg_tup rfl (pgs_cons (pg_name (i := 6) scTwInit.nd rfl (.inl rfl)) (pgs_cons (pg_name (i := 7) scTwInit.nd rfl (.inl rfl)) pgs_nil)))
      (pss_one (ps_set (i := 5) scTwInit.nd rfl (.inl rfl) (pe_meth (pv 0) W.cl W.m1 GP hr W.b1 .nil pass0 (pa_cons (pv 5) (pa_cons (pv 6) (pa_cons (pv 7) pa_nil))))))))))))))))), ?_⟩
  have L1 : (ask ++ [last]).length = ask.length + 1 := by rw [List.length_append]; rfl
  have wl1 : wvs.length = ask.length + 1 := by rw [Paired.len hwp, L1]
  refine ⟨.ref wt, rfl, .ref tw, rfl, tw, W.C, dx, [], rfl, htw, W.cl, W.n0, (by decide), ?_⟩
  refine ⟨.ref nt, rfl, .ref tw, rfl, tw, W.C, dx, _, rfl, upd_same, W.cl, W.n1, (by show 1 < 1000; decide), ?_⟩
  refine ⟨.ref wt, rfl, wt, wvs, rfl, .inr (Evl.ex_t ((eG.mut ntw).mut ntw) hwt), .ref tw, rfl, tw, W.C, dx, _, rfl, upd_same, W.cl, W.n2, (by show 2 < 1000; decide), ?_⟩
  refine ⟨fun σ H' => ∃ ll, σ = [some (.ref tw), some lk, some (.ref wt), some (.ref nt), none, none, none, none, none, none] ∧ H' tw = some (.ins W.C dx [("wishes", .ref wt), ("notes", .ref nt), ("layers", .int ((ask.length + 1 : Nat) : Int)), ("levels", .ref ll)]) ∧ Evl.Ex G H' ∧ G ll = none ∧ H' ll = some (.lst []), ?_, ?_⟩
  · refine ⟨(by show 0 ≤ sizeLine; decide), fun ll nll => ?_⟩
    have e3 := fun {a b c : HO} => (((eG.mut ntw).mut ntw).mut ntw : Evl.Ex G (upd (upd (upd H tw a) tw b) tw c))
    have nlt : ll ≠ tw := fun z => by rw [z, upd_same] at nll; cases nll
    refine ⟨.ref tw, rfl, tw, W.C, dx, _, rfl, (Evl.Ex.new nll) _ _ upd_same, W.cl, W.n3, (by show 3 < 1000; decide), ?_⟩
    refine ⟨ll, rfl, ?_, (e3.trans (Evl.Ex.new nll)).mut ntw, Evl.fresh_back e3 nll, by rw [upd_ne nlt]; exact upd_same⟩
    rw [upd_same]
    show some (HO.ins W.C dx [("wishes", .ref wt), ("notes", .ref nt), ("layers", .int (wvs.length : Nat)), ("levels", .ref ll)]) = _
    rw [wl1]
  rintro _ H4 ⟨ll, rfl, htw4, e4, nll, hll4⟩
  refine ⟨fun σ H' => ∃ sl, σ = [some (.ref tw), some lk, some (.ref wt), some (.ref nt), none, none, none, none, none, none] ∧ H' tw = some (.ins W.C dx [("wishes", .ref wt), ("notes", .ref nt), ("layers", .int ((ask.length + 1 : Nat) : Int)), ("levels", .ref ll), ("stops", .ref sl)]) ∧ Evl.Ex G H' ∧ G sl = none ∧ ll ≠ sl ∧ H' ll = some (.lst []) ∧ H' sl = some (.lst []), ?_, ?_⟩
  · refine ⟨(by show 0 ≤ sizeLine; decide), fun sl nsl => ?_⟩
    have nst : sl ≠ tw := fun z => by rw [z, htw4] at nsl; cases nsl
    have nls : ll ≠ sl := fun z => by rw [← z, hll4] at nsl; cases nsl
    have nlt : ll ≠ tw := ne_of hll4 htw4 (fun z => nomatch z)
    have e5 := Evl.Ex.new (o := .lst []) nsl
    refine ⟨.ref tw, rfl, tw, W.C, dx, _, rfl, e5 _ _ htw4, W.cl, W.n4, (by show 4 < 1000; decide), ?_⟩
    exact ⟨sl, rfl, upd_same, (e4.trans e5).mut ntw, Evl.fresh_back e4 nsl, nls, by rw [upd_ne nlt]; exact e5 _ _ hll4, by rw [upd_ne nst]; exact upd_same⟩
  rintro _ H5 ⟨sl, rfl, htw5, e5, nsl, nls, hll5, hsl5⟩
  have nlt : ll ≠ tw := ne_of hll5 htw5 (fun z => nomatch z)
  have nst : sl ≠ tw := ne_of hsl5 htw5 (fun z => nomatch z)
  refine ⟨fun σ H' => ∃ (wl : Addr) (ws : Nat → List Word), σ = [some (.ref tw), some lk, some (.ref wt), some (.ref nt), none, none, none, none, none, none] ∧ H' tw = some (.ins W.C dx [("wishes", .ref wt), ("notes", .ref nt), ("layers", .int ((ask.length + 1 : Nat) : Int)), ("levels", .ref ll), ("stops", .ref sl), ("words", .ref wl)]) ∧ Evl.Ex G H' ∧ H' ll = some (.lst []) ∧ H' sl = some (.lst []) ∧ WsFor l ws ∧ Rows K (hd2 H' ll sl) wl l.length ws, ?_, ?_⟩
  · refine ⟨lk, rfl, lk, l, rfl, hlk.mono (TX.ex e5), ok, fun H1 p rs e1 np hp rl hrs => ?_⟩
    have l60 := ok.n1
    refine ⟨Nat.zero_le _, fun e ne => ?_⟩
    have e2 := Evl.Ex.new (o := .lst []) ne
    have ge : (upd H1 e (.lst [])) e = some (.lst []) := upd_same
    generalize upd H1 e (.lst []) = H2 at e2 ge
    refine ⟨(by show 1 ≤ sizeLine; decide), fun o no => ?_⟩
    have e3 := Evl.Ex.new (o := .lst [.ref e]) no
    have go : (upd H2 o (.lst [.ref e])) o = some (.lst [.ref e]) := upd_same
    generalize upd H2 o (.lst [.ref e]) = H3 at e3 go
    refine ⟨p, o, _, _, rfl, rfl, (e2.trans e3) _ _ hp, go, Nat.le_trans (by rw [List.length_map, List.length_singleton]; omega : (rs.map V.ref).length + [V.ref e].length ≤ 61) (by decide), fun c nc => ?_⟩
    have e4' := Evl.Ex.new (o := .lst (rs.map V.ref ++ [.ref e])) nc
    have gc : (upd H3 c (.lst (rs.map V.ref ++ [.ref e]))) c = some (.lst (rs.map V.ref ++ [.ref e])) := upd_same
    generalize upd H3 c (.lst (rs.map V.ref ++ [.ref e])) = H6 at e4' gc
    have e16 := e2.trans (e3.trans e4')
    have x56 := e1.trans e16
    have nw : ∀ {Hx : Hp} {d : Addr} {ho : HO}, Hx d = none → Evl.Ex H5 Hx → H6 d = some ho → (hd2 H6 ll sl) d = some ho := fun {Hx d ho} nd ex h => hd2_at (fun z => by rw [z, ex _ _ hll5] at nd; cases nd) (fun z => by rw [z, ex _ _ hsl5] at nd; cases nd) h
    have tk6 : Tk H6 (hd2 H6 ll sl) := Tk.hd2 (x56 _ _ hll5) (x56 _ _ hsl5)
    have ch : ∀ k, ∃ u : List Word, (k < l.length → WordsAt l k u) ∧ (l.length ≤ k → u = []) ∧ ∀ r, (rs ++ [e])[k]? = some r → RowAt K (hd2 H6 ll sl) r u := by
      intro k
      by_cases c : k < l.length
      · obtain ⟨r, hr⟩ : ∃ r, rs[k]? = some r := ⟨_, List.getElem?_eq_getElem (by omega)⟩
        obtain ⟨nr, u, ⟨us, h1, h2⟩, h3⟩ := hrs k r hr
        refine ⟨u, fun _ => h3, fun z => absurd c (by omega), fun r' hr' => ?_⟩
        rw [List.getElem?_append_left (by omega), hr] at hr'
        cases hr'
        exact ⟨us, nw nr (Evl.Ex.refl H5) (e16 _ _ h1), Paired.imp (fun _ _ ⟨a, q1, q2⟩ => ⟨a, q1, tk6 _ _ (e16 _ _ q2)⟩) h2⟩
      · refine ⟨[], fun z => absurd z c, fun _ => rfl, fun r' hr' => ?_⟩
        have kl := (List.getElem?_eq_some_iff.mp hr').1
        rw [List.length_append, List.length_singleton] at kl
        rw [List.getElem?_append_right (by omega), show k - rs.length = 0 by omega] at hr'
        cases hr'
        exact ⟨[], nw ne e1 ((e3.trans e4') _ _ ge), .nil⟩
    obtain ⟨ws, hws⟩ := Classical.axiomOfChoice ch
    have htw6 := x56 _ _ htw5
    have kl6 := Kl.ins (o := .ins W.C dx [("wishes", V.ref wt), ("notes", .ref nt), ("layers", .int ((ask.length + 1 : Nat) : Int)), ("levels", .ref ll), ("stops", .ref sl), ("words", .ref c)]) htw6
    refine ⟨.ref tw, rfl, tw, W.C, dx, _, rfl, htw6, W.cl, W.n5, (by show 5 < 1000; decide), ?_⟩
    refine ⟨c, ws, rfl, upd_same, (e5.trans x56).mut ntw, (kl6 _ _).2 (x56 _ _ hll5), (kl6 _ _).2 (x56 _ _ hsl5), ⟨fun k h => (hws k).1 h, fun k h => (hws k).2.1 h⟩, Rows.kl kl6.hd2 ⟨rs ++ [e], nw nc (e1.trans (e2.trans e3)) (by rw [gc, List.map_append]; rfl), by rw [List.length_append, rl]; rfl, fun k r h => (hws k).2.2 r h⟩⟩
  rintro _ H6 ⟨wl, ws, rfl, htw6, e6, hll6, hsl6, wf, rw6⟩
  have lv := levels_of ok wf
  obtain ⟨rs0, r0, us0, hW0, hr0, hu0, hp0⟩ := (rw6.ex (hd2_ex H6 ll sl)).row (Nat.zero_le _)
  have u0 : us0.length = (ws 0).length := Paired.len hp0
  have w8 := wf.few ok 0
  refine ⟨.ref tw, rfl, tw, W.C, dx, _, .ref wl, rfl, htw6, W.cl, W.n5, rfl, wl, _, 0, .ref r0, rfl, rfl, SqL.of hW0, atI_nat (j := 0) hr0, r0, us0, rfl, .inl (SqL.of hu0), ?_⟩
  have setW : ([some (V.ref tw), some lk, some (V.ref wt), some (V.ref nt), none, none, none, none, none, none].set 4 (some (V.int (us0.length : Nat)))) = [some (V.ref tw), some lk, some (V.ref wt), some (V.ref nt), some (V.int ((ws 0).length : Nat)), none, none, none, none, none] := by rw [u0]; rfl
  refine ⟨fun σ H' => ∃ gr, σ = [some (.ref tw), some lk, some (.ref wt), some (.ref nt), some (.int ((ws 0).length : Nat)), none, none, none, none, none] ∧ H' tw = some (.ins W.C dx [("wishes", .ref wt), ("notes", .ref nt), ("layers", .int ((ask.length + 1 : Nat) : Int)), ("levels", .ref ll), ("stops", .ref sl), ("words", .ref wl), ("ground", .ref gr)]) ∧ Evl.Ex G H' ∧ H' ll = some (.lst []) ∧ H' sl = some (.lst []) ∧ Rows K (hd2 H' ll sl) wl l.length ws ∧ RowT N.NV (hd2 H' ll sl) (.ref gr) (grow (ws 0).length 0 (ask.length + 1)), ?_, ?_⟩
  · show _
    refine ⟨.int (us0.length : Nat), rfl, .ref tw, rfl, tw, W.C, dx, _, .int ((ask.length + 1 : Nat) : Int), rfl, htw6, W.cl, W.n2, rfl, .ref nt, rfl, ?_⟩
    rw [u0]
    refine ⟨nt, (ws 0).length, 0, ask.length + 1, rfl, N.ex _ _ _ e6 hnt, by omega, by omega, by omega, fun H7 r e7 nr hr7 => ?_⟩
    have htw7 := e7 _ _ htw6
    have kl7 := Kl.ins (o := .ins W.C dx [("wishes", V.ref wt), ("notes", .ref nt), ("layers", .int ((ask.length + 1 : Nat) : Int)), ("levels", .ref ll), ("stops", .ref sl), ("words", .ref wl), ("ground", .ref r)]) htw7
    have hll7 := e7 _ _ hll6
    have hsl7 := e7 _ _ hsl6
    refine ⟨.ref tw, rfl, tw, W.C, dx, _, rfl, htw7, W.cl, W.n6, (by show 6 < 1000; decide), ?_⟩
    refine ⟨r, ?_, upd_same, (e6.trans e7).mut ntw, (kl7 _ _).2 hll7, (kl7 _ _).2 hsl7, Rows.kl ((Kl.ex (hd2_of e7)).trans kl7.hd2) rw6, RowT.kl N.tk kl7.hd2 ?_⟩
    · rw [← u0]; rfl
    · obtain ⟨a, vs, ea, h1, h2⟩ := hr7
      cases ea
      exact ⟨r, vs, rfl, hd2_at (fun z => by rw [z, hll6] at nr; cases nr) (fun z => by rw [z, hsl6] at nr; cases nr) h1, Paired.imp (fun _ _ z => EntT.tk N.tk (Tk.hd2 hll7 hsl7) z) h2⟩
  rintro _ H7 ⟨gr, rfl, htw7, e7, hll7, hsl7, rw7, hgr7⟩
  refine ⟨fun σ H' => ∃ Tb tvs, σ = [some (.ref tw), some lk, some (.ref wt), some (.ref nt), some (.int ((ws 0).length : Nat)), some (.ref Tb), none, none, none, none] ∧ Evl.Ex H7 H' ∧ (hd2 H' ll sl) Tb = some (.lst tvs) ∧ Paired (RowT N.NV (hd2 H' ll sl)) tvs ((List.range (ws 0).length).flatMap fun _ => (List.range (ask.length + 1)).map fun a => grow (ws 0).length a (ask.length + 1)), ?_, ?_⟩
  · have monoR : ∀ Gx G' (v : V) (y : List (Option Int)), Evl.Ex Gx G' → (RowT N.NV Gx v y ∧ ∃ a, v = .ref a ∧ H7 a = none) → (RowT N.NV G' v y ∧ ∃ a, v = .ref a ∧ H7 a = none) := fun Gx G' v y e h => ⟨RowT.ex N.nx e h.1, h.2⟩
    refine ⟨.int ((ws 0).length : Nat), rfl, ((ws 0).length : Nat), rfl, by omega, by omega, fun Tb nTb => ?_⟩
    rw [Int.toNat_natCast]
    refine w_it (walk_range (lo := 0) (n := (ws 0).length)) (fun i H' => Blt (fun Gx v y => RowT N.NV Gx v y ∧ ∃ a, v = .ref a ∧ H7 a = none) H7 H' Tb ((List.range i).flatMap fun _ => (List.range (ask.length + 1)).map fun a => grow (ws 0).length a (ask.length + 1))) (Blt.start nTb) (fun _ _ _ _ => trivial) ?_ ?_
    · rintro i x H8 H8' hi b1 ⟨rfl, rfl⟩
      refine ⟨by kernel_rfl, ?_⟩
      refine ⟨.ref tw, rfl, tw, W.C, dx, _, .int ((ask.length + 1 : Nat) : Int), rfl, b1.ex _ _ htw7, W.cl, W.n2, rfl, ((ask.length + 1 : Nat) : Int), rfl, by omega, by omega, ?_⟩
      rw [Int.toNat_natCast]
      refine w_it (walk_range (lo := 0) (n := ask.length + 1)) (fun t H' => Blt (fun Gx v y => RowT N.NV Gx v y ∧ ∃ a, v = .ref a ∧ H7 a = none) H7 H' Tb (((List.range i).flatMap fun _ => (List.range (ask.length + 1)).map fun a => grow (ws 0).length a (ask.length + 1)) ++ (List.range t).map fun a => grow (ws 0).length a (ask.length + 1))) (by rw [List.range_zero, List.map_nil, List.append_nil]; exact b1) (fun _ _ _ _ => trivial) ?_ ?_
      · rintro t x H9 H9' ht b2 ⟨rfl, rfl⟩
        refine ⟨by kernel_rfl, ?_⟩
        have zt : (0 : Int) + (t : Nat) = (t : Nat) := Int.zero_add _
        refine ⟨.int ((ws 0).length : Nat), rfl, .int ((0 : Int) + (t : Nat)), rfl, .ref tw, rfl, tw, W.C, dx, _, .int ((ask.length + 1 : Nat) : Int), rfl, b2.ex _ _ htw7, W.cl, W.n2, rfl, .ref nt, rfl, ?_⟩
        rw [zt]
        refine ⟨nt, (ws 0).length, t, ask.length + 1, rfl, N.ex _ _ _ (e7.trans b2.ex) hnt, by omega, by omega, by omega, fun H10 r e10 nr hr10 => ?_⟩
        obtain ⟨vs, hD⟩ := b2.ne
        have cl := const_len (L := ask.length + 1) (fun (_ : Nat) a => grow (ws 0).length a (ask.length + 1)) (List.range i)
        rw [List.length_range] at cl
        rw [map_snoc (fun a => grow (ws 0).length a (ask.length + 1)) t, ← List.append_assoc]
        refine b2.step monoR e10 (v := .ref r) (y := grow (ws 0).length t (ask.length + 1)) ⟨RowT.hide N.tk (fun z => by rw [z, hD] at nr; cases nr) (e10 _ _ hD) hr10, r, rfl, Evl.fresh_back b2.ex nr⟩ ?_
        rw [List.length_append, cl, List.length_map, List.length_range]
        have : i * (ask.length + 1) ≤ 8 * 11 := Nat.mul_le_mul (by omega) (by omega)
        omega
      · rintro H9 b2
        rw [flat_snoc]
        exact b2
    · rintro H8 b1
      obtain ⟨tvs, g1, g2⟩ := b1.done monoR
      have hll8 := b1.ex _ _ hll7
      have hsl8 := b1.ex _ _ hsl7
      refine ⟨Tb, tvs, rfl, b1.ex, hd2_at (fun z => by rw [z, hll7] at nTb; cases nTb) (fun z => by rw [z, hsl7] at nTb; cases nTb) g1, Paired.imp (fun _ _ z => ?_) g2⟩
      obtain ⟨⟨a, vs, ea, h1, h2⟩, a', ea', na⟩ := z
      rw [ea] at ea'
      cases ea'
      exact ⟨a, vs, ea, hd2_at (fun z => by rw [z, hll7] at na; cases na) (fun z => by rw [z, hsl7] at na; cases na) h1, Paired.imp (fun _ _ z => EntT.tk N.tk (Tk.hd2 hll8 hsl8) z) h2⟩
  rintro _ H8 ⟨Tb, tvs, rfl, e8, hTb8, htv8⟩
  have hll8 := e8 _ _ hll7
  have hsl8 := e8 _ _ hsl7
  have eB : Evl.Ex G (hd2 H8 ll sl) := ex_to_hd2 (e7.trans e8) nll nsl
  have htwB : (hd2 H8 ll sl) tw = some (.ins W.C dx [("wishes", .ref wt), ("notes", .ref nt), ("layers", .int ((ask.length + 1 : Nat) : Int)), ("levels", .ref ll), ("stops", .ref sl), ("words", .ref wl), ("ground", .ref gr)]) := hd2_at (Ne.symm nlt) (Ne.symm nst) (e8 _ _ htw7)
  have TA : TwAt K W.C N.At (hd2 H8 ll sl) tw dx [("wishes", .ref wt), ("notes", .ref nt), ("layers", .int ((ask.length + 1 : Nat) : Int)), ("levels", .ref ll), ("stops", .ref sl), ("words", .ref wl), ("ground", .ref gr)] ll sl wl wt nt wvs l ws (ask ++ [last]) :=
    ⟨htwB, rfl, rfl, by rw [L1]; rfl, rfl, rfl, rfl, rw7.ex (hd2_of e8), Evl.ex_t eB hwt, Paired.imp (fun _ _ ⟨a, r, z⟩ => ⟨a, r, Evl.ex_t eB z⟩) hwp, N.ex _ _ _ eB hnt⟩
  have hgrB : RowT N.NV (hd2 H8 ll sl) (.ref gr) (grow (ws 0).length 0 (ask.length + 1)) := RowT.ex N.nx (hd2_of e8) hgr7
  have tab0 : TabIs l ask last (ws 0) 0 ((List.range (ws 0).length).flatMap fun _ => (List.range (ask.length + 1)).map fun a => grow (ws 0).length a (ask.length + 1)) := by
    refine ⟨by rw [const_len (fun (_ : Nat) a => grow (ws 0).length a (ask.length + 1)), List.length_range], fun i v a row hv ha hrow => ?_⟩
    have ml := mod_small (i := i) ha
    have il := (List.getElem?_eq_some_iff.mp hv).1
    rw [const_get (by omega) (fun (_ : Nat) a => grow (ws 0).length a (ask.length + 1)), ml.1, ml.2, List.getElem?_range il] at hrow
    cases hrow
    have v0 := lv.zero v (List.mem_of_getElem? hv)
    subst v0
    exact ground_is lv.zero ha
  obtain ⟨la, bs, rfl, hla, hbs⟩ := id hlk
  refine ⟨.ref la, rfl, la, bs, rfl, Evl.ex_t (e7.trans e8) hla, ?_⟩
  refine for_it (walk_et (K := K) (a := la) (xs := bs)) (fun i σ H' => ∃ (Hb : Hp) (r : Addr) (rvs lvs sps : List V) (rows : List (List (Option Int))) (y6 y7 y8 y9 : Option V), σ = [some (.ref tw), some (.ref la), some (.ref wt), some (.ref nt), some (.int ((ws 0).length : Nat)), some (.ref r), y6, y7, y8, y9] ∧
      Evl.Ex (hd2 H8 ll sl) Hb ∧ Evl.Ex Hb H' ∧ Hb ll = none ∧ Hb sl = none ∧ H' ll = some (.lst lvs) ∧ H' sl = some (.lst sps) ∧ lvs.length = i ∧ sps.length = i ∧ Hb r = some (.lst rvs) ∧ Paired (RowT N.NV Hb) rvs rows ∧ TabIs l ask last (ws i) i rows ∧ ∀ k v, lvs[k]? = some v → ∃ lva D, v = .ref lva ∧ LevT N.NV N.At L.C Hb lva D ∧ LvlIs l ask last ws k D)
    ⟨hd2 H8 ll sl, Tb, tvs, [], [], _, none, none, none, none, rfl, Evl.Ex.refl _, hd2_ex _ _ _, hd2_a _ _ _, hd2_b _ _ _, hll8, hsl8, rfl, rfl, hTb8, htv8, tab0, fun k v h => by simp at h⟩ ?_ ?_ ?_
  · rintro i σ H' _ ⟨Hb, r, rvs, lvs, sps, rows, y6, y7, y8, y9, rfl, eb, eh, _⟩
    exact Evl.ex_t ((eB.trans eb).trans eh) hla
  · rintro i v σ H9 H10 hi ⟨Hb, r, rvs, lvs, sps, rows, y6, y7, y8, y9, rfl, eb, eh, nl, ns, hl9, hs9, ll9, sl9, hr9, hp9, tab, hlv⟩ ⟨Tt, v1, v2, rfl, nT, rfl, ex1, ey1⟩
    cases ex1
    obtain ⟨b, hb, hbA⟩ := Paired.get1 hbs ey1
    have e10 := Evl.Ex.new (o := .tup [.int (i : Nat), v2]) nT
    have gT : (upd H9 Tt (.tup [.int (i : Nat), v2])) Tt = some (.tup [.int (i : Nat), v2]) := upd_same
    generalize upd H9 Tt (.tup [.int (i : Nat), v2]) = H10 at e10 gT
    have il : i < l.length := (List.getElem?_eq_some_iff.mp hb).1
    have l60 := ok.n1
    have ehb := eh.trans e10
    have TAb := TA.ex N.ex eb
    refine ⟨Tt, _, rfl, SqT.of gT, rfl, _, _, rfl, _, _, rfl, rfl, ?_⟩
    refine ⟨.ref tw, rfl, tw, dx, _, rfl, ehb _ _ TAb.obj, rfl, .ref r, rfl, .int (i : Nat), rfl, v2, rfl, ?_⟩
    refine ⟨tw, dx, r, ll, sl, wl, wt, nt, _, i, v2, l, b, ws, wvs, ask, last, rvs, lvs, sps, rows, Hb, rfl, ehb, nl, ns, nls, e10 _ _ hl9, e10 _ _ hs9, by omega, by omega, TAb, wf, ok, hb, hbA.mono (TX.ex (eB.trans eb)), wok, a10, hr9, hp9, tab, fun H11 Hb' r' lvA sp' tvs' T' D' f1 f2 f3 f4 f5 f6 f7 f8 f9 f10 f11 => ?_⟩
    refine ⟨Hb', r', tvs', lvs ++ [.ref lvA], sps ++ [.ref sp'], T', _, _, _, _, rfl, eb.trans f1, f2, f3, f4, f5, f6, by rw [List.length_append, ll9]; rfl, by rw [List.length_append, sl9]; rfl, f9, f10, f11, ?_⟩
    refine snoc_get (Pa := fun k v => ∃ lva D, v = V.ref lva ∧ LevT N.NV N.At L.C Hb' lva D ∧ LvlIs l ask last ws k D) (fun k v hv => ?_) ⟨lvA, D', rfl, f7, by rw [ll9]; exact f8⟩
    obtain ⟨lva, D, q1, q2, q3⟩ := hlv k v hv
    exact ⟨lva, D, q1, q2.ex N.nx N.ex f1, q3⟩
  · rintro σ H9 ⟨Hb, r, rvs, lvs, sps, rows, y6, y7, y8, y9, rfl, eb, eh, nl, ns, hl9, hs9, ll9, sl9, hr9, hp9, tab, hlv⟩
    have bl : bs.length = l.length := Paired.len hbs
    have ebh := eb.trans eh
    exact q H9 ws ((eB.trans eb).trans eh) ⟨dx, ll, gr, _, lvs, ebh _ _ htwB, rfl, rfl, rfl, rfl, hl9, by rw [ll9, bl], fun k v hv => (by
      obtain ⟨lva, D, q1, q2, q3⟩ := hlv k v hv
      exact ⟨lva, D, q1, q2.ex N.nx N.ex eh, q3⟩), RowT.ex N.nx ebh hgrB⟩ wf
end
end Wb

set_option Elab.async false
set_option linter.all false
set_option maxRecDepth 100000
set_option maxHeartbeats 8000000
set_option pp.maxSteps 900
set_option pp.deepTerms false
namespace Wb
open PySem PySem.Spec PyProof.Rows L2
/-! ### entry_of -/
abbrev sEntryOf : Stmt := topS 37
theorem scEntryOf : FnScope ["lock", "row", "notes"] ["lock", "row", "notes"] (defScope sEntryOf) := ⟨rfl, rfl, rfl, by decide +kernel, rfl, by decide +kernel, by decide +kernel⟩
theorem cut_dropT (xs : List V) {k : Nat} (h : k ≤ xs.length) : cutV xs (some (k : Int)) none = xs.drop k := by
  unfold cutV
  rw [HT.sIx_none, HT.sIx_nat]
  rw [List.take_of_length_le]
  · congr 1
    omega
  · rw [List.length_drop]
    omega
section
variable {P : Program} {w : World} {K : PySem.W.Frag} {mg : Str → Option Value} {base : Heap}
def spEntryOf (N : NtK P w K mg base) : Sp := fun vs H Q _ => ∃ (lk : V) (ra nt : Addr) (rvs : List V) (l : Lock) (first : WishL) (ask : List WishL) (last : WishL), vs = [lk, .ref ra, .ref nt] ∧ LockAt K H lk l ∧ LockOk l ∧ SqT K H ra rvs ∧ Paired (WishT K H) rvs (first :: (ask ++ [last])) ∧
  (∀ y ∈ first :: (ask ++ [last]), wishOk l y) ∧ ask.length ≤ 10 ∧ N.At H nt ∧ ∀ H' v o, Evl.Ex H H' → EntT N.NV H' v o → Lst (rowS l first ask last) o → Q v H'
theorem ok_entryOf (N : NtK P w K mg base) (L : LvC K mg) (T : TbK K mg) (W : TwC K mg) (B : Bi mg) {f : Addr} {fd : FuncData} (F : Fun K "entry_of" "entry_of" sEntryOf f fd) : FnOk P w K mg base CX0 10 f fd ["lock", "row", "notes"] (spEntryOf N) := by
  have GI : FnOk P w K mg base CX0 8 W.f0 W.d0 ["self", "lock", "wishes", "notes"] (spTwInit N L.C W.C) := ok_twInit N L T W B
  have GE : FnOk P w K mg base CX0 7 W.f3 W.d3 ["self", "wish"] (spTwEntry N L.C W.C) := ok_twEntry N L T W B
  refine F.ok scEntryOf (fun vs H Q E h => ?_) (fun cdv A outer s H vs Q E hr h => ?_)
  · obtain ⟨lk, ra, nt, rvs, l, first, ask, last, rfl, _⟩ := h; rfl
  · obtain ⟨lk, ra, nt, rvs, l, first, ask, last, rfl, hlk, ok, hra, hrp, wok, a10, hnt, q⟩ := h
    have hr7 : Room 7 _ := hr.mono (by decide)
    refine ⟨_, pss_one (ps_ret (pe_meth (pe_make W.M GI hr (by rfl) W.g W.b0 .nil pass0 (pa_cons (pv 0) (pa_cons (pe_slice (r := rSlA K) sl_tupA (pv 1) (po_some pe_int) po_none) (pa_cons (pv 2) pa_nil)))) W.cl W.m3 GE hr7 W.b3 .nil pass0 (pa_cons (pe_ix (r := rIxT K) ix_tup (pv 1) pe_int (fun _ _ => rfl)) pa_nil))), ?_⟩
    have rl : rvs.length = ask.length + 2 := by rw [Paired.len hrp, List.length_cons, List.length_append]; rfl
    refine ⟨lk, rfl, .ref ra, rfl, 1, rfl, ?_⟩
    refine nopart1 ?_
    refine sl_any (K := K) (lo := some ((1 : Nat) : Int)) (hi := none) hra fun H1 z e1 hz => ?_
    rw [cut_dropT rvs (by omega)] at hz
    refine ⟨.ref nt, rfl, ?_⟩
    intro tw dxl ntw ndx ndl
    have e12 : Evl.Ex H1 (upd (upd H1 dxl (.own tw)) tw (.ins W.C dxl [])) := fun c y h => by
      rw [upd_ne (fun z => by rw [z, ntw] at h; cases h), upd_ne (fun z => by rw [z, ndx] at h; cases h)]
      exact h
    have htw : (upd (upd H1 dxl (.own tw)) tw (.ins W.C dxl [])) tw = some (.ins W.C dxl []) := upd_same
    generalize upd (upd H1 dxl (.own tw)) tw (.ins W.C dxl []) = H2 at e12 htw
    obtain ⟨fv, hfv, ⟨fa, rfl, hfa⟩⟩ := Paired.get2 hrp (show (first :: (ask ++ [last]))[0]? = some first from rfl)
    have hp1 : Paired (WishT K H1) (rvs.drop 1) (ask ++ [last]) := by
      cases hrp with
      | cons h t => exact Paired.imp (fun _ _ ⟨a, r, y⟩ => ⟨a, r, Evl.ex_t e1 y⟩) t
    refine ⟨tw, dxl, z, nt, lk, l, rvs.drop 1, ask, last, H1, rfl, e12, ntw, htw, hlk.mono (TX.ex e1), ok, hz, hp1, fun y hy => wok y (List.mem_cons_of_mem _ hy), a10, N.ex _ _ _ e1 hnt, fun H3 ws e3 hT wf => ⟨rfl, ?_⟩⟩
    obtain ⟨dx, ll, gr, fs, lvs, h1, h2, h3, _⟩ := hT.at_
    have e03 := e1.trans e3
    refine ⟨tw, dx, fs, rfl, h1, h3, .ref ra, rfl, ra, rvs, 0, .ref fa, rfl, rfl, Evl.ex_t e03 hra, atI_nat (j := 0) hfv, ?_⟩
    exact ⟨tw, fa, first, l, ask, last, ws, rfl, hT, ok, wf, fun y hy => wok y (List.mem_cons_of_mem _ hy), wok first List.mem_cons_self, Evl.ex_t e03 hfa, fun H4 v o e4 hv ho => q H4 v o (e03.trans e4) hv ho⟩
end
end Wb

set_option Elab.async false
set_option linter.all false
set_option maxRecDepth 100000
set_option maxHeartbeats 4000000
set_option pp.maxSteps 900
set_option pp.deepTerms false
namespace Wb
open PySem PySem.Spec PyProof.Rows L2
/-! ### an instance of a class without __init__ -/
structure MkO (K : PySem.W.Frag) (C : Addr) : Prop where
  makes : PySem.W.makesIn K C = true
  init : PySem.W.findIn K (.ref C) "__init__" = some (some (.builtin "object.__init__"))
  kp : PySem.W.keepIn K (.ref C) = true
def tMakeO (C : Addr) : TE := fun σ H Q => ∀ x dx, H x = none → H dx = none → dx ≠ x → Q (.ref x) (upd (upd H dx (.own x)) x (.ins C dx []))
theorem run_makeO {X : Cx} {C : Addr} {pins : List (Addr × Obj)} {σ : L2.St} {H : Hp} {s : Shared} {Q : VK} (M : MkO X.K C) (I : Inv X pins σ H s)
    (h : tMakeO C σ H Q) : wpAny (model X.prog X.w) X.A (call (.ref C) []) (EP X pins σ Q) X.xe s := by
  have hq := h (s.heap.objs.size + 1) s.heap.objs.size (I.hok.fresh (Nat.le_succ _)) (I.hok.fresh (Nat.le_refl _)) (Nat.ne_of_lt (Nat.lt_succ_self _))
  have I2 := Inv.made (C := C) I
  have Y := PySem.W.makes_of (M := model X.prog X.w) I.kIn M.makes
  refine wpAny_call (make_map0 I.kIn M.makes M.init (fun self => PySem.W.Looks.of_pure (PySem.W.oi_bind self)) ?_)
  have hob : ((s.heap.push PySem.W.emptyDict).push (PySem.W.instObj C s.heap.objs.size)).get? (s.heap.objs.size + 1) = some (PySem.W.instObj C s.heap.objs.size) := by
    have := Heap.get?_push_size (s.heap.push PySem.W.emptyDict) (o := PySem.W.instObj C s.heap.objs.size) rfl
    rwa [Heap.size_push] at this
  have t1 : PySem.W.Looks (model X.prog X.w) ((s.heap.push PySem.W.emptyDict).push (PySem.W.instObj C s.heap.objs.size)) (typeOf (.ref (s.heap.objs.size + 1))) (.ref C) := (PySem.W.Looks.ld hob).andThen .now
  have t2 : PySem.W.Looks (model X.prog X.w) ((s.heap.push PySem.W.emptyDict).push (PySem.W.instObj C s.heap.objs.size)) (isInstance (.ref (s.heap.objs.size + 1)) (.type "object")) true := t1.andThen (Y.top.keeps fun b o e => Heap.get?_push_of_some _ (Heap.get?_push_of_some _ e))
  refine codeAny_call_builtin PySem.W.oi_plain PySem.W.entry_oi (@PySem.W.check_slot (model X.prog X.w) _ _ _ "object.__init__" "object" "__init__" (.ref (s.heap.objs.size + 1)) [] [] _ PySem.W.oi_kind PySem.W.oi_split t2 (PySem.W.oi_args (.ref (s.heap.objs.size + 1))) ?_)
  rw [PySem.W.oi_run]
  exact wpAny_pure ⟨rfl, ⟨V.ref (s.heap.objs.size + 1), _, I2, rfl, hq⟩⟩
theorem pe_makeO {X : Cx} {C : Addr} {x : Str} {p pos : Pos} (M : MkO X.K C) (hg : Gl X x) (hm : X.mg x = some (.ref C)) (hdb : (x == ("__debug__" : Str)) = false := by decide) : PE X (.Call (.Name x p) [] [] pos) (tMakeO C) := by
  refine ⟨fun pins s σ H Q I h => ?_⟩
  refine wpAny_Call_Name_kw (ld_glob I hg hm ?_ hdb)
  exact PySem.W.callWith_K0 I.kIn M.kp (run_makeO M I h)
/-! ### NoNotes -/
abbrev nnS (i : Nat) : Stmt := (clsB cNoNotes).getD i (.Pass ⟨0, 0, 0, 0⟩)
structure NoC (K : PySem.W.Frag) (mg : Str → Option Value) where
  C : Addr
  cl : Cls K C
  M : MkO K C
  g : mg "NoNotes" = some (.ref C)
  f1 : Addr
  d1 : FuncData
  F1 : Fun K "standing" "NoNotes.standing" (nnS 0) f1 d1
  b1 : Binds K d1 ["self"] []
  m1 : Meth K C "standing" f1
  f2 : Addr
  d2 : FuncData
  F2 : Fun K "stepping" "NoNotes.stepping" (nnS 1) f2 d2
  b2 : Binds K d2 ["self", "k", "here", "there", "way"] []
  m2 : Meth K C "stepping" f2
  f3 : Addr
  d3 : FuncData
  F3 : Fun K "behind" "NoNotes.behind" (nnS 2) f3 d3
  b3 : Binds K d3 ["self", "first", "second"] []
  m3 : Meth K C "behind" f3
  f4 : Addr
  d4 : FuncData
  F4 : Fun K "either" "NoNotes.either" (nnS 3) f4 d4
  b4 : Binds K d4 ["self", "first", "second"] []
  m4 : Meth K C "either" f4
theorem scN1 : FnScope ["self"] ["self"] (defScope (nnS 0)) := ⟨rfl, rfl, rfl, by decide +kernel, rfl, by decide +kernel, by decide +kernel⟩
theorem scN2 : FnScope ["self", "k", "here", "there", "way"] ["self", "k", "here", "there", "way"] (defScope (nnS 1)) := ⟨rfl, rfl, rfl, by decide +kernel, rfl, by decide +kernel, by decide +kernel⟩
theorem scN3 : FnScope ["self", "first", "second"] ["self", "first", "second"] (defScope (nnS 2)) := ⟨rfl, rfl, rfl, by decide +kernel, rfl, by decide +kernel, by decide +kernel⟩
theorem scN4 : FnScope ["self", "first", "second"] ["self", "first", "second"] (defScope (nnS 3)) := ⟨rfl, rfl, rfl, by decide +kernel, rfl, by decide +kernel, by decide +kernel⟩
def noNotes {P : Program} {w : World} {K : PySem.W.Frag} {mg : Str → Option Value} {base : Heap} (O : NoC K mg) : NtK P w K mg base where
  C := O.C
  cl := O.cl
  At := fun H nt => ∃ dx, H nt = some (.ins O.C dx [])
  ins := fun H nt ⟨dx, h⟩ => ⟨dx, [], h, rfl, rfl, rfl, rfl⟩
  ex := fun H H' nt e ⟨dx, h⟩ => ⟨dx, e _ _ h⟩
  NV := fun _ v => v = .non
  tk := fun _ _ _ _ h => h
  f1 := O.f1
  d1 := O.d1
  b1 := O.b1
  m1 := O.m1
  k1 := O.F1.ok scN1 (fun vs H Q E ⟨nt, h, _⟩ => by rw [h]; rfl) (fun cdv A outer s H vs Q E hr ⟨nt, h, _, q⟩ => by
    subst h
    refine ⟨_, pss_one (ps_ret pe_non), ?_⟩
    exact q H .non (Evl.Ex.refl H) rfl)
  f2 := O.f2
  d2 := O.d2
  b2 := O.b2
  m2 := O.m2
  k2 := O.F2.ok scN2 (fun vs H Q E ⟨nt, k, h', t, u, ws, h, _⟩ => by rw [h]; rfl) (fun cdv A outer s H vs Q E hr ⟨nt, k, h', t, u, ws, h, _, _, q⟩ => by
    subst h
    refine ⟨_, pss_one (ps_ret pe_non), ?_⟩
    exact q H .non (Evl.Ex.refl H) rfl)
  f3 := O.f3
  d3 := O.d3
  b3 := O.b3
  m3 := O.m3
  k3 := O.F3.ok scN3 (fun vs H Q E ⟨nt, x, y, h, _⟩ => by rw [h]; rfl) (fun cdv A outer s H vs Q E hr ⟨nt, x, y, h, _, _, _, q⟩ => by
    subst h
    refine ⟨_, pss_one (ps_ret pe_non), ?_⟩
    exact q H .non (Evl.Ex.refl H) rfl)
  f4 := O.f4
  d4 := O.d4
  b4 := O.b4
  m4 := O.m4
  k4 := O.F4.ok scN4 (fun vs H Q E ⟨nt, x, y, h, _⟩ => by rw [h]; rfl) (fun cdv A outer s H vs Q E hr ⟨nt, x, y, h, _, _, _, q⟩ => by
    subst h
    refine ⟨_, pss_one (ps_ret pe_non), ?_⟩
    exact q H .non (Evl.Ex.refl H) rfl)
end Wb

set_option Elab.async false
set_option linter.all false
set_option maxRecDepth 100000
set_option maxHeartbeats 8000000
set_option pp.maxSteps 900
set_option pp.deepTerms false
namespace Wb
open PySem PySem.Spec PyProof.Rows L2
/-! ### are_wished, need_row, least -/
abbrev sWishedR : Stmt := topS 7
theorem scWishedR : FnScope ["thing", "manys", "place"] ["thing", "manys"] (defScope sWishedR) := ⟨rfl, rfl, rfl, by decide +kernel, rfl, by decide +kernel, by decide +kernel⟩
abbrev sNeedRow : Stmt := topS 27
abbrev nNeedRow : List Str := ["lock", "thing", "manys", "wish"]
theorem scNeedRow : FnScope nNeedRow ["lock", "thing"] (defScope sNeedRow) := ⟨rfl, rfl, rfl, by decide +kernel, rfl, by decide +kernel, by decide +kernel⟩
abbrev sLeast : Stmt := topS 39
theorem scLeast : FnScope ["lock", "row", "entry"] ["lock", "row"] (defScope sLeast) := ⟨rfl, rfl, rfl, by decide +kernel, rfl, by decide +kernel, by decide +kernel⟩
def rTupKt (K : PySem.W.Frag) : List V → Hp → VK → Prop := fun xs H Q => ∃ p ys, xs = [.ref p] ∧ ((SqL K H p ys ∧ ∀ l, H l = none → Q (.ref l) (upd H l (.tup ys))) ∨ (SqT K H p ys ∧ Q (.ref p) H))
theorem call_tupKt {X : Cx} : CallR X (.type "tuple") (rTupKt X.K) := call_tuple_of
structure LeK (K : PySem.W.Frag) (mg : Str → Option Value) where
  f7 : Addr
  d7 : FuncData
  F7 : Fun K "are_wished" "are_wished" sWishedR f7 d7
  b7 : Binds K d7 ["thing", "manys"] []
  g7 : mg "are_wished" = some (.ref f7)
  f27 : Addr
  d27 : FuncData
  F27 : Fun K "need_row" "need_row" sNeedRow f27 d27
  b27 : Binds K d27 ["lock", "thing"] []
  g27 : mg "need_row" = some (.ref f27)
  f37 : Addr
  d37 : FuncData
  F37 : Fun K "entry_of" "entry_of" sEntryOf f37 d37
  b37 : Binds K d37 ["lock", "row", "notes"] []
  g37 : mg "entry_of" = some (.ref f37)
  f39 : Addr
  d39 : FuncData
  F39 : Fun K "least" "least" sLeast f39 d39
  b39 : Binds K d39 ["lock", "row"] []
  g39 : mg "least" = some (.ref f39)
section
variable {P : Program} {w : World} {K : PySem.W.Frag} {mg : Str → Option Value} {base : Heap}
def spWishedR (K : PySem.W.Frag) : Sp := fun vs H Q _ => ∃ (v : V) (b : Addr) (x : WishL) (l : Lock), vs = [v, .ref b] ∧ WishT K H v x ∧ H b = some (.lst ((manysOf l).map V.int)) ∧ wishOk l x ∧ (∀ b ∈ l, 1 ≤ b.many) ∧ l.length ≤ 60 ∧ ∀ H', Evl.Ex H H' → Q (.bl true) H'
theorem ok_wishedR (D : Pr K mg) (Z : LeK K mg) : FnOk P w K mg base CX0 3 Z.f7 Z.d7 ["thing", "manys"] (spWishedR K) := by
  have G3 : FnOk P w K mg base CX0 1 D.f3 D.d3 ["thing", "low", "high"] (spTupOf K) := ok_tupOf D.F3 D.B
  have G4 : FnOk P w K mg base CX0 2 D.f4 D.d4 ["thing", "manys"] (spPlaces K) := ok_places D.F4 D.F3 D.b3 D.g3 D.B
  refine Z.F7.ok scWishedR (fun vs H Q E h => ?_) (fun cdv A outer s H vs Q E hr h => ?_)
  · obtain ⟨v, b, x, l, rfl, _⟩ := h; rfl
  · obtain ⟨v, b, x, l, rfl, ⟨a, rfl, ha⟩, hb, ⟨xl, xr⟩, l1, l60, q⟩ := h
    have hr1 : Room 1 _ := hr.mono (by decide)
    refine ⟨_, pss_cons (ps_if (pt_not (pt_val (pe_call G3 hr1 (by rfl) D.g3 D.F3.kp D.b3 .nil pass0 (pa_cons (pv 0) (pa_cons (pe_callB call_len_seq (by rfl) D.B.len PySem.boot_len (pa_cons (pv 1) pa_nil)) (pa_cons (pe_callB call_len_seq (by rfl) D.B.len PySem.boot_len (pa_cons (pv 1) pa_nil)) pa_nil)))))) (pss_one (ps_ret pe_bl)) pss_nil)
      (pss_one (ps_ret (pe_call G4 hr (by rfl) D.g4 D.F4.kp D.b4 .nil pass0 (pa_cons (pe_callTy (r := rTupKt K) call_tupKt (by rfl) D.B.tuple PyProof.Rows.boot_tuple (pa_cons (pe_lc (own := [("place", 2)]) (g := gName 2) (wi := iTup K (tVar 0)) (te := tIf (tTest (tOp (fun x y H Q => y = V.non ∧ Q (.bl (decide (x = .non))) H) (tVar 2) (tC .non))) (tC (.int 0)) (tVar 2)) rfl scWishedR.nd (pi_tup (pv 0)) (blkOk_by (own := [("place", 2)]) (N := ["thing", "manys", "place"]) (sc := defScope sWishedR) (by decide +kernel))
        (fun _ _ _ _ _ => pg_name (i := 2) scWishedR.nd rfl (Or.inl rfl)) (fun _ _ _ _ _ => pts_nil) (fun _ _ _ _ _ => pe_ifExp (pt_cmpR op_isN (pv 2) pe_non (nomark _)) pe_int (pv 2))) pa_nil)) (pa_cons (pv 1) pa_nil))))), ?_⟩
    have ml : ((manysOf l).map V.int).length = x.length := by unfold manysOf; rw [List.length_map, List.length_map, xl]
    refine ⟨.ref a, rfl, .ref b, rfl, b, _, rfl, .inl (SqL.of hb), .ref b, rfl, b, _, rfl, .inl (SqL.of hb), a, _, _, _, rfl, ha, _, rfl, ?_⟩
    rw [ml, List.length_map]
    refine ite2 (fun hc => ?_) (fun _ => ?_)
    · simp at hc
    refine ⟨.ref a, rfl, a, rfl, ⟨_, ha⟩, fun Dl nD => ?_⟩
    refine lc_tup (K := K) (a := a) (xs := x.map oT) (fun i H' => Evl.Ex H H' ∧ H' Dl = some (.lst (((x.take i).map fun o => o.getD 0).map V.int))) ⟨Evl.Ex.new nD, upd_same⟩ ?_ ?_ ?_
    · rintro i H' _ ⟨e, _⟩
      exact Evl.ex_t e ha
    · rintro i y H1 hy ⟨e1, hD1⟩
      rw [List.getElem?_map] at hy
      cases ho : x[i]? with
      | none => rw [ho] at hy; cases hy
      | some o =>
        rw [ho] at hy
        cases hy
        have il := (List.getElem?_eq_some_iff.mp ho).1
        have fin : ∀ z, z = V.int (o.getD 0) → ∃ acc, H1 Dl = some (.lst acc) ∧ acc.length < sizeLine ∧ (Evl.Ex H (upd H1 Dl (.lst (acc ++ [z]))) ∧ (upd H1 Dl (.lst (acc ++ [z]))) Dl = some (.lst (((x.take (i + 1)).map fun o => o.getD 0).map V.int))) := fun z hz => by
          refine ⟨_, hD1, ?_, e1.mut nD, ?_⟩
          · rw [List.length_map, List.length_map, List.length_take]
            exact Nat.lt_of_le_of_lt (by omega : min i x.length ≤ 60) (by decide)
          · rw [upd_same, take_succ_get ho, List.map_append, List.map_append, hz]; rfl
        refine ⟨rfl, oT o, rfl, rfl, _, rfl, ?_⟩
        cases o with
        | none => exact iteT (fin _ rfl)
        | some z => exact iteF ⟨.int z, rfl, fin _ rfl⟩
    · rintro H1 ⟨e1, hD1⟩
      rw [List.length_map, List.take_length] at hD1
      refine ⟨Dl, _, rfl, .inl ⟨SqL.of hD1, fun p np => ?_⟩⟩
      have e2 := Evl.Ex.new (o := .tup ((x.map fun o => o.getD 0).map V.int)) np
      refine ⟨.ref b, rfl, ?_⟩
      refine ⟨p, b, true, x.map fun o => o.getD 0, manysOf l, rfl, SqT.of upd_same, SqL.of ((e1.trans e2) _ _ hb), ⟨by unfold manysOf; rw [List.length_map, List.length_map, xl], fun i n m hn hm => ?_⟩, fun H3 e3 => q H3 ((e1.trans e2).trans e3)⟩
      rw [List.getElem?_map] at hn
      unfold manysOf at hm
      rw [List.getElem?_map] at hm
      cases ho : x[i]? with
      | none => rw [ho] at hn; cases hn
      | some o =>
        cases hbb : l[i]? with
        | none => rw [hbb] at hm; cases hm
        | some bb =>
          rw [ho] at hn
          rw [hbb] at hm
          cases hn
          cases hm
          cases o with
          | none => have := l1 bb (List.mem_of_getElem? hbb); exact ⟨Int.le_refl _, by show (0 : Int) < bb.many; omega⟩
          | some z => exact xr i bb z hbb ho
def spNeedRow (K : PySem.W.Frag) : Sp := fun vs H Q _ => ∃ (lk : V) (ra : Addr) (rvs : List V) (l : Lock) (row : List WishL), vs = [lk, .ref ra] ∧ LockAt K H lk l ∧ LockOk l ∧ SqT K H ra rvs ∧ Paired (WishT K H) rvs row ∧ (∀ y ∈ row, wishOk l y) ∧ 2 ≤ row.length ∧ row.length ≤ 4 ∧ ∀ H', Evl.Ex H H' → Q .non H'
theorem ok_needRow (D : Pr K mg) (Z : LeK K mg) : FnOk P w K mg base CX0 4 Z.f27 Z.d27 ["lock", "thing"] (spNeedRow K) := by
  have G3 : FnOk P w K mg base CX0 1 D.f3 D.d3 ["thing", "low", "high"] (spTupOf K) := ok_tupOf D.F3 D.B
  have GM : FnOk P w K mg base CX0 1 D.f23 D.d23 ["lock"] (spManys K) := ok_manys D
  have GW : FnOk P w K mg base CX0 3 Z.f7 Z.d7 ["thing", "manys"] (spWishedR K) := ok_wishedR D Z
  refine Z.F27.ok scNeedRow (fun vs H Q E h => ?_) (fun cdv A outer s H vs Q E hr h => ?_)
  · obtain ⟨lk, ra, rvs, l, row, rfl, _⟩ := h; rfl
  · obtain ⟨lk, ra, rvs, l, row, rfl, hlk, ok, hra, hrp, wok, r2, r4, q⟩ := h
    have hr1 : Room 1 _ := hr.mono (by decide)
    refine ⟨_, (Evl.pss_cut (ps_set (i := 2) scNeedRow.nd rfl (.inr rfl) (pe_call GM hr1 (by rfl) D.g23 D.F23.kp D.b23 .nil pass0 (pa_cons (pv 0) pa_nil)))
      (pss_one (ps_if (PW.pt (pw_or (pt_not (pt_val (pe_call G3 hr1 (by rfl) D.g3 D.F3.kp D.b3 .nil pass0 (pa_cons (pv 1) (pa_cons pe_int (pa_cons pe_int pa_nil)))))) (pw_or1 (pt_not (pt_val (pe_callB (cr_all rfl) (by rfl) D.B.all boot_all (pa_cons
          (pe_lc (own := [("wish", 3)]) (g := gName 3) (wi := iTup K (tVar 1)) (te := tCall (spWishedR K) [] E0 (tCons (tVar 3) (tCons (tVar 2) tNil))) rfl scNeedRow.nd (pi_tup (pv 1)) (blkOk_by (own := [("wish", 3)]) (N := nNeedRow) (sc := defScope sNeedRow) (by decide +kernel))
            (fun _ _ _ _ _ => pg_name (i := 3) scNeedRow.nd rfl (Or.inl rfl)) (fun _ _ _ _ _ => pts_nil)
            (fun _ _ _ _ _ => pe_call GW hr (by rfl) Z.g7 Z.F7.kp Z.b7 .nil pass0 (pa_cons (pv 3) (pa_cons (pv 2) pa_nil)))) pa_nil))))))) pss_never pss_nil))), ?_⟩
    have rl : rvs.length = row.length := Paired.len hrp
    refine ⟨fun σ H' => ∃ m, σ = [some lk, some (.ref ra), some (.ref m), none] ∧ Evl.Ex H H' ∧ H' m = some (.lst ((manysOf l).map V.int)), ?_, ?_⟩
    · refine ⟨lk, rfl, lk, l, rfl, hlk, ok.n1, fun H1 m e1 nm hm => ⟨m, rfl, e1, hm⟩⟩
    rintro _ H1 ⟨m, rfl, e1, hm⟩
    refine ⟨.ref ra, rfl, ra, rvs, 2, 4, rfl, Evl.ex_t e1 hra, _, rfl, ?_⟩
    have d1 : (decide ((2 : Int) ≤ (rvs.length : Int)) && decide ((rvs.length : Int) ≤ 4)) = true := by
      rw [rl]
      simp
      omega
    rw [d1]
    refine iteF ?_
    refine ⟨.ref ra, rfl, ra, rfl, ⟨_, Evl.ex_t e1 hra⟩, fun Dl hD => lc_tup (K := K) (a := ra) (xs := rvs) (fun i H' => Evl.Ex H1 H' ∧ H' Dl = some (.lst ((List.replicate i true).map V.bl))) ⟨Evl.Ex.new hD, upd_same⟩ ?_ ?_ ?_⟩
    · rintro i H' _ ⟨e, _⟩
      exact Evl.ex_t (e1.trans e) hra
    · rintro i x H' hi ⟨e, eD⟩
      obtain ⟨y, hy, hyT⟩ := Paired.get1 hrp hi
      obtain ⟨ya, rfl, hya⟩ := id hyT
      refine ⟨rfl, .ref ya, rfl, .ref m, rfl, .ref ya, m, y, l, rfl, ⟨ya, rfl, Evl.ex_t (e1.trans e) hya⟩, e _ _ hm, wok y (List.mem_of_getElem? hy), fun b hb => ?_, ok.n1, fun H2 e2 => ?_⟩
      · obtain ⟨k, hk⟩ := List.mem_iff_getElem?.mp hb
        have := (ok.bolts k b hk).m0
        omega
      · have il := (List.getElem?_eq_some_iff.mp hi).1
        refine ⟨_, e2 _ _ eD, ?_, (e.trans e2).mut hD, ?_⟩
        · rw [List.length_map, List.length_replicate]
          exact Nat.lt_of_le_of_lt (by omega : i ≤ 4) (by decide)
        · rw [upd_same, List.replicate_succ', List.map_append]
          rfl
    · rintro H2 ⟨e, eD⟩
      refine ⟨Dl, _, rfl, .inl (.inl eD), true, ?_, ?_⟩
      · rw [all_true]
      · refine iteF ?_
        exact q H2 (e1.trans e)
def spLeast (K : PySem.W.Frag) : Sp := fun vs H Q _ => ∃ (lk : V) (ra : Addr) (rvs : List V) (l : Lock) (first : WishL) (ask : List WishL) (last : WishL), vs = [lk, .ref ra] ∧ LockAt K H lk l ∧ LockOk l ∧ SqT K H ra rvs ∧ Paired (WishT K H) rvs (first :: (ask ++ [last])) ∧ (∀ y ∈ first :: (ask ++ [last]), wishOk l y) ∧ ask.length ≤ 2 ∧
  ∀ H' o, Evl.Ex H H' → Lst (rowS l first ask last) o → Q (oT o) H'
theorem ok_least (D : Pr K mg) (Z : LeK K mg) (L : LvC K mg) (T : TbK K mg) (W : TwC K mg) (O : NoC K mg) : FnOk P w K mg base CX0 11 Z.f39 Z.d39 ["lock", "row"] (spLeast K) := by
  have GL : FnOk P w K mg base CX0 7 D.f24 D.d24 ["lock"] (spFault K) := ok_needL D
  have GR : FnOk P w K mg base CX0 4 Z.f27 Z.d27 ["lock", "thing"] (spNeedRow K) := ok_needRow D Z
  have GE : FnOk P w K mg base CX0 10 Z.f37 Z.d37 ["lock", "row", "notes"] (spEntryOf (noNotes O)) := ok_entryOf (noNotes O) L T W D.B Z.F37
  refine Z.F39.ok scLeast (fun vs H Q E h => ?_) (fun cdv A outer s H vs Q E hr h => ?_)
  · obtain ⟨lk, ra, rvs, l, first, ask, last, rfl, _⟩ := h; rfl
  · obtain ⟨lk, ra, rvs, l, first, ask, last, rfl, hlk, ok, hra, hrp, wok, a2, q⟩ := h
    have hr7 : Room 7 _ := hr.mono (by decide)
    have hr4 : Room 4 _ := hr.mono (by decide)
    refine ⟨_, (pss_cons (ps_expr (pe_call GL hr7 (by rfl) D.g24 D.F24.kp D.b24 .nil pass0 (pa_cons (pv 0) pa_nil)))
      (pss_cons (ps_expr (pe_call GR hr4 (by rfl) Z.g27 Z.F27.kp Z.b27 .nil pass0 (pa_cons (pv 0) (pa_cons (pv 1) pa_nil))))
      (Evl.pss_cut (ps_set (i := 2) scLeast.nd rfl (.inl rfl) (pe_call GE hr (by rfl) Z.g37 Z.F37.kp Z.b37 .nil pass0 (pa_cons (pv 0) (pa_cons (pv 1) (pa_cons (pe_makeO O.M (by rfl) O.g) pa_nil)))))
      (pss_one (ps_ret (pe_ifExp (pt_cmpR op_isN (pv 2) pe_non (nomark _)) pe_non (pe_ix (r := rIxT K) ix_tup (pv 2) pe_int (fun _ _ => rfl)))))))), ?_⟩
    have ll : (first :: (ask ++ [last])).length = ask.length + 2 := by rw [List.length_cons, List.length_append]; rfl
    refine ⟨lk, rfl, lk, l, rfl, hlk, ok, fun H1 e1 => ?_⟩
    refine ⟨lk, rfl, .ref ra, rfl, lk, ra, rvs, l, _, rfl, hlk.mono (TX.ex e1), ok, Evl.ex_t e1 hra, Paired.imp (fun _ _ ⟨a, r, z⟩ => ⟨a, r, Evl.ex_t e1 z⟩) hrp, wok, by omega, by omega, fun H2 e2 => ?_⟩
    have e12 := e1.trans e2
    refine ⟨fun σ H' => ∃ v o, σ = [some lk, some (.ref ra), some v] ∧ Evl.Ex H H' ∧ EntT (noNotes (P := P) (w := w) (base := base) O).NV H' v o ∧ Lst (rowS l first ask last) o, ?_, ?_⟩
    · refine ⟨lk, rfl, .ref ra, rfl, ?_⟩
      intro nt dn nnt ndn ndne
      have e3 : Evl.Ex H2 (upd (upd H2 dn (.own nt)) nt (.ins O.C dn [])) := fun c y h => by
        rw [upd_ne (fun z => by rw [z, nnt] at h; cases h), upd_ne (fun z => by rw [z, ndn] at h; cases h)]
        exact h
      have gnt : (upd (upd H2 dn (.own nt)) nt (.ins O.C dn [])) nt = some (.ins O.C dn []) := upd_same
      generalize upd (upd H2 dn (.own nt)) nt (.ins O.C dn []) = H3 at e3 gnt
      have e13 := e12.trans e3
      exact ⟨lk, ra, nt, rvs, l, first, ask, last, rfl, hlk.mono (TX.ex e13), ok, Evl.ex_t e13 hra, Paired.imp (fun _ _ ⟨a, r, z⟩ => ⟨a, r, Evl.ex_t e13 z⟩) hrp, wok, by omega, ⟨dn, gnt⟩, fun H4 v o e4 hv ho => ⟨v, o, rfl, e13.trans e4, hv, ho⟩⟩
    rintro _ H4 ⟨v, o, rfl, e4, hv, ho⟩
    cases o with
    | none =>
      obtain rfl : v = .non := hv
      refine ⟨.non, rfl, rfl, _, rfl, ?_⟩
      exact iteT (q H4 none e4 ho)
    | some p =>
      obtain ⟨a, nv, rfl, h1, _⟩ := hv
      refine ⟨.ref a, rfl, rfl, _, rfl, ?_⟩
      refine iteF ?_
      exact ⟨.ref a, rfl, a, _, 0, .int p, rfl, rfl, SqT.of h1, atI_nat (j := 0) rfl, q H4 (some p) e4 ho⟩
end
end Wb

set_option Elab.async false
set_option linter.all false
set_option maxRecDepth 100000
set_option maxHeartbeats 4000000
set_option pp.maxSteps 600
set_option pp.deepTerms false
namespace Wb
open PySem PySem.Spec PyProof.Rows L2
abbrev sPen : Stmt := topS 41
abbrev sDraw : Stmt := topS 42
theorem scPen : FnScope ["_law_script"] ["_law_script"] (defScope sPen) := ⟨rfl, rfl, rfl, by decide +kernel, rfl, by decide +kernel, by decide +kernel⟩
theorem scDraw : FnScope ["_law_pen_here", "_law_many", "_law_digit", "_law_turn", "_law_cells", "_law_cell", "_law_mixed"] ["_law_pen_here", "_law_many"] (defScope sDraw) := ⟨rfl, rfl, rfl, by decide +kernel, rfl, by decide +kernel, by decide +kernel⟩

/-! ### the pen -/
def kC : Key := .inr "cells"
def kT : Key := .inr "turn"
def kD : Key := .inr "rest"
def penD (c : Addr) (t d : Int) : List (Key × V) := [(kC, .ref c), (kT, .int t), (kD, .int d)]
theorem kTC : ¬ kC = kT := by decide +kernel
theorem kDC : ¬ kC = kD := by decide +kernel
theorem kDT : ¬ kT = kD := by decide +kernel
theorem pen_c (c : Addr) (t d : Int) : valV (penD c t d) kC = some (.ref c) := valV_pos rfl
theorem pen_t (c : Addr) (t d : Int) : valV (penD c t d) kT = some (.int t) := by
  have e : valV (penD c t d) kT = valV [(kT, V.int t), (kD, V.int d)] kT := valV_neg kTC
  rw [e]
  exact valV_pos rfl
theorem pen_d (c : Addr) (t d : Int) : valV (penD c t d) kD = some (.int d) := by
  have e : valV (penD c t d) kD = valV [(kT, V.int t), (kD, V.int d)] kD := valV_neg kDC
  have e2 : valV [(kT, V.int t), (kD, V.int d)] kD = valV [(kD, V.int d)] kD := valV_neg kDT
  rw [e, e2]
  exact valV_pos rfl
theorem put_pt (c : Addr) (t d x : Int) : putK (penD c t d) kT (.int x) = penD c x d := by
  have h1 : decide (kC = kT) = false := decide_eq_false kTC
  have h2 : decide (kD = kT) = false := decide_eq_false (fun e => kDT e.symm)
  unfold putK penD
  simp [List.any_cons, h1, h2, kTC, show ¬ kD = kT from fun e => kDT e.symm]
theorem put_pd (c : Addr) (t d x : Int) : putK (penD c t d) kD (.int x) = penD c t x := by
  unfold putK penD
  simp [List.any_cons, kDC, kDT]
def PenAt (H : Hp) (p c : Addr) (T : Int) : Prop :=
  ∃ (cells : List Int) (t d : Int), H p = some (.dK (penD c t d)) ∧ H c = some (.lst (cells.map V.int)) ∧ cells.length ≤ 63 ∧ 0 ≤ t ∧ t ≤ T ∧ 0 ≤ d
section
variable {H H' : Hp} {p c q : Addr} {T T' : Int}
theorem PenAt.ex (e : Evl.Ex H H') (h : PenAt H p c T) : PenAt H' p c T := by
  obtain ⟨cells, t, d, h1, h2, r⟩ := h
  exact ⟨cells, t, d, e _ _ h1, e _ _ h2, r⟩
/-- an object of ours that is neither the pen nor its cells has changed -/
theorem PenAt.put {o : HO} (h : PenAt H p c T) (h1 : q ≠ p) (h2 : q ≠ c) : PenAt (upd H q o) p c T := by
  obtain ⟨cells, t, d, a, b, r⟩ := h
  exact ⟨cells, t, d, by rw [upd_ne h1.symm]; exact a, by rw [upd_ne h2.symm]; exact b, r⟩
theorem PenAt.mono (h : PenAt H p c T) (l : T ≤ T') : PenAt H p c T' := by
  obtain ⟨cells, t, d, a, b, b2, t0, t1, d0⟩ := h
  exact ⟨cells, t, d, a, b, b2, t0, Int.le_trans t1 l, d0⟩
theorem PenAt.no (h : PenAt H p c T) : ∀ xs, ¬ Rd H p (.tup xs) := by
  obtain ⟨cells, t, d, a, _⟩ := h
  rintro xs (z | ⟨o, z⟩)
  · rw [a] at z; cases z
  · rw [a] at z; cases z
theorem PenAt.here (h : PenAt H p c T) : H p ≠ none := by
  obtain ⟨cells, t, d, a, _⟩ := h
  rw [a]
  exact fun z => nomatch z
theorem PenAt.new1 (h : PenAt H p c T) (n : H q = none) : q ≠ p := fun z => h.here (z ▸ n)
theorem PenAt.new2 (h : PenAt H p c T) (n : H q = none) : q ≠ c := fun z => by
  obtain ⟨cells, t, d, _, b, _⟩ := h
  rw [← z, n] at b
  cases b
theorem PenAt.tx {K : PySem.W.Frag} (h : PenAt H p c T) (e : Exx p H H') : TX K H H' := e.tx h.no
/-- a list of ours has changed -/
theorem TX.put {K : PySem.W.Frag} {l : Addr} {xs : List V} {o : HO} (h : H l = some (.lst xs)) : TX K H (upd H l o) := by
  refine ⟨fun a ys z => ?_, fun a ys z => ?_⟩
  · rcases z with (z | ⟨o', z⟩) | z
    · exact .inl (.inl (by rw [upd_ne (ne_of z h (fun q => nomatch q))]; exact z))
    · exact .inl (.inr ⟨o', by rw [upd_ne (ne_of z h (fun q => nomatch q))]; exact z⟩)
    · exact .inr z
  · rw [upd_ne (ne_of z h (fun q => nomatch q))]
    exact z
theorem Exx.mut {l : Addr} {o : HO} (e : Exx p H H') (n : H l = none) : Exx p H (upd H' l o) := fun a u na ha => by
  rw [upd_ne (ne_of_none ha n)]
  exact e a u na ha
end
theorem fresh_exx {p q : Addr} {H H' : Hp} (e : Exx p H H') (hp : H' p ≠ none) (h : H' q = none) : H q = none := by
  cases z : H q with
  | none => rfl
  | some o =>
    by_cases n : q = p
    · subst n; exact absurd h hp
    · rw [e q o n z] at h; cases h

def spPen (K : PySem.W.Frag) : Sp := fun vs H Q _ => ∃ (a : Addr) (ns : List Int), vs = [.ref a] ∧ SqL K H a (ns.map V.int) ∧ ∀ H' p, Evl.Ex H H' → H p = none → (∃ c, PenAt H' p c 0) → Q (.ref p) H'
def spDraw : Sp := fun vs H Q _ => ∃ (p c : Addr) (n T : Int), vs = [.ref p, .int n] ∧ PenAt H p c T ∧ 1 ≤ n ∧ n ≤ 1000000 ∧ T ≤ 10000000 ∧ ∀ i H', 0 ≤ i → i < n → Exx p H H' → PenAt H' p c (T + 1) → Q (.int i) H'
def spPick (K : PySem.W.Frag) : Sp := fun vs H Q _ => ∃ (p c a : Addr) (T : Int) (xs : List V), vs = [.ref p, .ref a] ∧ PenAt H p c T ∧ T ≤ 10000000 ∧ SqL K H a xs ∧ a ≠ p ∧ xs ≠ [] ∧ xs.length ≤ 1000000 ∧
  ∀ x H', x ∈ xs → Exx p H H' → PenAt H' p c (T + 1) → Q x H'

theorem ints_shaped (ns : List Int) : SeqAt.shaped (.list (ns.map PyData.int)) = true := by
  have h1 : ∀ ns : List Int, PyData.canLayAll0 (ns.map PyData.int) = true := by
    intro ns
    induction ns with
    | nil => rfl
    | cons n ns ih => simp [PyData.canLayAll0, PyData.canLay0, ih]
  have h2 : ∀ ns : List Int, PyData.depthAll (ns.map PyData.int) ≤ 1 := by
    intro ns
    induction ns with
    | nil => simp [PyData.depthAll]
    | cons n ns ih => simp [PyData.depthAll, PyData.depth]; omega
  unfold SeqAt.shaped
  simp only [PyData.canLay0, PyData.depth, h1, Bool.true_and]
  have := h2 ns
  exact decide_eq_true (by omega)
theorem dp_ints {K : PySem.W.Frag} {H : Hp} : ∀ ns : List Int, DpAll K H (ns.map V.int) (ns.map PyData.int)
  | [] => .nil
  | n :: ns => .cons (.int n) (dp_ints ns)
section
variable {P : Program} {w : World} {K : PySem.W.Frag} {mg : Str → Option Value} {base : Heap}
theorem cut63 (ns : List Int) : cutV (ns.map V.int) none (some 63) = (ns.take 63).map V.int := by
  rw [List.map_take]
  exact cut_take _ 63
theorem ok_pen {f : Addr} {fd : FuncData} (F : Fun K "_law_pen" "_law_pen" sPen f fd) (B : Bi mg) : FnOk P w K mg base CX0 1 f fd ["_law_script"] (spPen K) := by
  refine F.ok scPen (fun vs H Q E h => ?_) (fun cdv A outer s H vs Q E hr h => ?_)
  · obtain ⟨a, ns, rfl, _⟩ := h; rfl
  · obtain ⟨a, ns, rfl, hS, q⟩ := h
    refine ⟨_, pss_one (ps_ret (pe_disp (pps_cons pe_str (pe_callTy call_list_of (by rfl) B.list PyProof.Rows.boot_list (pa_cons (pe_slice sl_list (pv 0) po_none (po_some pe_int)) pa_nil)) (pps_cons pe_str pe_int (pps_cons pe_str pe_int pps_nil)))
      (by rfl) (by rfl) (fun z => by cases z) (by decide))), ?_⟩
    intro p np
    have x1 : Evl.Ex H (upd H p (.dK [])) := Evl.Ex.new np
    refine ⟨.ref a, rfl, 63, rfl, a, _, rfl, Evl.ex_l x1 hS, fun c1 n1 => ?_⟩
    rw [cut63]
    have x2 := Evl.Ex.new (o := .lst ((ns.take 63).map V.int)) n1
    refine ⟨c1, _, rfl, .inl (.inl (.inl upd_same)), fun c n2 => ?_⟩
    have x3 := Evl.Ex.new (o := .lst ((ns.take 63).map V.int)) n2
    have hp3 := x3 _ _ (x2 _ _ (upd_same (H := H) (a := p) (o := .dK [])))
    refine ⟨hp3, penD c 0 0, ?_, (by show 3 ≤ 15; decide), ?_⟩
    · rfl
    · have e : mergeK [] (penD c 0 0) = penD c 0 0 := by rfl
      rw [e]
      refine q _ p (((x1.trans x2).trans x3).mut np) np ⟨c, ns.take 63, 0, 0, upd_same, ?_, ?_, Int.le_refl _, Int.le_refl _, Int.le_refl _⟩
      · rw [upd_ne (fun z => by rw [z] at n2; rw [x2 _ _ (upd_same (H := H) (a := p) (o := .dK []))] at n2; cases n2), upd_same]
      · rw [List.length_take]
        exact Nat.min_le_left _ _
end
end Wb

set_option Elab.async false
set_option linter.all false
set_option maxRecDepth 100000
set_option maxHeartbeats 4000000
set_option pp.maxSteps 600
set_option pp.deepTerms false
namespace Wb
open PySem PySem.Spec PyProof.Rows L2
theorem bnd31 (x m : Int) (h0 : 0 < m) (h1 : m < 2 ^ 40) : -(2 ^ 64) < x % m ∧ x % m < 2 ^ 64 := by
  have a1 := Int.emod_nonneg x (show m ≠ 0 by omega)
  have a2 := Int.emod_lt_of_pos x h0
  omega
section
variable {P : Program} {w : World} {K : PySem.W.Frag} {mg : Str → Option Value} {base : Heap}
theorem ok_draw {f : Addr} {fd : FuncData} (F : Fun K "_law_draw" "_law_draw" sDraw f fd) (B : Bi mg) : FnOk P w K mg base CX0 1 f fd ["_law_pen_here", "_law_many"] spDraw := by
  refine F.ok scDraw (fun vs H Q E h => ?_) (fun cdv A outer s H vs Q E hr h => ?_)
  · obtain ⟨p, c, n, T, rfl, _⟩ := h; rfl
  · obtain ⟨p, c, n, T, rfl, ⟨cells, t, d, hp, hc, c63, t0, t1, d0⟩, n1, n2, T7, q⟩ := h
    have hu := hu_of hr
    have ncp : c ≠ p := ne_of hc hp (fun z => nomatch z)
    refine ⟨_, pss_cons (ps_if (pt_cmpR op_gt (pe_dget hu (pv 0) pe_str (fun _ _ => rfl)) pe_int (nomark _))
        (pss_cons (ps_set (i := 2) scDraw.nd rfl (.inl rfl) (pe_op op_mod (pe_dget hu (pv 0) pe_str (fun _ _ => rfl)) (pv 1)))
        (pss_cons (ps_dput hu (pv 0) pe_str (pe_op op_fdiv (pe_dget hu (pv 0) pe_str (fun _ _ => rfl)) (pv 1)) rfl)
        (pss_one (ps_ret (pv 2))))) pss_nil)
      (pss_cons (ps_par (by rfl) scDraw.nd (i := 3) (j := 4) rfl rfl (by decide) rfl rfl (pa_cons (pe_dget hu (pv 0) pe_str (fun _ _ => rfl)) (pa_cons (pe_dget hu (pv 0) pe_str (fun _ _ => rfl)) pa_nil)) (by rfl))
      (pss_cons (ps_dput hu (pv 0) pe_str (pe_op op_add (pv 3) pe_int) rfl)
      (pss_cons (ps_set (i := 5) scDraw.nd rfl (.inl rfl) (pe_op op_add (pe_op op_mul pe_int (pv 3)) pe_int))
      (Evl.pss_cut (ps_if (pt_cmpR (op_neD hr.units) (pv 4) (pe_lst pa_nil) (nomark _))
        (pss_one (ps_set (i := 5) scDraw.nd rfl (.inl rfl) (pe_op op_add (pv 5) (pe_ix ix_list (pv 4) (pe_op op_mod (pv 3) (pe_callB call_len_seq (by rfl) B.len PySem.boot_len (pa_cons (pv 4) pa_nil))) (fun _ _ => rfl))))) pss_nil)
      (Evl.pss_cut (ps_if (PW.pt (pw_and (pt_cmpR op_lt (pv 3) (pe_callB call_len_seq (by rfl) B.len PySem.boot_len (pa_cons (pv 4) pa_nil)) (nomark _)) (pw_and1 (pt_cmpR op_ge (pe_ix (r := rIxL K) ix_list (pv 4) (pv 3) (fun _ _ => rfl)) (pe_op op_pow pe_int pe_int) (nomark _)))))
        (pss_cons (ps_dput hu (pv 0) pe_str (pe_op op_fdiv (pe_op op_sub (pe_ix (r := rIxL K) ix_list (pv 4) (pv 3) (fun _ _ => rfl)) (pe_op op_pow pe_int pe_int)) (pv 1)) rfl)
        (pss_one (ps_ret (pe_op op_mod (pe_op op_sub (pe_ix (r := rIxL K) ix_list (pv 4) (pv 3) (fun _ _ => rfl)) (pe_op op_pow pe_int pe_int)) (pv 1))))) pss_nil)
      (pss_cons (ps_set (i := 6) scDraw.nd rfl (.inl rfl) (pe_op op_mod (pe_op op_add (pe_op op_mul (pv 5) pe_int) (pe_op op_mul pe_int (pv 3))) pe_int))
      (pss_cons (ps_set (i := 6) scDraw.nd rfl (.inl rfl) (pe_op op_mod (pe_op op_add (pe_op op_add (pe_op op_mul (pv 6) (pv 6)) (pe_op op_mul pe_int (pv 3))) pe_int) pe_int))
      (pss_one (ps_ret (pe_op op_mod (pe_op op_fdiv (pe_op op_mod (pe_op op_mul (pv 6) (pe_op op_add (pv 6) pe_int)) pe_int) pe_int) (pv 1))))))))))), ?_⟩
    have gD : ∀ {H' : Hp} {t' d' : Int}, H' p = some (.dK (penD c t' d')) → DGet H' p (.str "rest") (some (.int d')) := fun {H' t' d'} e => by
      have := DGet.k (k := kD) e
      rw [pen_d] at this
      exact this
    have gT : ∀ {H' : Hp} {t' d' : Int}, H' p = some (.dK (penD c t' d')) → DGet H' p (.str "turn") (some (.int t')) := fun {H' t' d'} e => by
      have := DGet.k (k := kT) e
      rw [pen_t] at this
      exact this
    have gC : ∀ {H' : Hp} {t' d' : Int}, H' p = some (.dK (penD c t' d')) → DGet H' p (.str "cells") (some (.ref c)) := fun {H' t' d'} e => by
      have := DGet.k (k := kC) e
      rw [pen_c] at this
      exact this
    have len3 : ∀ t' d', (penD c t' d').length < sizeLine := fun _ _ => (by show 3 < sizeLine; decide)
    have pD : ∀ {H' : Hp} {t' d' x : Int}, H' p = some (.dK (penD c t' d')) → DPut H' p (.str "rest") (.int x) (upd H' p (.dK (penD c t' x))) := fun {H' t' d' x} e => by
      have := DPut.k (k := kD) (v := .int x) e (len3 _ _)
      rw [put_pd] at this
      exact this
    have pT : ∀ {H' : Hp} {t' d' x : Int}, H' p = some (.dK (penD c t' d')) → DPut H' p (.str "turn") (.int x) (upd H' p (.dK (penD c x d'))) := fun {H' t' d' x} e => by
      have := DPut.k (k := kT) (v := .int x) e (len3 _ _)
      rw [put_pt] at this
      exact this
    have n0 : 0 < n := by omega
    have nb : 0 < n ∧ n < 1073741824 := ⟨n0, by omega⟩
    have tb : -(2 ^ 64) < t ∧ t < 2 ^ 64 := ⟨by omega, by omega⟩
    refine ⟨.ref p, rfl, p, .int d, rfl, gD hp, d, 0, rfl, rfl, _, rfl, ?_⟩
    refine ite2 (fun _ => ?_) (fun _ => ?_)
    · refine ⟨.ref p, rfl, p, .int d, rfl, gD hp, .int n, rfl, d, n, rfl, rfl, n0, ?_⟩
      refine ⟨.ref p, rfl, p, .int d, rfl, gD hp, .int n, rfl, d, n, rfl, rfl, nb, .ref p, rfl, p, _, rfl, pD hp, .int (d % n), rfl, ?_⟩
      refine q _ _ (Int.emod_nonneg _ (by omega)) (Int.emod_lt_of_pos _ n0) Exx.put ⟨cells, t, d / n, upd_same, by rw [upd_ne ncp]; exact hc, c63, t0, by omega, Int.ediv_nonneg d0 (by omega)⟩
    refine ⟨.ref p, rfl, p, .int t, rfl, gT hp, .ref p, rfl, p, .ref c, rfl, gC hp, ?_⟩
    refine ⟨_, _, rfl, ?_⟩
    refine ⟨.int t, rfl, t, 1, rfl, rfl, .ref p, rfl, p, _, rfl, pT hp, ?_⟩
    have x1 : Exx p H (upd H p (.dK (penD c (t + 1) d))) := Exx.put
    have hp1 : (upd H p (.dK (penD c (t + 1) d))) p = some (.dK (penD c (t + 1) d)) := upd_same
    have hc1 : (upd H p (.dK (penD c (t + 1) d))) c = some (.lst (cells.map V.int)) := by rw [upd_ne ncp]; exact hc
    generalize upd H p (.dK (penD c (t + 1) d)) = H1 at x1 hp1 hc1
    refine ⟨.int t, rfl, 19, t, rfl, rfl, .inl (by decide), _, 3, rfl, rfl, ?_⟩
    refine ⟨fun σ H' => ∃ cell : Int, σ = [some (.ref p), some (.int n), none, some (.int t), some (.ref c), some (.int cell), none] ∧ Evl.Ex H1 H', ?_, ?_⟩
    · refine ⟨.ref c, rfl, Nat.zero_le _, fun e ne => ?_⟩
      have e1 := Evl.Ex.new (o := .lst []) ne
      have hc2 := e1 _ _ hc1
      refine ⟨.list (cells.map PyData.int), .list [], .lst (.inl (.inl hc2)) (dp_ints cells), .lst (.inl (.inl upd_same)) .nil, ints_shaped cells, (by decide), _, rfl, ?_⟩
      cases hcells : cells with
      | nil =>
        refine iteF ?_
        exact ⟨_, rfl, e1⟩
      | cons c0 cs =>
        refine iteT ?_
        have lp : 0 < cells.length := by rw [hcells]; exact Nat.succ_pos _
        have hlt : (t % (cells.length : Int)).toNat < cells.length := by
          have h1 := Int.emod_nonneg t (show (cells.length : Int) ≠ 0 by omega)
          have h2 := Int.emod_lt_of_pos t (show (0 : Int) < cells.length by omega)
          omega
        have hix : ((t % (cells.length : Int)).toNat : Int) = t % ((cells.map V.int).length : Nat) := by
          have h1 := Int.emod_nonneg t (show (cells.length : Int) ≠ 0 by omega)
          rw [List.length_map]
          omega
        refine ⟨_, rfl, .ref c, rfl, .int t, rfl, .ref c, rfl, c, _, rfl, .inl (.inl (.inl hc2)), t, _, rfl, rfl, (by rw [List.length_map]; omega), c, _, _, .int (cells[(t % (cells.length : Int)).toNat]), rfl, rfl, .inl (.inl hc2), ?_, _, _, rfl, rfl, ?_⟩
        · rw [← hix]
          exact atI_nat (map_int_get (List.getElem?_eq_getElem hlt))
        · exact ⟨_, rfl, e1⟩
    rintro σ H2 ⟨cell, rfl, e2⟩
    have hp2 := e2 _ _ hp1
    have hc2 := e2 _ _ hc1
    have x2 := x1.trans (Exx.ex e2)
    have fin : ∀ i : Int, 0 ≤ i → i < n → Q (.int i) H2 := fun i h1 h2 => q i H2 h1 h2 x2 ⟨cells, t + 1, d, hp2, hc2, c63, by omega, by omega, d0⟩
    have p18 : (0 : Int) ≤ 18 ∧ (18 : Int) ≤ 1000000 ∧ (10 : Int).natAbs < 2 ^ 64 := by decide
    refine ⟨fun σ H' => σ = [some (.ref p), some (.int n), none, some (.int t), some (.ref c), some (.int cell), none] ∧ H2 = H', ?_, ?_⟩
    · refine ⟨.int t, rfl, .ref c, rfl, c, _, rfl, .inl (.inl (.inl hc2)), t, _, rfl, rfl, _, rfl, ?_⟩
      refine ite2 (fun hlt => ?_) (fun _ => ?_)
      · have tl : t.toNat < cells.length := by
          have := of_decide_eq_true hlt
          rw [List.length_map] at this
          omega
        have et : ((t.toNat : Nat) : Int) = t := by omega
        have hat : atI (cells.map V.int) t = some (.int cells[t.toNat]) := by
          have := atI_nat (map_int_get (List.getElem?_eq_getElem tl))
          rwa [et] at this
        refine ⟨.ref c, rfl, .int t, rfl, c, _, t, .int cells[t.toNat], rfl, rfl, .inl (.inl hc2), hat, 10, 18, rfl, rfl, p18, _, _, rfl, rfl, _, rfl, ?_⟩
        refine ite2 (fun hge => ?_) (fun _ => ?_)
        · have hge' : (10 : Int) ^ (18 : Int).toNat ≤ cells[t.toNat] := of_decide_eq_true hge
          refine ⟨.ref c, rfl, .int t, rfl, c, _, t, .int cells[t.toNat], rfl, rfl, .inl (.inl hc2), hat, 10, 18, rfl, rfl, p18, _, _, rfl, rfl, .int n, rfl, _, n, rfl, rfl, nb, .ref p, rfl, p, _, rfl, pD hp2, ?_⟩
          have hc3 : (upd H2 p (.dK (penD c (t + 1) ((cells[t.toNat] - 10 ^ (18 : Int).toNat) / n)))) c = some (.lst (cells.map V.int)) := by rw [upd_ne ncp]; exact hc2
          refine ⟨.ref c, rfl, .int t, rfl, c, _, t, .int cells[t.toNat], rfl, rfl, .inl (.inl hc3), hat, 10, 18, rfl, rfl, p18, _, _, rfl, rfl, .int n, rfl, _, n, rfl, rfl, n0, ?_⟩
          exact q _ _ (Int.emod_nonneg _ (by omega)) (Int.emod_lt_of_pos _ n0) (x2.trans Exx.put) ⟨cells, t + 1, _, upd_same, hc3, c63, by omega, by omega, Int.ediv_nonneg (by omega) (by omega)⟩
        · exact ⟨rfl, rfl⟩
      · exact ⟨rfl, rfl⟩
    rintro σ _ ⟨rfl, rfl⟩
    have m1 : (0 : Int) < 2147483629 := by decide
    have m2 : (0 : Int) < 2147483587 := by decide
    have m3 : (0 : Int) < 2147483579 := by decide
    refine ⟨.int cell, rfl, cell, 48271, rfl, rfl, .inr (by decide), .int t, rfl, 7919, t, rfl, rfl, .inl (by decide), _, _, rfl, rfl, _, _, rfl, rfl, m1, ?_⟩
    refine ⟨_, rfl, _, rfl, _, _, rfl, rfl, .inl (bnd31 _ _ m1 (by decide)), .int t, rfl, 40692, t, rfl, rfl, .inl (by decide), _, _, rfl, rfl, _, 11, rfl, rfl, _, _, rfl, rfl, m2, ?_⟩
    refine ⟨_, rfl, _, rfl, _, 69621, rfl, rfl, _, _, rfl, rfl, .inl (bnd31 _ _ m2 (by decide)), _, _, rfl, rfl, m3, _, 32, rfl, rfl, (show (0 : Int) < 32 ∧ (32 : Int) < 1073741824 by decide), .int n, rfl, _, n, rfl, rfl, n0, ?_⟩
    exact fin _ (Int.emod_nonneg _ (by omega)) (Int.emod_lt_of_pos _ n0)
end
end Wb

set_option Elab.async false
set_option linter.all false
set_option maxRecDepth 100000
set_option maxHeartbeats 4000000
set_option pp.maxSteps 600
set_option pp.deepTerms false
namespace Wb
open PySem PySem.Spec PyProof.Rows L2
abbrev sLStand : Stmt := topS 43
theorem scLStand : FnScope ["_law_pen_here", "_law_counts", "_law_many"] ["_law_pen_here", "_law_counts"] (defScope sLStand) := ⟨rfl, rfl, rfl, by decide +kernel, rfl, by decide +kernel, by decide +kernel⟩
abbrev sLPrice : Stmt := topS 44
theorem scLPrice : FnScope ["_law_pen_here", "_law_some"] ["_law_pen_here"] (defScope sLPrice) := ⟨rfl, rfl, rfl, by decide +kernel, rfl, by decide +kernel, by decide +kernel⟩
def spLStand (K : PySem.W.Frag) : Sp := fun vs H Q _ => ∃ (p c a : Addr) (T : Int) (ns : List Int), vs = [.ref p, .ref a] ∧ PenAt H p c T ∧ T ≤ 9000000 ∧ SqL K H a (ns.map V.int) ∧ a ≠ p ∧ (∀ n ∈ ns, 1 ≤ n ∧ n ≤ 1000) ∧ ns.length ≤ 60 ∧
  ∀ (H' : Hp) (z : Addr) (s : Word), Exx p H H' → PenAt H' p c (T + (ns.length : Nat)) → H z = none → H' z = some (.tup (s.map V.int)) → s.length = ns.length → (∀ (i : Nat) (x n : Int), s[i]? = some x → ns[i]? = some n → 0 ≤ x ∧ x < n) → Q (.ref z) H'
def spLPrice : Sp := fun vs H Q _ => ∃ (p c : Addr) (T : Int), vs = [.ref p] ∧ PenAt H p c T ∧ T ≤ 9000000 ∧ ∀ (H' : Hp) (x : Int), Exx p H H' → PenAt H' p c (T + 4) → 1 ≤ x → x ≤ 1000000 → Q (.int x) H'
section
variable {P : Program} {w : World} {K : PySem.W.Frag} {mg : Str → Option Value} {base : Heap}
theorem ok_lstand {f f1 : Addr} {fd fd1 : FuncData} (F : Fun K "_law_stand" "_law_stand" sLStand f fd) (F1 : Fun K "_law_draw" "_law_draw" sDraw f1 fd1) (b1 : Binds K fd1 ["_law_pen_here", "_law_many"] []) (g1 : mg "_law_draw" = some (.ref f1)) (B : Bi mg) :
    FnOk P w K mg base CX0 2 f fd ["_law_pen_here", "_law_counts"] (spLStand K) := by
  have G1 : FnOk P w K mg base CX0 1 f1 fd1 ["_law_pen_here", "_law_many"] spDraw := ok_draw F1 B
  refine F.ok scLStand (fun vs H Q E h => ?_) (fun cdv A outer s H vs Q E hr h => ?_)
  · obtain ⟨p, c, a, T, ns, rfl, _⟩ := h; rfl
  · obtain ⟨p, c, a, T, ns, rfl, hp, T9, ha, nap, nok, n60, q⟩ := h
    refine ⟨_, pss_one (ps_ret (pe_callTy (r := rTupKt K) call_tupKt (by rfl) B.tuple PyProof.Rows.boot_tuple (pa_cons (pe_lc (own := [("_law_many", 2)]) (g := gName 2) (wi := iList K (tVar 1)) (te := tCall spDraw [] E0 (tCons (tVar 0) (tCons (tVar 2) tNil))) rfl scLStand.nd (pi_list (pv 1)) (blkOk_by (own := [("_law_many", 2)]) (N := ["_law_pen_here", "_law_counts", "_law_many"]) (sc := defScope sLStand) (by decide +kernel))
      (fun _ _ _ _ _ => pg_name (i := 2) scLStand.nd rfl (Or.inl rfl)) (fun _ _ _ _ _ => pts_nil) (fun _ _ _ _ _ => pe_call G1 hr (by rfl) g1 F1.kp b1 .nil pass0 (pa_cons (pv 0) (pa_cons (pv 2) pa_nil)))) pa_nil))), ?_⟩
    refine ⟨.ref a, rfl, a, rfl, ⟨_, ha⟩, fun D nD => ?_⟩
    have nDp := hp.new1 nD
    have nDc := hp.new2 nD
    refine lc_list (K := K) (a := a) (xs := ns.map V.int) (fun i H' => ∃ st : Word, Exx p H H' ∧ PenAt H' p c (T + (i : Nat)) ∧ H' D = some (.lst (st.map V.int)) ∧ st.length = i ∧ ∀ (j : Nat) (x n : Int), st[j]? = some x → ns[j]? = some n → 0 ≤ x ∧ x < n)
      ⟨[], Exx.new nD, by rw [show T + ((0 : Nat) : Int) = T by omega]; exact hp.put nDp nDc, upd_same, rfl, fun j x n h => (nomatch h)⟩ ?_ ?_ ?_
    · rintro i H' _ ⟨_, e, _⟩
      exact e.l nap ha
    · rintro i x H1 hx ⟨st, e1, hp1, hD1, sl, hs⟩
      obtain ⟨n, hn, rfl⟩ := get_map_int hx
      have il := (List.getElem?_eq_some_iff.mp hn).1
      obtain ⟨n1, n2⟩ := nok n (List.mem_of_getElem? hn)
      refine ⟨rfl, .ref p, rfl, .int n, rfl, p, c, n, T + (i : Nat), rfl, hp1, n1, by omega, by omega, fun y H2 y0 y1 e2 hp2 => ?_⟩
      refine ⟨_, e2 _ _ nDp hD1, ?_, st ++ [y], (e1.trans e2).mut nD, ?_, ?_, by rw [List.length_append, sl]; rfl, ?_⟩
      · rw [List.length_map, sl]
        exact Nat.lt_of_le_of_lt (by omega : i ≤ 60) (by decide)
      · have : T + ((i + 1 : Nat) : Int) = T + (i : Nat) + 1 := by omega
        rw [this]
        exact hp2.put nDp nDc
      · rw [upd_same, List.map_append]; rfl
      · intro j x n' hx' hn'
        by_cases cj : j < st.length
        · rw [List.getElem?_append_left cj] at hx'
          exact hs j x n' hx' hn'
        · have lt := (List.getElem?_eq_some_iff.mp hx').1
          rw [List.length_append, List.length_singleton] at lt
          have ej : j = i := by omega
          subst ej
          rw [List.getElem?_append_right (by omega), show j - st.length = 0 by omega] at hx'
          cases hx'
          rw [hn] at hn'
          cases hn'
          exact ⟨y0, y1⟩
    · rintro H1 ⟨st, e1, hp1, hD1, sl, hs⟩
      rw [List.length_map] at hp1 sl
      refine ⟨D, _, rfl, .inl ⟨SqL.of hD1, fun z nz => ?_⟩⟩
      exact q _ z st (e1.trans (Exx.new nz)) (hp1.ex (Evl.Ex.new nz)) (fresh_exx e1 hp1.here nz) upd_same sl hs
theorem ok_lprice {f f1 : Addr} {fd fd1 : FuncData} (F : Fun K "_law_price" "_law_price" sLPrice f fd) (F1 : Fun K "_law_draw" "_law_draw" sDraw f1 fd1) (b1 : Binds K fd1 ["_law_pen_here", "_law_many"] []) (g1 : mg "_law_draw" = some (.ref f1)) (B : Bi mg) :
    FnOk P w K mg base CX0 2 f fd ["_law_pen_here"] spLPrice := by
  have G1 : FnOk P w K mg base CX0 1 f1 fd1 ["_law_pen_here", "_law_many"] spDraw := ok_draw F1 B
  refine F.ok scLPrice (fun vs H Q E h => ?_) (fun cdv A outer s H vs Q E hr h => ?_)
  · obtain ⟨p, c, T, rfl, _⟩ := h; rfl
  · obtain ⟨p, c, T, rfl, hp, T9, q⟩ := h
    refine ⟨_, (Evl.pss_cut (ps_set (i := 1) scLPrice.nd rfl (.inl rfl) (pe_lst (pa_cons pe_int (pa_cons pe_int (pa_cons (pe_op op_add pe_int (pe_call G1 hr (by rfl) g1 F1.kp b1 .nil pass0 (pa_cons (pv 0) (pa_cons pe_int pa_nil)))) (pa_cons (pe_op op_add pe_int (pe_call G1 hr (by rfl) g1 F1.kp b1 .nil pass0 (pa_cons (pv 0) (pa_cons pe_int pa_nil)))) pa_nil))))))
      (Evl.pss_cut (ps_set (i := 1) scLPrice.nd rfl (.inl rfl) (pe_op (r := rCat) op_cat (pv 1) (pe_lst (pa_cons (pe_op op_add pe_int (pe_call G1 hr (by rfl) g1 F1.kp b1 .nil pass0 (pa_cons (pv 0) (pa_cons pe_int pa_nil)))) (pa_cons pe_int pa_nil)))))
      (pss_one (ps_ret (pe_ix (r := rIxL K) ix_list (pv 1) (pe_call G1 hr (by rfl) g1 F1.kp b1 .nil pass0 (pa_cons (pv 0) (pa_cons pe_int pa_nil))) (fun _ _ => rfl)))))), ?_⟩
    refine ⟨fun σ H' => ∃ (a : Addr) (x y : Int), σ = [some (.ref p), some (.ref a)] ∧ Exx p H H' ∧ PenAt H' p c (T + 2) ∧ H' a = some (.lst [.int 1, .int 1, .int (1 + x), .int (1 + y)]) ∧ 0 ≤ x ∧ x < 3 ∧ 0 ≤ y ∧ y < 9, ?_, ?_⟩
    · refine ⟨.ref p, rfl, p, c, 3, T, rfl, hp, by omega, by omega, by omega, fun x H1 x0 x1 e1 hp1 => ?_⟩
      refine ⟨1, x, rfl, rfl, .ref p, rfl, p, c, 9, T + 1, rfl, hp1, by omega, by omega, by omega, fun y H2 y0 y1 e2 hp2 => ?_⟩
      refine ⟨1, y, rfl, rfl, (by show 4 ≤ sizeLine; decide), fun a na => ?_⟩
      refine ⟨a, x, y, rfl, (e1.trans e2).trans (Exx.new na), ?_, upd_same, x0, x1, y0, y1⟩
      rw [show T + 2 = T + 1 + 1 by omega]
      exact hp2.ex (Evl.Ex.new na)
    rintro _ H1 ⟨a, x, y, rfl, e1, hp1, ha, x0, x1, y0, y1⟩
    have nap : a ≠ p := fun z => by
      obtain ⟨cells, t, d, h1, _⟩ := hp1
      rw [z, h1] at ha
      cases ha
    refine ⟨fun σ H' => ∃ (a : Addr) (z : Int), σ = [some (.ref p), some (.ref a)] ∧ Exx p H H' ∧ PenAt H' p c (T + 3) ∧ H' a = some (.lst [.int 1, .int 1, .int (1 + x), .int (1 + y), .int (1 + z), .int 1000000]) ∧ 0 ≤ z ∧ z < 1000000, ?_, ?_⟩
    · refine ⟨.ref a, rfl, .ref p, rfl, p, c, 1000000, T + 2, rfl, hp1, by omega, by omega, by omega, fun z H2 z0 z1 e2 hp2 => ?_⟩
      refine ⟨1, z, rfl, rfl, (by show 2 ≤ sizeLine; decide), fun t nt => ?_⟩
      have e3 := Evl.Ex.new (o := .lst [.int (1 + z), .int 1000000]) nt
      refine ⟨a, t, _, _, rfl, rfl, e3 _ _ (e2 _ _ nap ha), upd_same, (by show 6 ≤ sizeLine; decide), fun b nb => ?_⟩
      refine ⟨b, z, rfl, ((e1.trans e2).trans (Exx.ex e3)).trans (Exx.new nb), ?_, upd_same, z0, z1⟩
      rw [show T + 3 = T + 2 + 1 by omega]
      exact (hp2.ex e3).ex (Evl.Ex.new nb)
    rintro _ H2 ⟨b, z, rfl, e2, hp2, hb, z0, z1⟩
    have nbp : b ≠ p := fun z => by
      obtain ⟨cells, t, d, h1, _⟩ := hp2
      rw [z, h1] at hb
      cases hb
    refine ⟨.ref b, rfl, .ref p, rfl, p, c, 6, T + 3, rfl, hp2, by omega, by omega, by omega, fun i H3 i0 i1 e3 hp3 => ?_⟩
    have hb3 := e3 _ _ nbp hb
    have fin : ∀ v : Int, 1 ≤ v → v ≤ 1000000 → Q (.int v) H3 := fun v h1 h2 => q H3 v (e2.trans e3) (by rw [show T + 4 = T + 3 + 1 by omega]; exact hp3) h1 h2
    have go : ∀ (n : Nat) (v : Int), i = (n : Nat) → [V.int 1, .int 1, .int (1 + x), .int (1 + y), .int (1 + z), .int 1000000][n]? = some (.int v) → 1 ≤ v → v ≤ 1000000 → ∃ (p' : Addr) (xs : List V) (i' : Int) (v' : V), V.ref b = .ref p' ∧ V.int i = .int i' ∧ SqL K H3 p' xs ∧ atI xs i' = some v' ∧ Q v' H3 := fun n v e h h1 h2 => by
      subst e
      exact ⟨b, _, (n : Nat), .int v, rfl, rfl, SqL.of hb3, atI_nat h, fin v h1 h2⟩
    have h6 : i = 0 ∨ i = 1 ∨ i = 2 ∨ i = 3 ∨ i = 4 ∨ i = 5 := by omega
    rcases h6 with h | h | h | h | h | h
    · exact go 0 1 h rfl (by omega) (by omega)
    · exact go 1 1 h rfl (by omega) (by omega)
    · exact go 2 (1 + x) h rfl (by omega) (by omega)
    · exact go 3 (1 + y) h rfl (by omega) (by omega)
    · exact go 4 (1 + z) h rfl (by omega) (by omega)
    · exact go 5 1000000 h rfl (by omega) (by omega)
end
end Wb

set_option Elab.async false
set_option linter.all false
set_option maxRecDepth 100000
set_option maxHeartbeats 4000000
set_option pp.maxSteps 900
set_option pp.deepTerms false
namespace Wb
/-! ### what the least price of a row is, without layers: no program here -/
/-- steps only -/
def Go (l : Lock) (w u : Word) (p : Int) : Prop := WayM l [] l.length w 0 u 0 p
theorem go_any {l : Lock} {ask : List WishL} {m : Nat} {w u : Word} {a c : Nat} {p : Int} (h : WayM l ask m w a u c p) : c = a → ∀ (ask' : List WishL) (a' : Nat), WayM l ask' m w a' u a' p := by
  induction h with
  | refl => exact fun _ _ _ => .refl
  | step _ hk hb hu hg hw ih => exact fun e ask' a' => .step (ih e ask' a') hk hb hu hg hw
  | meet h' _ _ _ => exact fun e => absurd h'.mono (by omega)
theorem Go.refl (l : Lock) (w : Word) : Go l w w 0 := WayM.refl
theorem Go.trans {l : Lock} {w u v : Word} {p q : Int} (a : Go l w u p) (b : Go l u v q) : Go l w v (p + q) := WayM.trans a b
theorem Go.pos {l : Lock} (ok : LockOk l) {w u : Word} {p : Int} (h : Go l w u p) : 0 ≤ p := WayM.pos (fun k b g hb hg => ((ok.bolts k b hb).gaps g hg).p0) h
/-- one wish after another is met -/
def Ch (l : Lock) : List WishL → Word → Word → Int → Prop
  | [], w, u, p => Go l w u p
  | x :: r, w, u, p => ∃ v p1 p2, Go l w v p1 ∧ meetsM l.length v x ∧ Ch l r v u p2 ∧ p = p1 + p2
theorem Ch.more {l : Lock} : ∀ {r : List WishL} {w v u : Word} {p q : Int}, Go l w v p → Ch l r v u q → Ch l r w u (p + q)
  | [], _, _, _, _, _, h, k => h.trans k
  | _ :: _, w, v, u, p, q, h, ⟨v', p1, p2, a, b, c, e⟩ => ⟨v', p + p1, p2, h.trans a, b, c, by omega⟩
theorem Ch.last {l : Lock} : ∀ {r : List WishL} {w v u : Word} {p q : Int}, Ch l r w v p → Go l v u q → Ch l r w u (p + q)
  | [], _, _, _, _, _, h, k => h.trans k
  | _ :: r, w, v, u, p, q, ⟨v', p1, p2, a, b, c, e⟩, k => ⟨v', p1, p2 + q, a, b, Ch.last c k, by omega⟩
theorem Ch.snoc {l : Lock} {x : WishL} : ∀ {r : List WishL} {w v : Word} {p : Int}, Ch l r w v p → meetsM l.length v x → Ch l (r ++ [x]) w v p
  | [], w, v, p, h, m => ⟨v, p, 0, h, m, Go.refl l v, by omega⟩
  | _ :: r, w, v, p, ⟨v', p1, p2, a, b, c, e⟩, m => ⟨v', p1, p2, a, b, Ch.snoc c m, e⟩
/-- a way with layers meets the wishes so far -/
theorem way_ch {l : Lock} {ask : List WishL} {w u : Word} {c : Nat} {p : Int} (h : WayM l ask l.length w 0 u c p) : Ch l (ask.take c) w u p := by
  induction h with
  | refl => rw [List.take_zero]; exact Go.refl l w
  | @step u c p k b g h' hk hb hu hg hw ih =>
    refine Ch.last ih ?_
    have s := WayM.step (.refl : WayM l [] l.length u 0 u 0 0) hk hb hu hg hw
    rw [Int.zero_add] at s
    exact s
  | @meet u c p x h' hx hm ih =>
    rw [take_succ_get hx]
    exact ih.snoc hm
theorem ch_way {l : Lock} {ask : List WishL} : ∀ (r : List WishL) (c : Nat) {w u : Word} {p : Int}, ask.drop c = r → Ch l r w u p → WayM l ask l.length w c u (c + r.length) p
  | [], c, w, u, p, _, h => by
    have := go_any h rfl ask c
    exact this
  | x :: r, c, w, u, p, e, ⟨v, p1, p2, a, b, k, e2⟩ => by
    have hx : ask[c]? = some x := by
      have : (ask.drop c)[0]? = some x := by rw [e]; rfl
      rw [List.getElem?_drop] at this
      exact this
    have hd : ask.drop (c + 1) = r := by
      rw [← List.drop_drop, e]; rfl
    have t := ch_way r (c + 1) hd k
    have m := WayM.meet (go_any a rfl ask c) hx b
    have z := m.trans t
    rw [e2, show c + (x :: r).length = c + 1 + r.length by rw [List.length_cons]; omega]
    exact z
theorem way_iff {l : Lock} {ask : List WishL} {w u : Word} {p : Int} : WayM l ask l.length w 0 u ask.length p ↔ Ch l ask w u p := by
  constructor
  · intro h
    have := way_ch h
    rwa [List.take_length] at this
  · intro h
    have := ch_way (ask := ask) ask 0 rfl h
    rwa [Nat.zero_add] at this
/-- a stand -/
def inr (l : Lock) (w : Word) : Prop := w.length = l.length ∧ ∀ (i : Nat) (b : Bolt) (z : Int), l[i]? = some b → w[i]? = some z → 0 ≤ z ∧ z < b.many
theorem Go.inr {l : Lock} (ok : LockOk l) {w u : Word} {p : Int} (h : Go l w u p) (hw : inr l w) : inr l u := by
  have e := WayM.inAll (fun k b g hb hg => ⟨((ok.bolts k b hb).gaps g hg).t0, ((ok.bolts k b hb).gaps g hg).t1⟩) h (ms := l.map (·.many)) (by rw [List.take_of_length_le]; rw [List.length_map]; exact Nat.le_refl _) ⟨by rw [List.length_map]; exact hw.1, fun i n k hn hk => by
    rw [List.getElem?_map] at hk
    cases hb : l[i]? with
    | none => rw [hb] at hk; cases hk
    | some b => rw [hb] at hk; cases hk; exact hw.2 i b n hb hn⟩
  refine ⟨by have := e.1; rwa [List.length_map] at this, fun i b z hb hz => e.2 i z b.many hz (by rw [List.getElem?_map, hb]; rfl)⟩
theorem stA_iff {l : Lock} (ok : LockOk l) {x : WishL} : ∀ (k : Nat) (w : Word), k ≤ l.length → (stA l x k w ↔ w.length = k ∧ (∀ (i : Nat) (b : Bolt) (z : Int), l[i]? = some b → w[i]? = some z → 0 ≤ z ∧ z < b.many) ∧ meetsM k w x)
  | 0, w, _ => by
    constructor
    · intro h
      have e : w = [] := h
      subst e
      exact ⟨rfl, fun i b z _ hz => (nomatch hz), fun i z hi => absurd hi (by omega)⟩
    · rintro ⟨h, _, _⟩
      exact List.eq_nil_of_length_eq_zero h
  | k + 1, w, hk => by
    obtain ⟨b, hb⟩ : ∃ b, l[k]? = some b := ⟨_, List.getElem?_eq_getElem (by omega)⟩
    have m0 := (ok.bolts k b hb).m0
    have em : (((l[k]?).map fun b => b.many.toNat).getD 0) = b.many.toNat := by rw [hb]; rfl
    have eX : ∀ y, stX b.many.toNat ((x[k]?).join) y ↔ (0 ≤ y ∧ y < b.many) ∧ ∀ z, x[k]? = some (some z) → z = y := fun y => by
      unfold stX
      constructor
      · rintro ⟨h1, h2, h3⟩
        refine ⟨⟨h1, by omega⟩, fun z hz => ?_⟩
        rw [hz] at h3
        rcases h3 with n | n
        · cases n
        · exact Option.some.inj n
      · rintro ⟨⟨h1, h2⟩, h3⟩
        refine ⟨h1, by omega, ?_⟩
        cases hx : x[k]? with
        | none => exact .inl rfl
        | some o =>
          cases o with
          | none => exact .inl rfl
          | some z => exact .inr (by rw [h3 z hx]; rfl)
    constructor
    · intro h
      have h' : ext1 (stA l x k) (stX (((l[k]?).map fun b => b.many.toNat).getD 0) ((x[k]?).join)) w := h
      rw [em] at h'
      obtain ⟨v, y, rfl, hv, hy⟩ := h'
      obtain ⟨v1, v2, v3⟩ := (stA_iff ok k v (by omega)).mp hv
      obtain ⟨y1, y2⟩ := (eX y).mp hy
      refine ⟨by rw [List.length_append, v1]; rfl, fun i b' z hb' hz => ?_, (meets_app v1).mpr ⟨v3, y2⟩⟩
      by_cases c : i < k
      · rw [get_app (by omega)] at hz
        exact v2 i b' z hb' hz
      · have il := (List.getElem?_eq_some_iff.mp hz).1
        rw [List.length_append, v1] at il
        have ik : i = k := by have : i < k + 1 := il; omega
        subst ik
        rw [← v1, get_last] at hz
        cases hz
        rw [hb] at hb'
        cases hb'
        exact y1
    · rintro ⟨w1, w2, w3⟩
      obtain ⟨v, y, rfl, vl⟩ := snoc_of w1
      obtain ⟨m1, m2⟩ := (meets_app vl).mp w3
      show ext1 (stA l x k) (stX (((l[k]?).map fun b => b.many.toNat).getD 0) ((x[k]?).join)) (v ++ [y])
      rw [em]
      refine ⟨v, y, rfl, (stA_iff ok k v (by omega)).mpr ⟨vl, fun i b' z hb' hz => w2 i b' z hb' (by
        have il := (List.getElem?_eq_some_iff.mp hz).1
        rw [get_app il]; exact hz), m1⟩, (eX y).mpr ⟨w2 k b y hb (by rw [← vl, get_last]), m2⟩⟩
/-- a row of wishes is met, one after another, from a stand -/
def Rw (l : Lock) : List WishL → Word → Int → Prop
  | [], _, _ => False
  | [x], w, p => meetsM l.length w x ∧ p = 0
  | x :: y :: r, w, p => meetsM l.length w x ∧ ∃ v p1 p2, Go l w v p1 ∧ Rw l (y :: r) v p2 ∧ p = p1 + p2
def RwS (l : Lock) (row : List WishL) (p : Int) : Prop := ∃ w, inr l w ∧ Rw l row w p
theorem ch_rw {l : Lock} {last : WishL} : ∀ (ask : List WishL) (x : WishL) (w : Word) (p : Int), meetsM l.length w x → ((∃ u, meetsM l.length u last ∧ Ch l ask w u p) ↔ Rw l (x :: (ask ++ [last])) w p)
  | [], x, w, p, hx => by
    constructor
    · rintro ⟨u, hu, h⟩
      exact ⟨hx, u, p, 0, h, ⟨hu, rfl⟩, by omega⟩
    · rintro ⟨_, v, p1, p2, a, ⟨b, c⟩, e⟩
      exact ⟨v, b, by rw [e, c, Int.add_zero]; exact a⟩
  | y :: r, x, w, p, hx => by
    constructor
    · rintro ⟨u, hu, v, p1, p2, a, b, c, e⟩
      exact ⟨hx, v, p1, p2, a, (ch_rw r y v p2 b).mp ⟨u, hu, c⟩, e⟩
    · rintro ⟨_, v, p1, p2, a, b, e⟩
      have hy : meetsM l.length v y := by
        cases r with
        | nil => exact b.1
        | cons z r => exact b.1
      obtain ⟨u, hu, c⟩ := (ch_rw r y v p2 hy).mpr b
      exact ⟨u, hu, v, p1, p2, a, hy, c, e⟩
theorem rowS_iff {l : Lock} (ok : LockOk l) {first last : WishL} {ask : List WishL} (p : Int) : rowS l first ask last p ↔ RwS l (first :: (ask ++ [last])) p := by
  constructor
  · rintro ⟨w, u, hw, ⟨ul, hu⟩, way⟩
    obtain ⟨w1, w2, w3⟩ := (stA_iff ok _ w (Nat.le_refl _)).mp hw
    exact ⟨w, ⟨w1, w2⟩, (ch_rw ask first w p w3).mp ⟨u, hu, way_iff.mp way⟩⟩
  · rintro ⟨w, ⟨w1, w2⟩, h⟩
    have hx : meetsM l.length w first := by
      cases ask with
      | nil => exact h.1
      | cons y r => exact h.1
    obtain ⟨u, hu, c⟩ := (ch_rw ask first w p hx).mpr h
    have way := way_iff.mpr c
    exact ⟨w, u, (stA_iff ok _ w (Nat.le_refl _)).mpr ⟨w1, w2, hx⟩, ⟨by rw [way.len, w1], hu⟩, way⟩
end Wb

set_option Elab.async false
set_option linter.all false
set_option maxRecDepth 100000
set_option maxHeartbeats 4000000
set_option pp.maxSteps 900
set_option pp.deepTerms false
namespace Wb
/-! ### rows split, opened, widened: no program here -/
section
variable {l : Lock}
theorem rw_cons {x : WishL} {r : List WishL} (h : r ≠ []) {w : Word} {p : Int} : Rw l (x :: r) w p ↔ meetsM l.length w x ∧ ∃ v p1 p2, Go l w v p1 ∧ Rw l r v p2 ∧ p = p1 + p2 := by
  cases r with
  | nil => exact absurd rfl h
  | cons y r => exact Iff.rfl
theorem Rw.fst {x : WishL} {r : List WishL} {w : Word} {p : Int} (h : Rw l (x :: r) w p) : meetsM l.length w x := by
  cases r with
  | nil => exact h.1
  | cons y r => exact h.1
/-- a whole wish: one stand -/
def whole (s : Word) : WishL := s.map some
theorem meets_whole {s w : Word} (hs : s.length = l.length) (hw : w.length = l.length) : meetsM l.length w (whole s) ↔ w = s := by
  constructor
  · intro h
    refine List.ext_getElem? fun i => ?_
    by_cases c : i < l.length
    · obtain ⟨z, hz⟩ : ∃ z, s[i]? = some z := ⟨_, List.getElem?_eq_getElem (by omega)⟩
      rw [hz]
      exact h i z c (by unfold whole; rw [List.getElem?_map, hz]; rfl)
    · rw [List.getElem?_eq_none (by omega), List.getElem?_eq_none (by omega)]
  · rintro rfl i z hi hz
    unfold whole at hz
    rw [List.getElem?_map] at hz
    cases h : w[i]? with
    | none => rw [h] at hz; cases hz
    | some y => rw [h] at hz; cases hz; rfl
theorem rw_split (ok : LockOk l) {s : Word} (hs : inr l s) {r2 : List WishL} : ∀ (r1 : List WishL) {w : Word} {p : Int}, inr l w → (Rw l (r1 ++ whole s :: r2) w p ↔ ∃ p1 p2, Rw l (r1 ++ [whole s]) w p1 ∧ Rw l (whole s :: r2) s p2 ∧ p = p1 + p2)
  | [], w, p, hw => by
    constructor
    · intro h
      have e := (meets_whole hs.1 hw.1).mp h.fst
      subst e
      exact ⟨0, p, ⟨h.fst, rfl⟩, h, by omega⟩
    · rintro ⟨p1, p2, ⟨h1, h2⟩, h3, e⟩
      have ew := (meets_whole hs.1 hw.1).mp h1
      subst ew
      rw [e, h2, Int.zero_add]
      exact h3
  | x :: r1, w, p, hw => by
    rw [List.cons_append, List.cons_append, rw_cons (by simp), ]
    constructor
    · rintro ⟨hx, v, p1, p2, a, b, e⟩
      obtain ⟨q1, q2, c1, c2, e2⟩ := (rw_split ok hs r1 (a.inr ok hw)).mp b
      exact ⟨p1 + q1, q2, (rw_cons (by simp)).mpr ⟨hx, v, p1, q1, a, c1, rfl⟩, c2, by omega⟩
    · rintro ⟨p1, p2, h1, h2, e⟩
      obtain ⟨hx, v, q1, q2, a, b, e2⟩ := (rw_cons (by simp)).mp h1
      exact ⟨hx, v, q1, q2 + p2, a, (rw_split ok hs r1 (a.inr ok hw)).mpr ⟨q2, p2, b, h2, rfl⟩, by omega⟩
theorem rwS_split (ok : LockOk l) {s : Word} (hs : inr l s) (r1 r2 : List WishL) (p : Int) : RwS l (r1 ++ whole s :: r2) p ↔ ∃ p1 p2, RwS l (r1 ++ [whole s]) p1 ∧ RwS l (whole s :: r2) p2 ∧ p = p1 + p2 := by
  constructor
  · rintro ⟨w, hw, h⟩
    obtain ⟨p1, p2, a, b, e⟩ := (rw_split ok hs r1 hw).mp h
    exact ⟨p1, p2, ⟨w, hw, a⟩, ⟨s, hs, b⟩, e⟩
  · rintro ⟨p1, p2, ⟨w, hw, a⟩, ⟨v, hv, b⟩, e⟩
    have ev := (meets_whole hs.1 hv.1).mp b.fst
    subst ev
    exact ⟨w, hw, (rw_split ok hs r1 hw).mpr ⟨p1, p2, a, b, e⟩⟩
def bothO : Option Int → Option Int → Option Int
  | some a, some b => some (a + b)
  | _, _ => none
theorem Lst.both {S T U : Int → Prop} (h : ∀ p, U p ↔ ∃ p1 p2, S p1 ∧ T p2 ∧ p = p1 + p2) {o o' : Option Int} (hs : Lst S o) (ht : Lst T o') : Lst U (bothO o o') := by
  cases o with
  | none =>
    intro p hp
    obtain ⟨p1, p2, a, _, _⟩ := (h p).mp hp
    exact hs p1 a
  | some a =>
    cases o' with
    | none =>
      intro p hp
      obtain ⟨p1, p2, _, b, _⟩ := (h p).mp hp
      exact ht p2 b
    | some b =>
      refine ⟨(h _).mpr ⟨a, b, hs.1, ht.1, rfl⟩, fun q hq => ?_⟩
      obtain ⟨p1, p2, x, y, e⟩ := (h q).mp hq
      have := hs.2 p1 x
      have := ht.2 p2 y
      omega
/-- a wish that asks nothing -/
def openW (x : WishL) : Prop := ∀ i : Nat, (x[i]?).join = none
theorem meets_open {x : WishL} (h : openW x) (n : Nat) (w : Word) : meetsM n w x := fun i z _ hz => by
  have := h i
  rw [hz] at this
  cases this
theorem rw_wide (ok : LockOk l) {x y : WishL} (hy : openW y) {r : List WishL} (hr : r ≠ []) {w : Word} {p : Int} : Rw l (x :: y :: r) w p ↔ Rw l (x :: r) w p := by
  constructor
  · rintro ⟨hx, v, p1, p2, a, b, e⟩
    obtain ⟨_, v2, q1, q2, a2, b2, e2⟩ := (rw_cons hr).mp b
    exact (rw_cons hr).mpr ⟨hx, v2, p1 + q1, q2, a.trans a2, b2, by omega⟩
  · intro h
    obtain ⟨hx, v, p1, p2, a, b, e⟩ := (rw_cons hr).mp h
    exact ⟨hx, w, 0, p, Go.refl l w, (rw_cons hr).mpr ⟨meets_open hy _ _, v, p1, p2, a, b, e⟩, by omega⟩
theorem rw_dup {x : WishL} {r : List WishL} (hr : r ≠ []) {w : Word} {p : Int} : (Rw l (x :: x :: r) w p → Rw l (x :: r) w p) ∧ (Rw l (x :: r) w p → Rw l (x :: x :: r) w p) := by
  constructor
  · rintro ⟨hx, v, p1, p2, a, b, e⟩
    obtain ⟨_, v2, q1, q2, a2, b2, e2⟩ := (rw_cons hr).mp b
    exact (rw_cons hr).mpr ⟨hx, v2, p1 + q1, q2, a.trans a2, b2, by omega⟩
  · intro h
    exact ⟨h.fst, w, 0, p, Go.refl l w, h, by omega⟩
/-- the last wish twice: the same least price -/
theorem lst_last (ok : LockOk l) {x y : WishL} {o : Option Int} (h : Lst (RwS l [x, y]) o) : Lst (RwS l [x, y, y]) o := by
  refine h.down (fun p ⟨w, hw, hx, v, p1, p2, a, ⟨b, c⟩, e⟩ => ?_) (fun p ⟨w, hw, hx, v, p1, p2, a, ⟨b, v2, q1, q2, a2, ⟨b2, c2⟩, e2⟩, e⟩ => ?_)
  · exact ⟨w, hw, hx, v, p1, p2, a, ⟨b, v, 0, 0, Go.refl l v, ⟨b, rfl⟩, by omega⟩, e⟩
  · have := a2.pos ok
    exact ⟨p1, ⟨w, hw, hx, v, p1, 0, a, ⟨b, rfl⟩, by omega⟩, by omega⟩
/-- a wish more is no cheaper -/
theorem rw_less {x y z : WishL} {p : Int} (h : RwS l [x, y, z] p) : RwS l [x, z] p := by
  obtain ⟨w, hw, hx, v, p1, p2, a, ⟨b, v2, q1, q2, a2, b2, e2⟩, e⟩ := h
  exact ⟨w, hw, hx, v2, p1 + q1, q2, a.trans a2, b2, by omega⟩
theorem meets_set {x : WishL} {k : Nat} {b : Bolt} {w : Word} (hb : l[k]? = some b) (hk : k < x.length) (hw : inr l w) : meetsM l.length w (x.set k none) ↔ ∃ z, (0 ≤ z ∧ z < b.many) ∧ meetsM l.length w (x.set k (some z)) := by
  have kl := (List.getElem?_eq_some_iff.mp hb).1
  have get : ∀ (o : Option Int) (i : Nat), (x.set k o)[i]? = if k = i then some o else x[i]? := fun o i => by
    rw [List.getElem?_set]
    by_cases c : k = i
    · rw [if_pos c, if_pos c, if_pos hk]
    · rw [if_neg c, if_neg c]
  constructor
  · intro h
    obtain ⟨z, hz⟩ : ∃ z, w[k]? = some z := ⟨_, List.getElem?_eq_getElem (by rw [hw.1]; exact kl)⟩
    refine ⟨z, hw.2 k b z hb hz, fun i y hi hy => ?_⟩
    rw [get] at hy
    by_cases c : k = i
    · rw [if_pos c] at hy
      cases hy
      rw [← c]; exact hz
    · rw [if_neg c] at hy
      exact h i y hi (by rw [get, if_neg c]; exact hy)
  · rintro ⟨z, _, h⟩ i y hi hy
    rw [get] at hy
    by_cases c : k = i
    · rw [if_pos c] at hy; cases hy
    · rw [if_neg c] at hy
      exact h i y hi (by rw [get, if_neg c]; exact hy)
/-- an open place of a wish is one of its places -/
theorem rw_open (ok : LockOk l) {x : WishL} {k : Nat} {b : Bolt} (hb : l[k]? = some b) (hk : k < x.length) {r2 : List WishL} : ∀ (r1 : List WishL) {w : Word} {p : Int}, inr l w → (Rw l (r1 ++ x.set k none :: r2) w p ↔ ∃ z, (0 ≤ z ∧ z < b.many) ∧ Rw l (r1 ++ x.set k (some z) :: r2) w p)
  | [], w, p, hw => by
    have M := meets_set hb hk hw
    cases r2 with
    | nil =>
      constructor
      · rintro ⟨h, e⟩
        obtain ⟨z, hz, m⟩ := M.mp h
        exact ⟨z, hz, m, e⟩
      · rintro ⟨z, hz, h, e⟩
        exact ⟨M.mpr ⟨z, hz, h⟩, e⟩
    | cons y r2 =>
      constructor
      · rintro ⟨h, t⟩
        obtain ⟨z, hz, m⟩ := M.mp h
        exact ⟨z, hz, m, t⟩
      · rintro ⟨z, hz, h, t⟩
        exact ⟨M.mpr ⟨z, hz, h⟩, t⟩
  | y :: r1, w, p, hw => by
    rw [List.cons_append, rw_cons (by simp)]
    constructor
    · rintro ⟨hy, v, p1, p2, a, t, e⟩
      obtain ⟨z, hz, t'⟩ := (rw_open ok hb hk r1 (a.inr ok hw)).mp t
      exact ⟨z, hz, by rw [List.cons_append]; exact (rw_cons (by simp)).mpr ⟨hy, v, p1, p2, a, t', e⟩⟩
    · rintro ⟨z, hz, h⟩
      rw [List.cons_append] at h
      obtain ⟨hy, v, p1, p2, a, t, e⟩ := (rw_cons (by simp)).mp h
      exact ⟨hy, v, p1, p2, a, (rw_open ok hb hk r1 (a.inr ok hw)).mpr ⟨z, hz, t⟩, e⟩
theorem rwS_open (ok : LockOk l) {x : WishL} {k : Nat} {b : Bolt} (hb : l[k]? = some b) (hk : k < x.length) (r1 r2 : List WishL) (p : Int) : RwS l (r1 ++ x.set k none :: r2) p ↔ ∃ z, (0 ≤ z ∧ z < b.many) ∧ RwS l (r1 ++ x.set k (some z) :: r2) p := by
  constructor
  · rintro ⟨w, hw, h⟩
    obtain ⟨z, hz, h'⟩ := (rw_open ok hb hk r1 hw).mp h
    exact ⟨z, hz, w, hw, h'⟩
  · rintro ⟨z, hz, w, hw, h⟩
    exact ⟨w, hw, (rw_open ok hb hk r1 hw).mpr ⟨z, hz, h⟩⟩
/-- the least of some that are the least of sets that make up one -/
def lessO : List (Option Int) → Option Int
  | [] => none
  | o :: os => betterO o (lessO os)
theorem lst_less {S : Nat → Int → Prop} : ∀ {os : List (Option Int)} {i : Nat}, (∀ j o, os[j]? = some o → Lst (S (i + j)) o) → Lst (fun p => ∃ j, j < os.length ∧ S (i + j) p) (lessO os)
  | [], _, _ => fun p ⟨j, h, _⟩ => absurd h (by simp)
  | o :: os, i, h => by
    have h0 := h 0 o rfl
    have ih := lst_less (S := S) (os := os) (i := i + 1) (fun j o' ho => by
      have := h (j + 1) o' ho
      rwa [show i + (j + 1) = i + 1 + j by omega] at this)
    refine Lst.congr (fun p => ?_) (Lst.better h0 ih)
    constructor
    · rintro (z | ⟨j, hj, z⟩)
      · exact ⟨0, by simp, z⟩
      · exact ⟨j + 1, by rw [List.length_cons]; omega, by rwa [show i + (j + 1) = i + 1 + j by omega]⟩
    · rintro ⟨j, hj, z⟩
      cases j with
      | zero => exact .inl z
      | succ j => exact .inr ⟨j, by rw [List.length_cons] at hj; omega, by rwa [show i + 1 + j = i + (j + 1) by omega]⟩
end
end Wb

set_option Elab.async false
set_option linter.all false
set_option maxRecDepth 100000
set_option maxHeartbeats 4000000
set_option pp.maxSteps 600
set_option pp.deepTerms false
namespace Wb
open PySem PySem.Spec PyProof.Rows L2
abbrev sLAny : Stmt := topS 48
theorem scLAny : FnScope ["_law_pen_here", "_law_lock_here", "_law_bolt_here"] ["_law_pen_here", "_law_lock_here"] (defScope sLAny) := ⟨rfl, rfl, rfl, by decide +kernel, rfl, by decide +kernel, by decide +kernel⟩
abbrev sLBoth : Stmt := topS 49
theorem scLBoth : FnScope ["_law_one", "_law_other"] ["_law_one", "_law_other"] (defScope sLBoth) := ⟨rfl, rfl, rfl, by decide +kernel, rfl, by decide +kernel, by decide +kernel⟩
def spLAny (K : PySem.W.Frag) : Sp := fun vs H Q _ => ∃ (p c : Addr) (v : V) (l : Lock) (T : Int), vs = [.ref p, v] ∧ PenAt H p c T ∧ T ≤ 8000000 ∧ LockAt K H v l ∧ LockOk l ∧
  ∀ (H' : Hp) (z : Addr) (s : Word), Exx p H H' → PenAt H' p c (T + 200) → H' z = some (.tup (s.map V.int)) → inr l s → Q (.ref z) H'
def spLBoth : Sp := fun vs H Q _ => ∃ o o' : Option Int, vs = [oT o, oT o'] ∧ Q (oT (bothO o o')) H
section
variable {P : Program} {w : World} {K : PySem.W.Frag} {mg : Str → Option Value} {base : Heap}
theorem ok_lboth {f : Addr} {fd : FuncData} (F : Fun K "_law_both" "_law_both" sLBoth f fd) : FnOk P w K mg base CX0 1 f fd ["_law_one", "_law_other"] spLBoth := by
  refine F.ok scLBoth (fun vs H Q E h => ?_) (fun cdv A outer s H vs Q E hr h => ?_)
  · obtain ⟨o, o', rfl, _⟩ := h; rfl
  · obtain ⟨o, o', rfl, q⟩ := h
    refine ⟨_, pss_one (ps_ret (pe_ifExp (PW.pt (pw_or (pt_cmpR op_isN (pv 0) pe_non (nomark _)) (pw_or1 (pt_cmpR op_isN (pv 1) pe_non (nomark _))))) pe_non (pe_op op_add (pv 0) (pv 1)))), ?_⟩
    cases o with
    | none =>
      refine ⟨.non, rfl, rfl, _, rfl, ?_⟩
      refine iteT ?_
      exact q
    | some a =>
      refine ⟨.int a, rfl, rfl, _, rfl, ?_⟩
      refine iteF ?_
      cases o' with
      | none =>
        refine ⟨.non, rfl, rfl, _, rfl, ?_⟩
        exact iteT q
      | some b =>
        refine ⟨.int b, rfl, rfl, _, rfl, ?_⟩
        refine iteF ?_
        exact ⟨.int a, rfl, .int b, rfl, a, b, rfl, rfl, q⟩
theorem ok_lany {f f1 f2 : Addr} {fd fd1 fd2 : FuncData} (F : Fun K "_law_any" "_law_any" sLAny f fd) (F2 : Fun K "_law_stand" "_law_stand" sLStand f2 fd2) (b2 : Binds K fd2 ["_law_pen_here", "_law_counts"] []) (g2 : mg "_law_stand" = some (.ref f2))
    (F1 : Fun K "_law_draw" "_law_draw" sDraw f1 fd1) (b1 : Binds K fd1 ["_law_pen_here", "_law_many"] []) (g1 : mg "_law_draw" = some (.ref f1)) (B : Bi mg) : FnOk P w K mg base CX0 3 f fd ["_law_pen_here", "_law_lock_here"] (spLAny K) := by
  have G2 : FnOk P w K mg base CX0 2 f2 fd2 ["_law_pen_here", "_law_counts"] (spLStand K) := ok_lstand F2 F1 b1 g1 B
  refine F.ok scLAny (fun vs H Q E h => ?_) (fun cdv A outer s H vs Q E hr h => ?_)
  · obtain ⟨p, c, v, l, T, rfl, _⟩ := h; rfl
  · obtain ⟨p, c, v, l, T, rfl, hp, T8, ⟨a, bs, rfl, ha, hbs⟩, ok, q⟩ := h
    refine ⟨_, pss_one (ps_ret (pe_call G2 hr (by rfl) g2 F2.kp b2 .nil pass0 (pa_cons (pv 0) (pa_cons (pe_lc (own := [("_law_bolt_here", 2)]) (g := gName 2) (wi := iTup K (tVar 1)) (te := tOp (rIxT K) (tVar 2) (tC (.int 0))) rfl scLAny.nd (pi_tup (pv 1)) (blkOk_by (own := [("_law_bolt_here", 2)]) (N := ["_law_pen_here", "_law_lock_here", "_law_bolt_here"]) (sc := defScope sLAny) (by decide +kernel))
      (fun _ _ _ _ _ => pg_name (i := 2) scLAny.nd rfl (Or.inl rfl)) (fun _ _ _ _ _ => pts_nil) (fun _ _ _ _ _ => pe_ix (r := rIxT K) ix_tup (pv 2) pe_int (fun _ _ => rfl))) pa_nil)))), ?_⟩
    have bl : bs.length = l.length := Paired.len hbs
    have l60 := ok.n1
    refine ⟨.ref p, rfl, .ref a, rfl, a, rfl, ⟨_, ha⟩, fun D nD => ?_⟩
    refine lc_tup (K := K) (a := a) (xs := bs) (fun i H' => Evl.Ex H H' ∧ H' D = some (.lst ((manysOf (l.take i)).map V.int))) ⟨Evl.Ex.new nD, upd_same⟩ ?_ ?_ ?_
    · rintro i H' _ ⟨e, _⟩
      exact Evl.ex_t e ha
    · rintro i x H1 hx ⟨e1, hD1⟩
      obtain ⟨b, hb, ⟨ab, cb, gs, rfl, k1, k2, k3⟩⟩ := Paired.get1 hbs hx
      have il := (List.getElem?_eq_some_iff.mp hb).1
      refine ⟨rfl, .ref ab, rfl, ab, _, 0, .int b.many, rfl, rfl, Evl.ex_t e1 k1, atI_nat (j := 0) rfl, _, hD1, ?_, e1.mut nD, ?_⟩
      · unfold manysOf
        rw [List.length_map, List.length_map, List.length_take]
        exact Nat.lt_of_le_of_lt (by omega : min i l.length ≤ 60) (by decide)
      · rw [upd_same]
        unfold manysOf
        rw [take_succ_get hb, List.map_append, List.map_append]; rfl
    · rintro H1 ⟨e1, hD1⟩
      rw [bl, List.take_length] at hD1
      have ml : (manysOf l).length = l.length := by unfold manysOf; rw [List.length_map]
      refine ⟨p, c, D, T, manysOf l, rfl, hp.ex e1, by omega, SqL.of hD1, hp.new1 nD, fun n hn => ?_, by omega, fun H2 z s e2 hp2 nz hz sl hs => ?_⟩
      · unfold manysOf at hn
        obtain ⟨b, hb, rfl⟩ := List.mem_map.mp hn
        obtain ⟨k, hk⟩ := List.mem_iff_getElem?.mp hb
        have m0 := (ok.bolts k b hk).m0
        have m1 := (ok.bolts k b hk).m1
        exact ⟨by omega, by omega⟩
      · refine q H2 z s ((Exx.ex e1).trans e2) (hp2.mono (by omega)) hz ⟨by rw [sl, ml], fun i b x hb hx => hs i x b.many hx ?_⟩
        unfold manysOf
        rw [List.getElem?_map, hb]; rfl
end
end Wb

set_option Elab.async false
set_option linter.all false
set_option maxRecDepth 100000
set_option maxHeartbeats 4000000
set_option pp.maxSteps 900
set_option pp.deepTerms false
namespace Wb
open PySem PySem.Spec PyProof.Rows L2
/-! ### how laws ask least: rows made on the spot -/
theorem whole_ok {l : Lock} {s : Word} (h : inr l s) : wishOk l (whole s) := by
  refine ⟨by unfold whole; rw [List.length_map]; exact h.1, fun k b z hb hz => ?_⟩
  unfold whole at hz
  rw [List.getElem?_map] at hz
  cases hs : s[k]? with
  | none => rw [hs] at hz; cases hz
  | some y => rw [hs] at hz; cases hz; exact h.2 k b z hb hs
theorem whole_oT (s : Word) : (whole s).map oT = s.map V.int := by
  unfold whole
  rw [List.map_map]
  rfl
theorem tnil1 {σ : L2.St} {H : Hp} {F : List V → Hp → Prop} (h : F [] H) : tNil σ H F := h
theorem WishT.ex {K : PySem.W.Frag} {H H' : Hp} (e : Evl.Ex H H') {v : V} {x : WishL} (h : WishT K H v x) : WishT K H' v x := by
  obtain ⟨a, r, z⟩ := h
  exact ⟨a, r, Evl.ex_t e z⟩
theorem WishT.tx {K : PySem.W.Frag} {H H' : Hp} (e : TX K H H') {v : V} {x : WishL} (h : WishT K H v x) : WishT K H' v x := by
  obtain ⟨a, r, z⟩ := h
  exact ⟨a, r, e.1 _ _ z⟩
theorem wishT_whole {K : PySem.W.Frag} {H : Hp} {a : Addr} {s : Word} (h : H a = some (.tup (s.map V.int))) : WishT K H (.ref a) (whole s) := ⟨a, rfl, by rw [whole_oT]; exact .inl (.inl h)⟩
theorem scal_oT (o o' : Option Int) : scal (oT o) (oT o') = true := by cases o <;> cases o' <;> rfl
theorem row_parts {row : List WishL} (h2 : 2 ≤ row.length) : ∃ first ask last, row = first :: (ask ++ [last]) := by
  cases row with
  | nil => exact absurd h2 (by simp)
  | cons x r =>
    have hr : r ≠ [] := fun z => by subst z; simp at h2
    exact ⟨x, r.dropLast, r.getLast hr, by rw [List.dropLast_concat_getLast]⟩
/-- least of a row as it stands -/
theorem least_row {K : PySem.W.Frag} {H : Hp} {Q : VK} {E : XK} {lk : V} {l : Lock} {row : List WishL} {vs : List V} {t : Addr} (hlk : LockAt K H lk l) (ok : LockOk l) (ht : SqT K H t vs) (hp : Paired (WishT K H) vs row) (r2 : 2 ≤ row.length) (r4 : row.length ≤ 4) (wok : ∀ y ∈ row, wishOk l y)
    (q : ∀ H' o, Evl.Ex H H' → Lst (RwS l row) o → Q (oT o) H') : spLeast K [lk, .ref t] H Q E := by
  obtain ⟨first, ask, last, rfl⟩ := row_parts r2
  refine ⟨lk, t, vs, l, first, ask, last, rfl, hlk, ok, ht, hp, wok, ?_, fun H' o e ho => q H' o e (ho.congr fun p => rowS_iff ok p)⟩
  rw [List.length_cons, List.length_append, List.length_singleton] at r4
  omega
/-- .. of two wishes -/
theorem least_two {K : PySem.W.Frag} {H : Hp} {Q : VK} {E : XK} {lk : V} {l : Lock} {x y : WishL} {u v : V} {t : Addr} (hlk : LockAt K H lk l) (ok : LockOk l) (ht : SqT K H t [u, v]) (hx : WishT K H u x) (hy : WishT K H v y) (xok : wishOk l x) (yok : wishOk l y)
    (q : ∀ H' o, Evl.Ex H H' → Lst (RwS l [x, y]) o → Q (oT o) H') : spLeast K [lk, .ref t] H Q E :=
  least_row hlk ok ht (.cons hx (.cons hy .nil)) (by simp) (by simp) (fun z hz => by simp at hz; rcases hz with rfl | rfl <;> assumption) q
/-- .. that stand in a tuple made just now -/
theorem least_now {K : PySem.W.Frag} {H : Hp} {Q : VK} {E : XK} {lk : V} {l : Lock} {x y : WishL} {u v : V} {t : Addr} (hlk : LockAt K H lk l) (ok : LockOk l) (nt : H t = none) (hx : WishT K H u x) (hy : WishT K H v y) (xok : wishOk l x) (yok : wishOk l y)
    (q : ∀ H' o, Evl.Ex H H' → Lst (RwS l [x, y]) o → Q (oT o) H') : spLeast K [lk, .ref t] (upd H t (.tup [u, v])) Q E := by
  have e := Evl.Ex.new (o := .tup [u, v]) nt
  exact least_two (hlk.mono (TX.ex e)) ok (SqT.of upd_same) (hx.ex e) (hy.ex e) xok yok fun H' o e' ho => q H' o (e.trans e') ho
end Wb

set_option Elab.async false
set_option linter.all false
set_option maxRecDepth 100000
set_option maxHeartbeats 4000000
set_option pp.maxSteps 600
set_option pp.deepTerms false
namespace Wb
open PySem PySem.Spec PyProof.Rows L2
abbrev sLesser : Stmt := topS 50
abbrev nLesser : List Str := ["_law_some", "_law_numbers", "_law_one"]
theorem scLesser : FnScope nLesser ["_law_some"] (defScope sLesser) := ⟨rfl, rfl, rfl, by decide +kernel, rfl, by decide +kernel, by decide +kernel⟩
theorem lst_lessO : ∀ os : List (Option Int), Lst (fun p => some p ∈ os) (lessO os)
  | [] => fun p h => nomatch h
  | o :: os => by
    have h0 : Lst (fun p => o = some p) o := by
      cases o with
      | none => exact fun p h => nomatch h
      | some a => exact ⟨rfl, fun q h => by cases h; exact Int.le_refl _⟩
    refine Lst.congr (fun p => ?_) (Lst.better h0 (lst_lessO os))
    rw [List.mem_cons]
    exact ⟨fun z => z.elim (fun y => .inl y.symm) .inr, fun z => z.elim (fun y => .inl y.symm) .inr⟩
def numsO (os : List (Option Int)) : List Int := os.filterMap id
theorem mem_nums {os : List (Option Int)} {p : Int} : p ∈ numsO os ↔ some p ∈ os := by
  unfold numsO
  rw [List.mem_filterMap]
  constructor
  · rintro ⟨o, h, e⟩
    have e' : o = some p := e
    rw [← e']; exact h
  · intro h
    exact ⟨_, h, rfl⟩
def spLesser : Sp := fun vs H Q _ => ∃ (a : Addr) (os : List (Option Int)), vs = [.ref a] ∧ H a = some (.lst (os.map oT)) ∧ os.length ≤ 60 ∧ ∀ H', Evl.Ex H H' → Q (oT (lessO os)) H'
section
variable {P : Program} {w : World} {K : PySem.W.Frag} {mg : Str → Option Value} {base : Heap}
theorem ok_lesser {f : Addr} {fd : FuncData} (F : Fun K "_law_lesser" "_law_lesser" sLesser f fd) (gm : mg "min" = none) (B : Bi mg) : FnOk P w K mg base CX0 1 f fd ["_law_some"] spLesser := by
  refine F.ok scLesser (fun vs H Q E h => ?_) (fun cdv A outer s H vs Q E hr h => ?_)
  · obtain ⟨a, os, rfl, _⟩ := h; rfl
  · obtain ⟨a, os, rfl, ha, o60, q⟩ := h
    refine ⟨_, (Evl.pss_cut (ps_setLc (i := 1) (own := [("_law_one", 2)]) (g := gName 2) (wi := iList K (tVar 0)) (te := tVar 2) (tt := tTest (tOp (fun x y H Q => y = V.non ∧ Q (.bl (!decide (x = .non))) H) (tVar 2) (tC .non))) rfl scLesser.nd rfl rfl rfl (pi_list (pv 0)) (blkOk_by (own := [("_law_one", 2)]) (N := nLesser) (sc := defScope sLesser) (by decide +kernel))
        (fun _ _ _ _ _ => pg_name (i := 2) scLesser.nd rfl (Or.inl rfl)) (fun _ _ _ _ _ => pts_one (pt_cmpR op_notN (pv 2) pe_non (nomark _))) (fun _ _ _ _ _ => pv 2))
      (pss_one (ps_ret (pe_ifExp (pt_cmpR (op_neD hr.units) (pv 1) (pe_lst pa_nil) (nomark _)) (pe_callB (cr_min rfl) (by rfl) gm boot_min (pa_cons (pv 1) pa_nil)) pe_non)))), ?_⟩
    refine ⟨fun σ H' => ∃ D, σ = [some (.ref a), some (.ref D), none] ∧ Evl.Ex H H' ∧ H' D = some (.lst ((numsO os).map V.int)), ?_, ?_⟩
    · refine ⟨.ref a, rfl, a, rfl, ⟨_, SqL.of ha⟩, fun D nD => ?_⟩
      refine lc_list (K := K) (a := a) (xs := os.map oT) (fun i H' => Evl.Ex H H' ∧ H' D = some (.lst ((numsO (os.take i)).map V.int))) ⟨Evl.Ex.new nD, upd_same⟩ ?_ ?_ ?_
      · rintro i H' _ ⟨e, _⟩
        exact SqL.of (e _ _ ha)
      · rintro i x H1 hx ⟨e1, hD1⟩
        rw [List.getElem?_map] at hx
        cases ho : os[i]? with
        | none => rw [ho] at hx; cases hx
        | some o =>
          rw [ho] at hx
          cases hx
          have il := (List.getElem?_eq_some_iff.mp ho).1
          have tk : numsO (os.take (i + 1)) = numsO (os.take i) ++ numsO [o] := by
            unfold numsO
            rw [take_succ_get ho, List.filterMap_append]
          refine ⟨rfl, oT o, rfl, rfl, _, rfl, ?_⟩
          cases o with
          | none =>
            refine iteF ⟨e1, ?_⟩
            rw [tk]
            show _ = some (HO.lst ((numsO (os.take i) ++ []).map V.int))
            rw [List.append_nil]
            exact hD1
          | some z =>
            refine iteT ⟨.int z, rfl, _, hD1, ?_, e1.mut nD, ?_⟩
            · have : (numsO (os.take i)).length ≤ (os.take i).length := List.length_filterMap_le _ _
              rw [List.length_map]
              rw [List.length_take] at this
              exact Nat.lt_of_le_of_lt (by omega : (numsO (os.take i)).length ≤ 60) (by decide)
            · rw [upd_same, tk, List.map_append]; rfl
      · rintro H1 ⟨e1, hD1⟩
        rw [List.length_map, List.take_length] at hD1
        exact ⟨D, rfl, e1, hD1⟩
    rintro _ H1 ⟨D, rfl, e1, hD1⟩
    refine ⟨.ref D, rfl, Nat.zero_le _, fun e ne => ?_⟩
    have e2 := Evl.Ex.new (o := .lst []) ne
    have hD2 := e2 _ _ hD1
    refine ⟨.list ((numsO os).map PyData.int), .list [], .lst (.inl (.inl hD2)) (dp_ints _), .lst (.inl (.inl upd_same)) .nil, ints_shaped _, (by decide), _, rfl, ?_⟩
    have LO := lst_lessO os
    cases hz : numsO os with
    | nil =>
      refine iteF ?_
      have : lessO os = none := by
        cases hl : lessO os with
        | none => rfl
        | some m =>
          rw [hl] at LO
          have := mem_nums.mpr LO.1
          rw [hz] at this
          cases this
      have q' := q _ (e1.trans e2)
      rw [this] at q'
      exact q'
    | cons z zs =>
      refine iteT ?_
      refine ⟨.ref D, rfl, D, numsO os, rfl, SqL.of hD2, by rw [hz]; exact Nat.succ_pos _, fun m hm hle => ?_⟩
      have L2 : Lst (fun p => some p ∈ os) (some m) := ⟨mem_nums.mp hm, fun y hy => hle y (mem_nums.mpr hy)⟩
      have := LO.unique L2
      have q' := q _ (e1.trans e2)
      rw [this] at q'
      exact q'
end
end Wb

set_option Elab.async false
set_option linter.all false
set_option maxRecDepth 100000
set_option maxHeartbeats 4000000
namespace TS
open PySem PyProof.Rows
section
variable {prog : Program} {w : World} {A : Around} {E : Value → Shared → Prop} {s : Shared}
/-- sorted of a list of tuples that are held against one another by a rank -/
theorem sorted_rank {l : Addr} {vs : List Value} {r : Value → Int} {Q : Value → Shared → Prop} (hl : s.heap.IsList l vs.toArray) (h64 : vs.length < 64)
    (hK : ∀ (h' : Heap), (∀ b o, s.heap.get? b = some o → o.cls = .type "tuple" → h'.get? b = some o) → 2 ≤ vs.length → ∀ (A' : Around) (E' : Value → Shared → Prop) (Q' : SortKind → Shared → Prop), (∀ κ, Cmp prog w A' { s with heap := h' } κ (pairsOf vs) r → Q' κ { s with heap := h' }) →
      wpAny (model prog w) A' (keyKind' vs.toArray) Q' E' { s with heap := h' })
    (h : ∀ out : Array Value, out.toList.Perm vs → out.toList.Pairwise (fun u v => r u ≤ r v) → Q (.ref (s.heap.objs.size + 1)) { s with heap := sortedAll s.heap vs out }) :
    wpAny (model prog w) A (call (.builtin "sorted") [.ref l]) Q E s := by
  refine Calls.call_function_entry kind_sorted plain_sorted entry_sorted (args_sorted1 _) ?_
  unfold Builtin.«sorted»
  refine wpAny_bind (m := checkCount "sorted" 1 1 _) (wpAny_pure ?_)
  refine wpAny_bind (collect_list hl ?_ (by rw [sizeLine_eq]; omega))
  refine wpAny_bind (wpAny_newList ?_ (by rw [sizeLine_eq]; omega))
  have hsz : ((s.heap.push (seqObj "list" #[] 0)).update s.heap.objs.size (Obj.mapSeq (· ++ vs.toArray))).objs.size = s.heap.objs.size + 1 := by
    rw [Heap.size_update, size_push']
  have hoL : (((s.heap.push (seqObj "list" #[] 0)).update s.heap.objs.size (Obj.mapSeq (· ++ vs.toArray))).push (seqObj "list" vs.toArray 0)).get? (s.heap.objs.size + 1) = some (seqObj "list" vs.toArray 0) := by
    rw [← hsz]; exact Heap.get?_push_size _ rfl
  have keep : ∀ b o, s.heap.get? b = some o → o.cls = .type "tuple" → (((s.heap.push (seqObj "list" #[] 0)).update s.heap.objs.size (Obj.mapSeq (· ++ vs.toArray))).push (seqObj "list" vs.toArray 0)).get? b = some o := fun b o q _ => by
    have hlt : b < s.heap.objs.size := Heap.lt_size q
    rw [Heap.get?_push_ne _ _ _ (by rw [hsz]; exact Nat.ne_of_lt (Nat.lt_succ_of_lt hlt)), Heap.get?_update_ne _ _ _ _ (Nat.ne_of_lt hlt), Heap.get?_push_ne _ _ _ (Nat.ne_of_lt hlt)]
    exact q
  show wpAny _ _ _ _ _ { s with heap := ((s.heap.push (seqObj "list" #[] 0)).update s.heap.objs.size (Obj.mapSeq (· ++ vs.toArray))).push (seqObj "list" vs.toArray 0) }
  rw [hsz]
  refine wpAny_bind (wpAny_holding (wpAny_call_entry slot_list_sort ⟨_, hoL, rfl⟩ entry_list_sort (SK.plain_sort (r := r) hoL h64 (fun h2 Q' hQ => ?_) fun ps out h1 h2 h3 => ⟨_, rfl, ?_⟩) (args_list_sort _)))
  · refine hK _ (fun b o e hc => ?_) h2 _ _ _ hQ
    have e1 := keep b o e hc
    refine midHeap_old ?_ e1
    rintro rfl
    rw [hoL] at e1
    have e' : seqObj "list" vs.toArray 0 = o := Option.some.inj e1
    rw [← e'] at hc
    have c' : Value.type "list" = Value.type "tuple" := hc
    injection c' with c''
    exact absurd c'' (by decide)
  · obtain ⟨p, o⟩ := out_rank h1 h2 h3
    exact wpAny_pure ⟨_, rfl, h out p o⟩
theorem eqBool_same {v : Value} {Q : Bool → Shared → Prop} (h : Q true s) : wpAny (model prog w) A (eqBool v v) Q E s := by
  unfold eqBool
  refine wpAny_holding ?_
  rw [if_pos (beq_self_eq_true v)]
  first
    | exact wpAny_bind (wpAny_rule (wpAny_pure h))
    | exact wpAny_pure h
    | exact wpAny_bind (wpAny_rule h)
/-- a gap's tuple, by the places it leads from and to -/
def G4 (h : Heap) (v : Value) (k : Int × Int) : Prop := ∃ (a : Addr) (o : Obj) (t u : Tok) (q : Int) (z : Tok) (x : Value) (n : Nat), v = .ref a ∧ h.get? a = some o ∧ o.cls = .type "tuple" ∧ o.data = .seq #[.int k.1 t, .int k.2 u, .int q z, x] n
theorem G4.keeps {h h' : Heap} {v : Value} {k : Int × Int} (x : G4 h v k) (kp : ∀ b o, h.get? b = some o → o.cls = .type "tuple" → h'.get? b = some o) : G4 h' v k := by
  obtain ⟨a, o, t, u, q, z, y, n, e, ho, hc, hd⟩ := x
  exact ⟨a, o, t, u, q, z, y, n, e, kp _ _ ho hc, hc, hd⟩
theorem g4_firsts {h : Heap} {k : Value → Int × Int} : ∀ vs : List Value, (∀ v ∈ vs, G4 h v (k v)) → ∃ fs, PySem.W.KatTups h vs fs ∧ fs.length = vs.length ∧ ∀ f, f ∈ fs → ∃ n t, f = Value.int n t
  | [], _ => ⟨[], PySem.W.KatTups.nil, rfl, fun f hf => by simp at hf⟩
  | v :: vs, x => by
    obtain ⟨fs, kt, hl, hi⟩ := g4_firsts vs fun u hu => x u (List.mem_cons_of_mem _ hu)
    obtain ⟨a, o, t, u, q, z, y, n, e, ho, hc, hd⟩ := x v (List.mem_cons_self ..)
    subst e
    refine ⟨.int (k (.ref a)).1 t :: fs, PySem.W.KatTups.cons ho hc hd rfl kt, by simp [hl], fun f hf => ?_⟩
    rcases List.mem_cons.mp hf with rfl | hf
    · exact ⟨_, _, rfl⟩
    · exact hi f hf
/-- a rank of pairs of places below 4 -/
def rk4 (k : Int × Int) : Int := 4 * k.1 + k.2
theorem g4_kind {vs : List Value} {k : Value → Int × Int} (h2 : 2 ≤ vs.length) (x : ∀ v ∈ vs, G4 s.heap v (k v)) (bd : ∀ v ∈ vs, 0 ≤ (k v).1 ∧ (k v).1 < 4 ∧ 0 ≤ (k v).2 ∧ (k v).2 < 4) (inj : ∀ v ∈ vs, ∀ u ∈ vs, k v = k u → v = u) (Q : SortKind → Shared → Prop)
    (h : ∀ κ, Cmp prog w A s κ (pairsOf vs) (fun v => rk4 (k v)) → Q κ s) : wpAny (model prog w) A (keyKind' vs.toArray) Q E s := by
  obtain ⟨fs, kt, hl, hi⟩ := g4_firsts vs x
  refine PySem.W.kat_kind (T := Value.type "int") kt (by omega) (fun f hf => ?_) rfl (h _ ?_)
  · obtain ⟨n, t, rfl⟩ := hi f hf
    exact PySem.W.Looks.of_pure rfl
  · intro p q hp hq Q' E' hQ
    rw [pairsOf_toList] at hp hq
    have mp := (mem_zip_self hp).2
    have mq := (mem_zip_self hq).2
    obtain ⟨p1, p2, p3, p4⟩ := bd _ mp
    obtain ⟨q1, q2, q3, q4⟩ := bd _ mq
    have ij := inj _ mp _ mq
    obtain ⟨a, o, t, u, c, z, y, n, e, ho, hc, hd⟩ := x _ mp
    obtain ⟨a', o', t', u', c', z', y', n', e', ho', hc', hd'⟩ := x _ mq
    have hQ' : Q' (decide (rk4 (k p.1) < rk4 (k q.1))) s := hQ
    unfold rk4 at hQ'
    generalize k p.1 = kp at p1 p2 p3 p4 hQ' hd ij
    generalize k q.1 = kq at q1 q2 q3 q4 hQ' hd' ij
    rw [e, e'] at ij
    rw [e, e']
    refine PySem.W.kat_lt ho hd ho' hd' ?_
    show PySem.W.KatLex prog w A _ (decide (4 < 4)) _ [(.int kp.1 t, .int kq.1 t'), (.int kp.2 u, .int kq.2 u'), (.int c z, .int c' z'), (y, y')] 0 s
    refine PySem.W.kat_cons (wpAny_eqBool_int ?_)
    refine PySem.W.kat_go (fun e1 => ?_) (fun e1 => ?_)
    · have ex : kp.1 = kq.1 := by simpa using e1
      refine PySem.W.kat_yes (PySem.W.kat_cons (wpAny_eqBool_int ?_))
      refine PySem.W.kat_go (fun e2 => ?_) (fun e2 => ?_)
      · have ey : kp.2 = kq.2 := by simpa using e2
        have same : Value.ref a = Value.ref a' := ij (Prod.ext ex ey)
        cases same
        rw [ho] at ho'
        cases ho'
        have E1 : Data.seq #[Value.int kp.1 t, .int kp.2 u, .int c z, y] n = Data.seq #[Value.int kq.1 t', .int kq.2 u', .int c' z', y'] n' := hd.symm.trans hd'
        injection E1 with E2 _
        have E3 := congrArg Array.toList E2
        simp only [List.cons.injEq, Value.int.injEq] at E3
        obtain ⟨_, _, ⟨rfl, rfl⟩, rfl, _⟩ := E3
        have d : decide (4 * kp.1 + kp.2 < 4 * kq.1 + kq.2) = false := decide_eq_false (by omega)
        rw [d] at hQ'
        refine PySem.W.kat_yes (PySem.W.kat_cons (eqBool_same ?_))
        refine PySem.W.kat_yes (PySem.W.kat_cons (eqBool_same ?_))
        exact PySem.W.kat_yes (PySem.W.kat_nil hQ')
      · have ey : ¬ kp.2 = kq.2 := by simpa using e2
        have d : decide (4 * kp.1 + kp.2 < 4 * kq.1 + kq.2) = decide (kp.2 < kq.2) := decide_eq_decide.mpr (by omega)
        rw [d] at hQ'
        exact PySem.W.kat_no (oneLt_ints _ hQ')
    · have ex : ¬ kp.1 = kq.1 := by simpa using e1
      have d : decide (4 * kp.1 + kp.2 < 4 * kq.1 + kq.2) = decide (kp.1 < kq.1) := decide_eq_decide.mpr (by omega)
      rw [d] at hQ'
      exact PySem.W.kat_no (oneLt_ints _ hQ')
end
end TS
namespace Wb
open PySem PySem.Spec PyProof.Rows L2
/-- sorted(xs), xs a list of gaps' tuples, no two of which lead from and to the same places -/
def rSortG (K : PySem.W.Frag) : List V → Hp → VK → Prop := fun vs H Q => ∃ (a : Addr) (xs : List V) (k : V → Int × Int), vs = [V.ref a] ∧ SqL K H a xs ∧ xs.length < 64 ∧
  (∀ x ∈ xs, ∃ (t : Addr) (q : Int) (y : V), x = .ref t ∧ SqT K H t [.int (k x).1, .int (k x).2, .int q, y] ∧ 0 ≤ (k x).1 ∧ (k x).1 < 4 ∧ 0 ≤ (k x).2 ∧ (k x).2 < 4) ∧ (∀ x ∈ xs, ∀ y ∈ xs, k x = k y → x = y) ∧
  ∀ (ys : List V) (p : Addr), ys.Perm xs → ys.Pairwise (fun x y => TS.rk4 (k x) ≤ TS.rk4 (k y)) → H p = none → Q (.ref p) (upd H p (.lst ys))
theorem bkV_back {us : List Value} (h : ∀ u ∈ us, ∃ a, u = Value.ref a) : ∀ u ∈ us, ∀ v ∈ us, bkV u = bkV v → u = v := fun u hu v hv e => by
  obtain ⟨a, rfl⟩ := h u hu
  obtain ⟨b, rfl⟩ := h v hv
  have e' : V.ref a = V.ref b := e
  cases e'
  rfl
theorem cr_sortG {X : Cx} : CallR X (.builtin "sorted") (rSortG X.K) := by
  intro pins s σ H vs us Q I r h
  obtain ⟨a, xs, k, rfl, hs, h64, hx, inj, q⟩ := h
  obtain ⟨its, rv, hl, hz⟩ := I.list hs
  rw [Vals.ref1 r]
  obtain ⟨e1, e2⟩ := bkV_refs rv fun x m => by
    obtain ⟨t, _, _, e, _⟩ := hx x m
    exact ⟨t, e⟩
  have mem : ∀ v ∈ its, bkV v ∈ xs := fun v hv => by rw [e1]; exact List.mem_map.mpr ⟨_, hv, rfl⟩
  have g4 : ∀ v ∈ its, TS.G4 s.heap v (k (bkV v)) := fun v hv => by
    have hm := mem v hv
    obtain ⟨t, rfl⟩ := e2 v hv
    obtain ⟨t', c, y, e, ht, _⟩ := hx _ hm
    cases e
    obtain ⟨its2, r2, ⟨o, ho, hc, n, hd⟩, _⟩ := I.tuple ht
    cases r2 with
    | cons ra r2 =>
      cases r2 with
      | cons rb r2 =>
        cases r2 with
        | cons rc r2 =>
          cases r2 with
          | cons rd r2 =>
            cases r2
            obtain ⟨t1, rfl⟩ := ra
            obtain ⟨t2, rfl⟩ := rb
            obtain ⟨t3, rfl⟩ := rc
            exact ⟨_, o, t1, t2, c, t3, _, n, rfl, ho, hc, hd⟩
  refine TS.sorted_rank (r := fun v => TS.rk4 (k (bkV v))) hl.isList (by rw [← rv.length]; exact h64) (fun h' kp h2 A' E' Q' hQ => ?_) fun out h1 h2 => ?_
  · refine TS.g4_kind (s := { s with heap := h' }) (k := fun v => k (bkV v)) h2 (fun v hv => (g4 v hv).keeps kp) (fun v hv => ?_) (fun v hv u hu e => ?_) Q' hQ
    · obtain ⟨_, _, _, _, _, b⟩ := hx _ (mem v hv)
      exact b
    · exact bkV_back e2 v hv u hu (inj _ (mem v hv) _ (mem u hu) e)
  · obtain ⟨ep, he'⟩ := PyProof.Rows.sortedAll_at s.heap its out
    have h3 : ∀ u ∈ out.toList, ∃ a, u = Value.ref a := fun u hu => e2 u (h1.mem_iff.mp hu)
    have hp : (out.toList.map bkV).Perm xs := by
      rw [e1]
      exact h1.map bkV
    have hlen : (out.toList.map bkV).length ≤ sizeLine := by
      rw [hp.length_eq]
      exact hz
    refine ⟨.ref _, upd H (s.heap.objs.size + 1) (.lst (out.toList.map bkV)), I.laid (t' := s.toks) (fun _ _ => PyProof.Rows.sortedAll_old) (Nat.le_succ _) ⟨hlen, out.toList, ep, bkV_vals h3, he'⟩, rfl, q _ _ hp ?_ (I.hok.fresh (Nat.le_succ _))⟩
    rw [List.pairwise_map]
    exact h2
/-- sorted(xs), xs a list of unlike words of as many places each -/
def rSortW (K : PySem.W.Frag) : List V → Hp → VK → Prop := fun vs H Q => ∃ (a : Addr) (xs : List V) (ws : List (List Int)) (d : Nat), vs = [V.ref a] ∧ SqL K H a xs ∧ xs.length < 64 ∧ Paired (fun v ns => ∃ t, v = V.ref t ∧ H t = some (.tup (ns.map V.int))) xs ws ∧ (∀ ns ∈ ws, ns.length = d ∧ TS.Bd 4 ns) ∧ ws.Nodup ∧
  ∀ (ys : List V) (us : List (List Int)) (p : Addr), ys.length = xs.length → Paired (fun v ns => ∃ t, v = V.ref t ∧ H t = some (.tup (ns.map V.int))) ys us → us.Perm ws → us.Pairwise (fun u v => TS.code 4 u ≤ TS.code 4 v) → H p = none → Q (.ref p) (upd H p (.lst ys))
theorem cr_sortW {X : Cx} : CallR X (.builtin "sorted") (rSortW X.K) := by
  intro pins s σ H vs us Q I r h
  obtain ⟨a, xs, ws, d, rfl, hs, h64, hp, hb, nd, q⟩ := h
  obtain ⟨its, rv, hl, hz⟩ := I.list hs
  rw [Vals.ref1 r]
  have raw : ∀ {t : Addr} {ns : List Int}, H t = some (.tup (ns.map V.int)) → TS.TupInts s.heap (.ref t) ns := fun ht => tupI_raw I (show SqT X.K H _ _ from .inl (.inl ht))
  have pr : ∀ {xs : List V} {us : List Value} {ws : List (List Int)}, Vals xs us → Paired (fun v ns => ∃ t, v = V.ref t ∧ H t = some (.tup (ns.map V.int))) xs ws →
      us.map (TS.intsOf s.heap) = ws ∧ ∀ u ∈ us, ∃ t ns, u = Value.ref t ∧ H t = some (.tup (ns.map V.int)) ∧ TS.intsOf s.heap u = ns ∧ ns ∈ ws := by
    intro xs us ws rv
    induction rv generalizing ws with
    | nil =>
      intro hp
      cases hp
      exact ⟨rfl, fun u hu => absurd hu List.not_mem_nil⟩
    | cons r1 _ ih =>
      intro hp
      cases hp with
      | cons h1 h2 =>
        obtain ⟨t, rfl, ht⟩ := h1
        cases r1
        obtain ⟨i1, i2⟩ := ih h2
        have e := (raw ht).ints
        refine ⟨by rw [List.map_cons, i1, e], fun u hu => ?_⟩
        rcases List.mem_cons.mp hu with rfl | hu
        · exact ⟨t, _, rfl, ht, e, List.mem_cons_self⟩
        · obtain ⟨t', ns, a1, a2, a3, a4⟩ := i2 u hu
          exact ⟨t', ns, a1, a2, a3, List.mem_cons_of_mem _ a4⟩
  obtain ⟨e1, e2⟩ := pr rv hp
  have xsl : its.length = ws.length := by rw [← e1, List.length_map]
  have xw : xs.length = its.length := rv.length
  have ok : TS.TupsOk s.heap d 4 its := fun v hv => by
    obtain ⟨t, ns, rfl, ht, e, hm⟩ := e2 v hv
    exact ⟨ns, raw ht, hb ns hm⟩
  refine TS.sorted_rank (r := fun v => TS.code 4 (TS.intsOf s.heap v)) hl.isList (by omega) (fun h' kp h2 A' E' Q' hQ => ?_) fun out h1 h2 => ?_
  · have d1 : 1 ≤ d := Nat.pos_of_ne_zero fun z => by
      subst z
      have emp : ∀ ns ∈ ws, ns = [] := fun ns hn => List.eq_nil_of_length_eq_zero (hb ns hn).1
      match ws, xsl, nd, emp with
      | [], l, _, _ => rw [l] at h2; simp at h2
      | [_], l, _, _ => rw [l] at h2; simp at h2
      | x :: y :: r, _, n, em =>
        have zx := em x (by simp)
        have zy := em y (by simp)
        rw [zx, zy] at n
        simp at n
    refine TS.kind_tups (s := { s with heap := h' }) d1 h2 (ok.keeps kp) _ (fun v hv ns t => ?_) Q' hQ
    obtain ⟨ns0, t0, _⟩ := ok v hv
    have e : ns = ns0 := t.ints.symm.trans (t0.keeps kp).ints
    rw [e, t0.ints]
  · obtain ⟨ep, he'⟩ := PyProof.Rows.sortedAll_at s.heap its out
    have h3 : ∀ u ∈ out.toList, ∃ a, u = Value.ref a := fun u hu => by
      obtain ⟨t, _, rfl, _⟩ := e2 u (h1.mem_iff.mp hu)
      exact ⟨t, rfl⟩
    have ol : out.toList.length = its.length := h1.length_eq
    refine ⟨.ref _, upd H (s.heap.objs.size + 1) (.lst (out.toList.map bkV)), I.laid (t' := s.toks) (fun _ _ => PyProof.Rows.sortedAll_old) (Nat.le_succ _) ⟨by rw [List.length_map, ol, ← xw]; exact hz, out.toList, ep, bkV_vals h3, he'⟩, rfl, q _ (out.toList.map (TS.intsOf s.heap)) _ (by rw [List.length_map, ol, xw]) ?_ ?_ ?_ (I.hok.fresh (Nat.le_succ _))⟩
    · have go : ∀ us : List Value, (∀ u ∈ us, u ∈ its) → Paired (fun v ns => ∃ t, v = V.ref t ∧ H t = some (.tup (ns.map V.int))) (us.map bkV) (us.map (TS.intsOf s.heap)) := by
        intro us
        induction us with
        | nil => intro _; exact .nil
        | cons u us ih =>
          intro hu
          obtain ⟨t, ns, rfl, ht, e, _⟩ := e2 u (hu u List.mem_cons_self)
          exact .cons ⟨t, rfl, by rw [e]; exact ht⟩ (ih fun v hv => hu v (List.mem_cons_of_mem _ hv))
      exact go _ fun u hu => h1.mem_iff.mp hu
    · rw [← e1]
      exact h1.map _
    · rw [List.pairwise_map]
      exact h2
end Wb

set_option Elab.async false
set_option linter.all false
set_option maxRecDepth 100000
set_option maxHeartbeats 4000000
set_option pp.maxSteps 600
set_option pp.deepTerms false
namespace Wb
open PySem PySem.Spec PyProof.Rows L2
theorem inAll_nil : InAll [] [] := ⟨rfl, fun i n m h => by simp at h⟩
theorem inAll_snoc {xs ms : List Int} {x m : Int} (h : InAll xs ms) (h0 : 0 ≤ x) (h1 : x < m) : InAll (xs ++ [x]) (ms ++ [m]) := by
  refine ⟨by rw [List.length_append, List.length_append, h.1]; rfl, fun i a b ha hb => ?_⟩
  by_cases hi : i < xs.length
  · rw [List.getElem?_append_left hi] at ha
    rw [List.getElem?_append_left (by rw [← h.1]; exact hi)] at hb
    exact h.2 i a b ha hb
  · rw [List.getElem?_append_right (by omega)] at ha
    rw [List.getElem?_append_right (by rw [← h.1]; omega)] at hb
    by_cases e : i - xs.length = 0
    · rw [e] at ha
      rw [← h.1, e] at hb
      cases ha
      cases hb
      exact ⟨h0, h1⟩
    · rw [List.getElem?_eq_none (by simp; omega)] at ha
      cases ha
theorem inAll_take {xs ms : List Int} (h : InAll xs ms) (k : Nat) : InAll (xs.take k) (ms.take k) := by
  refine ⟨by rw [List.length_take, List.length_take, h.1], fun i a b ha hb => ?_⟩
  rw [List.getElem?_take] at ha hb
  split at ha
  · rename_i hk
    rw [if_pos hk] at hb
    exact h.2 i a b ha hb
  · cases ha
/-- [draw(pen, one) for one in a list of ints] -/
theorem lc_draws {K : PySem.W.Frag} {vs : List Nat} {i : Nat} {σ : L2.St} {H : Hp} {Q : VK} {tl : TE} {wds : List Int} {p c : Addr} {T : Int} (hp : PenAt H p c T)
    (ha : ∀ Q' : VK, (∀ a H1, Exx p H H1 → PenAt H1 p c T → SqL K H1 a (wds.map V.int) → a ≠ p → Q' (.ref a) H1) → tl σ H Q')
    (hT : T ≤ 9000000) (hw : ∀ x ∈ wds, 1 ≤ x ∧ x ≤ 1000000) (hl : wds.length ≤ 100)
    (h0 : ∀ x, ((wipe σ vs).set i (some x))[0]? = some (some (.ref p))) (hi : ∀ x, ((wipe σ vs).set i (some x))[i]? = some (some x)) (hwp : ∀ x, wipe ((wipe σ vs).set i (some x)) vs = wipe σ vs)
    (q : ∀ H' D xs, Exx p H H' → PenAt H' p c (T + (wds.length : Nat)) → H D = none → H' D = some (.lst (xs.map V.int)) → InAll xs wds → Q (.ref D) H') :
    tLc (iList K tl) (gName i) tYes (tCall spDraw [] E0 (tCons (tVar 0) (tCons (tVar i) tNil))) vs σ H Q := by
  refine ha _ fun a H1 x1 hp1 ha1 nap => ⟨a, rfl, ⟨_, ha1⟩, fun D hD => ?_⟩
  have nDp : D ≠ p := hp1.new1 hD
  have nDc : D ≠ c := hp1.new2 hD
  refine lc_list (K := K) (a := a) (xs := wds.map V.int) (fun m H' => ∃ xs : List Int, Exx p H1 H' ∧ PenAt H' p c (T + (m : Nat)) ∧ H' D = some (.lst (xs.map V.int)) ∧ InAll xs (wds.take m)) ⟨[], Exx.ex (Evl.Ex.new hD), ?_, upd_same, inAll_nil⟩ ?_ ?_ ?_
  · have := hp1.put (o := .lst []) nDp nDc
    simpa using this
  · rintro m H' _ ⟨_, x, _⟩
    exact x.l nap ha1
  · rintro m x H2 hm ⟨xs, x2, hp2, hD2, hin⟩
    obtain ⟨wd, hwd, rfl⟩ := get_map_int hm
    have ml : m < wds.length := (List.getElem?_eq_some_iff.mp hwd).1
    obtain ⟨w1, w2⟩ := hw wd (List.mem_of_getElem? hwd)
    refine ⟨hwp _, ?_⟩
    refine ⟨.ref p, h0 _, .int wd, hi _, p, c, wd, _, rfl, hp2, w1, w2, by omega, fun r H3 r0 r1 x3 hp3 => ?_⟩
    have hD3 := x3 _ _ nDp hD2
    have xl : xs.length = m := by
      have := hin.1
      rw [List.length_take] at this
      omega
    refine ⟨_, hD3, Nat.lt_of_le_of_lt (by rw [List.length_map, xl]; omega : (xs.map V.int).length ≤ 100) (by decide), xs ++ [r], (x2.trans x3).mut hD, (hp3.put nDp nDc).mono (by omega), ?_, ?_⟩
    · rw [upd_same, List.map_append]
      rfl
    · rw [take_succ_get hwd]
      exact inAll_snoc hin r0 r1
  · rintro H2 ⟨xs, x2, hp2, hD2, hin⟩
    rw [List.length_map] at hp2 hin
    rw [List.take_length] at hin
    exact q H2 D xs (x1.trans x2) hp2 (fresh_exx x1 hp1.here hD) hD2 hin
def rTupK (K : PySem.W.Frag) : List V → Hp → VK → Prop := fun xs H Q => ∃ p ys, xs = [.ref p] ∧ ((SqL K H p ys ∧ ∀ l, H l = none → Q (.ref l) (upd H l (.tup ys))) ∨ (SqT K H p ys ∧ Q (.ref p) H))
theorem call_tupK {X : Cx} : CallR X (.type "tuple") (rTupK X.K) := call_tuple_of
/-! ### codes and the tuples' order -/
theorem lex_of_code {B : Int} : ∀ {u w : List Int}, u.length = w.length → TS.Bd B u → TS.Bd B w → TS.code B u ≤ TS.code B w → u ≠ w → HT.lexLt u w = true
  | [], [], _, _, _, _, ne => absurd rfl ne
  | x :: u, y :: w, hl, hu, hw, hc, ne => by
    have hl' : u.length = w.length := by simpa using hl
    have hu' : TS.Bd B u := fun m hm => hu m (List.mem_cons_of_mem _ hm)
    have hw' : TS.Bd B w := fun m hm => hw m (List.mem_cons_of_mem _ hm)
    rw [HT.lexLt_cons]
    by_cases e : x = y
    · subst e
      rw [if_pos rfl]
      refine lex_of_code hl' hu' hw' ?_ (fun z => ne (by rw [z]))
      apply Int.not_lt.mp
      intro z
      have := (TS.code_same (d := x) hl'.symm).mpr z
      omega
    · rw [if_neg e]
      apply decide_eq_true
      apply Int.not_le.mp
      intro z
      have := TS.code_lt hl'.symm hw' hu' (show y < x by omega)
      omega
  | [], _ :: _, hl, _, _, _, _ => by simp at hl
  | _ :: _, [], hl, _, _, _, _ => by simp at hl
theorem nodup_le {α : Type} [DecidableEq α] : ∀ {xs ys : List α}, xs.Nodup → (∀ x ∈ xs, x ∈ ys) → xs.length ≤ ys.length
  | [], _, _, _ => Nat.zero_le _
  | x :: xs, ys, hn, h => by
    rw [List.nodup_cons] at hn
    have hx : x ∈ ys := h x List.mem_cons_self
    have ih := nodup_le (xs := xs) (ys := ys.erase x) hn.2 (fun y hy => (List.mem_erase_of_ne (fun (e : y = x) => hn.1 (by rw [← e]; exact hy))).mpr (h y (List.mem_cons_of_mem _ hy)))
    rw [List.length_erase_of_mem hx] at ih
    have := List.length_pos_of_mem hx
    rw [List.length_cons]
    omega
theorem le_sum : ∀ {xs : List Nat} {x : Nat}, x ∈ xs → x ≤ xs.sum
  | y :: xs, x, h => by
    rw [List.sum_cons]
    rcases List.mem_cons.mp h with rfl | h
    · exact Nat.le_add_right _ _
    · have := le_sum h
      omega
theorem keys_of {K : PySem.W.Frag} {H : Hp} : ∀ {vs : List V} {ws : List Word}, Paired (Wd K H) vs ws → ∃ ks : List (Addr × List Int), vs = ks.map (fun p => V.ref p.1) ∧ ks.map (·.2) = ws ∧ ∀ p ∈ ks, H p.1 = some (.tup (p.2.map V.int))
  | [], [], _ => ⟨[], rfl, rfl, fun p hp => (by cases hp)⟩
  | v :: vs, w :: ws, h => by
    cases h with
    | cons r t =>
      obtain ⟨ks, h1, h2, h3⟩ := keys_of t
      obtain ⟨a, rfl, ha⟩ := r
      refine ⟨(a, w) :: ks, by rw [h1]; rfl, by rw [← h2]; rfl, fun p hp => ?_⟩
      rcases List.mem_cons.mp hp with rfl | hp
      · exact ha
      · exact h3 p hp
theorem rows_of_keys {K : PySem.W.Frag} {H : Hp} : ∀ {ks : List (Addr × List Int)}, (∀ p ∈ ks, H p.1 = some (.tup (p.2.map V.int))) → Paired (Wd K H) (ks.map (fun p => V.ref p.1)) (ks.map (·.2))
  | [], _ => .nil
  | k :: ks, h => .cons ⟨k.1, rfl, h k List.mem_cons_self⟩ (rows_of_keys fun p hp => h p (List.mem_cons_of_mem _ hp))
theorem take_map_succ {bases : List Word} {m : Nat} {b : Word} (k : Nat) (h : bases[m]? = some b) : (bases.take (m + 1)).map (fun u => u.take k) = (bases.take m).map (fun u => u.take k) ++ [b.take k] := by
  rw [take_succ_get h, List.map_append]
  rfl
theorem tcb1 {r : List V → Hp → VK → Prop} {X : TE} {σ : L2.St} {H : Hp} {Q : VK} (h : X σ H (fun x H1 => r [x] H1 Q)) : tCB r (tCons X tNil) σ H Q := h
theorem tcons1 {X : TE} {σ : L2.St} {H : Hp} {Q : List V → Hp → Prop} (h : X σ H (fun x H1 => Q [x] H1)) : tCons X tNil σ H Q := h
theorem tyes1 {σ : L2.St} {H : Hp} {E F : Hp → Prop} (h : E H) : tYes σ H (fun b H3 => if b = true then E H3 else F H3) := h
end Wb

set_option Elab.async false
set_option linter.all false
set_option maxRecDepth 100000
set_option maxHeartbeats 8000000
set_option pp.maxSteps 900
set_option pp.deepTerms false
namespace Wb
open PySem PySem.Spec PyProof.Rows L2
abbrev sLBolt : Stmt := topS 45
abbrev nLBolt : List Str := ["_law_pen_here", "_law_many", "_law_words", "_law_rich", "_law_found", "_law_left", "_law_here", "_law_there", "_law_is_ring", "_law_lead", "_law_most", "_law_ways", "_law_k"]
theorem scLBolt : FnScope nLBolt ["_law_pen_here", "_law_many", "_law_words", "_law_rich"] (defScope sLBolt) := ⟨rfl, rfl, rfl, by decide +kernel, rfl, by decide +kernel, by decide +kernel⟩
/-- gaps as they are drawn: left so many ways of eight -/
structure Gps (wide : Int) (ws : List Word) (gs : List Gap) (left : Int) : Prop where
  each : ∀ g ∈ gs, (0 ≤ g.frm ∧ g.frm < wide) ∧ (0 ≤ g.to_ ∧ g.to_ < wide) ∧ g.frm ≠ g.to_ ∧ (1 ≤ g.price ∧ g.price ≤ 1000000) ∧ g.ways.Pairwise (fun u w => HT.lexLt u w = true) ∧ ∀ u ∈ g.ways, u ∈ ws
  rise : gs.Pairwise (fun g h => lexLt2 g.frm g.to_ h.frm h.to_)
  sum : (((gs.map (fun g => g.ways.length)).sum : Nat) : Int) + left = 8
  left0 : 0 ≤ left
theorem gps0 {wide : Int} {ws : List Word} : Gps wide ws [] 8 := ⟨fun g hg => (by cases hg), List.Pairwise.nil, by decide, by decide⟩
/-- of a rich bolt: so many rings are still to come, and so many ways are left for them -/
def RL (rich : Bool) (wide left i j : Int) : Prop := rich = true → wide - 1 - i + (if j ≤ (i + 1) % wide then 1 else 0) ≤ left
theorem rl_start {rich : Bool} {wide left i : Int} (w : 0 < wide) (h : rich = true → wide - i ≤ left) : RL rich wide left i 0 := fun r => by
  have := h r
  have := Int.emod_nonneg (i + 1) (show wide ≠ 0 by omega)
  rw [if_pos this]; omega
theorem rl_end {rich : Bool} {wide left i : Int} (h : RL rich wide left i wide) : rich = true → wide - (i + 1) ≤ left := fun r => by
  have h1 := h r
  split at h1 <;> omega
theorem rl_stay {rich : Bool} {wide left i j : Int} (h : RL rich wide left i j) : RL rich wide left i (j + 1) := fun r => by
  have h1 := h r
  generalize (i + 1) % wide = x at h1
  split at h1 <;> split <;> omega
/-- as many ways as a gap may take -/
def mostOf (rich ring : Bool) (left : Int) (b : Bool) : Int := if rich = true then (if ring = true then 1 else 0) + (if decide (4 < left) = true then 1 else 0) else left * (if b = true then 1 else 0)
theorem rl_take {rich ring b : Bool} {wide left i j n : Int} (hr : ring = true → j = (i + 1) % wide) (hr2 : rich = true → ring = false → j ≠ (i + 1) % wide) (i0 : 0 ≤ i) (il : i < wide) (w4 : wide ≤ 4) (h : RL rich wide left i j) (l0 : 0 ≤ left) (hn : n ≤ mostOf rich ring left b) :
    n ≤ left ∧ RL rich wide (left - n) i (j + 1) := by
  unfold mostOf at hn
  cases rich with
  | false =>
    refine ⟨?_, fun r => nomatch r⟩
    rw [if_neg (by decide)] at hn
    cases b
    · simp at hn; omega
    · simp at hn; omega
  | true =>
    rw [if_pos rfl] at hn
    have h1 := h rfl
    by_cases c : 4 < left
    · rw [decide_eq_true c, if_pos rfl] at hn
      have : n ≤ 2 := by
        cases ring
        · simp at hn; omega
        · simp at hn; omega
      refine ⟨by omega, fun _ => ?_⟩
      have hn2 : ring = false → n ≤ 1 := fun e => by rw [e] at hn; simp at hn; omega
      have hr2' := hr2 rfl
      generalize hx : (i + 1) % wide = x at h1 hr hr2'
      cases ring with
      | false =>
        have := hn2 rfl
        have h2 := hr2' rfl
        split <;> omega
      | true =>
        have := hr rfl
        rw [if_neg (by omega)]
        omega
    · rw [decide_eq_false c] at hn
      have hr2' := hr2 rfl
      cases ring with
      | false =>
        simp at hn
        refine ⟨by split at h1 <;> omega, fun _ => ?_⟩
        have h2 := hr2' rfl
        generalize hx : (i + 1) % wide = x at h1 h2
        split at h1 <;> split <;> omega
      | true =>
        simp at hn
        have := hr rfl
        rw [if_pos (by omega)] at h1
        refine ⟨by omega, fun _ => ?_⟩
        rw [if_neg (by omega)]
        omega
theorem most_nn {rich ring b : Bool} {left : Int} (l0 : 0 ≤ left) : 0 ≤ mostOf rich ring left b := by
  unfold mostOf
  cases rich <;> cases ring <;> cases b <;> simp <;> (try split) <;> omega
theorem or_test {σ : L2.St} {H : Hp} {F : Bool → Hp → Prop} {p c : Addr} {T : Int} {nb : Bool} {i : Nat} {tb : TT} (h7 : σ[i]? = some (some (.bl nb))) (h0 : PenAt H p c T)
    (hb : ∀ Q : Bool → Hp → Prop, (∀ b H', Exx p H H' → PenAt H' p c T → Q b H') → tb σ H Q)
    (q : ∀ b H', Exx p H H' → PenAt H' p c T → F b H') : tOr (tB (tVar i)) tb σ H F := by
  refine ⟨.bl nb, h7, nb, rfl, ?_⟩
  cases nb with
  | true => exact iteT (q _ _ (Exx.refl p H) h0)
  | false => exact iteF (hb _ q)
def spLBolt (K : PySem.W.Frag) : Sp := fun vs H Q _ => ∃ (p c wl : Addr) (wide T : Int) (us : List V) (ws : List Word) (rich : Bool), vs = [.ref p, .int wide, .ref wl, .bl rich] ∧ PenAt H p c T ∧ T ≤ 8000000 ∧ 2 ≤ wide ∧ wide ≤ 4 ∧ wl ≠ p ∧
  H wl = some (.lst us) ∧ Paired (Wd K H) us ws ∧ 1 ≤ ws.length ∧ ws.length ≤ 8 ∧ ws.Pairwise (fun u w => HT.lexLt u w = true) ∧
  ∀ H' v gs left, Exx p H H' → PenAt H' p c (T + 400) → BoltAt K H' v ⟨wide, gs⟩ → Gps wide ws gs left → Q v H'
theorem len_most : ∀ m : Int, 2 ≤ m → m ≤ 4 → ∃ t : Int, atI [V.int 0, .int 0, .int 4, .int 3, .int 2] m = some (.int t) := fun m h0 h1 => by
  have : m = 2 ∨ m = 3 ∨ m = 4 := by omega
  rcases this with rfl | rfl | rfl
  · exact ⟨4, rfl⟩
  · exact ⟨3, rfl⟩
  · exact ⟨2, rfl⟩
section
variable {P : Program} {w : World} {K : PySem.W.Frag} {mg : Str → Option Value} {base : Heap}
set_option maxHeartbeats 16000000 in
theorem ok_lbolt {f f1 f4 : Addr} {fd fd1 fd4 : FuncData} (F : Fun K "_law_bolt" "_law_bolt" sLBolt f fd) (F1 : Fun K "_law_draw" "_law_draw" sDraw f1 fd1) (b1 : Binds K fd1 ["_law_pen_here", "_law_many"] []) (g1 : mg "_law_draw" = some (.ref f1))
    (F4 : Fun K "_law_price" "_law_price" sLPrice f4 fd4) (b4 : Binds K fd4 ["_law_pen_here"] []) (g4 : mg "_law_price" = some (.ref f4)) (B : Bi mg) :
    FnOk P w K mg base CX0 3 f fd ["_law_pen_here", "_law_many", "_law_words", "_law_rich"] (spLBolt K) := by
  have G1 : FnOk P w K mg base CX0 1 f1 fd1 ["_law_pen_here", "_law_many"] spDraw := ok_draw F1 B
  have G4 : FnOk P w K mg base CX0 2 f4 fd4 ["_law_pen_here"] spLPrice := ok_lprice F4 F1 b1 g1 B
  refine F.ok scLBolt (fun vs H Q E h => ?_) (fun cdv A outer s H vs Q E hr h => ?_)
  · obtain ⟨p, c, wl, wide, T, us, ws, rich, rfl, _⟩ := h; rfl
  · obtain ⟨p, c, wl, wide, T, us, ws, rich, rfl, hp, T8, w2, w4, nwp, hwl, hws, w1, w8, hpw, q⟩ := h
    have hr1 : Room 1 _ := hr.mono (by decide)
    refine ⟨_, (pss_cons (ps_par (by rfl) scLBolt.nd (i := 4) (j := 5) rfl rfl (by decide) rfl rfl (pa_cons (pe_lst pa_nil) (pa_cons pe_int pa_nil)) (by rfl))
 (pss_cons (ps_for PassesOwn.never rfl (pi_range1 (by rfl) B.range (pa_cons (pv 1) pa_nil)) (pg_name (i := 6) scLBolt.nd rfl (.inl rfl))
 (pss_one (ps_for PassesOwn.never rfl (pi_range1 (by rfl) B.range (pa_cons (pv 1) pa_nil)) (pg_name (i := 7) scLBolt.nd rfl (.inl rfl))
 (Evl.pss_cut (ps_set (i := 8) scLBolt.nd rfl (.inl rfl) (pe_and (pv 3) (pe_one (pe_cmpR op_eq (pv 7) (pe_op op_mod (pe_op op_add (pv 6) pe_int) (pv 1)) (nomark _)))))
 (pss_one (ps_if (PW.pt (pw_and (pt_cmpR op_ne (pv 6) (pv 7) (nomark _)) (pw_and1 (PW.pt (pw_or (pt_val (pv 8)) (pw_or1 (pt_cmpR op_lt (pe_call G1 hr1 (by rfl) g1 F1.kp b1 .nil pass0 (pa_cons (pv 0) (pa_cons pe_int pa_nil))) (pe_ix (r := rIxL K) ix_list (pe_lst (pa_cons pe_int (pa_cons pe_int (pa_cons pe_int (pa_cons pe_int (pa_cons pe_int pa_nil)))))) (pv 1) (fun _ _ => rfl)) (nomark _))))))))
 (Evl.pss_cut (ps_asg (pe_tup (pa_cons (pe_call G1 hr1 (by rfl) g1 F1.kp b1 .nil pass0 (pa_cons (pv 0) (pa_cons (pe_callB call_len_seq (by rfl) B.len PySem.boot_len (pa_cons (pv 2) pa_nil)) pa_nil))) (pa_cons (pe_op op_add (pe_callTy call_int1 (by rfl) B.int PyProof.Rows.boot_int (pa_cons (pv 8) pa_nil)) (pe_callTy call_int1 (by rfl) B.int PyProof.Rows.boot_int (pa_cons (pe_cmpR op_gt (pv 5) pe_int (nomark _)) pa_nil))) pa_nil))) (pg_tup rfl (pgs_cons (pg_name (i := 9) scLBolt.nd rfl (.inr rfl)) (pgs_cons (pg_name (i := 10) scLBolt.nd rfl (.inl rfl)) pgs_nil))))
 (Evl.pss_cut (ps_if (pt_not (pt_val (pv 3)))
 (pss_one (ps_set (i := 10) scLBolt.nd rfl (.inl rfl) (pe_op op_mul (pv 5) (pe_callTy call_int1 (by rfl) B.int PyProof.Rows.boot_int (pa_cons (pe_cmpR op_gt (pe_call G1 hr1 (by rfl) g1 F1.kp b1 .nil pass0 (pa_cons (pv 0) (pa_cons pe_int pa_nil))) pe_int (nomark _)) pa_nil)))))
 pss_nil)
 (Evl.pss_cut (ps_set (i := 11) scLBolt.nd rfl (.inl rfl) (pe_slice sl_list (pe_lc (own := [("_law_k", 12)]) (g := gName 12) (te := tOp (rIxL K) (tVar 2) (tVar 12)) rfl scLBolt.nd (pi_range1 (by rfl) B.range (pa_cons (pe_callB call_len_seq (by rfl) B.len PySem.boot_len (pa_cons (pv 2) pa_nil)) pa_nil)) (blkOk_by (own := [("_law_k", 12)]) (N := nLBolt) (sc := defScope sLBolt) (by decide +kernel)) (fun _ _ _ _ _ => (pg_name (i := 12) scLBolt.nd rfl (.inl rfl))) (fun _ _ _ _ _ => (pts_one (PW.pt (pw_or (pt_cmpR op_eq (pv 12) (pv 9) (nomark _)) (pw_or1 (pt_cmpR op_eq (pe_call G1 hr1 (by rfl) g1 F1.kp b1 .nil pass0 (pa_cons (pv 0) (pa_cons pe_int pa_nil))) pe_int (nomark _))))))) (fun _ _ _ _ _ => (pe_ix (r := rIxL K) ix_list (pv 2) (pv 12) (fun _ _ => rfl)))) po_none (po_some (pv 10))))
 (pss_cons (ps_set (i := 5) scLBolt.nd rfl (.inl rfl) (pe_op op_sub (pv 5) (pe_callB call_len_seq (by rfl) B.len PySem.boot_len (pa_cons (pv 11) pa_nil))))
 (pss_one (ps_expr (pe_bm PySem.F.plainAttrs_list PySem.F.slot_list_append PySem.F.type_list_append mt_append (pv 4) (pa_cons (pe_tup (pa_cons (pv 6) (pa_cons (pv 7) (pa_cons (pe_call G4 hr (by rfl) g4 F4.kp b4 .nil pass0 (pa_cons (pv 0) pa_nil)) (pa_cons (pe_callTy (r := rTupK K) call_tupK (by rfl) B.tuple PyProof.Rows.boot_tuple (pa_cons (pv 11) pa_nil)) pa_nil))))) pa_nil))))))))
 pss_nil))))))
 (pss_one (ps_ret (pe_tup (pa_cons (pv 1) (pa_cons (pe_callTy (r := rTupK K) call_tupK (by rfl) B.tuple PyProof.Rows.boot_tuple (pa_cons (pv 4) pa_nil)) pa_nil))))))), ?_⟩
    have ul : us.length = ws.length := Paired.len hws
    refine ⟨Nat.zero_le _, fun l nl => ?_⟩
    have nlp : l ≠ p := hp.new1 nl
    have nlc : l ≠ c := hp.new2 nl
    have nlw : l ≠ wl := fun z => by rw [z, hwl] at nl; cases nl
    refine ⟨.ref l, .int 8, rfl, ?_⟩
    refine ⟨.int wide, rfl, wide, rfl, by omega, by omega, for_range (lo := 0) (n := wide.toNat) (fun i σ H' => ∃ (gvs : List V) (gs : List Gap) (left : Int) (y6 y7 y8 y9 y10 y11 y12 : Option V), σ = [some (.ref p), some (.int wide), some (.ref wl), some (.bl rich), some (.ref l), some (.int left), y6, y7, y8, y9, y10, y11, y12] ∧
        Exx p H H' ∧ PenAt H' p c (T + 80 * i) ∧ H' l = some (.lst gvs) ∧ Paired (GapAt K H') gvs gs ∧ Gps wide ws gs left ∧ (rich = true → wide - (i : Int) ≤ left) ∧ gvs.length ≤ 4 * i ∧ ∀ g ∈ gs, g.frm < (i : Int)) ⟨[], [], 8, none, none, none, none, none, none, none, rfl, Exx.ex (Evl.Ex.new nl), ?_, upd_same, .nil, gps0, fun _ => by omega, Nat.zero_le _, fun g hg => nomatch hg⟩ ?_ ?_⟩
    · have := hp.put (o := .lst []) nlp nlc
      simpa using this
    · rintro i σ H1 hi ⟨gvs, gs, left, y6, y7, y8, y9, y10, y11, y12, rfl, x1, hp1, hl1, hg1, hd1, hrl1, gl1, hlt1⟩
      have i4 : i < 4 := by omega
      have ei : (0 : Int) + (i : Nat) = (i : Int) := by omega
      rw [ei]
      refine ⟨.int wide, rfl, wide, rfl, by omega, by omega, for_range (lo := 0) (n := wide.toNat) (fun j σ H' => ∃ (gvs : List V) (gs : List Gap) (left : Int) (y7 y8 y9 y10 y11 y12 : Option V), σ = [some (.ref p), some (.int wide), some (.ref wl), some (.bl rich), some (.ref l), some (.int left), some (.int (i : Nat)), y7, y8, y9, y10, y11, y12] ∧
          Exx p H H' ∧ PenAt H' p c (T + 80 * i + 20 * j) ∧ H' l = some (.lst gvs) ∧ Paired (GapAt K H') gvs gs ∧ Gps wide ws gs left ∧ RL rich wide left i j ∧ gvs.length ≤ 4 * i + j ∧ ∀ g ∈ gs, lexLt2 g.frm g.to_ i j) ⟨gvs, gs, left, _, _, _, _, _, _, rfl, x1, by simpa using hp1, hl1, hg1, hd1, rl_start (by omega) hrl1, by omega, fun g hg => .inl (hlt1 g hg)⟩ ?_ ?_⟩
      · rintro j σ H2 hj ⟨gvs, gs, left, y7, y8, y9, y10, y11, y12, rfl, x2, hp2, hl2, hg2, hd2, hrl2, gl2, hlt2⟩
        have j4 : j < 4 := by omega
        have ej : (0 : Int) + (j : Nat) = (j : Int) := by omega
        rw [ej]
        have hi' : (i : Int) < wide := by omega
        have hj' : (j : Int) < wide := by omega
        have left0 := hd2.left0
        refine ⟨fun σ' H' => ∃ ring : Bool, σ' = [some (.ref p), some (.int wide), some (.ref wl), some (.bl rich), some (.ref l), some (.int left), some (.int (i : Nat)), some (.int (j : Nat)), some (.bl ring), y9, y10, y11, y12] ∧ H2 = H' ∧ (ring = true → (j : Int) = ((i : Int) + 1) % wide) ∧ (rich = true → ring = false → (j : Int) ≠ ((i : Int) + 1) % wide), ?_, ?_⟩
        · refine ⟨.bl rich, rfl, rich, rfl, ?_⟩
          cases rich with
          | false => exact iteF ⟨false, rfl, rfl, (fun z => nomatch z), (fun z => nomatch z)⟩
          | true =>
            refine iteT ?_
            refine ⟨.int (j : Nat), rfl, .int (i : Nat), rfl, (i : Nat), 1, rfl, rfl, .int wide, rfl, _, wide, rfl, rfl, by omega, rfl, ?_⟩
            refine ⟨_, rfl, rfl, fun z => ?_, fun _ z => ?_⟩
            · have := of_decide_eq_true z
              exact V.int.inj this
            · intro e
              exact of_decide_eq_false z (congrArg V.int e)
        rintro _ _ ⟨ring, rfl, rfl, hr1', hr2'⟩
        -- nothing is put in
        have stay : ∀ {Hx : Hp} {y9 y10 y11 y12 : Option V} {k : Int}, Exx p H2 Hx → PenAt Hx p c (T + 80 * i + 20 * j + k) → k ≤ 20 → ∃ (gvs : List V) (gs : List Gap) (left' : Int) (y7 y8' y9' y10' y11' y12' : Option V), ([some (.ref p), some (.int wide), some (.ref wl), some (.bl rich), some (.ref l), some (.int left), some (.int (i : Nat)), some (.int (j : Nat)), some (.bl ring), y9, y10, y11, y12] : L2.St) = [some (.ref p), some (.int wide), some (.ref wl), some (.bl rich), some (.ref l), some (.int left'), some (.int (i : Nat)), y7, y8', y9', y10', y11', y12'] ∧
            Exx p H Hx ∧ PenAt Hx p c (T + 80 * i + 20 * ((j + 1 : Nat) : Int)) ∧ Hx l = some (.lst gvs) ∧ Paired (GapAt K Hx) gvs gs ∧ Gps wide ws gs left' ∧ RL rich wide left' i ((j + 1 : Nat) : Int) ∧ gvs.length ≤ 4 * i + (j + 1) ∧ ∀ g ∈ gs, lexLt2 g.frm g.to_ i ((j + 1 : Nat) : Int) := by
          intro Hx y9 y10 y11 y12 k ex hpx hk
          refine ⟨gvs, gs, left, _, _, _, _, _, _, rfl, x2.trans ex, hpx.mono (by omega), ex _ _ nlp hl2, Paired.imp (fun _ _ => GapAt.mono (hp2.tx ex)) hg2, hd2, (by have := rl_stay hrl2; rwa [show (j : Int) + 1 = ((j + 1 : Nat) : Int) by omega] at this), by omega, fun g hg => ?_⟩
          rcases hlt2 g hg with h | ⟨h, h'⟩
          · exact .inl h
          · exact .inr ⟨h, by omega⟩
        refine ⟨.int (i : Nat), rfl, .int (j : Nat), rfl, rfl, _, rfl, ?_⟩
        by_cases eij : i = j
        · subst eij
          have z : (!decide (V.int (i : Nat) = V.int (i : Nat))) = false := by simp
          rw [z]
          refine iteF ?_
          exact stay (k := 0) (Exx.refl p H2) (by simpa using hp2) (by decide)
        · have z : (!decide (V.int (i : Nat) = V.int (j : Nat))) = true := by
            have : ¬ V.int (i : Nat) = V.int (j : Nat) := fun e => eij (by have := V.int.inj e; omega)
            rw [decide_eq_false this]
            rfl
          rw [z]
          refine iteT ?_
          refine or_test (i := 8) (p := p) (c := c) (T := T + 80 * i + 20 * j + 1) rfl (hp2.mono (by omega)) (fun Q' h => ?_) fun bb H3 x3 hp3 => ?_
          · refine ⟨.ref p, rfl, p, c, 4, _, rfl, hp2, by decide, by decide, by omega, fun r H3 _ _ x3 hp3 => ?_⟩
            refine ⟨(by show 5 ≤ sizeLine; decide), fun L9 nL9 => ?_⟩
            obtain ⟨t, ht⟩ := len_most wide w2 w4
            exact ⟨.int wide, rfl, L9, _, wide, .int t, rfl, rfl, SqL.of upd_same, ht, r, t, rfl, rfl, _, rfl, h _ _ (x3.trans (Exx.new nL9)) (hp3.ex (Evl.Ex.new nL9))⟩
          refine ite2 (fun _ => ?_) (fun _ => ?_)
          · have x23 := x2.trans x3
            have hwl3 : H3 wl = some (.lst us) := x23 _ _ nwp hwl
            have hl3 := x3 _ _ nlp hl2
            refine ⟨fun σ' H' => ∃ lead : Int, σ' = [some (.ref p), some (.int wide), some (.ref wl), some (.bl rich), some (.ref l), some (.int left), some (.int (i : Nat)), some (.int (j : Nat)), some (.bl ring), some (.int lead), some (.int ((if ring = true then 1 else 0) + (if decide (4 < left) = true then 1 else 0))), y11, y12] ∧ Exx p H3 H' ∧ PenAt H' p c (T + 80 * i + 20 * j + 2), ?_, ?_⟩
            · refine ⟨.ref p, rfl, .ref wl, rfl, wl, us, rfl, .inl (SqL.of hwl3), p, c, (us.length : Nat), _, rfl, hp3, by omega, by omega, by omega, fun lead H4 _ _ x4 hp4 => ?_⟩
              refine ⟨.bl ring, rfl, .inr ⟨ring, rfl, .int left, rfl, left, 4, rfl, rfl, .inr ⟨_, rfl, _, _, rfl, rfl, ?_⟩⟩⟩
              refine ⟨(by show 2 ≤ sizeLine; decide), fun t nt => ?_⟩
              refine ⟨t, _, rfl, SqT.of upd_same, rfl, _, _, rfl, _, _, rfl, rfl, ?_⟩
              exact ⟨lead, rfl, x4.trans (Exx.new nt), (hp4.ex (Evl.Ex.new nt)).mono (by omega)⟩
            rintro _ H4 ⟨lead, rfl, x4, hp4⟩
            refine ⟨fun σ' H' => ∃ b : Bool, σ' = [some (.ref p), some (.int wide), some (.ref wl), some (.bl rich), some (.ref l), some (.int left), some (.int (i : Nat)), some (.int (j : Nat)), some (.bl ring), some (.int lead), some (.int (mostOf rich ring left b)), y11, y12] ∧ Exx p H4 H' ∧ PenAt H' p c (T + 80 * i + 20 * j + 3), ?_, ?_⟩
            · refine ⟨.bl rich, rfl, rich, rfl, ?_⟩
              cases rich with
              | true => exact iteF ⟨false, rfl, Exx.refl p H4, hp4.mono (by omega)⟩
              | false =>
                refine iteT ?_
                refine ⟨.int left, rfl, .ref p, rfl, p, c, 9, _, rfl, hp4, by decide, by decide, by omega, fun r H5 _ _ x5 hp5 => ?_⟩
                refine ⟨r, 0, rfl, rfl, .inr ⟨_, rfl, left, _, rfl, rfl, ?_, ?_⟩⟩
                · exact .inr (by constructor <;> (cases decide (0 < r) <;> decide))
                · exact ⟨_, rfl, x5, hp5.mono (by omega)⟩
            rintro _ H5 ⟨bm, rfl, x5, hp5⟩
            have mnn : 0 ≤ mostOf rich ring left bm := most_nn left0
            obtain ⟨mn, hmn⟩ : ∃ mn : Nat, mostOf rich ring left bm = (mn : Int) := ⟨(mostOf rich ring left bm).toNat, by omega⟩
            have hwl5 := x5 _ _ nwp (x4 _ _ nwp hwl3)
            have x25 : Exx p H2 H5 := x3.trans (x4.trans x5)
            have hws5 : Paired (Wd K H5) us ws := Paired.imp (fun _ _ => Wd.mono ((hp.tx x2).trans (hp2.tx x25))) hws
            rw [hmn]
            refine ⟨fun σ' H' => ∃ (D2 : Addr) (vs : List V) (ss : List Word), σ' = [some (.ref p), some (.int wide), some (.ref wl), some (.bl rich), some (.ref l), some (.int left), some (.int (i : Nat)), some (.int (j : Nat)), some (.bl ring), some (.int lead), some (.int (mn : Int)), some (.ref D2), y12] ∧
                Exx p H5 H' ∧ PenAt H' p c (T + 80 * i + 20 * j + 11) ∧ H' D2 = some (.lst vs) ∧ Paired (Wd K H') vs ss ∧ D2 ≠ p ∧ D2 ≠ l ∧ ss.length ≤ mn ∧ ss.length ≤ 8 ∧ ss.Sublist ws, ?_, ?_⟩
            · refine ⟨.ref wl, rfl, wl, us, rfl, .inl (SqL.of hwl5), _, rfl, by omega, by omega, fun D hD => ?_⟩
              have nDp : D ≠ p := hp5.new1 hD
              have nDc : D ≠ c := hp5.new2 hD
              have nDw : D ≠ wl := fun z => by rw [z, hwl5] at hD; cases hD
              refine lc_range (lo := 0) (n := ((us.length : Nat) : Int).toNat) (fun m H' => ∃ (vs : List V) (ss : List Word), Exx p H5 H' ∧ PenAt H' p c (T + 80 * i + 20 * j + 3 + m) ∧ H' D = some (.lst vs) ∧ Paired (Wd K H') vs ss ∧ ss.Sublist (ws.take m)) ⟨[], [], Exx.ex (Evl.Ex.new hD), ?_, upd_same, .nil, List.nil_sublist _⟩ ?_ ?_
              · have := hp5.put (o := .lst []) nDp nDc
                simpa using this
              · rintro m H6 hm ⟨vs, ss, x6, hp6, hD6, hv6, hs6⟩
                have z0 : (0 : Int) + (m : Nat) = (m : Int) := by omega
                rw [z0]
                have ml : m < us.length := by omega
                have hu : us[m]? = some us[m] := List.getElem?_eq_getElem ml
                generalize us[m] = x at hu
                obtain ⟨t, ht, hax⟩ := Paired.get1 hws5 hu
                have vlen : vs.length ≤ m := by
                  have h1 := hs6.length_le
                  rw [List.length_take] at h1
                  have h2 : vs.length = ss.length := Paired.len hv6
                  omega
                have put : ∀ {H7 : Hp}, Exx p H6 H7 → PenAt H7 p c (T + 80 * i + 20 * j + 3 + m + 1) → ∃ acc, H7 D = some (.lst acc) ∧ acc.length < sizeLine ∧ ∃ (vs : List V) (ss : List Word), Exx p H5 (upd H7 D (.lst (acc ++ [x]))) ∧ PenAt (upd H7 D (.lst (acc ++ [x]))) p c (T + 80 * i + 20 * j + 3 + ((m + 1 : Nat) : Int)) ∧ (upd H7 D (.lst (acc ++ [x]))) D = some (.lst vs) ∧ Paired (Wd K (upd H7 D (.lst (acc ++ [x])))) vs ss ∧ ss.Sublist (ws.take (m + 1)) := by
                  intro H7 x7 hp7
                  have hD7 := x7 _ _ nDp hD6
                  have hv7 : Paired (Wd K H7) vs ss := Paired.imp (fun _ _ => Wd.mono (hp6.tx x7)) hv6
                  refine ⟨vs, hD7, Nat.lt_of_le_of_lt (by omega : vs.length ≤ 8) (by decide), vs ++ [x], ss ++ [t], (x6.trans x7).mut hD, ?_, upd_same, ?_, ?_⟩
                  · exact (hp7.put (o := .lst (vs ++ [x])) nDp nDc).mono (by omega)
                  · exact Paired.imp (fun _ _ => Wd.mono (TX.put hD7)) (paired_app1 hv7 (hax.mono ((hp5.tx x6).trans (hp6.tx x7))))
                  · rw [take_succ_get ht]
                    exact List.Sublist.append hs6 (List.Sublist.refl _)
                refine ⟨rfl, .int (m : Nat), rfl, .int lead, rfl, rfl, _, rfl, ?_⟩
                refine ite2 (fun _ => ?_) (fun _ => ?_)
                · refine iteT ?_
                  exact ⟨.ref wl, rfl, .int (m : Nat), rfl, wl, us, (m : Nat), x, rfl, rfl, SqL.of (x6 _ _ nwp hwl5), atI_nat hu, put (Exx.refl p H6) (hp6.mono (by omega))⟩
                · refine ⟨.ref p, rfl, p, c, 4, _, rfl, hp6, by decide, by decide, by omega, fun r' H7 _ _ x7 hp7 => ?_⟩
                  refine ⟨rfl, _, rfl, ?_⟩
                  refine ite2 (fun _ => ?_) (fun _ => ?_)
                  · exact ⟨.ref wl, rfl, .int (m : Nat), rfl, wl, us, (m : Nat), x, rfl, rfl, SqL.of (x7 _ _ nwp (x6 _ _ nwp hwl5)), atI_nat hu, put x7 hp7⟩
                  · refine ⟨vs, ss, x6.trans x7, hp7.mono (by omega), x7 _ _ nDp hD6, Paired.imp (fun _ _ => Wd.mono (hp6.tx x7)) hv6, ?_⟩
                    rw [take_succ_get ht]
                    exact hs6.trans (List.sublist_append_left _ _)
              · rintro H6 ⟨vs, ss0, x6, hp6, hD6, hv6, hs6⟩
                rw [Int.toNat_natCast, ul, List.take_length] at hs6
                rw [Int.toNat_natCast, ul] at hp6
                refine ⟨.int (mn : Int), rfl, (mn : Int), rfl, D, vs, rfl, SqL.of hD6, fun D2 hD2 => ?_⟩
                rw [cut_take]
                have e7 := Evl.Ex.new (o := .lst (vs.take mn)) hD2
                refine ⟨D2, vs.take mn, ss0.take mn, rfl, x6.trans (Exx.ex e7), (hp6.ex e7).mono (by omega), upd_same, Paired.imp (fun _ _ => Wd.mono (TX.ex e7)) (Paired.takeN mn hv6), hp6.new1 hD2, (fun z => ?_), by rw [List.length_take]; exact Nat.min_le_left _ _, ?_, (List.take_sublist mn ss0).trans hs6⟩
                · rw [z, x6 _ _ nlp (x5 _ _ nlp (x4 _ _ nlp hl3))] at hD2
                  cases hD2
                · have := hs6.length_le
                  rw [List.length_take]; omega
            rintro _ H6 ⟨D2, vs, ss, rfl, x6, hp6, hD26, rows, nD2p, nD2l, ssl, ss8, sub⟩
            refine ⟨.int left, rfl, .ref D2, rfl, D2, _, rfl, .inl (SqL.of hD26), left, _, rfl, rfl, ?_⟩
            -- the price
            have hl6 := x6 _ _ nlp (x5 _ _ nlp (x4 _ _ nlp hl3))
            refine ⟨.ref l, rfl, .inl ⟨rfl, _, SqL.of hl6⟩, .int (i : Nat), rfl, .int (j : Nat), rfl, .ref p, rfl, p, c, _, rfl, hp6, by omega, fun H10 pi x10 hp10 pi1 pi2 => ?_⟩
            have hD210 : H10 D2 = some (.lst vs) := x10 _ _ nD2p hD26
            have x210 : Exx p H2 H10 := x25.trans (x6.trans x10)
            have xB : Exx p H H10 := x2.trans x210
            have hl10 : H10 l = some (.lst gvs) := x10 _ _ nlp hl6
            have hv10 : Paired (Wd K H10) vs ss := Paired.imp (fun _ _ => Wd.mono (hp6.tx x10)) rows
            have hg10 : Paired (GapAt K H10) gvs gs := Paired.imp (fun _ _ => GapAt.mono (hp2.tx x210)) hg2
            refine ⟨.ref D2, rfl, D2, _, rfl, .inl ⟨.inl (.inl hD210), fun W hW => ?_⟩⟩
            have e11 := Evl.Ex.new (o := .tup vs) hW
            generalize hH11 : upd H10 W (.tup vs) = H11 at e11
            have hW11 : H11 W = some (.tup vs) := by rw [← hH11]; exact upd_same
            refine ⟨(by show 4 ≤ sizeLine; decide), fun G hG => ?_⟩
            have e12 := Evl.Ex.new (o := .tup [.int (i : Nat), .int (j : Nat), .int pi, .ref W]) hG
            generalize hH12 : upd H11 G (.tup [.int (i : Nat), .int (j : Nat), .int pi, .ref W]) = H12 at e12
            have hG12 : H12 G = some (.tup [.int (i : Nat), .int (j : Nat), .int pi, .ref W]) := by rw [← hH12]; exact upd_same
            have e1012 := e11.trans e12
            have hl12 := e1012 _ _ hl10
            refine ⟨l, gvs, _, rfl, rfl, hl12, Nat.lt_of_le_of_lt (by omega : gvs.length ≤ 20) (by decide), ?_⟩
            let g : Gap := ⟨i, j, pi, ss⟩
            have hpF : PenAt (upd H12 l (.lst (gvs ++ [.ref G]))) p c (T + 80 * i + 20 * ((j + 1 : Nat) : Int)) := ((hp10.ex e1012).put (o := .lst (gvs ++ [.ref G])) nlp nlc).mono (by omega)
            have gAt : GapAt K H12 (.ref G) g := ⟨G, W, vs, rfl, .inl (.inl hG12), .inl (.inl (e12 _ _ hW11)), Paired.imp (fun _ _ => wd_ex e1012) hv10⟩
            have vsl : vs.length = ss.length := Paired.len hv10
            obtain ⟨tk1, tk2⟩ := rl_take (rich := rich) (ring := ring) (b := bm) (n := (vs.length : Int)) hr1' hr2' (by omega) hi' w4 hrl2 left0 (by rw [hmn]; omega)
            refine ⟨gvs ++ [.ref G], gs ++ [g], left - (vs.length : Int), _, _, _, _, _, _, rfl, (xB.trans (Exx.ex e1012)).mut nl, hpF, upd_same, ?_, ?_, (by rwa [show (j : Int) + 1 = ((j + 1 : Nat) : Int) by omega] at tk2), ?_, ?_⟩
            · exact Paired.imp (fun _ _ => GapAt.mono (TX.put hl12)) (paired_app1 (Paired.imp (fun _ _ => GapAt.mono (TX.ex e1012)) hg10) gAt)
            · refine ⟨?_, ?_, ?_, ?_⟩
              · intro g' hg'
                rcases List.mem_append.mp hg' with h | h
                · exact hd2.each g' h
                · have : g' = g := by simpa using h
                  subst this
                  exact ⟨⟨by show (0 : Int) ≤ i; omega, hi'⟩, ⟨by show (0 : Int) ≤ j; omega, hj'⟩, (by show (i : Int) ≠ j; omega), ⟨pi1, pi2⟩, hpw.sublist sub, fun u hu => sub.subset hu⟩
              · rw [List.pairwise_append]
                refine ⟨hd2.rise, by simp, ?_⟩
                intro g' hg' g'' hg''
                have : g'' = g := by simpa using hg''
                subst this
                exact hlt2 g' hg'
              · have h := hd2.sum
                rw [List.map_append, List.sum_append, vsl]
                simp only [List.map_cons, List.map_nil, List.sum_cons, List.sum_nil]
                show ((((gs.map (fun g => g.ways.length)).sum + (ss.length + 0) : Nat)) : Int) + (left - (ss.length : Int)) = 8
                omega
              · omega
            · rw [List.length_append]
              simp
              omega
            · intro g' hg'
              rcases List.mem_append.mp hg' with h | h
              · rcases hlt2 g' h with h | ⟨h, h'⟩
                · exact .inl h
                · exact .inr ⟨h, by omega⟩
              · have : g' = g := by simpa using h
                subst this
                exact .inr ⟨rfl, by show (j : Int) < ((j + 1 : Nat) : Int); omega⟩
          · exact stay (k := 1) x3 hp3 (by decide)
      · rintro σ H2 ⟨gvs, gs, left, y7, y8, y9, y10, y11, y12, rfl, x2, hp2, hl2, hg2, hd2, hrl2, gl2, hlt2⟩
        rw [show ((wide.toNat : Nat) : Int) = wide by omega] at hrl2
        refine ⟨gvs, gs, left, _, _, _, _, _, _, _, rfl, x2, hp2.mono (by omega), hl2, hg2, hd2, (by have := rl_end hrl2; rwa [show (i : Int) + 1 = ((i + 1 : Nat) : Int) by omega] at this), by omega, fun g hg => ?_⟩
        have hj := ((hd2.each g hg).2.1).2
        rcases hlt2 g hg with h | ⟨h, h'⟩
        · omega
        · omega
    · rintro σ H1 ⟨gvs, gs, left, y6, y7, y8, y9, y10, y11, y12, rfl, x1, hp1, hl1, hg1, hd1, hrl1, gl1, hlt1⟩
      refine ⟨.int wide, rfl, .ref l, rfl, l, gvs, rfl, .inl ⟨.inl (.inl hl1), fun a na => ?_⟩⟩
      have e2 := Evl.Ex.new (o := .tup gvs) na
      have ga : (upd H1 a (.tup gvs)) a = some (.tup gvs) := upd_same
      have hp2 := hp1.ex e2
      generalize upd H1 a (.tup gvs) = H2 at e2 ga hp2
      refine ⟨(by show 2 ≤ sizeLine; decide), fun t nt => ?_⟩
      have e3 := Evl.Ex.new (o := .tup [.int wide, .ref a]) nt
      have gt : (upd H2 t (.tup [.int wide, .ref a])) t = some (.tup [.int wide, .ref a]) := upd_same
      have hp3 := hp2.ex e3
      exact q _ _ gs left (x1.trans (Exx.ex (e2.trans e3))) (hp3.mono (by omega)) ⟨t, a, gvs, rfl, .inl (.inl gt), .inl (.inl (e3 _ _ ga)), Paired.imp (fun _ _ => GapAt.mono (TX.ex (e2.trans e3))) hg1⟩ hd1
end
end Wb

set_option Elab.async false
set_option linter.all false
set_option maxRecDepth 100000
set_option maxHeartbeats 8000000
set_option pp.maxSteps 900
set_option pp.deepTerms false
namespace L2
open PySem PySem.Spec PyProof.Rows
section
variable {X : Cx}
/-- sorted(set) of tuples of as many ints each, or of none -/
def rSortedW0 (K : PySem.W.Frag) (P : Program) (w : World) : List V → Hp → VK → Prop := fun vs H Q => ∃ (a : Addr) (L : List (Addr × List Int)) (d : Nat) (B : Int), vs = [V.ref a] ∧ H a = some (SetTO P w a L) ∧
  (∀ p ∈ L, SqT K H p.1 (p.2.map V.int)) ∧ (∀ p ∈ L, p.2.length = d ∧ TS.Bd B p.2) ∧
  ∀ (L' : List (Addr × List Int)) (p : Addr), L'.Perm L → (L'.map (·.2)).Nodup → L'.length < 64 → L'.Pairwise (fun q r => TS.code B q.2 ≤ TS.code B r.2) → H p = none → Q (.ref p) (upd H p (.lst (L'.map fun q => V.ref q.1)))
theorem cr_sortedW0 (hc : X.calm = true) : CallR X (.builtin "sorted") (rSortedW0 X.K X.prog X.w) := by
  intro pins s σ H vs us Q I r h
  obtain ⟨a, L, d, B, e1, ha, hk, hB, q⟩ := h
  by_cases hL : L = []
  · subst hL
    exact cr_sortedT hc pins s σ H vs us Q I r ⟨a, [], 1, B, e1, ha, hk, Nat.le_refl 1, fun p hp => (nomatch hp), q⟩
  · exact cr_sortedW hc pins s σ H vs us Q I r ⟨a, L, d, B, e1, ha, hk, hB, hL, q⟩
end
end L2
namespace Wb
open PySem PySem.Spec PyProof.Rows L2
abbrev sLLock : Stmt := topS 46
abbrev nLLock : List Str := ["_law_pen_here", "_law_counts", "_law_rich", "_law_base", "_law_found", "_law_k", "_law_one"]
theorem scLLock : FnScope nLLock ["_law_pen_here", "_law_counts", "_law_rich"] (defScope sLLock) := ⟨rfl, rfl, rfl, by decide +kernel, rfl, by decide +kernel, by decide +kernel⟩
theorem lex_pw {us : List Word} {d : Nat} (nd : us.Nodup) (hb : ∀ w ∈ us, w.length = d ∧ TS.Bd 4 w) (pw : us.Pairwise (fun u v => TS.code 4 u ≤ TS.code 4 v)) : us.Pairwise (fun u w => HT.lexLt u w = true) := by
  rw [List.pairwise_iff_getElem]
  intro i j hi hj hij
  have ne := List.pairwise_iff_getElem.mp nd i j hi hj hij
  have cd := List.pairwise_iff_getElem.mp pw i j hi hj hij
  obtain ⟨a1, a2⟩ := hb us[i] (List.getElem_mem hi)
  obtain ⟨a3, a4⟩ := hb us[j] (List.getElem_mem hj)
  exact lex_of_code (by omega) a2 a4 cd ne
/-- a bolt as the law draws it: its ways are cuts of the bases -/
structure LBolt (ms : List Int) (bases : List Word) (k : Nat) (b : Bolt) : Prop where
  many : ms[k]? = some b.many
  gp : ∃ left, ∃ ws : List Word, Gps b.many ws b.gaps left ∧ ∀ u ∈ ws, u ∈ bases.map fun u => u.take k
/-- how many places bolts have -/
structure SizesOk (ms : List Int) : Prop where
  ne : ms ≠ []
  few : ms.length ≤ 60
  each : ∀ m ∈ ms, 2 ≤ m ∧ m ≤ 4
theorem manys_of_l {ms : List Int} {bases : List Word} {l : Lock} (ll : l.length = ms.length) (h : ∀ j b, l[j]? = some b → LBolt ms bases j b) : manysOf l = ms := by
  unfold manysOf
  refine List.ext_getElem? fun i => ?_
  rw [List.getElem?_map]
  cases e : l[i]? with
  | none =>
    rw [List.getElem?_eq_none_iff] at e
    rw [List.getElem?_eq_none (by omega)]
    rfl
  | some b => exact ((h i b e).many).symm
theorem lock_of_l {ms : List Int} {bases : List Word} {l : Lock} (so : SizesOk ms) (ll : l.length = ms.length) (bl : bases.length ≤ 3) (hb : ∀ u ∈ bases, InAll u ms) (h : ∀ j b, l[j]? = some b → LBolt ms bases j b) : LockOk l := by
  have mo := manys_of_l ll h
  have m1 : 1 ≤ ms.length := List.length_pos_iff.mpr so.ne
  have m6 := so.few
  refine ⟨by omega, by omega, fun k b hk => ?_, fun k ws kl nd hw => ?_⟩
  · have t := h k b hk
    obtain ⟨left, ws, gp, gw⟩ := t.gp
    have m24 := so.each b.many (List.mem_of_getElem? t.many)
    have kl := (List.getElem?_eq_some_iff.mp hk).1
    have mk : manysOf (l.take k) = ms.take k := by
      rw [← mo]
      unfold manysOf
      rw [List.map_take]
    have sum8 : (b.gaps.map (fun g => g.ways.length)).sum ≤ 8 := by
      have h1 := gp.sum
      have h2 := gp.left0
      omega
    refine ⟨m24.1, m24.2, fun g hg => ?_, gp.rise, sum8⟩
    obtain ⟨a1, a2, a3, a4, a6, a7⟩ := gp.each g hg
    have g8 : g.ways.length ≤ 8 := by
      have : g.ways.length ≤ (b.gaps.map (fun g => g.ways.length)).sum := le_sum (List.mem_map.mpr ⟨g, hg, rfl⟩)
      omega
    refine ⟨a1.1, a1.2, a2.1, a2.2, a3, a4.1, a4.2, g8, fun u hu => ?_, a6⟩
    obtain ⟨s, hs, rfl⟩ := List.mem_map.mp (gw u (a7 u hu))
    rw [mk]
    exact inAll_take (hb s hs) k
  · have sub : ∀ w ∈ ws, w ∈ bases.map (fun u => u.take k) := fun w hw' => by
      obtain ⟨j, b, g, u, kj, hj, hg, hu, rfl⟩ := hw w hw'
      obtain ⟨left, ws', gp, gw⟩ := (h j b hj).gp
      obtain ⟨s, hs, rfl⟩ := List.mem_map.mp (gw u ((gp.each g hg).2.2.2.2.2 u hu))
      exact List.mem_map.mpr ⟨s, hs, by rw [List.take_take, Nat.min_eq_left kj]⟩
    have := nodup_le nd sub
    rw [List.length_map] at this
    omega
theorem cut_bd {ms : List Int} {s : Word} (each : ∀ m ∈ ms, 2 ≤ m ∧ m ≤ 4) (ia : InAll s ms) {k : Nat} (kl : k ≤ ms.length) : (s.take k).length = k ∧ TS.Bd 4 (s.take k) := by
  have sl := ia.1
  refine ⟨by rw [List.length_take]; omega, fun y hy => ?_⟩
  obtain ⟨j, hj⟩ := List.mem_iff_getElem?.mp (List.mem_of_mem_take hy)
  have jl := (List.getElem?_eq_some_iff.mp hj).1
  obtain ⟨mj, hmj⟩ : ∃ mj, ms[j]? = some mj := ⟨_, List.getElem?_eq_getElem (by omega)⟩
  have := ia.2 j y mj hj hmj
  have := each mj (List.mem_of_getElem? hmj)
  omega
def spLLock (K : PySem.W.Frag) : Sp := fun vs H Q _ => ∃ (p c S : Addr) (T : Int) (ms : List Int) (rich : Bool), vs = [.ref p, .ref S, .bl rich] ∧ PenAt H p c T ∧ T ≤ 6000000 ∧ S ≠ p ∧ H S = some (.lst (ms.map V.int)) ∧ SizesOk ms ∧
  ∀ H' v l, Exx p H H' → PenAt H' p c (T + 30000) → LockAt K H' v l → LockOk l → manysOf l = ms → Q v H'
section
variable {P : Program} {w : World} {K : PySem.W.Frag} {mg : Str → Option Value} {base : Heap}
theorem ok_llock {f f1 f3 f4 f5 : Addr} {fd fd1 fd3 fd4 fd5 : FuncData} (F : Fun K "_law_lock" "_law_lock" sLLock f fd) (F1 : Fun K "_law_draw" "_law_draw" sDraw f1 fd1) (b1 : Binds K fd1 ["_law_pen_here", "_law_many"] []) (g1 : mg "_law_draw" = some (.ref f1))
    (F3 : Fun K "_law_stand" "_law_stand" sLStand f3 fd3) (b3 : Binds K fd3 ["_law_pen_here", "_law_counts"] []) (g3 : mg "_law_stand" = some (.ref f3))
    (F4 : Fun K "_law_price" "_law_price" sLPrice f4 fd4) (b4 : Binds K fd4 ["_law_pen_here"] []) (g4 : mg "_law_price" = some (.ref f4))
    (F5 : Fun K "_law_bolt" "_law_bolt" sLBolt f5 fd5) (b5 : Binds K fd5 ["_law_pen_here", "_law_many", "_law_words", "_law_rich"] []) (g5 : mg "_law_bolt" = some (.ref f5)) (B : Bi mg) :
    FnOk P w K mg base CX0 4 f fd ["_law_pen_here", "_law_counts", "_law_rich"] (spLLock K) := by
  have G1 : FnOk P w K mg base CX0 1 f1 fd1 ["_law_pen_here", "_law_many"] spDraw := ok_draw F1 B
  have G3 : FnOk P w K mg base CX0 2 f3 fd3 ["_law_pen_here", "_law_counts"] (spLStand K) := ok_lstand F3 F1 b1 g1 B
  have G5 : FnOk P w K mg base CX0 3 f5 fd5 ["_law_pen_here", "_law_many", "_law_words", "_law_rich"] (spLBolt K) := ok_lbolt F5 F1 b1 g1 F4 b4 g4 B
  refine F.ok scLLock (fun vs H Q E h => ?_) (fun cdv A outer s H vs Q E hr h => ?_)
  · obtain ⟨p, c, S, T, ms, rich, rfl, _⟩ := h; rfl
  · obtain ⟨p, c, S, T, ms, rich, rfl, hp, T8, nSp, hS, so, q⟩ := h
    have hr1 : Room 1 _ := hr.mono (by decide)
    have hr2 : Room 2 _ := hr.mono (by decide)
    have m6 := so.few
    have m1 : 1 ≤ ms.length := List.length_pos_iff.mpr so.ne
    refine ⟨_, (Evl.pss_cut (ps_setLc (i := 3) (own := [("_law_k", 5)]) (g := gName 5) (te := tCall (spLStand K) [] E0 (tCons (tVar 0) (tCons (tVar 1) tNil))) rfl scLLock.nd rfl rfl rfl (pi_range1 (by rfl) B.range (pa_cons (pe_op op_add pe_int (pe_call G1 hr1 (by rfl) g1 F1.kp b1 .nil pass0 (pa_cons (pv 0) (pa_cons pe_int pa_nil)))) pa_nil)) (blkOk_by (own := [("_law_k", 5)]) (N := nLLock) (sc := defScope sLLock) (by decide +kernel)) (fun _ _ _ _ _ => (pg_name (i := 5) scLLock.nd rfl (.inl rfl))) (fun _ _ _ _ _ => pts_nil) (fun _ _ _ _ _ => (pe_call G3 hr2 (by rfl) g3 F3.kp b3 .nil pass0 (pa_cons (pv 0) (pa_cons (pv 1) pa_nil)))))
 (pss_cons (ps_set (i := 4) scLLock.nd rfl (.inl rfl) (pe_lst pa_nil))
 (pss_cons (ps_for PassesOwn.never rfl (pi_range1 (by rfl) B.range (pa_cons (pe_callB call_len_seq (by rfl) B.len PySem.boot_len (pa_cons (pv 1) pa_nil)) pa_nil)) (pg_name (i := 5) scLLock.nd rfl (.inr rfl))
 (pss_one (ps_expr (pe_bm PySem.F.plainAttrs_list PySem.F.slot_list_append PySem.F.type_list_append mt_append (pv 4) (pa_cons (pe_call G5 hr (by rfl) g5 F5.kp b5 .nil pass0 (pa_cons (pv 0) (pa_cons (pe_ix (r := rIxL K) ix_list (pv 1) (pv 5) (fun _ _ => rfl)) (pa_cons (pe_callB (cr_sortedW0 rfl) (by rfl) B.sorted boot_sorted (pa_cons (pe_callTy (cr_setOfT rfl hr.units) (by rfl) B.set PyProof.Rows.boot_set (pa_cons (pe_lc (own := [("_law_one", 6)]) (g := gName 6) (wi := iList K (tVar 3)) (te := tSl (rSlA K) (tVar 6) tNoPart (tPart (tVar 5))) rfl scLLock.nd (pi_list (pv 3)) (blkOk_by (own := [("_law_one", 6)]) (N := nLLock) (sc := defScope sLLock) (by decide +kernel)) (fun _ _ _ _ _ => (pg_name (i := 6) scLLock.nd rfl (.inl rfl))) (fun _ _ _ _ _ => pts_nil) (fun _ _ _ _ _ => (pe_slice (r := rSlA K) sl_tupA (pv 6) po_none (po_some (pv 5))))) pa_nil)) pa_nil)) (pa_cons (pv 2) pa_nil))))) pa_nil)))))
 (pss_one (ps_ret (pe_callTy (r := rTupK K) call_tupK (by rfl) B.tuple PyProof.Rows.boot_tuple (pa_cons (pv 4) pa_nil))))))), ?_⟩
    refine ⟨fun σ H' => ∃ (bs : Addr) (bvs : List V) (bases : List Word), σ = [some (.ref p), some (.ref S), some (.bl rich), some (.ref bs), none, none, none] ∧ Exx p H H' ∧ PenAt H' p c (T + 200) ∧ H' bs = some (.lst bvs) ∧ Paired (Wd K H') bvs bases ∧ 1 ≤ bases.length ∧ bases.length ≤ 3 ∧ ∀ u ∈ bases, InAll u ms, ?_, ?_⟩
    · refine ⟨.ref p, rfl, p, c, 2, _, rfl, hp, by decide, by decide, by omega, fun r H2 r0 r1 x2 hp2 => ⟨2, r, rfl, rfl, _, rfl, by omega, by omega, fun D nD => ?_⟩⟩
      have nDp : D ≠ p := hp2.new1 nD
      have nDc : D ≠ c := hp2.new2 nD
      have nSD : S ≠ D := fun z => by rw [← z, x2 _ _ nSp hS] at nD; cases nD
      refine lc_range (lo := 0) (n := (2 + r).toNat) (fun i H' => ∃ (bvs : List V) (bases : List Word), Exx p H2 H' ∧ PenAt H' p c (T + 1 + 60 * (i : Nat)) ∧ H' D = some (.lst bvs) ∧ Paired (Wd K H') bvs bases ∧ bases.length = i ∧ ∀ u ∈ bases, InAll u ms) ⟨[], [], Exx.ex (Evl.Ex.new nD), ?_, upd_same, .nil, rfl, fun u hu => nomatch hu⟩ ?_ ?_
      · have := hp2.put (o := .lst []) nDp nDc
        simpa using this
      · rintro i H3 hi ⟨bvs, bases, x3, hp3, hD3, hv3, bl, hb⟩
        have i3 : i < 3 := by omega
        have hS3 := x3 _ _ nSp (x2 _ _ nSp hS)
        refine ⟨rfl, .ref p, rfl, .ref S, rfl, p, c, S, _, ms, rfl, hp3, by omega, SqL.of hS3, nSp, fun n hn => by have := so.each n hn; omega, by omega, fun H4 z s x4 hp4 nz hz sl hs => ?_⟩
        have hD4 := x4 _ _ nDp hD3
        have bvl : bvs.length = bases.length := Paired.len hv3
        refine ⟨bvs, hD4, Nat.lt_of_le_of_lt (by omega : bvs.length ≤ 3) (by decide), bvs ++ [.ref z], bases ++ [s], (x3.trans x4).mut nD, (hp4.put nDp nDc).mono (by omega), upd_same, ?_, by rw [List.length_append, bl]; rfl, ?_⟩
        · exact Paired.imp (fun _ _ => Wd.mono (TX.put hD4)) (paired_app1 (Paired.imp (fun _ _ => Wd.mono (hp3.tx x4)) hv3) ⟨z, rfl, hz⟩)
        · intro u hu
          rcases List.mem_append.mp hu with h | h
          · exact hb u h
          · rw [List.mem_singleton.mp h]; exact ⟨sl, hs⟩
      · rintro H3 ⟨bvs, bases, x3, hp3, hD3, hv3, bl, hb⟩
        exact ⟨D, bvs, bases, rfl, x2.trans x3, hp3.mono (by omega), hD3, hv3, by omega, by omega, hb⟩
    rintro _ H3 ⟨bs, bvs, bases, rfl, x3, hp3, hbs3, hbv, bl1, bl3, hb⟩
    have nbsp : bs ≠ p := fun z => by
      obtain ⟨cells, t, d, h1, _⟩ := hp3
      rw [z, h1] at hbs3
      cases hbs3
    refine ⟨Nat.zero_le _, fun lk nlk => ?_⟩
    have nlkp : lk ≠ p := hp3.new1 nlk
    have nlkc : lk ≠ c := hp3.new2 nlk
    have hS3 := x3 _ _ nSp hS
    have nlkS : S ≠ lk := fun y => by rw [← y, hS3] at nlk; cases nlk
    have nlkb : bs ≠ lk := fun y => by rw [← y, hbs3] at nlk; cases nlk
    have nlk0 : H lk = none := fresh_exx x3 hp3.here nlk
    have e4 := Evl.Ex.new (o := .lst []) nlk
    have glk : (upd H3 lk (.lst [])) lk = some (.lst []) := upd_same
    have hp4 := hp3.ex e4
    have hS4 := e4 _ _ hS3
    have hbs4 := e4 _ _ hbs3
    have hbv4 : Paired (Wd K (upd H3 lk (.lst []))) bvs bases := Paired.imp (fun _ _ => Wd.mono (TX.ex e4)) hbv
    have x4 := x3.trans (Exx.ex e4)
    generalize upd H3 lk (.lst []) = H4 at e4 glk hp4 hS4 hbs4 hbv4 x4
    have bvl : bvs.length = bases.length := Paired.len hbv
    have lmS : (ms.map V.int).length = ms.length := List.length_map _
    refine ⟨.ref S, rfl, S, _, rfl, .inl (SqL.of hS4), _, rfl, by omega, by omega, ?_⟩
    refine for_range (lo := 0) (n := (((ms.map V.int).length : Nat) : Int).toNat) (fun k σ H' => ∃ (lvs : List V) (l : Lock) (y5 y6 : Option V), σ = [some (.ref p), some (.ref S), some (.bl rich), some (.ref bs), some (.ref lk), y5, y6] ∧
        Exx p H H' ∧ PenAt H' p c (T + 200 + 400 * (k : Nat)) ∧ H' S = some (.lst (ms.map V.int)) ∧ H' bs = some (.lst bvs) ∧ Paired (Wd K H') bvs bases ∧ H' lk = some (.lst lvs) ∧ Paired (BoltAt K H') lvs l ∧ l.length = k ∧ ∀ j b, l[j]? = some b → LBolt ms bases j b)
      ⟨[], [], none, none, rfl, x4, hp4.mono (by omega), hS4, hbs4, hbv4, glk, .nil, rfl, fun j b h => by simp at h⟩ ?_ ?_
    · rintro k σ H5 hk ⟨lvs, l, y5, y6, rfl, x5, hp5, hS5, hbs5, hbv5, hlk5, hlv5, ll, htb⟩
      have ek : (0 : Int) + (k : Nat) = ((k : Nat) : Int) := by omega
      rw [ek]
      have kl : k < ms.length := by
        rw [List.length_map] at hk
        omega
      obtain ⟨m, hm⟩ : ∃ m, ms[k]? = some m := ⟨ms[k], List.getElem?_eq_getElem kl⟩
      have m24 := so.each m (List.mem_of_getElem? hm)
      have lvl : lvs.length = l.length := Paired.len hlv5
      refine ⟨.ref lk, rfl, .inl ⟨rfl, _, SqL.of hlk5⟩, ?_⟩
      refine ⟨.ref p, rfl, .ref S, rfl, .int (k : Nat), rfl, S, _, (k : Nat), .int m, rfl, rfl, SqL.of hS5, atI_nat (map_int_get hm), ?_⟩
      refine ⟨.ref bs, rfl, bs, rfl, ⟨bvs, SqL.of hbs5⟩, fun D nD => ?_⟩
      refine lc_list (K := K) (a := bs) (xs := bvs) (fun m H' => ∃ vs : List V, Evl.Ex H5 H' ∧ H' D = some (.lst vs) ∧ Paired (Wd K H') vs ((bases.take m).map (fun u => u.take k))) ⟨[], Evl.Ex.new nD, upd_same, .nil⟩ ?_ ?_ ?_
      · rintro m H' _ ⟨_, e, _⟩
        exact SqL.of (e _ _ hbs5)
      · rintro m x H7 hm ⟨vs, e7, hwl7, hv7⟩
        obtain ⟨u, hu, ⟨ax, rfl, hax⟩⟩ := Paired.get1 hbv5 hm
        refine ⟨rfl, .ref ax, rfl, ?_⟩
        refine nopart1 ?_
        refine ⟨.int (k : Nat), rfl, (k : Nat), rfl, ?_⟩
        refine sl_own (K := K) (lo := none) (hi := some ((k : Nat) : Int)) (e7 _ _ hax) fun H8 z8 e8 q8 => ?_
        rw [cut_take, ← List.map_take] at q8
        have vl : vs.length ≤ 3 := by
          have := Paired.len hv7
          rw [List.length_map, List.length_take] at this
          omega
        refine ⟨vs, e8 _ _ hwl7, Nat.lt_of_le_of_lt vl (by decide), vs ++ [.ref z8], (e7.trans e8).mut nD, upd_same, ?_⟩
        rw [take_map_succ k hu]
        exact Paired.imp (fun _ _ => Wd.mono (TX.put (e8 _ _ hwl7))) (paired_app1 (Paired.imp (fun _ _ => wd_ex e8) hv7) ⟨z8, rfl, q8⟩)
      · rintro H7 ⟨vs, e7, hwl7, hv7⟩
        rw [bvl, List.take_length] at hv7
        have inb : ∀ u ∈ bases.map (fun u => u.take k), u.length = k ∧ TS.Bd 4 u := fun u hu => by
          obtain ⟨s, hs, rfl⟩ := List.mem_map.mp hu
          exact cut_bd so.each (hb s hs) (Nat.le_of_lt kl)
        obtain ⟨ks, rfl, hks, hkt⟩ := keys_of hv7
        have ksl : ks.length = bases.length := by
          have := congrArg List.length hks
          rwa [List.length_map, List.length_map] at this
        have inw : ∀ q ∈ ks, q.2 ∈ bases.map (fun u => u.take k) := fun q hq => by
          rw [← hks]; exact List.mem_map.mpr ⟨q, hq, rfl⟩
        refine ⟨D, ks, rfl, SqL.of hwl7, fun q hq => .inl (.inl (hkt q hq)), by omega, fun sa L nsa hL1 hL2 => ?_⟩
        have e9 := Evl.Ex.new (o := SetTO P w sa L) nsa
        refine ⟨sa, L, k, 4, rfl, upd_same, fun q hq => .inl (.inl (e9 _ _ (hkt q (hL1 q hq)))), fun q hq => inb _ (inw q (hL1 q hq)), fun L' sl perm nodup l64 pw nsl => ?_⟩
        have e10 : Evl.Ex (upd H7 sa (SetTO P w sa L)) (upd (upd H7 sa (SetTO P w sa L)) sl (.lst (L'.map fun q => V.ref q.1))) := Evl.Ex.new nsl
        have e710 := e9.trans e10
        have hL' : ∀ q ∈ L', q ∈ ks := fun q hq => hL1 q (perm.mem_iff.mp hq)
        have rows : Paired (Wd K (upd (upd H7 sa (SetTO P w sa L)) sl (.lst (L'.map fun q => V.ref q.1)))) (L'.map fun q => V.ref q.1) (L'.map (·.2)) := rows_of_keys fun q hq => e710 _ _ (hkt q (hL' q hq))
        have gsl : (upd (upd H7 sa (SetTO P w sa L)) sl (.lst (L'.map fun q => V.ref q.1))) sl = some (.lst (L'.map fun q => V.ref q.1)) := upd_same
        have sub : ∀ u ∈ L'.map (·.2), u ∈ bases.map (fun u => u.take k) := fun u hu => by
          obtain ⟨q, hq, rfl⟩ := List.mem_map.mp hu
          exact inw q (hL' q hq)
        have lex := lex_pw (d := k) nodup (fun u hu => inb u (sub u hu)) (List.pairwise_map.mpr pw)
        have e510 := e7.trans e710
        have hp7 := hp5.ex e510
        have nwp : sl ≠ p := (hp5.ex (e7.trans e9)).new1 nsl
        have ss3 : (L'.map (·.2)).length ≤ 3 := by
          exact Nat.le_trans (nodup_le nodup sub) (by rw [List.length_map]; omega)
        have ss1 : 1 ≤ (L'.map (·.2)).length := by
          obtain ⟨q0, hq0⟩ : ∃ q0, q0 ∈ ks := by
            cases hk : ks with
            | nil => rw [hk] at ksl; simp at ksl; omega
            | cons q0 _ => exact ⟨q0, List.mem_cons_self⟩
          have h2 := hL2 q0 hq0
          obtain ⟨r0, hr0, _⟩ := List.mem_map.mp h2
          rw [List.length_map]
          exact List.length_pos_of_mem (perm.mem_iff.mpr hr0)
        refine ⟨.bl rich, rfl, p, c, sl, m, _, _, _, rich, rfl, hp7, by omega, m24.1, m24.2, nwp, gsl, rows, ss1, by omega, lex, fun H9 v gs left x9 hp9 bat gp => ?_⟩
        have x59 : Exx p H5 H9 := (Exx.ex e510).trans x9
        have tx59 : TX K H5 H9 := hp5.tx x59
        have hlk9 := x59 _ _ nlkp hlk5
        refine ⟨lk, lvs, _, rfl, rfl, hlk9, Nat.lt_of_le_of_lt (by omega : lvs.length ≤ 60) (by decide), ?_⟩
        refine ⟨lvs ++ [v], l ++ [⟨m, gs⟩], _, _, rfl, (x5.trans x59).mut nlk0, (hp9.put nlkp nlkc).mono (by omega), by rw [upd_ne nlkS]; exact x59 _ _ nSp hS5, by rw [upd_ne nlkb]; exact x59 _ _ nbsp hbs5, Paired.imp (fun _ _ => Wd.mono (tx59.trans (TX.put hlk9))) hbv5, upd_same, ?_, by rw [List.length_append, ll]; rfl, ?_⟩
        · exact Paired.imp (fun _ _ => BoltAt.mono (TX.put hlk9)) (paired_app1 (Paired.imp (fun _ _ => BoltAt.mono tx59) hlv5) bat)
        · intro j b hj
          by_cases cj : j < l.length
          · rw [List.getElem?_append_left cj] at hj
            exact htb j b hj
          · have lt := (List.getElem?_eq_some_iff.mp hj).1
            rw [List.length_append, List.length_singleton] at lt
            have ej : j = k := by omega
            subst ej
            rw [List.getElem?_append_right (by omega), show j - l.length = 0 by omega] at hj
            cases hj
            exact ⟨hm, left, _, gp, sub⟩
    · rintro σ H5 ⟨lvs, l, y5, y6, rfl, x5, hp5, hS5, hbs5, hbv5, hlk5, hlv5, ll, htb⟩
      have ll' : l.length = ms.length := by rw [ll, List.length_map]; omega
      refine ⟨.ref lk, rfl, lk, lvs, rfl, .inl ⟨.inl (.inl hlk5), fun t nt => ?_⟩⟩
      have e6 := Evl.Ex.new (o := .tup lvs) nt
      exact q _ _ l (x5.trans (Exx.ex e6)) ((hp5.ex e6).mono (by rw [List.length_map]; omega)) ⟨t, lvs, rfl, .inl (.inl upd_same), Paired.imp (fun _ _ => BoltAt.mono (TX.ex e6)) hlv5⟩ (lock_of_l so ll' bl3 hb htb) (manys_of_l ll' htb)
end
end Wb

set_option Elab.async false
set_option linter.all false
set_option maxRecDepth 100000
set_option maxHeartbeats 16000000
namespace L2
open PySem PySem.Spec PyProof.Rows
/-- repr of an int or of None -/
def shO : Option Int → Str
  | some i => toString i
  | none => "None"
theorem call_reprO {X : Cx} : CallR X (.builtin "repr") (fun xs H Q => ∃ o : Option Int, xs = [Wb.oT o] ∧ (∀ i, o = some i → i.natAbs.log2 < 1920) ∧ Q (.str (shO o)) H) := by
  intro pins s σ H xs us Q I r h
  obtain ⟨o, rfl, hz, q⟩ := h
  cases o with
  | some i => exact SkE.call_repr_int pins s σ H [.int i] us Q I r ⟨i, rfl, hz i rfl, q⟩
  | none =>
    cases r with
    | cons r1 r2 =>
      cases r2
      cases r1
      exact PySem.P.repr_of_none ⟨.str _, H, I.tok _, ⟨_, rfl⟩, q⟩
end L2

set_option Elab.async false
set_option linter.all false
set_option maxRecDepth 100000
set_option maxHeartbeats 4000000
set_option pp.maxSteps 900
set_option pp.deepTerms false
namespace Wb
open PySem PySem.Spec PyProof.Rows L2
/-! ### dicts whose keys are tuples of whole numbers, texts, None and such tuples, however deep (to 8) -/
abbrev NKey := NestedKey
abbrev nk (k : NKey) : NestedKey := k
theorem nk_inj {a b : NKey} (h : nk a = nk b) : a = b := h
mutual
/-- a value is a key -/
inductive NkV (H : Hp) : V → NestedKey → Prop where
  | non : NkV H .non .none
  | int (i : Int) : NkV H (.int i) (.num i)
  | str (x : Str) : NkV H (.str x) (.text x)
  | tup {a : Addr} {xs : List V} {ks : List NestedKey} : H a = some (.tup xs) → NkAll H xs ks → NkV H (.ref a) (.tup ks)
inductive NkAll (H : Hp) : List V → List NestedKey → Prop where
  | nil : NkAll H [] []
  | cons {v : V} {k : NestedKey} {vs : List V} {ks : List NestedKey} : NkV H v k → NkAll H vs ks → NkAll H (v :: vs) (k :: ks)
end
mutual
theorem NkV.keep {H H' : Hp} (e : ∀ b xs, H b = some (.tup xs) → H' b = some (.tup xs)) : ∀ {v : V} {k : NestedKey}, NkV H v k → NkV H' v k
  | _, _, .non => .non
  | _, _, .int i => .int i
  | _, _, .str x => .str x
  | _, _, .tup h a => .tup (e _ _ h) (NkAll.keep e a)
theorem NkAll.keep {H H' : Hp} (e : ∀ b xs, H b = some (.tup xs) → H' b = some (.tup xs)) : ∀ {vs : List V} {ks : List NestedKey}, NkAll H vs ks → NkAll H' vs ks
  | _, _, .nil => .nil
  | _, _, .cons h t => .cons (NkV.keep e h) (NkAll.keep e t)
end
theorem NkAll.nums {H : Hp} : ∀ ns : List Int, NkAll H (ns.map V.int) (ns.map NestedKey.num)
  | [] => .nil
  | n :: ns => .cons (.int n) (NkAll.nums ns)
theorem nums_inj {a b : List Int} (h : a.map NestedKey.num = b.map NestedKey.num) : a = b := (List.map_inj_right (fun _ _ e => NestedKey.num.inj e)).mp h
theorem depth_nums : ∀ ns : List Int, NestedKey.depthAll (ns.map NestedKey.num) = 0
  | [] => rfl
  | n :: ns => by
    show max 0 (NestedKey.depthAll (ns.map NestedKey.num)) = 0
    rw [depth_nums ns]
    rfl
theorem depth_app : ∀ ks ls : List NestedKey, NestedKey.depthAll (ks ++ ls) = max (NestedKey.depthAll ks) (NestedKey.depthAll ls)
  | [], ls => (Nat.zero_max _).symm
  | k :: ks, ls => by
    show max k.depth (NestedKey.depthAll (ks ++ ls)) = max (max k.depth (NestedKey.depthAll ks)) _
    rw [depth_app ks ls, Nat.max_assoc]
/-- the key's own tuple stands at q -/
def KAt (H : Hp) (q : Addr) (k : NKey) : Prop := NkV H (.ref q) k ∧ k.depth ≤ 8
theorem KAt.keep {H H' : Hp} {q : Addr} {k : NKey} (e : ∀ b xs, H b = some (.tup xs) → H' b = some (.tup xs)) (h : KAt H q k) : KAt H' q k := ⟨h.1.keep e, h.2⟩
theorem KAt.ex {H H' : Hp} {q : Addr} {k : NKey} (e : Evl.Ex H H') (h : KAt H q k) : KAt H' q k := h.keep fun _ _ z => e _ _ z
section
variable {P : Program} {w : World} {H : Hp} {h : Heap}
mutual
theorem nkv_is (ok : HOk P w H h) : ∀ {v : V} {k : NestedKey} {u : Value}, NkV H v k → RelV v u → NestedIs h k u
  | _, _, u, .non, r => by
    obtain rfl : u = Value.none := r
    exact .none
  | _, _, _, .int i, r => by
    obtain ⟨t, rfl⟩ := r
    exact .int i t
  | _, _, _, .str x, r => by
    obtain ⟨t, rfl⟩ := r
    exact .text x t
  | _, _, u, .tup (a := a) (xs := xs) (ks := ks) hx hk, r => by
    obtain rfl : u = Value.ref a := r
    obtain ⟨_, us, rv, o, e1, e2, n, e3⟩ := (show ObjOk P w H h a (.tup xs) from ok a _ hx)
    exact .tup e1 e2 e3 (by rw [show us.toArray.toList = us by simp]; exact nkall_is ok hk rv)
theorem nkall_is (ok : HOk P w H h) : ∀ {vs : List V} {ks : List NestedKey} {us : List Value}, NkAll H vs ks → Vals vs us → NestedAll h ks us
  | _, _, _, .nil, r => by cases r; exact .nil
  | _, _, _, .cons a b, r => by
    cases r with
    | cons r1 r2 => exact .cons (nkv_is ok a r1) (nkall_is ok b r2)
end
theorem nk_is (ok : HOk P w H h) {q : Addr} {k : NKey} (hk : KAt H q k) : (nestedKind P w).is h (nk k) q := ⟨nkv_is ok hk.1 rfl, hk.2⟩
end
/-! ### such a dict's object -/
def DN (P : Program) (w : World) (a : Addr) (xs : List (NestedKey × Addr × Value)) : HO := .ext fun h => (a == sysModules) = false ∧ xs.length ≤ sizeLine ∧ ∃ o es ep, h.get? a = some o ∧ o.ExactDict ∧ o.data = .dict es ep ∧ es.toList = xs.map (entryOfKey (nestedKind P w)) ∧ (xs.map (·.1)).Nodup
abbrev NRel (H : Hp) (p : NKey × V) (q : NestedKey × Addr × Value) : Prop := q.1 = nk p.1 ∧ KAt H q.2.1 p.1 ∧ RelV p.2 q.2.2
/-- at a stands, or stands locked, a dict with these keys and values -/
def ND (P : Program) (w : World) (H : Hp) (a : Addr) (kvs : List (NKey × V)) : Prop := ∃ xs, Rd H a (DN P w a xs) ∧ Paired (NRel H) kvs xs
/-- .. not locked -/
def NDm (P : Program) (w : World) (H : Hp) (a : Addr) (kvs : List (NKey × V)) : Prop := ∃ xs, H a = some (DN P w a xs) ∧ Paired (NRel H) kvs xs
theorem NRel.keep {H H' : Hp} (e : ∀ b xs, H b = some (.tup xs) → H' b = some (.tup xs)) {p : NKey × V} {q : NestedKey × Addr × Value} (h : NRel H p q) : NRel H' p q := ⟨h.1, h.2.1.keep e, h.2.2⟩
theorem NDm.nd {P : Program} {w : World} {H : Hp} {a : Addr} {kvs : List (NKey × V)} (h : NDm P w H a kvs) : ND P w H a kvs := by
  obtain ⟨xs, h1, h2⟩ := h
  exact ⟨xs, .inl h1, h2⟩
theorem NDm.keep {P : Program} {w : World} {H H' : Hp} {a : Addr} {kvs : List (NKey × V)} (e : ∀ b xs, H b = some (.tup xs) → H' b = some (.tup xs)) (ea : ∀ o, H a = some o → H' a = some o) (h : NDm P w H a kvs) : NDm P w H' a kvs := by
  obtain ⟨xs, h1, h2⟩ := h
  exact ⟨xs, ea _ h1, Paired.mapP h2 fun _ _ => NRel.keep e⟩
theorem ND.keep {P : Program} {w : World} {H H' : Hp} {a : Addr} {kvs : List (NKey × V)} (e : ∀ b xs, H b = some (.tup xs) → H' b = some (.tup xs)) (ea : ∀ o, H a = some o → H' a = some o) (h : ND P w H a kvs) : ND P w H' a kvs := by
  obtain ⟨xs, h1, h2⟩ := h
  exact ⟨xs, h1.imp (ea _) (fun ⟨o, z⟩ => ⟨o, ea _ z⟩), Paired.mapP h2 fun _ _ => NRel.keep e⟩
theorem NDm.ex {P : Program} {w : World} {H H' : Hp} {a : Addr} {kvs : List (NKey × V)} (e : Evl.Ex H H') (h : NDm P w H a kvs) : NDm P w H' a kvs := h.keep (fun _ _ z => e _ _ z) (fun _ z => e _ _ z)
theorem ND.ex {P : Program} {w : World} {H H' : Hp} {a : Addr} {kvs : List (NKey × V)} (e : Evl.Ex H H') (h : ND P w H a kvs) : ND P w H' a kvs := h.keep (fun _ _ z => e _ _ z) (fun _ z => e _ _ z)
theorem nrel_val {H : Hp} {kvs : List (NKey × V)} {xs : List (NestedKey × Addr × Value)} (r : Paired (NRel H) kvs xs) (k : NKey) : RelO (valV kvs k) ((atKey xs (nk k)).map (·.2)) := by
  induction r with
  | nil => exact True.intro
  | @cons p q ps qs h t ih =>
    obtain ⟨e1, _, e3⟩ := h
    by_cases e : p.1 = k
    · have e' : q.1 = nk k := e1.trans (congrArg nk e)
      have b : atKey (q :: qs) (nk k) = some q.2 := by simp [atKey, List.find?_cons, e']
      rw [valV_pos e, b]
      exact e3
    · have e' : ¬ q.1 = nk k := fun z => e (nk_inj (e1.symm.trans z))
      have b : atKey (q :: qs) (nk k) = atKey qs (nk k) := by simp [atKey, List.find?_cons, e']
      rw [valV_neg e, b]
      exact ih
theorem nrel_any {H : Hp} : ∀ {kvs : List (NKey × V)} {xs : List (NestedKey × Addr × Value)}, Paired (NRel H) kvs xs → ∀ k : NKey, (kvs.any fun kv => decide (kv.1 = k)) = (atKey xs (nk k)).isSome := by
  intro kvs xs r k
  rw [valV_any, (nrel_val r k).isSome_eq, Option.isSome_map]
theorem nrel_repl {H : Hp} : ∀ {kvs : List (NKey × V)} {xs : List (NestedKey × Addr × Value)} (_ : Paired (NRel H) kvs xs) (k : NKey) {y : V} {u : Value}, RelV y u →
    Paired (NRel H) (kvs.map fun kv => if kv.1 = k then (kv.1, y) else kv) (xs.map (putAt (nk k) u))
  | _, _, .nil, _, _, _, _ => .nil
  | _, _, .cons (a := p) (b := q) r t, k, y, u, ry => by
    obtain ⟨pk, pv⟩ := p
    obtain ⟨qk, qa, qv⟩ := q
    obtain ⟨e1, e2, e3⟩ := r
    have e1' : qk = pk := e1
    rw [e1']
    refine .cons ?_ (nrel_repl t k ry)
    by_cases h : pk = k
    · rw [h] at e2 ⊢
      simp only [putAt, if_true]
      exact ⟨rfl, e2, ry⟩
    · simp only [putAt, if_neg h]
      exact ⟨rfl, e2, e3⟩
theorem nrel_put {H : Hp} {kvs : List (NKey × V)} {xs : List (NestedKey × Addr × Value)} (r : Paired (NRel H) kvs xs) (k : NKey) {b : Addr} {y : V} {u : Value} (hb : KAt H b k) (ry : RelV y u) : Paired (NRel H) (putK kvs k y) (storedH xs (nk k) b u) := by
  unfold putK storedH
  rw [nrel_any r k]
  by_cases q : (atKey xs (nk k)).isSome = true
  · rw [if_pos q, if_pos q]
    exact nrel_repl r k ry
  · rw [if_neg q, if_neg q]
    exact Paired.snoc r ⟨rfl, hb, ry⟩
/-! ### rules for such dicts -/
section
variable {P : Program} {w : World} {H : Hp} {h : Heap} {a : Addr} {kvs : List (NKey × V)} {xs : List (NestedKey × Addr × Value)}
theorem dn_rd (ok : HOk P w H h) (e : Rd H a (DN P w a xs)) (r : Paired (NRel H) kvs xs) : xs.length ≤ sizeLine ∧ (a == sysModules) = false ∧ h.DictOfH (nestedKind P w) a xs := by
  obtain ⟨⟨z1, z2, o, es, ep, h1, h2, h3, h4, h5⟩, _, _⟩ := (show ObjOk P w H h a (DN P w a xs) from rd_of ok e)
  refine ⟨z2, z1, o, es, ep, h1, h2, h3, h4, fun x hx => ?_, h5⟩
  obtain ⟨i, hi⟩ := List.mem_iff_getElem?.mp hx
  obtain ⟨p, _, e1, e2, _⟩ := Paired.get2 r hi
  rw [e1]
  exact nk_is ok e2
theorem dn_ok {H' : Hp} {h' : Heap} (z : xs.length ≤ sizeLine) (hd : (a == sysModules) = false) (dd : h'.DictOfH (nestedKind P w) a xs) : ObjOk P w H' h' a (DN P w a xs) := by
  obtain ⟨o, es, ep, h1, h2, h3, h4, _, h5⟩ := dd
  refine ⟨⟨hd, z, o, es, ep, h1, h2, h3, h4, h5⟩, ⟨o, h1⟩, ?_⟩
  rintro g1 g2 ⟨y1, y2, o', es', ep', e1, e2, e3, e4, e5⟩ k
  exact ⟨y1, y2, o', es', ep', k _ e1, e2, e3, e4, e5⟩
theorem nd_len (ok : HOk P w H h) (d : ND P w H a kvs) : kvs.length ≤ sizeLine := by
  obtain ⟨xs, e, r⟩ := d
  rw [Paired.len r]
  exact (dn_rd ok e r).1
end
/-- {} that is to have such keys -/
def tDNewN (P : Program) (w : World) : TE := fun _ H Q => ∀ p, H p = none → Q (.ref p) (upd H p (DN P w p []))
theorem NDm.empty {P : Program} {w : World} {H : Hp} {p : Addr} : NDm P w (upd H p (DN P w p [])) p [] := ⟨[], upd_same, .nil⟩
theorem nd_typeIs {X : Cx} {pins : List (Addr × Obj)} {σ : L2.St} {H : Hp} {s : Shared} {a : Addr} {kvs : List (NKey × V)} (I : Inv X pins σ H s) (d : ND X.prog X.w H a kvs) :
    s.TypeIs (.ref a) "dict" ∧ (∀ b, Value.ref a = .ref b → ∃ ob, s.heap.get? b = some ob ∧ ob.dict = none) ∧ (a == sysModules) = false := by
  obtain ⟨xs, e, r⟩ := d
  obtain ⟨_, hd, dd⟩ := dn_rd I.hok e r
  refine ⟨dd.typeIs, fun b q => ?_, hd⟩
  cases q
  obtain ⟨ob, _, _, h1, h2, _⟩ := dd
  exact ⟨ob, h1, h2.2.1⟩
theorem ty_dictN {X : Cx} : TyOk X "dict" (fun x H => ∃ a kvs, x = .ref a ∧ ND X.prog X.w H a kvs) := by
  intro pins σ H s x v I r h
  obtain ⟨a, kvs, rfl, d⟩ := h
  obtain rfl : v = Value.ref a := r
  obtain ⟨t1, t2, _⟩ := nd_typeIs I d
  exact ⟨t1, t2⟩
theorem nested_room {P : Program} {w : World} {A : Around} (hu : A.units + 9 < cLine) : (nestedKind P w).room A.in1 := by
  show A.in1.units + 8 < cLine
  have : A.in1.units ≤ A.units + 1 := Nat.le_refl _
  omega
section
variable {X : Cx} {pos pos' : Pos}
theorem pe_dnewN : PE X (.Dict [] [] pos) (tDNewN X.prog X.w) := ⟨fun pins s σ H Q I h => by
  have hb : (s.heap.objs.size == sysModules) = false := beq_eq_false_iff_ne.mpr (Ne.symm (Nat.ne_of_lt I.big))
  exact wpAny_Dict_empty ⟨.ref s.heap.objs.size, _, I.laid (a := s.heap.objs.size) (o := DN X.prog X.w s.heap.objs.size []) (t' := s.toks) (fun _ _ q => Heap.get?_push_of_some _ q) (Nat.le_refl _)
    (dn_ok (Nat.zero_le _) hb (Heap.DictOfH.new s.heap)), rfl, h _ (I.hok.fresh (Nat.le_refl _))⟩⟩
end
/-- d[y]; y not in d -/
def tNGet (P : Program) (w : World) (td ty : TE) : TE := fun σ H Q => td σ H fun x H1 => ty σ H1 fun y H2 => ∃ (a b : Addr) (kvs : List (NKey × V)) (k : NKey) (v : V), x = .ref a ∧ y = .ref b ∧ KAt H2 b k ∧ ND P w H2 a kvs ∧ valV kvs k = some v ∧ Q v H2
def tNNotIn (P : Program) (w : World) (ty td : TE) : TE := fun σ H Q => ty σ H fun y H1 => td σ H1 fun x H2 => ∃ (a b : Addr) (kvs : List (NKey × V)) (k : NKey), x = .ref a ∧ y = .ref b ∧ KAt H2 b k ∧ ND P w H2 a kvs ∧ Q (.bl (!(valV kvs k).isSome)) H2
section
variable {X : Cx} {o i e : Expr} {pos : Pos} {td ty : TE}
theorem pe_nget (hu : X.A.units + 9 < cLine) (ho : PE X o td) (hi : PE X i ty) (hs : NoSl i) : PE X (.Subscript o i pos) (tNGet X.prog X.w td ty) := by
  refine ⟨fun pins s σ H Q I h => ?_⟩
  refine subD_of PySem.F.slot_dict_getitem.lookup hs (thn (ho.run pins s σ H _ I h) fun u s1 ⟨x, H1, I1, rx, q1⟩ => thn (hi.run pins s1 σ H1 _ I1 q1) fun iv s2 ⟨y, H2, I2, ry, a, b, kvs, k, v, ex, ey, hk, d, l, q2⟩ => ?_)
  subst ex ey
  obtain rfl : u = Value.ref a := rx
  obtain rfl : iv = Value.ref b := ry
  refine ⟨(nd_typeIs I2 d).1, ?_⟩
  obtain ⟨xs, hx, r⟩ := d
  obtain ⟨z, hd, dd⟩ := dn_rd I2.hok hx r
  obtain ⟨w', hw, rw'⟩ := RelO.some_of (v := v) (o := (atKey xs (nk k)).map (·.2)) (by rw [← l]; exact nrel_val r k)
  obtain ⟨p, hp, hp2⟩ := Option.map_eq_some_iff.mp hw
  refine wpAny_getItem_heap (nested_room hu) (nk_is I2.hok hk) dd hp ?_
  rw [hp2]
  exact ⟨v, H2, I2.tok _, rw', q2⟩
theorem pc_nnotin (hu : X.A.units + 9 < cLine) (hi : PE X i ty) (ho : PE X o td) : PC X .NotIn i o (tNNotIn X.prog X.w ty td) := by
  refine ⟨fun pins s σ H Q I h => ?_⟩
  refine thn (hi.run pins s σ H _ I h) fun iv s1 ⟨y, H1, I1, ry, q1⟩ => thn (ho.run pins s1 σ H1 _ I1 q1) fun u s2 ⟨x, H2, I2, rx, a, b, kvs, k, ex, ey, hk, d, q2⟩ => ?_
  subst ex ey
  obtain rfl : u = Value.ref a := rx
  obtain rfl : iv = Value.ref b := ry
  obtain ⟨xs, hx, r⟩ := d
  obtain ⟨z, hd, dd⟩ := dn_rd I2.hok hx r
  refine wpAny_notIn_heap (nested_room hu) (nk_is I2.hok hk) hd dd ?_
  have q := (nrel_val r k).isSome_eq
  rw [Option.isSome_map] at q
  rw [← q]
  exact ⟨.bl (!(valV kvs k).isSome), H2, I2.tok _, rfl, q2⟩
end
/-- d.get(y, x) -/
def rGetN (P : Program) (w : World) : V → List V → Hp → VK → Prop := fun x vs H Q => ∃ (a b : Addr) (z : V) (kvs : List (NKey × V)) (k : NKey), x = .ref a ∧ vs = [.ref b, z] ∧ KAt H b k ∧ ND P w H a kvs ∧ Q ((valV kvs k).getD z) H
theorem mt_getN {X : Cx} (hu : X.A.units + 9 < cLine) : MtR X "dict.get" (rGetN X.prog X.w) := by
  intro pins s σ H x vs v us Q I rx rv h
  obtain ⟨a, b, z, kvs, k, rfl, rfl, hk, d, q⟩ := h
  obtain rfl : v = Value.ref a := rx
  obtain ⟨u1, u2, rfl, r1, r2⟩ := vals2 rv
  obtain rfl : u1 = Value.ref b := r1
  obtain ⟨xs, hx, r⟩ := d
  obtain ⟨zl, hd, dd⟩ := dn_rd I.hok hx r
  refine call_meetsIn PySem.F.slot_dict_get dd.typeIs PySem.F.entry_dict_get (PySem.F.args_dict_get_3 _ _ _) (meetsH_dict_get_default (nestedKind X.prog X.w) a b hd u2) ⟨nested_room hu, nk k, xs, nk_is I.hok hk, dd, ?_⟩
  exact ⟨_, _, I.tok _, (nrel_val r k).getD r2, q⟩
/-! ### d.update([(key, value) ..]) -/
def putsN (cur new : List (NKey × V)) : List (NKey × V) := new.foldl (fun acc kv => putK acc kv.1 kv.2) cur
theorem putsN_len : ∀ (new cur : List (NKey × V)), (putsN cur new).length ≤ cur.length + new.length
  | [], cur => Nat.le_refl _
  | p :: r, cur => by
    have h1 := putsN_len r (putK cur p.1 p.2)
    have h2 := length_putK cur p.1 p.2
    show (putsN (putK cur p.1 p.2) r).length ≤ _
    rw [List.length_cons]
    omega
/-- a tuple of a key and its value -/
def PairN (H : Hp) (p : Addr) (kv : NKey × V) : Prop := ∃ b, H p = some (.tup [.ref b, kv.2]) ∧ KAt H b kv.1
def rUpdN (P : Program) (w : World) : V → List V → Hp → VK → Prop := fun x vs H Q => ∃ (d l : Addr) (cur new : List (NKey × V)) (ps : List Addr), x = .ref d ∧ vs = [.ref l] ∧ NDm P w H d cur ∧ H l = some (.lst (ps.map V.ref)) ∧ Paired (PairN H) ps new ∧
  cur.length + new.length ≤ sizeLine ∧ ∀ xs, NDm P w (upd H d (DN P w d xs)) d (putsN cur new) → Q .non (upd H d (DN P w d xs))
section
variable {X : Cx}
theorem pairsN {pins : List (Addr × Obj)} {σ : L2.St} {H : Hp} {s : Shared} (I : Inv X pins σ H s) : ∀ {ps : List Addr} {new : List (NKey × V)}, Paired (PairN H) ps new →
    ∃ prs : List (NestedKey × Addr × Value), prs.length = ps.length ∧ Paired (NRel H) new prs ∧
      ∀ (j : Nat) (q : NestedKey × Addr × Value), prs[j]? = some q → ∃ p, ps[j]? = some p ∧ PairAt s.heap p (.ref q.2.1) q.2.2
  | _, _, .nil => ⟨[], rfl, .nil, fun j q e => by simp at e⟩
  | _, _, .cons (a := p) (b := u) h t => by
    obtain ⟨prs, hl, hp, hq⟩ := pairsN I t
    obtain ⟨b, h1, h2⟩ := h
    obtain ⟨_, its, rv, o, e1, e2, n, e3⟩ := (show ObjOk X.prog X.w H s.heap p (.tup [.ref b, u.2]) from I.hok p _ h1)
    obtain ⟨v1, v2, rfl, r1, r2⟩ := vals2 rv
    obtain rfl : v1 = Value.ref b := r1
    refine ⟨(nk u.1, b, v2) :: prs, by rw [List.length_cons, List.length_cons, hl], .cons ⟨rfl, h2, r2⟩ hp, fun j q e => ?_⟩
    cases j with
    | zero =>
      have e' : (nk u.1, b, v2) = q := Option.some.inj e
      subst e'
      exact ⟨p, rfl, .inl ⟨o, e1, e2, n, e3⟩⟩
    | succ j => exact hq j q e
theorem nrel_puts {H : Hp} : ∀ {new : List (NKey × V)} {prs : List (NestedKey × Addr × Value)} {cur : List (NKey × V)} {xs : List (NestedKey × Addr × Value)}, Paired (NRel H) new prs → Paired (NRel H) cur xs → Paired (NRel H) (putsN cur new) (storedAllH xs prs)
  | _, _, _, _, .nil, h => h
  | _, _, cur, xs, .cons (a := p) (b := q) (l₁ := new) (l₂ := prs) r t, h => by
    obtain ⟨pk, pv⟩ := p
    obtain ⟨qk, qa, qv⟩ := q
    obtain ⟨e1, e2, e3⟩ := r
    have e1' : qk = pk := e1
    rw [e1']
    show Paired (NRel H) (putsN (putK cur pk pv) new) (storedAllH (storedH xs (nk pk) qa qv) prs)
    exact nrel_puts t (nrel_put h pk e2 e3)
theorem mt_updN (hc : X.calm = true) (hu : X.A.units + 9 < cLine) : MtR X "dict.update" (rUpdN X.prog X.w) := by
  intro pins s σ H x vs v us Q I rx rv h
  obtain ⟨d, l, cur, new, ps, rfl, rfl, ⟨xs, hd, rel⟩, hl, hp, hz, q⟩ := h
  obtain rfl : v = Value.ref d := rx
  obtain ⟨u, rfl, ru⟩ := rv.one
  obtain rfl : u = Value.ref l := ru
  obtain ⟨zl, its, n, r, _, hle⟩ := I.lstM hl
  have ei := refs_at r
  subst ei
  obtain ⟨z, hdm, dd⟩ := dn_rd I.hok (.inl hd) rel
  obtain ⟨prs, pl, hpw, hpp⟩ := pairsN I hp
  have pwl : ps.length = new.length := Paired.len hp
  have xl : cur.length = xs.length := Paired.length rel
  have ndl : d ≠ l := ne_of hd hl (fun z => nomatch z)
  have tupAt : ∀ {b : Addr} {ys : List V}, H b = some (.tup ys) → b ≠ d := fun hb => ne_of hb hd (fun z => nomatch z)
  have keyStay : ∀ (h' : Heap), (∀ b o, b ≠ d → b ∉ ([] : List Addr) → s.heap.get? b = some o → h'.get? b = some o) → ∀ (k : NKey) (b : Addr), KAt H b k → (nestedKind X.prog X.w).is h' (nk k) b := by
    intro h' hk k b hb
    exact HeapKind.Stays.but nestedKind_stays (let ⟨o, es, ep, e1, _, e3, _⟩ := dd; ⟨o, es, ep, e1, e3⟩) h' hk _ _ (nk_is I.hok hb)
  let Ts : Nat → Addr := fun j => ps.getD j 0
  have tsAt : ∀ {j : Nat} {p : Addr}, ps[j]? = some p → Ts j = p := fun {j p} e => by
    show ps.getD j 0 = p
    rw [List.getD_eq_getElem?_getD, e]
    rfl
  have qsAt : ∀ {j : Nat} {k v : Value}, (prs.map fun q => (Value.ref q.2.1, q.2.2))[j]? = some (k, v) → ∃ q, prs[j]? = some q ∧ k = .ref q.2.1 ∧ v = q.2.2 := fun {j k v} e => by
    rw [List.getElem?_map] at e
    cases hq : prs[j]? with
    | none => rw [hq] at e; cases e
    | some q =>
      rw [hq] at e
      have e' : (Value.ref q.2.1, q.2.2) = (k, v) := Option.some.inj e
      cases e'
      exact ⟨q, rfl, rfl, rfl⟩
  have ql : (prs.map fun q => (Value.ref q.2.1, q.2.2)).length = ps.length := by rw [List.length_map, pl]
  refine call_update_pairsH (knd := nestedKind X.prog X.w) (acc := xs) (ps := prs) (PairArg.list l (ps.map Value.ref).toArray Ts (prs.map fun q => (Value.ref q.2.1, q.2.2))) (I.ok.hd hc) (nested_room hu)
    ⟨⟨_, n, hle, rfl, rfl, rfl⟩, by simp [pl], fun j k v e => ?_⟩ (fun hm => ?_) ⟨by rw [List.length_map], fun i key v e => ?_⟩ (fun h' hk x hx => ?_) dd (by rw [← xl, ql, pwl]; exact hz) fun h' tk dd' hk => ?_
  · obtain ⟨q', hq, rfl, rfl⟩ := qsAt e
    obtain ⟨p, h1, h2⟩ := hpp j q' hq
    refine ⟨?_, by rw [tsAt h1]; exact h2⟩
    rw [tsAt h1]
    simp [h1]
  · rcases List.mem_cons.mp hm with e | hm
    · exact ndl e
    · obtain ⟨j, hj, e⟩ := List.mem_map.mp hm
      rw [List.mem_range, ql] at hj
      have hp1 : ps[j]? = some (ps[j]'hj) := List.getElem?_eq_getElem hj
      rw [tsAt hp1] at e
      obtain ⟨u, _, b, h1, _⟩ := Paired.get1 hp hp1
      exact tupAt h1 e
  · obtain ⟨q', hq, rfl, rfl⟩ := qsAt e
    exact ⟨q'.1, q'.2.1, hq, rfl⟩
  · rcases List.mem_append.mp hx with hx | hx
    · obtain ⟨i, hi⟩ := List.mem_iff_getElem?.mp hx
      obtain ⟨p, hp1, e1, e2, _⟩ := Paired.get2 rel hi
      rw [e1]
      exact keyStay h' hk _ _ e2
    · obtain ⟨i, hi⟩ := List.mem_iff_getElem?.mp hx
      obtain ⟨u, hu1, e1, e2, _⟩ := Paired.get2 hpw hi
      rw [e1]
      exact keyStay h' hk _ _ e2
  · have r2 := nrel_puts hpw rel
    have lN : (storedAllH xs prs).length ≤ sizeLine := by
      rw [← Paired.len r2]
      exact Nat.le_trans (putsN_len new cur) hz
    have he : ∃ o, h'.get? d = some o := let ⟨o, _, _, e1, _⟩ := dd'; ⟨o, e1⟩
    refine ⟨.non, _, I.write (x := d) (e := d) (by rw [hd]; exact True.intro) (.inl rfl) (fun b u hb e => hk b u hb (by simp) e) he (dn_ok lN hdm dd'), rfl, q _ ⟨_, upd_same, Paired.mapP r2 fun _ _ => NRel.keep fun b ys e => ?_⟩⟩
    rw [upd_ne (tupAt e)]
    exact e
end
/-! ### for key in d: the tuples that are keys, one after another; d locked -/
def Itkn (P : Program) (w : World) (d : Addr) (o : Obj) (xs : List (NestedKey × Addr × Value)) : It where
  go i H := H d = some (.frz o (DN P w d xs)) ∧ i < xs.length
  yld i H x H' := H' = H ∧ ∃ e, xs[i]? = some e ∧ x = .ref e.2.1
  stop i H := H d = some (.frz o (DN P w d xs)) ∧ xs.length ≤ i
theorem frzN {X : Cx} {pins : List (Addr × Obj)} {σ : L2.St} {H : Hp} {s : Shared} {d : Addr} {o : Obj} {xs : List (NestedKey × Addr × Value)} (I : Inv X pins σ H s) (h : H d = some (.frz o (DN X.prog X.w d xs))) :
    (d == sysModules) = false ∧ s.heap.get? d = some o ∧ o.ExactDict ∧ ∃ (es : Array DictEntry) (ep : Nat), o.data = .dict es ep ∧ es.size = xs.length ∧ ∀ (i : Nat) (e : NestedKey × Addr × Value), xs[i]? = some e → ∃ en : DictEntry, es[i]? = some en ∧ en.key = .ref e.2.1 := by
  obtain ⟨hg, ⟨z1, z2, o', es, ep, e1, e2, e3, e4, _⟩, _⟩ := I.hok d _ h
  rw [hg] at e1
  cases e1
  refine ⟨z1, hg, e2, es, ep, e3, size_of_entries e4, ?_⟩
  intro i e he
  have q := entry_at e4 i
  rw [he] at q
  exact ⟨_, q, rfl⟩
theorem turn_keysN {P : Program} {w : World} {K : PySem.W.Frag} {tg : Expr} {d : Addr} {o : Obj} {es : Array DictEntry} {ep : Nat} {xs : List (NestedKey × Addr × Value)} (it : Addr) (hod : o.data = .dict es ep) :
    Turn P w K tg (Itkn P w d o xs) [it] it (fun i h => h.IsKeyIter it d i xs.length ep) where
  mem := List.mem_singleton.mpr rfl
  obj := by
    intro i h st b hb
    obtain rfl : b = it := List.mem_singleton.mp hb
    obtain ⟨oi, e, c, dd⟩ := st
    refine ⟨oi, e, ?_⟩
    intro v z
    rw [dd] at z
    cases z
  keep := by
    intro i h h' st k
    exact st.at (fun oi e => k it (List.mem_singleton.mpr rfl) oi e)
  item := by
    rintro X rfl rfl rfl hc i pins s σ H E I hf st ⟨hd, hi⟩
    obtain ⟨f0, f1, f2, f3, f4, f5⟩ := hf it (List.mem_singleton.mpr rfl)
    obtain ⟨hs, hgd, hx, es', ep', hdt, hsz, ent⟩ := frzN I hd
    obtain ⟨rfl, rfl⟩ := dict_ep hod hdt
    obtain ⟨e, he⟩ : ∃ e, xs[i]? = some e := ⟨xs[i], List.getElem?_eq_getElem hi⟩
    obtain ⟨en, hen, hkey⟩ := ent i e he
    refine next_key_item st hgd hdt hsz hen ?_
    intro h' st' sb
    have I1 : Inv X pins σ H { s with heap := h' } := I.turned (t' := s.toks) (fun b ob hb e => (sb.2 b hb).trans e) f0 f1 f3 f4 f5
    obtain ⟨oi, e1, c, dd⟩ := id st'
    exact ⟨en.key, rfl, go_of (s := { s with heap := h' }) e1 c dd (by decide) ⟨.ref e.2.1, H, I1, hkey, ⟨rfl, e, he, rfl⟩, st', fun b hb => (hf b hb).1⟩⟩
  done := by
    rintro X rfl rfl rfl hc i pins s σ H E I hf st ⟨hd, hi⟩
    obtain ⟨f0, f1, f2, f3, f4, f5⟩ := hf it (List.mem_singleton.mpr rfl)
    obtain ⟨hs, hgd, hx, es', ep', hdt, hsz, ent⟩ := frzN I hd
    obtain ⟨rfl, rfl⟩ := dict_ep hod hdt
    refine next_key_end (I.ok.hd hc) st hgd hdt hsz hi ?_
    intro h' eb
    exact ⟨rfl, I.turned (t' := s.toks) (fun b ob hb e => eb b ob hb e) f0 f1 f3 f4 f5⟩
  self := by
    intro A i s Q E st h
    exact (turn_keysT (P := P) (w := w) (K := K) (tg := tg) (d := d) (o := o) (es := es) (ep := ep) (kvs := xs.map fun _ => ([], .non)) it hod).self A i s Q E (by rw [List.length_map]; exact st) h
def iKeysN (P : Program) (w : World) (td : TE) : TI := fun σ H R => td σ H fun x H1 => ∃ d o xs, x = .ref d ∧ H1 d = some (.frz o (DN P w d xs)) ∧ R (Itkn P w d o xs) H1
theorem pi_keysN {X : Cx} {tg e : Expr} {td : TE} (he : PE X e td) : PI X tg e (iKeysN X.prog X.w td) := by
  constructor
  intro pins s σ H R I h
  refine thn (he.run pins s σ H _ I h) ?_
  rintro u s1 ⟨x, H1, I1, rx, d, o, xs, rfl, hd, q⟩
  obtain rfl : u = Value.ref d := rx
  obtain ⟨hs, hgd, hx, es, ep, hdt, hsz, ent⟩ := frzN I1 hd
  refine iter_keys hs hgd hx hdt (pi_one (tk := s1.toks) I1 _ (turn_keysN _ hdt) ⟨_, Heap.get?_push_size _ rfl, rfl, ?_⟩ q)
  rw [hsz] <;> rfl

theorem walk_keysN {P : Program} {w : World} {d : Addr} {o : Obj} {xs : List (NestedKey × Addr × Value)} : Walk (Itkn P w d o xs) xs.length (fun H => H d = some (.frz o (DN P w d xs))) (fun i H x H' => H' = H ∧ ∃ e, xs[i]? = some e ∧ x = .ref e.2.1) :=
  ⟨fun _ _ hi q => ⟨q, hi⟩, fun _ q => ⟨q, Nat.le_refl _⟩, fun _ _ _ _ _ _ y => y⟩
theorem hu9_of {k : Nat} {A : Around} (h : Room k A) : A.units + 9 < cLine := by
  have := h.un
  omega
/-! ### d[y] = v -/
def sNPut (P : Program) (w : World) (td ty tv : TE) : TS := fun D σ H => tv σ H fun v H1 => td σ H1 fun x H2 => ty σ H2 fun y H3 => ∃ (a b : Addr) (kvs : List (NKey × V)) (k : NKey), x = .ref a ∧ y = .ref b ∧ KAt H3 b k ∧ NDm P w H3 a kvs ∧ kvs.length < sizeLine ∧
  ∀ xs, NDm P w (upd H3 a (DN P w a xs)) a (putK kvs k v) → D.nx σ (upd H3 a (DN P w a xs))
section
variable {X : Cx} {o i value : Expr} {pos pos' : Pos} {td ty tv : TE}
theorem ps_nput (hu : X.A.units + 9 < cLine) (ho : PE X o td) (hi : PE X i ty) (hv : PE X value tv) (hs : swapsWith value (some (.Subscript o i pos')) pos.line X.env = pure false) :
    PS X (.Assign [.Subscript o i pos'] value pos) (sNPut X.prog X.w td ty tv) := by
  refine ⟨fun pins s σ H D I h => ?_⟩
  refine wpAny_Assign_Subscript (thn (hv.run pins s σ H _ I h) fun r s1 ⟨v, H1, I1, rv, q1⟩ => thn (ho.run pins s1 σ H1 _ I1 q1) fun u s2 ⟨x, H2, I2, rx, q2⟩ => thn (hi.run pins s2 σ H2 _ I2 q2) fun iv s3 ⟨y, H3, I3, ry, a, b, kvs, k, ex, ey, hk, d, hz, q3⟩ => ?_) hs
  subst ex ey
  obtain rfl : u = Value.ref a := rx
  obtain rfl : iv = Value.ref b := ry
  obtain ⟨xs, hx, rel⟩ := d
  obtain ⟨z, hd, dd⟩ := dn_rd I3.hok (.inl hx) rel
  have xl : kvs.length = xs.length := Paired.length rel
  have hl : (storedH xs (nk k) b r).length ≤ sizeLine := by have := storedH_length xs (nk k) b r; omega
  refine wpAny_setItem_heap (hsz := by omega) (nested_room hu) (nk_is I3.hok hk) dd fun h' dd' hs' => ?_
  obtain ⟨q, es, ep, hq, h2, h3, h4, _, h5⟩ := id dd'
  have keep : ∀ c ys, H3 c = some (.tup ys) → upd H3 a (DN X.prog X.w a (storedH xs (nk k) b r)) c = some (.tup ys) := fun c ys e => by
    rw [upd_ne (ne_of e hx (fun z => nomatch z))]
    exact e
  refine ⟨σ, _, d_write I3 (by rw [hx]; exact True.intro) hs' ⟨q, hq⟩ (dn_ok hl hd dd'), q3 _ ⟨_, upd_same, ?_⟩⟩
  exact Paired.mapP (nrel_put rel k hk rv) fun _ _ => NRel.keep keep
end
/-! ### {key: value}, the key such a tuple -/
def tDisp1N (P : Program) (w : World) (tk tv : TE) : TE := fun σ H Q => ∀ p, H p = none → tk σ (upd H p (DN P w p [])) fun y H1 => tv σ H1 fun v H2 => ∃ (b : Addr) (k : NKey), y = .ref b ∧ KAt H2 b k ∧ H2 p = some (DN P w p []) ∧
  ∀ xs, NDm P w (upd H2 p (DN P w p xs)) p [(k, v)] → Q (.ref p) (upd H2 p (DN P w p xs))
theorem pe_disp1N {X : Cx} {pos : Pos} {k v : Expr} {tk tv : TE} (hu : X.A.units + 9 < cLine) (hk : PE X k tk) (hv : PE X v tv) : PE X (.Dict [some k] [v] pos) (tDisp1N X.prog X.w tk tv) := by
  refine ⟨fun pins s σ H Q I q => ?_⟩
  have hn := I.hok.fresh (Nat.le_refl s.heap.objs.size)
  have hb : (s.heap.objs.size == sysModules) = false := beq_eq_false_iff_ne.mpr (Ne.symm (Nat.ne_of_lt I.big))
  have I1 := I.laid (a := s.heap.objs.size) (o := DN X.prog X.w s.heap.objs.size []) (h' := s.heap.push { cls := .type "dict", data := .dict #[] }) (t' := s.toks) (fun _ _ q => Heap.get?_push_of_some _ q) (Nat.le_refl _) (dn_ok (Nat.zero_le _) hb (Heap.DictOfH.new s.heap))
  have hp : pairTrees [some k] [v] X.env pos ≠ [] := by
    intro he
    have hl := pairTrees_length [some k] [v] X.env pos rfl rfl
    rw [he] at hl
    cases hl
  have hl := pairTrees_length [some k] [v] X.env pos rfl rfl
  rw [arm_eval_Dict, zip_pairTrees [some k] [v] X.env pos rfl rfl, dictDisplay_pairs _ hp (by rw [hl]; exact (by decide : 1 < 17))]
  have hr : (nestedKind X.prog X.w).room X.A := by
    show X.A.units + 8 < cLine
    omega
  refine wpAny_bind (wpAny_standAt (wpAny_bind (wpAny_subDictH (knd := nestedKind X.prog X.w) (Q := fun d s' => wpAny (model X.prog X.w) X.A (pure (Value.ref d)) _ X.xe s') hr (by rw [hl]; exact (by decide : 1 ≤ 15)) ?_)))
  refine pairTrees_cons_walk (thn (hk.run pins _ σ _ _ I1 (q _ hn)) fun u s1 ⟨x, H1, I1', rx, q1⟩ => thn (hv.run pins s1 σ H1 _ I1' q1) fun w2 s2 ⟨y, H2, I2, ry, b, ky, ey, hky, hH, q2⟩ => ?_)
  subst ey
  obtain rfl : u = Value.ref b := rx
  refine pairTrees_nil_walk ?_
  obtain ⟨z, hd, dd⟩ := dn_rd (kvs := []) I2.hok (.inl hH) .nil
  refine ⟨[(nk ky, b, w2)], ⟨rfl, rfl, nk_is I2.hok hky, trivial⟩, dd, fun h' tk dd' hs' => wpAny_pure ?_⟩
  obtain ⟨q', es, ep, hq, h2, h3, h4, _, h5⟩ := id dd'
  have keep : ∀ c ys, H2 c = some (.tup ys) → upd H2 s.heap.objs.size (DN X.prog X.w s.heap.objs.size (storedAllH [] [(nk ky, b, w2)])) c = some (.tup ys) := fun c ys e => by
    rw [upd_ne (ne_of e hH (fun z => nomatch z))]
    exact e
  refine ⟨.ref s.heap.objs.size, _, d_write (t' := tk) I2 (by rw [hH]; exact True.intro) hs' ⟨q', hq⟩ (dn_ok (xs := storedAllH [] [(nk ky, b, w2)]) (show 1 ≤ sizeLine by decide) hd dd'), rfl, q2 _ ⟨_, upd_same, ?_⟩⟩
  exact .cons ⟨rfl, hky.keep keep, ry⟩ .nil
end Wb

set_option Elab.async false
set_option linter.all false
set_option maxRecDepth 100000
set_option maxHeartbeats 4000000
namespace Wb
/-! ### all pairs' least prices by nodes let in one after another: no program here -/
namespace Fw
section
variable {N : Nat} {F : Nat → Nat → Option Int}
inductive Pth (N : Nat) (F : Nat → Nat → Option Int) (a : Nat) : Nat → Int → Prop
  | refl : Pth N F a a 0
  | step {b c : Nat} {p q : Int} : Pth N F a b p → b < N → c < N → F b c = some q → Pth N F a c (p + q)
theorem Pth.trans {a b c : Nat} {p q : Int} (h : Pth N F a b p) (h' : Pth N F b c q) : Pth N F a c (p + q) := by
  induction h' with
  | refl => rw [Int.add_zero]; exact h
  | step _ hb hc hf ih => rw [← Int.add_assoc]; exact .step ih hb hc hf
def Via (F : Nat → Nat → Option Int) : Nat → Nat → Nat → Int → Prop
  | 0, a, b, p => (a = b ∧ p = 0) ∨ (a ≠ b ∧ F a b = some p)
  | c + 1, a, b, p => Via F c a b p ∨ ∃ p1 p2, Via F c a c p1 ∧ Via F c c b p2 ∧ p = p1 + p2
theorem via_nn (nn : ∀ a b q, F a b = some q → 0 ≤ q) : ∀ c a b p, Via F c a b p → 0 ≤ p
  | 0, a, b, p, h => by
    rcases h with ⟨_, h⟩ | ⟨_, h⟩
    · omega
    · exact nn _ _ _ h
  | c + 1, a, b, p, h => by
    rcases h with h | ⟨p1, p2, h1, h2, e⟩
    · exact via_nn nn c a b p h
    · have := via_nn nn c _ _ _ h1
      have := via_nn nn c _ _ _ h2
      omega
theorem via_up {a b : Nat} {p : Int} : ∀ c d, c ≤ d → Via F c a b p → Via F d a b p := fun c d h v => by
  induction d with
  | zero =>
    have : c = 0 := by omega
    rw [← this]; exact v
  | succ d ih =>
    by_cases e : c = d + 1
    · rw [← e]; exact v
    · exact .inl (ih (by omega))
theorem via_pth : ∀ c, c ≤ N → ∀ a b p, a < N → b < N → Via F c a b p → Pth N F a b p
  | 0, _, a, b, p, ha, hb, h => by
    rcases h with ⟨rfl, rfl⟩ | ⟨_, h⟩
    · exact .refl
    · have := Pth.step (N := N) (F := F) (a := a) .refl ha hb h
      rwa [Int.zero_add] at this
  | c + 1, hc, a, b, p, ha, hb, h => by
    rcases h with h | ⟨p1, p2, h1, h2, rfl⟩
    · exact via_pth c (by omega) a b p ha hb h
    · exact (via_pth c (by omega) a c p1 ha (by omega) h1).trans (via_pth c (by omega) c b p2 (by omega) hb h2)
theorem via_le (nn : ∀ a b q, F a b = some q → 0 ≤ q) : ∀ c x a b p q, x < c → Via F c a x p → Via F c x b q → ∃ r, r ≤ p + q ∧ Via F c a b r
  | 0, x, _, _, _, _, h, _, _ => absurd h (by omega)
  | c + 1, x, a, b, p, q, hx, h1, h2 => by
    by_cases e : x = c
    · subst e
      have f1 : ∃ p', p' ≤ p ∧ Via F x a x p' := by
        rcases h1 with h | ⟨p1, p2, h, h', rfl⟩
        · exact ⟨p, Int.le_refl _, h⟩
        · have := via_nn nn _ _ _ _ h'
          exact ⟨p1, by omega, h⟩
      have f2 : ∃ q', q' ≤ q ∧ Via F x x b q' := by
        rcases h2 with h | ⟨p1, p2, h', h, rfl⟩
        · exact ⟨q, Int.le_refl _, h⟩
        · have := via_nn nn _ _ _ _ h'
          exact ⟨p2, by omega, h⟩
      obtain ⟨p', l1, v1⟩ := f1
      obtain ⟨q', l2, v2⟩ := f2
      exact ⟨p' + q', by omega, .inr ⟨p', q', v1, v2, rfl⟩⟩
    · have xc : x < c := by omega
      rcases h1 with h1 | ⟨p1, p2, a1, a2, rfl⟩
      · rcases h2 with h2 | ⟨q1, q2, b1, b2, rfl⟩
        · obtain ⟨r, hr, v⟩ := via_le nn c x a b p q xc h1 h2
          exact ⟨r, hr, .inl v⟩
        · obtain ⟨r, hr, v⟩ := via_le nn c x a c p q1 xc h1 b1
          exact ⟨r + q2, by omega, .inr ⟨r, q2, v, b2, rfl⟩⟩
      · rcases h2 with h2 | ⟨q1, q2, b1, b2, rfl⟩
        · obtain ⟨r, hr, v⟩ := via_le nn c x c b p2 q xc a2 h2
          exact ⟨p1 + r, by omega, .inr ⟨p1, r, a1, v, rfl⟩⟩
        · have := via_nn nn _ _ _ _ a2
          have := via_nn nn _ _ _ _ b1
          exact ⟨p1 + q2, by omega, .inr ⟨p1, q2, a1, b2, rfl⟩⟩
theorem pth_via (nn : ∀ a b q, F a b = some q → 0 ≤ q) {a b : Nat} {p : Int} (h : Pth N F a b p) : ∃ r, r ≤ p ∧ Via F N a b r := by
  induction h with
  | refl => exact ⟨0, Int.le_refl _, via_up 0 N (Nat.zero_le _) (.inl ⟨rfl, rfl⟩)⟩
  | @step b c p q _ hb hc hf ih =>
    obtain ⟨r, hr, v⟩ := ih
    by_cases e : b = c
    · subst e
      have := nn _ _ _ hf
      exact ⟨r, by omega, v⟩
    · have v2 : Via F N b c q := via_up 0 N (Nat.zero_le _) (.inr ⟨e, hf⟩)
      obtain ⟨r', hr', v'⟩ := via_le nn N b a c r q hb v v2
      exact ⟨r', by omega, v'⟩
theorem via_bound {M : Int} (m0 : 0 ≤ M) (bd : ∀ a b q, F a b = some q → q ≤ M) : ∀ c a b p, Via F c a b p → p ≤ 2 ^ c * M
  | 0, a, b, p, h => by
    rcases h with ⟨_, h⟩ | ⟨_, h⟩
    · have : (2 : Int) ^ 0 * M = M := by rw [Int.pow_zero, Int.one_mul]
      omega
    · have := bd _ _ _ h
      have : (2 : Int) ^ 0 * M = M := by rw [Int.pow_zero, Int.one_mul]
      omega
  | c + 1, a, b, p, h => by
    have e : (2 : Int) ^ (c + 1) * M = 2 ^ c * M + 2 ^ c * M := by rw [Int.pow_succ, Int.mul_assoc, Int.mul_comm 2 M, ← Int.mul_assoc]; omega
    have nn : 0 ≤ (2 : Int) ^ c * M := Int.mul_nonneg (Int.le_of_lt (Int.pow_pos (by decide))) m0
    rcases h with h | ⟨p1, p2, h1, h2, rfl⟩
    · have := via_bound m0 bd c a b p h
      omega
    · have := via_bound m0 bd c _ _ _ h1
      have := via_bound m0 bd c _ _ _ h2
      omega
/-- a table that has been taken through the nodes below c, some rows through c already -/
structure Run (N : Nat) (F : Nat → Nat → Option Int) (c : Nat) (D : Nat → Nat → Option Int) : Prop where
  snd : ∀ a b p, a < N → b < N → D a b = some p → Pth N F a b p
  low : ∀ a b p, a < N → b < N → Via F c a b p → ∃ p', p' ≤ p ∧ D a b = some p'
def Got (N : Nat) (F : Nat → Nat → Option Int) (c : Nat) (D : Nat → Nat → Option Int) (a b : Nat) : Prop := ∀ p, Via F (c + 1) a b p → ∃ p', p' ≤ p ∧ D a b = some p'
def putD (D : Nat → Nat → Option Int) (a b : Nat) (o : Option Int) : Nat → Nat → Option Int := fun x y => if x = a ∧ y = b then o else D x y
theorem putD_same (D : Nat → Nat → Option Int) (a b : Nat) (o : Option Int) : putD D a b o a b = o := if_pos ⟨rfl, rfl⟩
theorem putD_ne {D : Nat → Nat → Option Int} {a b x y : Nat} {o : Option Int} (h : ¬ (x = a ∧ y = b)) : putD D a b o x y = D x y := if_neg h
theorem lessO2 (a b : Int) : lessO [some a, some b] = if a < b then some a else if b < a then some b else some a := rfl
theorem less2 {o o' : Option Int} {p : Int} (h : o = some p ∨ o' = some p) : ∃ p', p' ≤ p ∧ lessO [o, o'] = some p' := by
  cases o with
  | none =>
    rcases h with h | h
    · cases h
    · subst h; exact ⟨p, Int.le_refl _, rfl⟩
  | some a =>
    cases o' with
    | none =>
      rcases h with h | h
      · cases h; exact ⟨p, Int.le_refl _, rfl⟩
      · cases h
    | some b =>
      rw [lessO2]
      have hp : a = p ∨ b = p := h.elim (fun z => .inl (Option.some.inj z)) (fun z => .inr (Option.some.inj z))
      by_cases c : a < b
      · rw [if_pos c]; exact ⟨a, by omega, rfl⟩
      · rw [if_neg c]
        by_cases d : b < a
        · rw [if_pos d]; exact ⟨b, by omega, rfl⟩
        · rw [if_neg d]; exact ⟨a, by omega, rfl⟩
theorem less2_of {o o' : Option Int} {p : Int} (h : lessO [o, o'] = some p) : o = some p ∨ o' = some p := by
  cases o with
  | none =>
    cases o' with
    | none => cases h
    | some b => exact .inr h
  | some a =>
    cases o' with
    | none => exact .inl h
    | some b =>
      rw [lessO2] at h
      split at h
      · exact .inl h
      · split at h
        · exact .inr h
        · exact .inl h
theorem bothO_of {o o' : Option Int} {p : Int} (h : bothO o o' = some p) : ∃ p1 p2, o = some p1 ∧ o' = some p2 ∧ p = p1 + p2 := by
  cases o <;> cases o' <;> first | (cases h; done) | skip
  cases h
  exact ⟨_, _, rfl, rfl, rfl⟩
theorem Run.put {c : Nat} {D : Nat → Nat → Option Int} (h : Run N F c D) (cn : c < N) {a b : Nat} (ha : a < N) (hb : b < N) :
    Run N F c (putD D a b (lessO [D a b, bothO (D a c) (D c b)])) ∧ Got N F c (putD D a b (lessO [D a b, bothO (D a c) (D c b)])) a b ∧ ∀ x y, x < N → y < N → Got N F c D x y → Got N F c (putD D a b (lessO [D a b, bothO (D a c) (D c b)])) x y := by
  have keep : ∀ x y p, D x y = some p → ∃ p', p' ≤ p ∧ putD D a b (lessO [D a b, bothO (D a c) (D c b)]) x y = some p' := fun x y p e => by
    by_cases z : x = a ∧ y = b
    · obtain ⟨rfl, rfl⟩ := z
      rw [putD_same]
      exact less2 (.inl e)
    · rw [putD_ne z]
      exact ⟨p, Int.le_refl _, e⟩
  refine ⟨⟨fun x y p hx hy e => ?_, fun x y p hx hy v => ?_⟩, fun p v => ?_, fun x y hx hy g p v => ?_⟩
  · by_cases z : x = a ∧ y = b
    · obtain ⟨rfl, rfl⟩ := z
      rw [putD_same] at e
      rcases less2_of e with e | e
      · exact h.snd _ _ _ hx hy e
      · obtain ⟨p1, p2, e1, e2, rfl⟩ := bothO_of e
        exact (h.snd _ _ _ hx cn e1).trans (h.snd _ _ _ cn hy e2)
    · rw [putD_ne z] at e
      exact h.snd _ _ _ hx hy e
  · obtain ⟨p', l, e⟩ := h.low x y p hx hy v
    obtain ⟨p'', l', e'⟩ := keep _ _ _ e
    exact ⟨p'', by omega, e'⟩
  · rw [putD_same]
    rcases v with v | ⟨p1, p2, v1, v2, rfl⟩
    · obtain ⟨p', l, e⟩ := h.low a b p ha hb v
      obtain ⟨p'', l', e'⟩ := less2 (o' := bothO (D a c) (D c b)) (.inl e)
      exact ⟨p'', by omega, e'⟩
    · obtain ⟨q1, l1, e1⟩ := h.low a c p1 ha cn v1
      obtain ⟨q2, l2, e2⟩ := h.low c b p2 cn hb v2
      have e : bothO (D a c) (D c b) = some (q1 + q2) := by rw [e1, e2]; rfl
      obtain ⟨p'', l', e'⟩ := less2 (o := D a b) (.inr e)
      exact ⟨p'', by omega, e'⟩
  · obtain ⟨p', l, e⟩ := g p v
    obtain ⟨p'', l', e'⟩ := keep _ _ _ e
    exact ⟨p'', by omega, e'⟩
theorem Run.next {c : Nat} {D : Nat → Nat → Option Int} (h : Run N F c D) (g : ∀ a b, a < N → b < N → Got N F c D a b) : Run N F (c + 1) D := ⟨h.snd, fun a b p ha hb v => g a b ha hb p v⟩
theorem Run.least (nn : ∀ a b q, F a b = some q → 0 ≤ q) {D : Nat → Nat → Option Int} (h : Run N F N D) {a b : Nat} (ha : a < N) (hb : b < N) : Lst (Pth N F a b) (D a b) := by
  cases e : D a b with
  | none =>
    intro p hp
    obtain ⟨r, _, v⟩ := pth_via nn hp
    obtain ⟨p', _, e'⟩ := h.low a b r ha hb v
    rw [e] at e'
    cases e'
  | some p =>
    refine ⟨h.snd _ _ _ ha hb e, fun q hq => ?_⟩
    obtain ⟨r, hr, v⟩ := pth_via nn hq
    obtain ⟨p', l, e'⟩ := h.low a b r ha hb v
    rw [e] at e'
    cases e'
    omega
theorem Run.bound (nn : ∀ a b q, F a b = some q → 0 ≤ q) {M : Int} (m0 : 0 ≤ M) (bd : ∀ a b q, F a b = some q → q ≤ M) {D : Nat → Nat → Option Int} (h : Run N F N D) {a b : Nat} (ha : a < N) (hb : b < N) {p : Int} (e : D a b = some p) : p ≤ 2 ^ N * M := by
  obtain ⟨r, hr, v⟩ := pth_via nn (h.snd _ _ _ ha hb e)
  obtain ⟨p', l, e'⟩ := h.low a b r ha hb v
  rw [e] at e'
  cases e'
  have := via_bound m0 bd N a b r v
  omega
/-- the table to begin with -/
def D0 (F : Nat → Nat → Option Int) (a b : Nat) : Option Int := if a = b then some 0 else F a b
theorem run0 {D : Nat → Nat → Option Int} (e : ∀ a b, a < N → b < N → D a b = D0 F a b) : Run N F 0 D := by
  refine ⟨fun a b p ha hb h => ?_, fun a b p ha hb v => ?_⟩
  · rw [e a b ha hb] at h
    unfold D0 at h
    split at h
    · rename_i c
      cases h
      subst c
      exact .refl
    · have := Pth.step (N := N) (F := F) (a := a) .refl ha hb h
      rwa [Int.zero_add] at this
  · rw [e a b ha hb]
    unfold D0
    rcases v with ⟨rfl, rfl⟩ | ⟨ne, h⟩
    · exact ⟨0, Int.le_refl _, if_pos rfl⟩
    · exact ⟨p, Int.le_refl _, by rw [if_neg ne]; exact h⟩
end
end Fw
end Wb

set_option Elab.async false
set_option linter.all false
set_option maxRecDepth 100000
set_option maxHeartbeats 4000000
namespace Wb
/-! ### least prices between words, from those of one bolt less: no program here -/
/-- the prices of ways of the lowest m bolts from word to word -/
def Pm (l : Lock) (m : Nat) (u w : Word) (p : Int) : Prop := WayM l [] m u 0 w 0 p
def hopsG (g : Gap) : List HopD := g.ways.map fun v => ⟨v, 0, g.frm, g.to_, g.price⟩
def rowsB (b : Bolt) : List HopD := b.gaps.flatMap hopsG
theorem mem_rowsB {b : Bolt} {h : HopD} : h ∈ rowsB b ↔ ∃ g ∈ b.gaps, h.v ∈ g.ways ∧ h.c = 0 ∧ h.frm = g.frm ∧ h.to_ = g.to_ ∧ h.price = g.price := by
  unfold rowsB hopsG
  rw [List.mem_flatMap]
  constructor
  · rintro ⟨g, hg, h'⟩
    obtain ⟨v, hv, rfl⟩ := List.mem_map.mp h'
    exact ⟨g, hg, hv, rfl, rfl, rfl, rfl⟩
  · rintro ⟨g, hg, hv, e1, e2, e3, e4⟩
    refine ⟨g, hg, List.mem_map.mpr ⟨h.v, hv, ?_⟩⟩
    cases h
    simp only at e1 e2 e3 e4
    rw [e1, e2, e3, e4]
def edge (T : Word → Word → Option Int) (R : List HopD) (a b : Nat) : Option Int := (R[a]?).bind fun x => (R[b]?).bind fun y => if x.to_ = y.frm then bothO (T x.v y.v) (some y.price) else none
theorem edge_get {T : Word → Word → Option Int} {R : List HopD} {a b : Nat} {x y : HopD} (ha : R[a]? = some x) (hb : R[b]? = some y) : edge T R a b = if x.to_ = y.frm then bothO (T x.v y.v) (some y.price) else none := by
  unfold edge
  rw [ha, Option.bind_some, hb, Option.bind_some]
theorem edge_of {T : Word → Word → Option Int} {R : List HopD} {a b : Nat} {q : Int} (h : edge T R a b = some q) : ∃ x y r, R[a]? = some x ∧ R[b]? = some y ∧ x.to_ = y.frm ∧ T x.v y.v = some r ∧ q = r + y.price := by
  cases ha : R[a]? with
  | none => unfold edge at h; rw [ha] at h; cases h
  | some x =>
    cases hb : R[b]? with
    | none => unfold edge at h; rw [ha, Option.bind_some, hb] at h; cases h
    | some y =>
      rw [edge_get ha hb] at h
      split at h
      · rename_i e
        obtain ⟨p1, p2, e1, e2, e3⟩ := Fw.bothO_of h
        cases e2
        exact ⟨x, y, p1, rfl, rfl, e, e1, e3⟩
      · cases h
structure TabW (l : Lock) (m : Nat) (ws : List Word) (T : Word → Word → Option Int) (B : Int) : Prop where
  is : ∀ u ∈ ws, ∀ w ∈ ws, Lst (Pm l m u w) (T u w)
  bd : ∀ u ∈ ws, ∀ w ∈ ws, ∀ p, T u w = some p → p ≤ B
  len : ∀ u ∈ ws, u.length = m
section
variable {l : Lock} {m : Nat} {b : Bolt} {ws : List Word} {T : Word → Word → Option Int} {B : Int} {R : List HopD}
theorem pr_of (ok : LockOk l) : ∀ (k : Nat) (b : Bolt) (g : Gap), l[k]? = some b → g ∈ b.gaps → 1 ≤ g.price := fun k b g hb hg => ((ok.bolts k b hb).gaps g hg).p0
theorem Pm.nn (ok : LockOk l) {u w : Word} {p : Int} (h : Pm l m u w p) : 0 ≤ p := WayM.pos (pr_of ok) h
theorem row_hop (TW : TabW l m ws T B) (hb : l[m]? = some b) (hw : ∀ h ∈ rowsB b, h.v ∈ ws) {h : HopD} (hh : h ∈ rowsB b) : IsHop l m h ∧ h.c = 0 := by
  obtain ⟨g, hg, hv, e1, e2, e3, e4⟩ := mem_rowsB.mp hh
  exact ⟨⟨TW.len _ (hw h hh), b, g, hb, hg, hv, e2, e3, e4⟩, e1⟩
theorem hop_row (hb : l[m]? = some b) {h : HopD} (hh : IsHop l m h) (h0 : h.c = 0) : h ∈ rowsB b := by
  obtain ⟨_, b', g, hb', hg, hv, e1, e2, e3⟩ := hh
  rw [hb] at hb'
  cases hb'
  exact mem_rowsB.mpr ⟨g, hg, hv, h0, e1, e2, e3⟩
theorem kn_of_pth (TW : TabW l m ws T B) (hb : l[m]? = some b) (hw : ∀ h ∈ rowsB b, h.v ∈ ws) {N : Nat} {u : Word} {x : Int} {a c : Nat} {h h' : HopD} {q p : Int} (ha : (rowsB b)[a]? = some h) (k : KnownP l [] m (· = u) 0 (· = x) h q) (P : Fw.Pth N (edge T (rowsB b)) a c p) (hc : (rowsB b)[c]? = some h') :
    KnownP l [] m (· = u) 0 (· = x) h' (q + p) := by
  induction P generalizing h' with
  | refl =>
    rw [ha] at hc
    cases hc
    rw [Int.add_zero]
    exact k
  | @step c d p r _ _ _ hf ih =>
    obtain ⟨y, z, t, hy, hz, e1, e2, e3⟩ := edge_of hf
    have ez : z = h' := by rw [hz] at hc; exact Option.some.inj hc
    subst ez
    have k1 := ih hy
    obtain ⟨i1, c1⟩ := row_hop TW hb hw (List.mem_of_getElem? hy)
    obtain ⟨i2, c2⟩ := row_hop TW hb hw (List.mem_of_getElem? hz)
    have L := TW.is y.v (hw _ (List.mem_of_getElem? hy)) z.v (hw _ (List.mem_of_getElem? hz))
    rw [e2] at L
    have way : WayM l [] m y.v y.c z.v z.c t := by rw [c1, c2]; exact L.1
    have := KnownP.next k1 i2 way e1.symm (by rw [c1, c2]; exact stays_refl _ _ _ _)
    rw [e3]
    rwa [show q + (p + (t + z.price)) = q + p + t + z.price by omega]
theorem lst_le {S : Int → Prop} {o : Option Int} (h : Lst S o) {p : Int} (hp : S p) : ∃ q, o = some q ∧ q ≤ p := by
  cases o with
  | none => exact absurd hp (h p)
  | some q => exact ⟨q, rfl, h.2 p hp⟩
theorem pth_of_kn (TW : TabW l m ws T B) (hb : l[m]? = some b) (hw : ∀ h ∈ rowsB b, h.v ∈ ws) {u : Word} (hu : u ∈ ws) {x : Int} {h' : HopD} {q : Int} (k : KnownP l [] m (· = u) 0 (· = x) h' q) : h'.c = 0 →
    ∃ a h r c p, (rowsB b)[a]? = some h ∧ h.frm = x ∧ T u h.v = some r ∧ (rowsB b)[c]? = some h' ∧ Fw.Pth (rowsB b).length (edge T (rowsB b)) a c p ∧ r + h.price + p ≤ q := by
  induction k with
  | @first w h q e ex hh way st =>
    intro h0
    subst e
    rw [h0] at way
    have hr := hop_row hb hh h0
    obtain ⟨a, ha⟩ := List.mem_iff_getElem?.mp hr
    obtain ⟨r, er, rq⟩ := lst_le (TW.is w hu h.v (hw h hr)) way
    exact ⟨a, h, r, a, 0, ha, ex, er, ha, .refl, by omega⟩
  | @next h h' q r k hh way e st ih =>
    intro h0
    have c0 : h.c = 0 := by
      have := way.mono
      omega
    obtain ⟨a, h1, r1, c, p, ha, ex, er, hc, P, le⟩ := ih c0
    have hr := hop_row hb hh h0
    obtain ⟨d, hd⟩ := List.mem_iff_getElem?.mp hr
    rw [c0, h0] at way
    obtain ⟨t, et, tq⟩ := lst_le (TW.is h.v (hw h (List.mem_of_getElem? hc)) h'.v (hw h' hr)) way
    have ed : edge T (rowsB b) c d = some (t + h'.price) := by
      rw [edge_get hc hd, if_pos e.symm, et]; rfl
    exact ⟨a, h1, r1, d, p + (t + h'.price), ha, ex, er, hd, .step P (List.getElem?_eq_some_iff.mp hc).1 (List.getElem?_eq_some_iff.mp hd).1 ed, by omega⟩
theorem over_is (ok : LockOk l) (TW : TabW l m ws T B) (hb : l[m]? = some b) (hw : ∀ h ∈ rowsB b, h.v ∈ ws) {D : Nat → Nat → Option Int} (Dl : ∀ a c, a < (rowsB b).length → c < (rowsB b).length → Lst (Fw.Pth (rowsB b).length (edge T (rowsB b)) a c) (D a c))
    {u v : Word} (hu : u ∈ ws) (hv : v ∈ ws) {x y : Int} (ne : x ≠ y) {tl : Nat → Option Int} (htl : ∀ a, a < (rowsB b).length → ∃ tos, tl a = lessO tos ∧ ∀ o, o ∈ tos ↔ ∃ c h', (rowsB b)[c]? = some h' ∧ h'.to_ = y ∧ o = bothO (D a c) (T h'.v v))
    {os : List (Option Int)} (hos : ∀ o, o ∈ os ↔ ∃ a h, (rowsB b)[a]? = some h ∧ h.frm = x ∧ o = bothO (bothO (T u h.v) (some h.price)) (tl a)) : Lst (Pm l (m + 1) (u ++ [x]) (v ++ [y])) (lessO os) := by
  refine Lst.down (fun p hp => ?_) (fun p hp => ?_) (lst_lessO os)
  · obtain ⟨a, h, ha, ex, e⟩ := (hos _).mp hp
    obtain ⟨p1, s, e1, e2, e3⟩ := Fw.bothO_of e.symm
    obtain ⟨r, pr, e4, e5, e6⟩ := Fw.bothO_of e1
    cases e5
    have al := (List.getElem?_eq_some_iff.mp ha).1
    obtain ⟨tos, t1, t2⟩ := htl a al
    rw [t1] at e2
    have LT := lst_lessO tos
    rw [e2] at LT
    obtain ⟨c, h', hc, ey, e7⟩ := (t2 _).mp LT.1
    obtain ⟨t, s2, e8, e9, e10⟩ := Fw.bothO_of e7.symm
    have LD := Dl a c al (List.getElem?_eq_some_iff.mp hc).1
    rw [e8] at LD
    obtain ⟨i1, c1⟩ := row_hop TW hb hw (List.mem_of_getElem? ha)
    obtain ⟨i2, c2⟩ := row_hop TW hb hw (List.mem_of_getElem? hc)
    have L1 := TW.is u hu h.v (hw _ (List.mem_of_getElem? ha))
    rw [e4] at L1
    have k0 : KnownP l [] m (· = u) 0 (· = x) h (r + h.price) := .first rfl ex i1 (by rw [c1]; exact L1.1) (by rw [c1]; exact stays_refl _ _ _ _)
    have k1 := kn_of_pth TW hb hw ha k0 LD.1 hc
    obtain ⟨w', x', rfl, rfl, way⟩ := k1.sound (fun w e => by rw [e]; exact TW.len u hu)
    have L2 := TW.is h'.v (hw _ (List.mem_of_getElem? hc)) v hv
    rw [e9] at L2
    have lf := WayM.lift (y := h'.to_) i2.1 L2.1 (stays_refl _ _ _ _)
    rw [c2] at way
    have := way.trans lf
    rw [ey] at this
    show WayM l [] (m + 1) (w' ++ [x']) 0 (v ++ [y]) 0 p
    rwa [show p = r + h.price + t + s2 by omega]
  · rcases known_complete (A := (· = u)) (X := (· = x)) rfl rfl (TW.len u hu) hp with ⟨u2, e, _, _, _⟩ | ⟨h', q, u2, r, kn, way, _, e, st, rfl⟩
    · exact absurd (app_inj e).2.symm ne
    · obtain ⟨rfl, ey⟩ := app_inj e
      have c0 : h'.c = 0 := by
        have := way.mono
        omega
      obtain ⟨a, h, r1, c, p, ha, ex, er, hc, P, le⟩ := pth_of_kn TW hb hw hu kn c0
      have al := (List.getElem?_eq_some_iff.mp ha).1
      obtain ⟨d, ed, dp⟩ := lst_le (Dl a c al (List.getElem?_eq_some_iff.mp hc).1) P
      rw [c0] at way
      obtain ⟨s, es, sp⟩ := lst_le (TW.is h'.v (hw _ (List.mem_of_getElem? hc)) v hv) way
      obtain ⟨tos, t1, t2⟩ := htl a al
      obtain ⟨z, ez, zl⟩ := lst_le (lst_lessO tos) (p := d + s) ((t2 _).mpr ⟨c, h', hc, ey.symm, by rw [ed, es]; rfl⟩)
      refine ⟨r1 + h.price + z, (hos _).mpr ⟨a, h, ha, ex, ?_⟩, by omega⟩
      rw [er, t1, ez]; rfl
theorem over_bd (TW : TabW l m ws T B) (ok : LockOk l) (hb : l[m]? = some b) (hw : ∀ h ∈ rowsB b, h.v ∈ ws) {D : Nat → Nat → Option Int} {M : Int} (Db : ∀ a c p, a < (rowsB b).length → c < (rowsB b).length → D a c = some p → p ≤ M)
    {u v : Word} (hu : u ∈ ws) (hv : v ∈ ws) {x y : Int} {tl : Nat → Option Int} (htl : ∀ a, a < (rowsB b).length → ∃ tos, tl a = lessO tos ∧ ∀ o, o ∈ tos ↔ ∃ c h', (rowsB b)[c]? = some h' ∧ h'.to_ = y ∧ o = bothO (D a c) (T h'.v v))
    {os : List (Option Int)} (hos : ∀ o, o ∈ os ↔ ∃ a h, (rowsB b)[a]? = some h ∧ h.frm = x ∧ o = bothO (bothO (T u h.v) (some h.price)) (tl a)) {p : Int} (hp : lessO os = some p) : p ≤ B + 1000000 + (M + B) := by
  have LO := lst_lessO os
  rw [hp] at LO
  obtain ⟨a, h, ha, ex, e⟩ := (hos _).mp LO.1
  obtain ⟨p1, s, e1, e2, e3⟩ := Fw.bothO_of e.symm
  obtain ⟨r, pr, e4, e5, e6⟩ := Fw.bothO_of e1
  cases e5
  have al := (List.getElem?_eq_some_iff.mp ha).1
  obtain ⟨tos, t1, t2⟩ := htl a al
  rw [t1] at e2
  have LT := lst_lessO tos
  rw [e2] at LT
  obtain ⟨c, h', hc, ey, e7⟩ := (t2 _).mp LT.1
  obtain ⟨t, s2, e8, e9, e10⟩ := Fw.bothO_of e7.symm
  have b1 := TW.bd u hu h.v (hw _ (List.mem_of_getElem? ha)) r e4
  have b2 := Db a c t al (List.getElem?_eq_some_iff.mp hc).1 e8
  have b3 := TW.bd h'.v (hw _ (List.mem_of_getElem? hc)) v hv s2 e9
  obtain ⟨g, hg, _, _, _, _, e11⟩ := mem_rowsB.mp (List.mem_of_getElem? ha)
  have b4 := ((ok.bolts m b hb).gaps g hg).p1
  omega
theorem over_same (ok : LockOk l) (TW : TabW l m ws T B) {u v : Word} (hu : u ∈ ws) (hv : v ∈ ws) (x : Int) : Lst (Pm l (m + 1) (u ++ [x]) (v ++ [x])) (T u v) := by
  have h0 : Lst (S0 l [] m (· = u) 0 (· = v) 0) (T u v) := (TW.is u hu v hv).congr fun p => ⟨fun h => ⟨u, v, rfl, rfl, h⟩, fun ⟨w, z, e1, e2, h⟩ => by subst e1 e2; exact h⟩
  have := entry_one (X := (· = x)) (Y := (· = x)) (pr_of ok) (fun w e => by rw [e]; exact TW.len u hu) (fun w e => by rw [e]; exact TW.len v hv) (z := x) rfl rfl (stays_refl _ _ _ _) h0
  refine this.congr fun p => ⟨?_, fun h => ⟨_, _, ⟨u, x, rfl, rfl, rfl⟩, ⟨v, x, rfl, rfl, rfl⟩, h⟩⟩
  rintro ⟨_, _, ⟨u', x', rfl, rfl, rfl⟩, ⟨v', y', rfl, rfl, rfl⟩, h⟩
  exact h
theorem edge_nn (ok : LockOk l) (TW : TabW l m ws T B) (hb : l[m]? = some b) (hw : ∀ h ∈ rowsB b, h.v ∈ ws) : ∀ a c q, edge T (rowsB b) a c = some q → 0 ≤ q := fun a c q h => by
  obtain ⟨x, y, r, hx, hy, _, e, rfl⟩ := edge_of h
  have L := TW.is x.v (hw _ (List.mem_of_getElem? hx)) y.v (hw _ (List.mem_of_getElem? hy))
  rw [e] at L
  have := Pm.nn ok L.1
  obtain ⟨g, hg, _, _, _, _, e11⟩ := mem_rowsB.mp (List.mem_of_getElem? hy)
  have b4 := ((ok.bolts m b hb).gaps g hg).p0
  omega
theorem edge_bd (ok : LockOk l) (TW : TabW l m ws T B) (hb : l[m]? = some b) (hw : ∀ h ∈ rowsB b, h.v ∈ ws) : ∀ a c q, edge T (rowsB b) a c = some q → q ≤ B + 1000000 := fun a c q h => by
  obtain ⟨x, y, r, hx, hy, _, e, rfl⟩ := edge_of h
  have := TW.bd x.v (hw _ (List.mem_of_getElem? hx)) y.v (hw _ (List.mem_of_getElem? hy)) r e
  obtain ⟨g, hg, _, _, _, _, e11⟩ := mem_rowsB.mp (List.mem_of_getElem? hy)
  have b4 := ((ok.bolts m b hb).gaps g hg).p1
  omega
theorem tab_zero {T : Word → Word → Option Int} (h : T [] [] = some 0) : TabW l 0 [[]] T 0 := by
  refine ⟨fun u hu w hw => ?_, fun u hu w hw p e => ?_, fun u hu => ?_⟩
  · rw [List.mem_singleton.mp hu, List.mem_singleton.mp hw, h]
    exact ⟨WayM.refl, fun q hq => by rw [(way_zero hq).1]; exact Int.le_refl _⟩
  · rw [List.mem_singleton.mp hu, List.mem_singleton.mp hw, h] at e
    cases e; exact Int.le_refl _
  · rw [List.mem_singleton.mp hu]; rfl
theorem rwS_go {s s' : Word} (hs : inr l s) (hs' : inr l s') (p : Int) : RwS l [whole s, whole s'] p ↔ Pm l l.length s s' p := by
  constructor
  · rintro ⟨w, hw, mw, v, p1, p2, go, ⟨mv, e0⟩, e⟩
    have e1 := (meets_whole hs.1 hw.1).mp mw
    subst e1
    have vl : v.length = l.length := by rw [go.len]; exact hw.1
    have e2 := (meets_whole hs'.1 vl).mp mv
    subst e2
    rw [e, e0, Int.add_zero]
    exact go
  · intro h
    exact ⟨s, hs, (meets_whole hs.1 hs.1).mpr rfl, s', p, 0, h, ⟨(meets_whole hs'.1 hs'.1).mpr rfl, rfl⟩, by omega⟩
/-- how great a price between words of m bolts can be -/
def BB (m : Nat) : Int := 512 ^ m * 1048576
theorem bb_up (m : Nat) {N : Nat} (hN : N ≤ 8) : BB m + 1000000 + (2 ^ N * (BB m + 1000000) + BB m) ≤ BB (m + 1) := by
  have e : BB (m + 1) = 512 * BB m := by unfold BB; rw [Int.pow_succ, Int.mul_comm (512 ^ m) 512, Int.mul_assoc]
  have b0 : 1048576 ≤ BB m := by
    unfold BB
    have : (1 : Int) ≤ 512 ^ m := Int.pow_pos (by decide)
    omega
  have p2 : (2 : Int) ^ N ≤ 256 := by
    have h : ∀ n : Nat, n ≤ 8 → (2 : Int) ^ n ≤ 256 := by
      intro n hn
      have : n = 0 ∨ n = 1 ∨ n = 2 ∨ n = 3 ∨ n = 4 ∨ n = 5 ∨ n = 6 ∨ n = 7 ∨ n = 8 := by omega
      rcases this with h | h | h | h | h | h | h | h | h <;> subst h <;> decide
    exact h N hN
  have := Int.mul_le_mul_of_nonneg_right p2 (show 0 ≤ BB m + 1000000 by omega)
  omega
theorem bb_log {m : Nat} (hm : m ≤ 60) {o : Option Int} (h : ∀ p, o = some p → 0 ≤ p ∧ p ≤ BB m) : ∀ i, o = some i → i.natAbs.log2 < 1920 := fun i e => by
  obtain ⟨h0, h1⟩ := h i e
  by_cases c : i.natAbs = 0
  · rw [c]; decide
  · have e2 : BB m = ((512 ^ m * 1048576 : Nat) : Int) := by unfold BB; rw [Int.natCast_mul, Int.natCast_pow]; rfl
    have h2 : i.natAbs < 2 ^ 561 := by
      have h3 : (512 : Nat) ^ m * 1048576 ≤ 512 ^ 60 * 1048576 := Nat.mul_le_mul_right _ (Nat.pow_le_pow_right (by decide) hm)
      have h4 : (512 : Nat) ^ 60 * 1048576 < 2 ^ 561 := by decide +kernel
      omega
    have := (Nat.log2_lt c).mpr h2
    omega
end
end Wb

set_option Elab.async false
set_option linter.all false
set_option maxRecDepth 100000
set_option maxHeartbeats 8000000
set_option pp.maxSteps 900
set_option pp.deepTerms false
namespace Wb
open PySem PySem.Spec PyProof.Rows L2
/-! ### keys; tables; rows -/
def wwK (u v : Word) : NKey := .tup [.tup (u.map NestedKey.num), .tup (v.map NestedKey.num)]
theorem wwK_inj {u v u' v' : Word} (h : wwK u v = wwK u' v') : u = u' ∧ v = v' := by
  unfold wwK at h
  injection h with h
  injection h with h1 h2
  injection h1 with h1
  injection h2 with h2 _
  injection h2 with h2
  exact ⟨nums_inj h1, nums_inj h2⟩
theorem ww_at {H : Hp} {z a b : Addr} {u v : Word} (hz : H z = some (.tup [.ref a, .ref b])) (ha : H a = some (.tup (u.map V.int))) (hb : H b = some (.tup (v.map V.int))) : KAt H z (wwK u v) := by
  refine ⟨.tup hz (.cons (.tup ha (NkAll.nums _)) (.cons (.tup hb (NkAll.nums _)) .nil)), ?_⟩
  show max (NestedKey.depthAll (u.map NestedKey.num) + 1) (max (NestedKey.depthAll (v.map NestedKey.num) + 1) 0) + 1 ≤ 8
  rw [depth_nums, depth_nums]
  decide
def abK (a b : Nat) : NKey := .tup [.num ((a : Nat) : Int), .num ((b : Nat) : Int)]
theorem abK_inj {a b a' b' : Nat} (h : abK a b = abK a' b') : a = a' ∧ b = b' := by
  unfold abK at h
  injection h with h
  injection h with h1 h2
  injection h1 with h1
  injection h2 with h2 _
  injection h2 with h2
  exact ⟨by have : ((a : Nat) : Int) = (a' : Nat) := h1; omega, by have : ((b : Nat) : Int) = (b' : Nat) := h2; omega⟩
theorem ab_at {H : Hp} {z : Addr} {a b : Nat} (hz : H z = some (.tup [.int (a : Nat), .int (b : Nat)])) : KAt H z (abK a b) :=
  ⟨.tup hz (.cons (.int _) (.cons (.int _) .nil)), (by show max 0 (max 0 0) + 1 ≤ 8; decide)⟩
/-- a dict from pairs of words to prices -/
def TabAt (P : Program) (w : World) (H : Hp) (d : Addr) (ws : List Word) (T : Word → Word → Option Int) : Prop := ∃ kvs, ND P w H d kvs ∧ ∀ u ∈ ws, ∀ v ∈ ws, valV kvs (wwK u v) = some (oT (T u v))
theorem TabAt.ex {P : Program} {w : World} {H H' : Hp} {d : Addr} {ws : List Word} {T : Word → Word → Option Int} (e : Evl.Ex H H') (h : TabAt P w H d ws T) : TabAt P w H' d ws T := by
  obtain ⟨kvs, h1, h2⟩ := h
  exact ⟨kvs, h1.ex e, h2⟩
/-- a dict from pairs of numbers to prices -/
def DtAt (P : Program) (w : World) (H : Hp) (d : Addr) (N : Nat) (D : Nat → Nat → Option Int) : Prop := ∃ kvs, ND P w H d kvs ∧ ∀ a b, a < N → b < N → valV kvs (abK a b) = some (oT (D a b))
theorem DtAt.ex {P : Program} {w : World} {H H' : Hp} {d : Addr} {N : Nat} {D : Nat → Nat → Option Int} (e : Evl.Ex H H') (h : DtAt P w H d N D) : DtAt P w H' d N D := by
  obtain ⟨kvs, h1, h2⟩ := h
  exact ⟨kvs, h1.ex e, h2⟩
def HpT (H : Hp) (v : V) (h : HopD) : Prop := ∃ a z, v = .ref a ∧ H a = some (.tup [.int h.frm, .int h.to_, .int h.price, .ref z]) ∧ H z = some (.tup (h.v.map V.int))
theorem HpT.ex {H H' : Hp} (e : Evl.Ex H H') {v : V} {h : HopD} (k : HpT H v h) : HpT H' v h := by
  obtain ⟨a, z, r, h1, h2⟩ := k
  exact ⟨a, z, r, e _ _ h1, e _ _ h2⟩
theorem HpT.tx {K : PySem.W.Frag} {H H' : Hp} (e : TX K H H') {v : V} {h : HopD} (k : HpT H v h) : HpT H' v h := by
  obtain ⟨a, z, r, h1, h2⟩ := k
  exact ⟨a, z, r, e.2 _ _ h1, e.2 _ _ h2⟩
def RowsAt (H : Hp) (a : Addr) (R : List HopD) : Prop := ∃ vs, H a = some (.lst vs) ∧ Paired (HpT H) vs R
theorem RowsAt.ex {H H' : Hp} (e : Evl.Ex H H') {a : Addr} {R : List HopD} (k : RowsAt H a R) : RowsAt H' a R := by
  obtain ⟨vs, h1, h2⟩ := k
  exact ⟨vs, e _ _ h1, Paired.imp (fun _ _ => HpT.ex e) h2⟩
theorem rows8 {manys : List Int} {b : Bolt} (ok : BoltOk manys b) : (rowsB b).length ≤ 8 := by
  have h : ∀ gs : List Gap, (gs.flatMap hopsG).length = (gs.map fun g => g.ways.length).sum := fun gs => by
    induction gs with
    | nil => rfl
    | cons g gs ih => rw [List.flatMap_cons, List.length_append, ih, List.map_cons, List.sum_cons]; unfold hopsG; rw [List.length_map]
  unfold rowsB
  rw [h]
  exact ok.few
abbrev sGro : Stmt := topS 52
abbrev nGro : List Str := ["_law_bolt_here", "_law_found", "_law_here", "_law_there", "_law_price_here", "_law_ways", "_law_way"]
theorem scGro : FnScope nGro ["_law_bolt_here"] (defScope sGro) := ⟨rfl, rfl, rfl, by decide +kernel, rfl, by decide +kernel, by decide +kernel⟩
def spGro (K : PySem.W.Frag) : Sp := fun vs H Q _ => ∃ (v : V) (b : Bolt) (manys : List Int), vs = [v] ∧ BoltAt K H v b ∧ BoltOk manys b ∧ ∀ H' a, Evl.Ex H H' → H a = none → RowsAt H' a (rowsB b) → Q (.ref a) H'
section
variable {P : Program} {w : World} {K : PySem.W.Frag} {mg : Str → Option Value} {base : Heap}
theorem hops_sum {gs : List Gap} {i : Nat} {g : Gap} (h : gs[i]? = some g) : ((gs.take i).flatMap hopsG).length + g.ways.length ≤ (gs.flatMap hopsG).length := by
  have e : (gs.take (i + 1)).flatMap hopsG = (gs.take i).flatMap hopsG ++ hopsG g := by rw [take_succ_get h, List.flatMap_append]; simp
  have l1 : ((gs.take (i + 1)).flatMap hopsG).length ≤ (gs.flatMap hopsG).length := by
    have : gs.flatMap hopsG = (gs.take (i + 1)).flatMap hopsG ++ (gs.drop (i + 1)).flatMap hopsG := by rw [← List.flatMap_append, List.take_append_drop]
    rw [this, List.length_append]
    omega
  rw [e, List.length_append] at l1
  have : (hopsG g).length = g.ways.length := by unfold hopsG; rw [List.length_map]
  omega
theorem ok_gro {f : Addr} {fd : FuncData} (F : Fun K "_law_gap_rows" "_law_gap_rows" sGro f fd) (B : Bi mg) : FnOk P w K mg base CX0 1 f fd ["_law_bolt_here"] (spGro K) := by
  refine F.ok scGro (fun vs H Q E h => ?_) (fun cdv A outer s H vs Q E hr h => ?_)
  · obtain ⟨v, b, manys, rfl, _⟩ := h; rfl
  · obtain ⟨v, b, manys, rfl, ⟨ba, ca, gs, rfl, hba, hca, hgs⟩, bok, q⟩ := h
    refine ⟨_, (Evl.pss_cut (ps_set (i := 1) scGro.nd rfl (.inl rfl) (pe_lst pa_nil))
 (pss_cons (ps_for PassesOwn.never rfl (pi_tup (pe_ix (r := rIxT K) ix_tup (pv 0) pe_int (fun _ _ => rfl))) (pg_tup rfl (pgs_cons (pg_name (i := 2) scGro.nd rfl (.inr rfl)) (pgs_cons (pg_name (i := 3) scGro.nd rfl (.inr rfl)) (pgs_cons (pg_name (i := 4) scGro.nd rfl (.inr rfl)) (pgs_cons (pg_name (i := 5) scGro.nd rfl (.inl rfl)) pgs_nil)))))
 (pss_one (ps_set (i := 1) scGro.nd rfl (.inl rfl) (pe_op (r := rCat) op_cat (pv 1) (pe_lc (own := [("_law_way", 6)]) (g := gName 6) (wi := iTup K (tVar 5)) (te := tTup (tCons (tVar 2) (tCons (tVar 3) (tCons (tVar 4) (tCons (tVar 6) tNil))))) rfl scGro.nd (pi_tup (pv 5)) (blkOk_by (own := [("_law_way", 6)]) (N := nGro) (sc := defScope sGro) (by decide +kernel)) (fun _ _ _ _ _ => (pg_name (i := 6) scGro.nd rfl (.inl rfl))) (fun _ _ _ _ _ => pts_nil) (fun _ _ _ _ _ => (pe_tup (pa_cons (pv 2) (pa_cons (pv 3) (pa_cons (pv 4) (pa_cons (pv 6) pa_nil)))))))))))
 (pss_one (ps_ret (pv 1))))), ?_⟩
    have r8 := rows8 bok
    refine ⟨fun σ H' => ∃ D, σ = [some (.ref ba), some (.ref D), none, none, none, none, none] ∧ Evl.Ex H H' ∧ H D = none ∧ H' D = some (.lst []), ?_, ?_⟩
    · exact ⟨Nat.zero_le _, fun D nD => ⟨D, rfl, Evl.Ex.new nD, nD, upd_same⟩⟩
    rintro _ H1 ⟨D0, rfl, e1, nD0, hD0⟩
    refine ⟨.ref ba, rfl, ba, _, 1, .ref ca, rfl, rfl, Evl.ex_t e1 hba, atI_nat (j := 1) rfl, ca, rfl, ⟨_, Evl.ex_t e1 hca⟩, ?_⟩
    refine for_tup (K := K) (a := ca) (xs := gs) (fun i σ H' => ∃ (D : Addr) (rvs : List V) (y2 y3 y4 y5 y6 : Option V), σ = [some (.ref ba), some (.ref D), y2, y3, y4, y5, y6] ∧ Evl.Ex H H' ∧ H D = none ∧ H' D = some (.lst rvs) ∧ Paired (HpT H') rvs ((b.gaps.take i).flatMap hopsG))
      ⟨D0, [], _, _, _, _, _, rfl, e1, nD0, hD0, .nil⟩ ?_ ?_ ?_
    · rintro i σ H' _ ⟨_, _, _, _, _, _, _, _, e, _⟩
      exact Evl.ex_t e hca
    · rintro i x σ H2 hx ⟨D, rvs, y2, y3, y4, y5, y6, rfl, e2, nD, hD, hrv⟩
      obtain ⟨g, hg, ⟨ga, wa, wv, rfl, hga, hwa, hwv⟩⟩ := Paired.get1 hgs hx
      have s8 := hops_sum hg
      have rl : rvs.length = ((b.gaps.take i).flatMap hopsG).length := Paired.len hrv
      have wvl : wv.length = g.ways.length := Paired.len hwv
      have tot : rvs.length + g.ways.length ≤ 8 := by unfold rowsB at r8; omega
      refine ⟨ga, _, rfl, Evl.ex_t e2 hga, rfl, _, _, rfl, _, _, rfl, _, _, rfl, _, _, rfl, rfl, ?_⟩
      refine ⟨.ref D, rfl, .ref wa, rfl, wa, rfl, ⟨_, Evl.ex_t e2 hwa⟩, fun L nL => ?_⟩
      refine lc_tup (K := K) (a := wa) (xs := wv) (fun j H' => ∃ vs : List V, Evl.Ex H2 H' ∧ H' L = some (.lst vs) ∧ Paired (HpT H') vs ((g.ways.take j).map fun v => (⟨v, 0, g.frm, g.to_, g.price⟩ : HopD))) ⟨[], Evl.Ex.new nL, upd_same, .nil⟩ ?_ ?_ ?_
      · rintro j H' _ ⟨_, e, _⟩
        exact Evl.ex_t (e2.trans e) hwa
      · rintro j y H3 hy ⟨vs, e3, hL3, hv3⟩
        obtain ⟨u, hu, ⟨ua, rfl, hua⟩⟩ := Paired.get1 hwv hy
        have jl := (List.getElem?_eq_some_iff.mp hu).1
        refine ⟨rfl, .int g.frm, rfl, .int g.to_, rfl, .int g.price, rfl, .ref ua, rfl, (by show 4 ≤ sizeLine; decide), fun t nt => ?_⟩
        have e4 := Evl.Ex.new (o := .tup [.int g.frm, .int g.to_, .int g.price, .ref ua]) nt
        have hL4 := e4 _ _ hL3
        have vl : vs.length = (g.ways.take j).length := by have := Paired.len hv3; rwa [List.length_map] at this
        have gt : (upd H3 t (.tup [.int g.frm, .int g.to_, .int g.price, .ref ua])) t = some (.tup [.int g.frm, .int g.to_, .int g.price, .ref ua]) := upd_same
        generalize upd H3 t (.tup [.int g.frm, .int g.to_, .int g.price, .ref ua]) = H4 at e4 hL4 gt
        have hua4 := e4 _ _ (e3 _ _ (e2 _ _ hua))
        refine ⟨vs, hL4, Nat.lt_of_le_of_lt (by rw [vl, List.length_take]; omega : vs.length ≤ 8) (by decide), vs ++ [.ref t], (e3.trans e4).mut nL, upd_same, ?_⟩
        rw [take_succ_get hu, List.map_append]
        exact Paired.imp (fun _ _ => HpT.tx (K := K) (TX.put hL4)) (paired_app1 (Paired.imp (fun _ _ => HpT.ex e4) hv3) ⟨t, ua, rfl, gt, hua4⟩)
      · rintro H3 ⟨vs, e3, hL3, hv3⟩
        rw [wvl, List.take_length] at hv3
        have vl : vs.length = g.ways.length := by have := Paired.len hv3; rwa [List.length_map] at this
        refine ⟨D, L, _, _, rfl, rfl, e3 _ _ hD, hL3, Nat.le_trans (by omega : rvs.length + vs.length ≤ 8) (by decide), fun z nz => ?_⟩
        have e4 := Evl.Ex.new (o := .lst (rvs ++ vs)) nz
        have e24 := e3.trans e4
        refine ⟨z, rvs ++ vs, _, _, _, _, _, rfl, e2.trans e24, ?_, upd_same, ?_⟩
        · cases hz : H z with
          | none => rfl
          | some o => rw [e3 _ _ (e2 _ _ hz)] at nz; cases nz
        · rw [take_succ_get hg, List.flatMap_append]
          have : [g].flatMap hopsG = hopsG g := by simp
          rw [this]
          exact Paired.app (Paired.imp (fun _ _ => HpT.ex e24) hrv) (Paired.imp (fun _ _ => HpT.ex e4) hv3)
    · rintro σ H2 ⟨D, rvs, y2, y3, y4, y5, y6, rfl, e2, nD, hD, hrv⟩
      have gl : gs.length = b.gaps.length := Paired.len hgs
      rw [gl, List.take_length] at hrv
      exact ⟨_, rfl, q H2 D e2 nD ⟨rvs, hD, hrv⟩⟩
end
end Wb

set_option Elab.async false
set_option linter.all false
set_option maxRecDepth 100000
set_option maxHeartbeats 3200000
/-! set(a list), however long, told by what adding one item does; then for tuples of ints of which few are unlike -/
namespace L2
open PySem PySem.Spec PyProof.Rows
abbrev emptySet (w : World) : Obj := { cls := .type "set", dict := none, data := .set #[] 0 (.fresh 0 0 (!w.params.followText "set-order")) }
abbrev Still (h0 h : Heap) : Prop := ∀ b o, h0.get? b = some o → h.get? b = some o
structure Adds (P : Program) (w : World) (S : Addr) (h0 : Heap) (items : Array Value) (J : Nat → Heap → Prop) : Prop where
  zero : ∀ h : Heap, h.get? S = some (emptySet w) → Still h0 h → J 0 h
  keep : ∀ i (h h' : Heap), J i h → (∀ o, h.get? S = some o → h'.get? S = some o) → Still h0 h' → J i h'
  add : ∀ i v (A : Around) (s : Shared) (Q : Bool → Shared → Prop) (E : Value → Shared → Prop), items[i]? = some v → A.units < cLine → J i s.heap → Still h0 s.heap →
    (∀ b n h', Heap.SameBut S s.heap h' → J (i + 1) h' → Q b { s with heap := h', toks := s.toks + n }) → wpAny (model P w) A (setAdd S v) Q E s
section
variable {P : Program} {w : World} {A : Around} {E : Value → Shared → Prop} {s : Shared} {R : Result → Shared → Prop}
theorem adds_loop {I S : Addr} {fp wr : List Addr} {G : Array GenState → Array GenState → Prop} {Pv : Nat → Value → Prop} {St : Nat → Shared → Prop} {items : Array Value} {J : Nat → Heap → Prop} {h0 : Heap}
    (W : WalksS P w A.in1 I fp wr G items.size Pv St) (out : S ∉ fp) (D : Adds P w S h0 items J) (at_ : ∀ i v, Pv i v → items[i]? = some v) (new : h0.get? S = none) (newW : ∀ b ∈ wr, h0.get? b = none) (room : A.in1.units < cLine)
    (m : Nat) : ∀ (i : Nat) (s : Shared), i + m = items.size → St i s → Still h0 s.heap → J i s.heap →
      (∀ s', Moved (S :: wr) G s s' → J items.size s'.heap → Still h0 s'.heap → R (.ok (.ret .none)) s') → codeAny (model P w) A (.builtin "set.update.loop" ⟨[.ref S, .ref I], []⟩) R s := by
  have outW : S ∉ wr := fun z => out (W.sub _ z)
  have tail : ∀ b ∈ wr, b ∈ S :: wr := fun b z => List.mem_cons_of_mem _ z
  have moved : ∀ {s s' : Shared}, Moved wr G s s' → Still h0 s.heap → Still h0 s'.heap := fun mv k b o e => mv.heap b o (fun z => by rw [newW b z] at e; cases e) (k b o e)
  induction m with
  | zero =>
    intro i s him hst hk hJ q
    have e : i = items.size := him
    refine codeAny_builtin F.entry_set_update_loop ?_
    rw [Around.under_plainId F.plain_set_update_loop _]
    show wpAny _ A.in1 (pyNext (.ref I) >>= _) _ _ s
    rw [e] at hst hJ
    refine wpAny_bind (W.done s _ _ hst fun s' mv => ?_)
    exact wpAny_pure (q s' (mv.mono tail) (D.keep _ _ _ hJ (fun o z => mv.heap S o outW z) (moved mv hk)) (moved mv hk))
  | succ m ih =>
    intro i s him hst hk hJ q
    refine codeAny_builtin F.entry_set_update_loop ?_
    rw [Around.under_plainId F.plain_set_update_loop _]
    show wpAny _ A.in1 (pyNext (.ref I) >>= _) _ _ s
    refine wpAny_bind (W.item i s _ _ (by omega) hst fun v s1 hv hst1 mv => ?_)
    have k1 := moved mv hk
    show wpAny _ A.in1 (holding [v] (setAdd S v) >>= _) _ _ s1
    refine wpAny_bind (wpAny_holding ?_)
    refine D.add i v A.in1 s1 _ _ (at_ i v hv) room (D.keep _ _ _ hJ (fun o z => mv.heap S o outW z) k1) k1 fun b n h' sb hJ' => ?_
    have k2 : Still h0 h' := fun b o e => (sb.2 b (fun z => by rw [z, new] at e; cases e)).trans (k1 b o e)
    refine wpAny_pure ⟨plainId_quiet F.plain_set_update_loop _, ih (i + 1) _ (by omega) (W.frame _ s1 _ _ hst1 (Nat.le_add_right _ _) fun b z o e => ?_) k2 hJ' fun s2 mv2 hJ2 k3 => ?_⟩
    · rw [sb.2 b (fun y => out (y ▸ z))]; exact e
    · refine q s2 (Moved.trans W.gtrans ((mv.mono tail).then_heap (Nat.le_add_right _ _) fun b o z e => ?_) mv2) hJ2 k3
      rw [sb.2 b (fun y => z (by rw [y]; exact List.mem_cons_self))]; exact e
theorem call_set_adds {l : Addr} {items : Array Value} {J : Nat → Heap → Prop} {Q : Value → Shared → Prop} (D : Adds P w s.heap.objs.size s.heap items J) (calm : A.handled = none) (hl : s.heap.IsList l items) (room : A.units + 3 < cLine)
    (q : ∀ (h' : Heap) (tk : Nat), J items.size h' → Still s.heap h' → Q (.ref s.heap.objs.size) { s with heap := h', toks := tk }) : wpAny (model P w) A (call (.type "set") [.ref l]) Q E s := by
  obtain ⟨c, tl, hmro⟩ := F.called_set.mro
  have hmade := F.called_set.made
  have hsub := F.called_set.sub
  refine wpAny_call (codeAny_of_tree ?_)
  show wpAny _ _ (callAny (.type "set") _) _ _ _
  refine wpAny_pure ⟨Code.quiet_builtin _ (by decide +kernel), codeAny_builtin F.entry_type_call ?_⟩
  rw [Around.under_plain (weight_type_call_type "set" [.ref l] []) rfl]
  have h1 := F.called_set.notType
  have h2 := F.called_set.canCreate
  have h3 := F.typeCall_set_1 (.ref l)
  repeat (any_goals (first | assumption | wp_step))
  refine codeAny_mono (code_set_led1 (.ref l) (E := E) (Q₁ := fun x s₁ => x = .ref s.heap.objs.size ∧ s₁ = { s with heap := s.heap.push (emptySet w) }) ⟨rfl, rfl⟩) fun r s₁ hr => ?_
  match r, hr with
  | .error e, hr => exact hr
  | .ok (.ret x), hr =>
    obtain ⟨rfl, rfl⟩ := hr
    have fresh : (s.heap.push (emptySet w)).get? s.heap.objs.size = some (emptySet w) := Heap.get?_push_size _ rfl
    have ty : Shared.TypeIs { s with heap := s.heap.push (emptySet w) } (.ref s.heap.objs.size) "set" := ⟨_, fresh, rfl⟩
    have h4 := F.called_set.init.lookup
    have h5 := F.called_set.init.bind (.ref s.heap.objs.size)
    repeat (any_goals (first | assumption | wp_step))
    refine codeAny_mono (codeAny_call_builtin (R := wants (fun r s₂ => r = .none ∧ ∃ (h' : Heap) (tk : Nat), s₂ = { s with heap := h', toks := tk } ∧ J items.size h' ∧ Still s.heap h') E) F.called_set.init.plain F.entry_set_init (check_set_init_1 ty ?_)) fun r₂ s₂ hr₂ => ?_
    · obtain ⟨⟨ocls, odict, odata, oslots⟩, hol, hcl, nl, hdl⟩ := hl
      simp only at hcl hdl
      subst hcl; subst hdl
      have hol1 : (s.heap.push (emptySet w)).get? l = some { cls := .type "list", dict := odict, data := .seq items nl, slots := oslots } := Heap.get?_push_of_some _ hol
      have n1 := F.sub_list_set
      have n2 := F.sub_list_frozenset
      have n3 : (Value.type "list" == Value.type "dict") = false := by decide
      have lst1 : (s.heap.push (emptySet w)).IsList l items := ⟨_, hol1, rfl, nl, rfl⟩
      unfold Builtin.«set.__init__» noKeywords Builtin.Frozenset.updateFrom
      generalize hG : pyIter = G
      wp_walk
      subst hG
      refine wpAny_pyIter_list lst1 ?_
      refine wpAny_bind (wpAny_runValue ?_)
      have lS : l < s.heap.objs.size := Heap.lt_size hol
      have sz : (s.heap.push (emptySet w)).objs.size = s.heap.objs.size + 1 := Heap.size_push ..
      have ne : l ≠ (s.heap.push (emptySet w)).objs.size := by rw [sz]; exact Nat.ne_of_lt (Nat.lt_succ_of_lt lS)
      have none_of : ∀ b, s.heap.objs.size ≤ b → s.heap.get? b = none := fun b hb => by
        cases z : s.heap.get? b with
        | none => rfl
        | some o => exact absurd (Nat.lt_of_lt_of_le (Heap.lt_size z) hb) (Nat.lt_irrefl _)
      refine adds_loop (S := s.heap.objs.size) (h0 := s.heap) (J := J) ((Walks.list (by simp [calm]) _ l ne items).toS) (by
          rw [sz]; simp only [List.mem_cons, List.mem_singleton, List.not_mem_nil, or_false, not_or]; exact ⟨Nat.ne_of_lt (Nat.lt_succ_self _), Nat.ne_of_gt lS⟩) D (fun i v z => z) (none_of _ (Nat.le_refl _))
        (fun b z => none_of b (by rw [List.mem_singleton.mp z, sz]; exact Nat.le_succ _)) room items.size 0 _ (Nat.zero_add _) ⟨⟨_, Heap.get?_push_size _ rfl, rfl, rfl⟩, (lst1.push _)⟩ (fun b o e => Heap.get?_push_of_some _ (Heap.get?_push_of_some _ e))
        (D.zero _ (Heap.get?_push_of_some _ fresh) fun b o e => Heap.get?_push_of_some _ (Heap.get?_push_of_some _ e)) fun s' mv hJ k => ?_
      obtain ⟨h', g2, d2, tk2, os2⟩ := s'
      have e1 : g2 = s.gens := mv.gens
      have e2 : d2 = s.drawn := mv.drawn
      have e3 : os2 = s.os := mv.os
      subst e1; subst e2; subst e3
      show wpAny _ _ _ _ _ _
      refine wpAny_pure ?_
      show wpAny _ _ (ret Value.none) _ _ _
      exact wpAny_pure ⟨rfl, h', tk2, rfl, hJ, k⟩
    · match r₂, hr₂ with
      | .error e, hr₂ => exact hr₂
      | .ok (.ret x), hr₂ =>
        obtain ⟨rfl, h', tk, rfl, hJ, k⟩ := hr₂
        repeat (any_goals (first | assumption | wp_step))
        exact q h' tk hJ k
/-- tuples of ints, of which fewer than 63 are unlike -/
theorem adds_tups {S : Addr} {h0 : Heap} {items : Array Value} (ks : List (Addr × List Int)) (hit : items.toList = ks.map fun p => Value.ref p.1) (hk : ∀ p ∈ ks, IsT P w h0 p.2 p.1)
    (few : ∀ L : List (Addr × List Int), (L.map (·.2)).Nodup → (∀ p ∈ L, p ∈ ks) → L.length < 63) :
    Adds P w S h0 items fun i h => ∃ L es ep t, SetTR P w h S L es ep t ∧ (∀ p ∈ L, p ∈ ks) ∧ ∀ p ∈ ks.take i, p.2 ∈ L.map (·.2) := by
  have isk : ∀ {h : Heap}, Still h0 h → ∀ p ∈ ks, IsT P w h p.2 p.1 := fun k p hp => isT_keep (hk p hp) k
  refine ⟨fun h e k => ⟨[], #[], 0, _, setTR_fresh e, fun p z => (by cases z), fun p z => (by rw [List.take_zero] at z; cases z)⟩, ?_, ?_⟩
  · rintro i h h' ⟨L, es, ep, t, R, a, b⟩ kS k
    exact ⟨L, es, ep, t, R.keep kS (fun p hp => isk k p (a p hp)), a, b⟩
  · rintro i v A s Q E hv hu ⟨L, es, ep, t, R, a, b⟩ k q
    obtain ⟨p, hp, rfl⟩ : ∃ p, ks[i]? = some p ∧ v = .ref p.1 := by
      have z : items.toList[i]? = some v := by rw [Array.getElem?_toList]; exact hv
      rw [hit, List.getElem?_map] at z
      cases y : ks[i]? with
      | none => rw [y] at z; cases z
      | some p => rw [y] at z; exact ⟨p, rfl, (Option.some.inj z).symm⟩
    have pin := List.mem_of_getElem? hp
    have hx := isk k p pin
    unfold setAdd
    refine wpAny_holding ?_
    refine wpAny_bind (wpAny_pyHash_tuple hu hx ?_)
    refine add_at (s := { s with toks := s.toks + (p.2.length + 1) }) R hx hu (by have := few L R.nd a; omega) fun c h' L' es' ep' t' sb R' c1 c2 => ?_
    refine q c _ h' sb ⟨L', es', ep', t', R', ?_⟩
    rcases Classical.em (p.2 ∈ L.map (·.2)) with c | c
    · rw [c1 c]
      refine ⟨a, fun r hr => ?_⟩
      rw [take_next hp] at hr
      rcases List.mem_append.mp hr with z | z
      · exact b r z
      · rw [List.mem_singleton.mp z]; exact c
    · have pm := c2 c
      refine ⟨fun r hr => ?_, fun r hr => ?_⟩
      · rcases List.mem_cons.mp (pm.mem_iff.mp hr) with z | z
        · rw [z]; exact pin
        · exact a r z
      · rw [(pm.map (·.2)).mem_iff, List.map_cons]
        rw [take_next hp] at hr
        rcases List.mem_append.mp hr with z | z
        · exact List.mem_cons_of_mem _ (b r z)
        · rw [List.mem_singleton.mp z]; exact List.mem_cons_self
end
section
variable {X : Cx}
/-- set(xs), xs a list of tuples of ints, however long, of which fewer than 63 are unlike -/
def rSetFewT (K : PySem.W.Frag) (P : Program) (w : World) : List V → Hp → VK → Prop := fun xs H Q => ∃ (l : Addr) (ks : List (Addr × List Int)), xs = [V.ref l] ∧ SqL K H l (ks.map fun p => V.ref p.1) ∧ (∀ p ∈ ks, SqT K H p.1 (p.2.map V.int)) ∧
  (∀ L : List (Addr × List Int), (L.map (·.2)).Nodup → (∀ p ∈ L, p ∈ ks) → L.length < 63) ∧
  ∀ a L, H a = none → (∀ p ∈ L, p ∈ ks) → (∀ p ∈ ks, p.2 ∈ L.map (·.2)) → Q (.ref a) (upd H a (SetTO P w a L))
theorem cr_setFewT (hc : X.calm = true) (hu : X.A.units + 64 < cLine) : CallR X (.type "set") (rSetFewT X.K X.prog X.w) := by
  intro pins s σ H xs us Q I r h
  obtain ⟨l, ks, rfl, hl, hk, hf, q⟩ := h
  rw [Vals.ref1 r]
  obtain ⟨its, rv, pl, hz⟩ := I.list hl
  have e := refs_of_vals rv
  have hn : H s.heap.objs.size = none := I.hok.fresh (Nat.le_refl _)
  refine call_set_adds (adds_tups ks (by simpa using e) (fun p hp => I.isT (hk p hp)) hf) (I.ok.hd hc) pl.isList (by omega) fun h' tk J k => ?_
  obtain ⟨L, es, ep, t, R, a, b⟩ := J
  refine ⟨.ref s.heap.objs.size, upd H s.heap.objs.size (SetTO X.prog X.w s.heap.objs.size L), I.laid (t' := tk) k (Nat.le_refl _) (setTO_new R.t0), rfl, q _ L hn a fun p hp => b p ?_⟩
  have : its.length = ks.length := by rw [e, List.length_map]
  rw [List.size_toArray, this, List.take_length]
  exact hp
end
end L2

set_option Elab.async false
set_option linter.all false
set_option maxRecDepth 100000
set_option maxHeartbeats 8000000
set_option pp.maxSteps 900
set_option pp.deepTerms false
namespace Wb
open PySem PySem.Spec PyProof.Rows L2
/-! ### the words that matter, with the ends -/
def wordAt (l : Lock) (es : List Word) (m : Nat) (u : Word) : Prop := (∃ e ∈ es, u = e.take m) ∨ cutsFrom l m u
def cutsB (m : Nat) (b : Bolt) : List Word := b.gaps.flatMap fun g => g.ways.map fun v => v.take m
def cutsL (l : Lock) (m : Nat) : List Word := (l.drop m).flatMap (cutsB m)
theorem mem_cutsB {m : Nat} {b : Bolt} {u : Word} : u ∈ cutsB m b ↔ ∃ g ∈ b.gaps, ∃ v ∈ g.ways, u = v.take m := by
  unfold cutsB
  rw [List.mem_flatMap]
  constructor
  · rintro ⟨g, hg, h⟩
    obtain ⟨v, hv, rfl⟩ := List.mem_map.mp h
    exact ⟨g, hg, v, hv, rfl⟩
  · rintro ⟨g, hg, v, hv, rfl⟩
    exact ⟨g, hg, List.mem_map.mpr ⟨v, hv, rfl⟩⟩
theorem mem_cutsL {l : Lock} {m : Nat} {u : Word} : u ∈ cutsL l m ↔ cutsFrom l m u := by
  unfold cutsL
  rw [List.mem_flatMap]
  constructor
  · rintro ⟨b, hb, h⟩
    obtain ⟨g, hg, v, hv, rfl⟩ := mem_cutsB.mp h
    obtain ⟨i, hi⟩ := List.mem_iff_getElem?.mp hb
    rw [List.getElem?_drop] at hi
    exact ⟨m + i, b, g, v, by omega, hi, hg, hv, rfl⟩
  · rintro ⟨j, b, g, v, hj, hb, hg, hv, rfl⟩
    refine ⟨b, List.mem_iff_getElem?.mpr ⟨j - m, ?_⟩, mem_cutsB.mpr ⟨g, hg, v, hv, rfl⟩⟩
    rw [List.getElem?_drop, show m + (j - m) = j by omega]
    exact hb
theorem cutsB_len {manys : List Int} {m : Nat} {b : Bolt} (ok : BoltOk manys b) : (cutsB m b).length ≤ 8 := by
  have h : ∀ gs : List Gap, (gs.flatMap fun g => g.ways.map fun v => v.take m).length = (gs.map fun g => g.ways.length).sum := fun gs => by
    induction gs with
    | nil => rfl
    | cons g gs ih => rw [List.flatMap_cons, List.length_append, ih, List.map_cons, List.sum_cons, List.length_map]
  unfold cutsB
  rw [h]
  exact ok.few
theorem flat_le {α β : Type} (f : α → List β) (c : Nat) : ∀ xs : List α, (∀ x ∈ xs, (f x).length ≤ c) → (xs.flatMap f).length ≤ c * xs.length
  | [], _ => Nat.zero_le _
  | x :: xs, h => by
    rw [List.flatMap_cons, List.length_append, List.length_cons, Nat.mul_succ]
    have := h x List.mem_cons_self
    have := flat_le f c xs fun y hy => h y (List.mem_cons_of_mem _ hy)
    omega
theorem words10 {l : Lock} (ok : LockOk l) {es : List Word} (e2 : es.length ≤ 2) {m : Nat} {ws : List Word} (nd : ws.Nodup) (h : ∀ u ∈ ws, wordAt l es m u) : ws.length ≤ 10 := by
  classical
  have sub : ∀ u ∈ ws, u ∈ ws.filter (fun u => decide (cutsFrom l m u)) ++ es.map (fun e => e.take m) := fun u hu => by
    rcases h u hu with ⟨e, he, rfl⟩ | c
    · exact List.mem_append_right _ (List.mem_map.mpr ⟨e, he, rfl⟩)
    · exact List.mem_append_left _ (List.mem_filter.mpr ⟨hu, decide_eq_true c⟩)
  have l1 := nodup_le nd sub
  rw [List.length_append, List.length_map] at l1
  have l2 : (ws.filter (fun u => decide (cutsFrom l m u))).length ≤ 8 := by
    by_cases c : m < l.length
    · exact ok.words m _ c (nd.filter _) fun w hw => of_decide_eq_true (List.mem_filter.mp hw).2
    · have : ws.filter (fun u => decide (cutsFrom l m u)) = [] := List.filter_eq_nil_iff.mpr fun u _ z => by
        obtain ⟨j, b, g, v, hj, hb, _⟩ := of_decide_eq_true z
        have := (List.getElem?_eq_some_iff.mp hb).1
        omega
      rw [this]; exact Nat.zero_le _
  omega
theorem word_bd {l : Lock} (ok : LockOk l) {es : List Word} (he : ∀ e ∈ es, inr l e) {m : Nat} (ml : m ≤ l.length) {u : Word} (h : wordAt l es m u) : u.length = m ∧ TS.Bd 4 u := by
  have key : ∀ (v : Word) (k : Nat), m ≤ k → k ≤ l.length → v.length = k → (∀ (i : Nat) (x : Int), i < k → v[i]? = some x → 0 ≤ x ∧ x < 4) → (v.take m).length = m ∧ TS.Bd 4 (v.take m) := fun v k mk kl vl hv => by
    refine ⟨by rw [List.length_take]; omega, fun y hy => ?_⟩
    obtain ⟨j, hj⟩ := List.mem_iff_getElem?.mp (List.mem_of_mem_take hy)
    have jl := (List.getElem?_eq_some_iff.mp hj).1
    exact hv j y (by omega) hj
  rcases h with ⟨e, hm, rfl⟩ | ⟨j, b, g, v, hj, hb, hg, hv, rfl⟩
  · obtain ⟨el, hr⟩ := he e hm
    refine key e l.length ml (Nat.le_refl _) el fun i x hi hx => ?_
    obtain ⟨b, hb⟩ : ∃ b, l[i]? = some b := ⟨_, List.getElem?_eq_getElem hi⟩
    have := hr i b x hb hx
    have := (ok.bolts i b hb).m1
    omega
  · have jl := (List.getElem?_eq_some_iff.mp hb).1
    obtain ⟨vl, hr⟩ := ((ok.bolts j b hb).gaps g hg).words v hv
    have ml2 : (manysOf (l.take j)).length = j := by unfold manysOf; rw [List.length_map, List.length_take]; omega
    refine key v j hj (by omega) (by omega) fun i x hi hx => ?_
    obtain ⟨b', hb'⟩ : ∃ b, l[i]? = some b := ⟨_, List.getElem?_eq_getElem (by omega)⟩
    have e : (manysOf (l.take j))[i]? = some b'.many := by
      unfold manysOf
      rw [List.getElem?_map, List.getElem?_take, if_pos hi, hb']; rfl
    have := hr i x _ hx e
    have := (ok.bolts i b' hb').m1
    omega
abbrev sWat : Stmt := topS 51
abbrev nWat : List Str := ["_law_lock_here", "_law_ends", "_law_m", "_law_found", "_law_many", "_law_gaps", "_law_gap", "_law_end", "_law_way"]
theorem scWat : FnScope nWat ["_law_lock_here", "_law_ends", "_law_m"] (defScope sWat) := ⟨rfl, rfl, rfl, by decide +kernel, rfl, by decide +kernel, by decide +kernel⟩
def spWat (K : PySem.W.Frag) : Sp := fun vs H Q _ => ∃ (lk : V) (ea : Addr) (m : Nat) (l : Lock) (evs : List V) (es : List Word), vs = [lk, .ref ea, .int (m : Nat)] ∧ LockAt K H lk l ∧ LockOk l ∧ H ea = some (.lst evs) ∧ Paired (Wd K H) evs es ∧ es.length = 2 ∧ (∀ e ∈ es, inr l e) ∧ m ≤ l.length ∧
  ∀ H' a us ws, Evl.Ex H H' → H' a = some (.lst us) → Paired (Wd K H') us ws → (∀ u, u ∈ ws ↔ wordAt l es m u) → ws.length ≤ 10 → Q (.ref a) H'
section
variable {P : Program} {w : World} {K : PySem.W.Frag} {mg : Str → Option Value} {base : Heap}
theorem ok_wat {f : Addr} {fd : FuncData} (F : Fun K "_law_words_at" "_law_words_at" sWat f fd) (B : Bi mg) : FnOk P w K mg base CX0 1 f fd ["_law_lock_here", "_law_ends", "_law_m"] (spWat K) := by
  refine F.ok scWat (fun vs H Q E h => ?_) (fun cdv A outer s H vs Q E hr h => ?_)
  · obtain ⟨lk, ea, m, l, evs, es, rfl, _⟩ := h; rfl
  · obtain ⟨lk, ea, m, l, evs, es, rfl, ⟨la, bs, rfl, hla, hbs⟩, ok, hea, hev, e2, hin, ml, q⟩ := h
    refine ⟨_, (Evl.pss_cut (ps_setLc (i := 3) (own := [("_law_end", 7)]) (g := gName 7) (wi := iList K (tVar 1)) (te := tSl (rSlA K) (tVar 7) tNoPart (tPart (tVar 2))) rfl scWat.nd rfl rfl rfl (pi_list (pv 1)) (blkOk_by (own := [("_law_end", 7)]) (N := nWat) (sc := defScope sWat) (by decide +kernel)) (fun _ _ _ _ _ => (pg_name (i := 7) scWat.nd rfl (.inl rfl))) (fun _ _ _ _ _ => pts_nil) (fun _ _ _ _ _ => (pe_slice (r := rSlA K) sl_tupA (pv 7) po_none (po_some (pv 2)))))
 (Evl.pss_cut (ps_for PassesOwn.never rfl (pi_tup (pe_slice (r := rSlA K) sl_tupA (pv 0) (po_some (pv 2)) po_none)) (pg_tup rfl (pgs_cons (pg_name (i := 4) scWat.nd rfl (.inl rfl)) (pgs_cons (pg_name (i := 5) scWat.nd rfl (.inl rfl)) pgs_nil)))
 (pss_one (ps_for PassesOwn.never rfl (pi_tup (pv 5)) (pg_name (i := 6) scWat.nd rfl (.inl rfl))
 (pss_one (ps_set (i := 3) scWat.nd rfl (.inl rfl) (pe_op (r := rCat) op_cat (pv 3) (pe_lc (own := [("_law_way", 8)]) (g := gName 8) (wi := iTup K (tOp (rIxT K) (tVar 6) (tC (.int 3)))) (te := tSl (rSlA K) (tVar 8) tNoPart (tPart (tVar 2))) rfl scWat.nd (pi_tup (pe_ix (r := rIxT K) ix_tup (pv 6) pe_int (fun _ _ => rfl))) (blkOk_by (own := [("_law_way", 8)]) (N := nWat) (sc := defScope sWat) (by decide +kernel)) (fun _ _ _ _ _ => (pg_name (i := 8) scWat.nd rfl (.inl rfl))) (fun _ _ _ _ _ => pts_nil) (fun _ _ _ _ _ => (pe_slice (r := rSlA K) sl_tupA (pv 8) po_none (po_some (pv 2)))))))))))
 (pss_one (ps_ret (pe_callB (cr_sortedW0 rfl) (by rfl) B.sorted boot_sorted (pa_cons (pe_callTy (cr_setFewT rfl hr.units) (by rfl) B.set PyProof.Rows.boot_set (pa_cons (pv 3) pa_nil)) pa_nil)))))), ?_⟩
    have l60 := ok.n1
    have evl : evs.length = es.length := Paired.len hev
    have bsl : bs.length = l.length := Paired.len hbs
    -- the ends, cut
    refine ⟨fun σ H' => ∃ D vs, σ = [some (.ref la), some (.ref ea), some (.int (m : Nat)), some (.ref D), none, none, none, none, none] ∧ Evl.Ex H H' ∧ H' D = some (.lst vs) ∧ Paired (Wd K H') vs (es.map fun e => e.take m), ?_, ?_⟩
    · refine ⟨.ref ea, rfl, ea, rfl, ⟨_, SqL.of hea⟩, fun D nD => ?_⟩
      refine lc_list (K := K) (a := ea) (xs := evs) (fun j H' => ∃ vs : List V, Evl.Ex H H' ∧ H' D = some (.lst vs) ∧ Paired (Wd K H') vs ((es.take j).map fun e => e.take m)) ⟨[], Evl.Ex.new nD, upd_same, .nil⟩ ?_ ?_ ?_
      · rintro j H' _ ⟨_, e, _⟩
        exact SqL.of (e _ _ hea)
      · rintro j y H3 hy ⟨vs, e3, hL3, hv3⟩
        obtain ⟨u, hu, ⟨ua, rfl, hua⟩⟩ := Paired.get1 hev hy
        refine ⟨rfl, .ref ua, rfl, ?_⟩
        refine nopart1 ?_
        refine ⟨.int (m : Nat), rfl, (m : Nat), rfl, ?_⟩
        refine sl_own (K := K) (lo := none) (hi := some ((m : Nat) : Int)) (e3 _ _ hua) fun H4 z4 e4 q4 => ?_
        rw [cut_take, ← List.map_take] at q4
        have vl : vs.length ≤ 2 := by have := Paired.len hv3; rw [List.length_map, List.length_take] at this; omega
        refine ⟨vs, e4 _ _ hL3, Nat.lt_of_le_of_lt vl (by decide), vs ++ [.ref z4], (e3.trans e4).mut nD, upd_same, ?_⟩
        rw [take_succ_get hu, List.map_append]
        exact Paired.imp (fun _ _ => Wd.mono (TX.put (e4 _ _ hL3))) (paired_app1 (Paired.imp (fun _ _ => wd_ex e4) hv3) ⟨z4, rfl, q4⟩)
      · rintro H3 ⟨vs, e3, hL3, hv3⟩
        rw [evl, List.take_length] at hv3
        exact ⟨D, vs, rfl, e3, hL3, hv3⟩
    rintro _ H1 ⟨D0, vs0, rfl, e1, hD0, hv0⟩
    -- those of the ways
    refine ⟨fun σ H' => ∃ (D : Addr) (vs : List V) (y4 y5 y6 y7 y8 : Option V), σ = [some (.ref la), some (.ref ea), some (.int (m : Nat)), some (.ref D), y4, y5, y6, y7, y8] ∧ Evl.Ex H H' ∧ H' D = some (.lst vs) ∧ Paired (Wd K H') vs (es.map (fun e => e.take m) ++ cutsL l m), ?_, ?_⟩
    · refine ⟨.ref la, rfl, ?_⟩
      refine ⟨.int (m : Nat), rfl, (m : Nat), rfl, ?_⟩
      refine nopart1 ?_
      refine sl_any (K := K) (lo := some ((m : Nat) : Int)) (hi := none) (Evl.ex_t e1 hla) fun H2 t2 e2' ht2 => ?_
      rw [cut_dropT bs (by omega)] at ht2
      have e12 := e1.trans e2'
      refine ⟨t2, rfl, ⟨_, ht2⟩, ?_⟩
      have dn : ∀ i x, (bs.drop m)[i]? = some x → ∃ b, (l.drop m)[i]? = some b ∧ BoltAt K H x b := fun i x hx => by
        rw [List.getElem?_drop] at hx
        obtain ⟨b, hb, h⟩ := Paired.get1 hbs hx
        exact ⟨b, by rw [List.getElem?_drop]; exact hb, h⟩
      refine for_tup (K := K) (a := t2) (xs := bs.drop m) (fun i σ H' => ∃ (D : Addr) (vs : List V) (y4 y5 y6 y7 y8 : Option V), σ = [some (.ref la), some (.ref ea), some (.int (m : Nat)), some (.ref D), y4, y5, y6, y7, y8] ∧ Evl.Ex H H' ∧ Evl.Ex H2 H' ∧ H' D = some (.lst vs) ∧ Paired (Wd K H') vs (es.map (fun e => e.take m) ++ ((l.drop m).take i).flatMap (cutsB m)))
        ⟨D0, vs0, _, _, _, _, _, rfl, e12, Evl.Ex.refl H2, e2' _ _ hD0, by
          rw [List.take_zero, List.flatMap_nil, List.append_nil]
          exact Paired.imp (fun _ _ => wd_ex e2') hv0⟩ ?_ ?_ ?_
      · rintro i σ H' _ ⟨_, _, _, _, _, _, _, _, _, e, _⟩
        exact Evl.ex_t e ht2
      · rintro i x σ H3 hx ⟨D, vs, y4, y5, y6, y7, y8, rfl, e3, e23, hD3, hv3⟩
        obtain ⟨b, hb, ⟨ba, ca, gs, rfl, hba, hca, hgs⟩⟩ := dn i x hx
        have hbl : l[m + i]? = some b := by rw [← List.getElem?_drop]; exact hb
        have bok := ok.bolts _ b hbl
        have il : m + i < l.length := (List.getElem?_eq_some_iff.mp hbl).1
        have gsl : gs.length = b.gaps.length := Paired.len hgs
        have pre : (((l.drop m).take i).flatMap (cutsB m)).length ≤ 8 * i := by
          refine Nat.le_trans (flat_le (cutsB m) 8 _ fun b' hb' => ?_) (Nat.mul_le_mul_left 8 (by rw [List.length_take]; omega))
          obtain ⟨j, hj⟩ := List.mem_iff_getElem?.mp (List.mem_of_mem_drop (List.mem_of_mem_take hb'))
          exact cutsB_len (ok.bolts j b' hj)
        refine ⟨ba, _, rfl, Evl.ex_t e3 hba, rfl, _, _, rfl, _, _, rfl, rfl, ?_⟩
        refine ⟨.ref ca, rfl, ca, rfl, ⟨_, Evl.ex_t e3 hca⟩, ?_⟩
        refine for_tup (K := K) (a := ca) (xs := gs) (fun j σ H' => ∃ (D : Addr) (vs : List V) (y6 y7 y8 : Option V), σ = [some (.ref la), some (.ref ea), some (.int (m : Nat)), some (.ref D), some (.int b.many), some (.ref ca), y6, y7, y8] ∧ Evl.Ex H H' ∧ Evl.Ex H2 H' ∧ H' D = some (.lst vs) ∧
            Paired (Wd K H') vs (es.map (fun e => e.take m) ++ ((l.drop m).take i).flatMap (cutsB m) ++ (b.gaps.take j).flatMap fun g => g.ways.map fun v => v.take m))
          ⟨D, vs, _, _, _, rfl, e3, e23, hD3, by rw [List.take_zero, List.flatMap_nil, List.append_nil]; exact hv3⟩ ?_ ?_ ?_
        · rintro j σ H' _ ⟨_, _, _, _, _, _, e, _⟩
          exact Evl.ex_t e hca
        · rintro j y σ H4 hy ⟨D, vs, y6, y7, y8, rfl, e4, e24, hD4, hv4⟩
          obtain ⟨g, hg, ⟨ga, wa, wv, rfl, hga, hwa, hwv⟩⟩ := Paired.get1 hgs hy
          have wvl : wv.length = g.ways.length := Paired.len hwv
          have g8 := (bok.gaps g (List.mem_of_getElem? hg)).few
          refine ⟨.ref D, rfl, .ref ga, rfl, ga, _, 3, .ref wa, rfl, rfl, Evl.ex_t e4 hga, atI_nat (j := 3) rfl, wa, rfl, ⟨_, Evl.ex_t e4 hwa⟩, fun L nL => ?_⟩
          refine lc_tup (K := K) (a := wa) (xs := wv) (fun k H' => ∃ us : List V, Evl.Ex H4 H' ∧ H' L = some (.lst us) ∧ Paired (Wd K H') us ((g.ways.take k).map fun v => v.take m)) ⟨[], Evl.Ex.new nL, upd_same, .nil⟩ ?_ ?_ ?_
          · rintro k H' _ ⟨_, e, _⟩
            exact Evl.ex_t (e4.trans e) hwa
          · rintro k z H5 hz ⟨us, e5, hL5, hu5⟩
            obtain ⟨u, hu, ⟨ua, rfl, hua⟩⟩ := Paired.get1 hwv hz
            refine ⟨rfl, .ref ua, rfl, ?_⟩
            refine nopart1 ?_
            refine ⟨.int (m : Nat), rfl, (m : Nat), rfl, ?_⟩
            refine sl_own (K := K) (lo := none) (hi := some ((m : Nat) : Int)) (e5 _ _ (e4 _ _ hua)) fun H6 z6 e6 q6 => ?_
            rw [cut_take, ← List.map_take] at q6
            have ul : us.length ≤ 8 := by have := Paired.len hu5; rw [List.length_map, List.length_take] at this; omega
            refine ⟨us, e6 _ _ hL5, Nat.lt_of_le_of_lt ul (by decide), us ++ [.ref z6], (e5.trans e6).mut nL, upd_same, ?_⟩
            rw [take_succ_get hu, List.map_append]
            exact Paired.imp (fun _ _ => Wd.mono (TX.put (e6 _ _ hL5))) (paired_app1 (Paired.imp (fun _ _ => wd_ex e6) hu5) ⟨z6, rfl, q6⟩)
          · rintro H5 ⟨us, e5, hL5, hu5⟩
            rw [wvl, List.take_length] at hu5
            have ul : us.length ≤ 8 := by have := Paired.len hu5; rw [List.length_map] at this; omega
            have vl : vs.length ≤ 2 + 8 * i + 8 := by
              have h1 := Paired.len hv4
              rw [List.length_append, List.length_append, List.length_map] at h1
              have h2 : ((b.gaps.take j).flatMap fun g => g.ways.map fun v => v.take m).length ≤ (cutsB m b).length := by
                have : cutsB m b = ((b.gaps.take j).flatMap fun g => g.ways.map fun v => v.take m) ++ ((b.gaps.drop j).flatMap fun g => g.ways.map fun v => v.take m) := by
                  unfold cutsB
                  rw [← List.flatMap_append, List.take_append_drop]
                rw [this, List.length_append]; omega
              have h3 := cutsB_len (m := m) bok
              omega
            refine ⟨D, L, _, _, rfl, rfl, e5 _ _ hD4, hL5, Nat.le_trans (by omega : vs.length + us.length ≤ 500) (by decide), fun z nz => ?_⟩
            have e6 := Evl.Ex.new (o := .lst (vs ++ us)) nz
            have e46 := e5.trans e6
            refine ⟨z, vs ++ us, _, _, _, rfl, e4.trans e46, e24.trans e46, upd_same, ?_⟩
            rw [take_succ_get hg, List.flatMap_append, ← List.append_assoc]
            have : [g].flatMap (fun g => g.ways.map fun v => v.take m) = g.ways.map fun v => v.take m := by simp
            rw [this]
            exact Paired.app (Paired.imp (fun _ _ => wd_ex e46) hv4) (Paired.imp (fun _ _ => wd_ex e6) hu5)
        · rintro σ H4 ⟨D, vs, y6, y7, y8, rfl, e4, e24, hD4, hv4⟩
          rw [gsl, List.take_length] at hv4
          refine ⟨D, vs, _, _, _, _, _, rfl, e4, e24, hD4, ?_⟩
          rw [take_succ_get hb, List.flatMap_append, ← List.append_assoc]
          have : [b].flatMap (cutsB m) = b.gaps.flatMap fun g => g.ways.map fun v => v.take m := by simp [cutsB]
          rw [this]
          exact hv4
      · rintro σ H3 ⟨D, vs, y4, y5, y6, y7, y8, rfl, e3, e23, hD3, hv3⟩
        refine ⟨D, vs, _, _, _, _, _, rfl, e3, hD3, ?_⟩
        have : (bs.drop m).length = (l.drop m).length := by rw [List.length_drop, List.length_drop, bsl]
        rw [this, List.take_length] at hv3
        exact hv3
    rintro _ H2 ⟨D, vs, y4, y5, y6, y7, y8, rfl, e2', hD2, hv2⟩
    obtain ⟨ks, rfl, hks, hkt⟩ := keys_of hv2
    have wat : ∀ u, u ∈ ks.map (·.2) ↔ wordAt l es m u := fun u => by
      rw [hks, List.mem_append, mem_cutsL]
      unfold wordAt
      rw [List.mem_map]
      constructor
      · rintro (⟨e, he, rfl⟩ | h)
        · exact .inl ⟨e, he, rfl⟩
        · exact .inr h
      · rintro (⟨e, he, rfl⟩ | h)
        · exact .inl ⟨e, he, rfl⟩
        · exact .inr h
    have wk : ∀ p ∈ ks, wordAt l es m p.2 := fun p hp => (wat p.2).mp (List.mem_map.mpr ⟨p, hp, rfl⟩)
    refine ⟨.ref D, rfl, D, ks, rfl, SqL.of hD2, fun p hp => .inl (.inl (hkt p hp)), fun L nd sub => ?_, fun sa L nsa hL1 hL2 => ?_⟩
    · have := words10 ok (by omega : es.length ≤ 2) nd fun u hu => by
        obtain ⟨p, hp, rfl⟩ := List.mem_map.mp hu
        exact wk p (sub p hp)
      rw [List.length_map] at this
      omega
    have e9 := Evl.Ex.new (o := SetTO P w sa L) nsa
    refine ⟨sa, L, m, 4, rfl, upd_same, fun p hp => .inl (.inl (e9 _ _ (hkt p (hL1 p hp)))), fun p hp => word_bd ok hin ml (wk p (hL1 p hp)), fun L' sl perm nodup l64 pw nsl => ?_⟩
    have e10 : Evl.Ex (upd H2 sa (SetTO P w sa L)) (upd (upd H2 sa (SetTO P w sa L)) sl (.lst (L'.map fun q => V.ref q.1))) := Evl.Ex.new nsl
    have e910 := e9.trans e10
    have hL' : ∀ p ∈ L', p ∈ ks := fun p hp => hL1 p (perm.mem_iff.mp hp)
    refine q _ sl _ (L'.map (·.2)) (e2'.trans e910) upd_same (rows_of_keys fun p hp => e910 _ _ (hkt p (hL' p hp))) (fun u => ?_) (words10 ok (by omega : es.length ≤ 2) nodup fun u hu => by
      obtain ⟨p, hp, rfl⟩ := List.mem_map.mp hu
      exact wk p (hL' p hp))
    constructor
    · intro hu
      obtain ⟨p, hp, rfl⟩ := List.mem_map.mp hu
      exact wk p (hL' p hp)
    · intro hu
      obtain ⟨p, hp, rfl⟩ := List.mem_map.mp ((wat u).mpr hu)
      exact (perm.map (·.2)).mem_iff.mpr (hL2 p hp)
end
end Wb

set_option Elab.async false
set_option linter.all false
set_option maxRecDepth 100000
set_option maxHeartbeats 8000000
set_option pp.maxSteps 900
set_option pp.deepTerms false
namespace Wb
open PySem PySem.Spec PyProof.Rows L2
/-! ### between the rows of a bolt -/
abbrev sBtw : Stmt := topS 53
abbrev nBtw : List Str := ["_law_rows", "_law_under", "_law_many", "_law_found", "_law_a", "_law_b", "_law_c"]
theorem scBtw : FnScope nBtw ["_law_rows", "_law_under"] (defScope sBtw) := ⟨rfl, rfl, rfl, by decide +kernel, rfl, by decide +kernel, by decide +kernel⟩
def BtI (kvs : List (NKey × V)) (F : Nat → Nat → Option Int) (N i j : Nat) : Prop := (∀ a b, a < i → b < N → valV kvs (abK a b) = some (oT (Fw.D0 F a b))) ∧ ∀ b, b < j → valV kvs (abK i b) = some (oT (Fw.D0 F i b))
theorem BtI.skip {kvs : List (NKey × V)} {F : Nat → Nat → Option Int} {N i j : Nat} (h : BtI kvs F N i j) (v : V) : BtI (putK kvs (abK i j) v) F N i j := by
  refine ⟨fun a b ha hb => ?_, fun b hb => ?_⟩
  · rw [valV_put, if_neg (fun z => by have := (abK_inj z).1; omega)]
    exact h.1 a b ha hb
  · rw [valV_put, if_neg (fun z => by have := (abK_inj z).2; omega)]
    exact h.2 b hb
theorem BtI.put {kvs : List (NKey × V)} {F : Nat → Nat → Option Int} {N i j : Nat} (h : BtI kvs F N i j) {v : V} (e : v = oT (Fw.D0 F i j)) : BtI (putK kvs (abK i j) v) F N i (j + 1) := by
  have s := h.skip v
  refine ⟨s.1, fun b hb => ?_⟩
  by_cases c : b = j
  · rw [c, valV_put, if_pos rfl, e]
  · exact s.2 b (by omega)
theorem BtI.next {kvs : List (NKey × V)} {F : Nat → Nat → Option Int} {N i : Nat} (h : BtI kvs F N i N) : BtI kvs F N (i + 1) 0 := by
  refine ⟨fun a b ha hb => ?_, fun b hb => absurd hb (by omega)⟩
  by_cases c : a = i
  · rw [c]; exact h.2 b hb
  · exact h.1 a b (by omega) hb
def DtV (kvs : List (NKey × V)) (N : Nat) (D : Nat → Nat → Option Int) : Prop := ∀ a b, a < N → b < N → valV kvs (abK a b) = some (oT (D a b))
theorem DtV.put {kvs : List (NKey × V)} {N : Nat} {D : Nat → Nat → Option Int} (h : DtV kvs N D) (a b : Nat) (o : Option Int) : DtV (putK kvs (abK a b) (oT o)) N (Fw.putD D a b o) := fun x y hx hy => by
  rw [valV_put]
  by_cases c : abK x y = abK a b
  · obtain ⟨rfl, rfl⟩ := abK_inj c
    rw [if_pos rfl, Fw.putD_same]
  · rw [if_neg c, Fw.putD_ne (fun z => c (by rw [z.1, z.2]))]
    exact h x y hx hy
def spBtw (P : Program) (w : World) : Sp := fun vs H Q _ => ∃ (ra ud : Addr) (R : List HopD) (ws : List Word) (T : Word → Word → Option Int), vs = [.ref ra, .ref ud] ∧ RowsAt H ra R ∧ R.length ≤ 8 ∧ TabAt P w H ud ws T ∧ (∀ h ∈ R, h.v ∈ ws) ∧
  ∀ H' d D, Evl.Ex H H' → H d = none → DtAt P w H' d R.length D → Fw.Run R.length (edge T R) R.length D → Q (.ref d) H'
section
variable {P : Program} {w : World} {K : PySem.W.Frag} {mg : Str → Option Value} {base : Heap}
theorem ok_btw {f f1 f2 : Addr} {fd fd1 fd2 : FuncData} (F : Fun K "_law_between" "_law_between" sBtw f fd) (FB : Fun K "_law_both" "_law_both" sLBoth f1 fd1) (bB : Binds K fd1 ["_law_one", "_law_other"] []) (gB : mg "_law_both" = some (.ref f1))
    (FL : Fun K "_law_lesser" "_law_lesser" sLesser f2 fd2) (bL : Binds K fd2 ["_law_some"] []) (gL : mg "_law_lesser" = some (.ref f2)) (gm : mg "min" = none) (B : Bi mg) : FnOk P w K mg base CX0 2 f fd ["_law_rows", "_law_under"] (spBtw P w) := by
  have GB : FnOk P w K mg base CX0 1 f1 fd1 ["_law_one", "_law_other"] spLBoth := ok_lboth FB
  have GL : FnOk P w K mg base CX0 1 f2 fd2 ["_law_some"] spLesser := ok_lesser FL gm B
  refine F.ok scBtw (fun vs H Q E h => ?_) (fun cdv A outer s H vs Q E hr h => ?_)
  · obtain ⟨ra, ud, R, ws, T, rfl, _⟩ := h; rfl
  · obtain ⟨ra, ud, R, ws, T, rfl, ⟨rvs, hra, hrv⟩, r8, ⟨ukv, hud, hT⟩, hw, q⟩ := h
    have hu9 := hu9_of hr
    refine ⟨_, (Evl.pss_cut (ps_par (by rfl) scBtw.nd (i := 2) (j := 3) rfl rfl (by decide) rfl rfl (pa_cons (pe_callB call_len_seq (by rfl) B.len PySem.boot_len (pa_cons (pv 0) pa_nil)) (pa_cons pe_dnewN pa_nil)) (by rfl))
 (Evl.pss_cut (ps_for PassesOwn.never rfl (pi_range1 (by rfl) B.range (pa_cons (pv 2) pa_nil)) (pg_name (i := 4) scBtw.nd rfl (.inl rfl))
 (pss_one (ps_for PassesOwn.never rfl (pi_range1 (by rfl) B.range (pa_cons (pv 2) pa_nil)) (pg_name (i := 5) scBtw.nd rfl (.inl rfl))
 (pss_cons (ps_nput hu9 (pv 3) (pe_tup (pa_cons (pv 4) (pa_cons (pv 5) pa_nil))) (pe_ifExp (pt_cmpR op_eq (pv 4) (pv 5) (nomark _)) pe_int pe_non) (by rfl))
 (pss_one (ps_if (PW.pt (pw_and (pt_cmpR op_ne (pv 4) (pv 5) (nomark _)) (pw_and1 (pt_cmpR op_eq (pe_ix (r := rIxT K) ix_tup (pe_ix (r := rIxL K) ix_list (pv 0) (pv 4) (fun _ _ => rfl)) pe_int (fun _ _ => rfl)) (pe_ix (r := rIxT K) ix_tup (pe_ix (r := rIxL K) ix_list (pv 0) (pv 5) (fun _ _ => rfl)) pe_int (fun _ _ => rfl)) (nomark _)))))
 (pss_one (ps_nput hu9 (pv 3) (pe_tup (pa_cons (pv 4) (pa_cons (pv 5) pa_nil))) (pe_call GB hr (by rfl) gB FB.kp bB .nil pass0 (pa_cons (pe_nget hu9 (pv 1) (pe_tup (pa_cons (pe_ix (r := rIxT K) ix_tup (pe_ix (r := rIxL K) ix_list (pv 0) (pv 4) (fun _ _ => rfl)) pe_int (fun _ _ => rfl)) (pa_cons (pe_ix (r := rIxT K) ix_tup (pe_ix (r := rIxL K) ix_list (pv 0) (pv 5) (fun _ _ => rfl)) pe_int (fun _ _ => rfl)) pa_nil))) (fun _ _ => rfl)) (pa_cons (pe_ix (r := rIxT K) ix_tup (pe_ix (r := rIxL K) ix_list (pv 0) (pv 5) (fun _ _ => rfl)) pe_int (fun _ _ => rfl)) pa_nil))) (by rfl)))
 pss_nil))))))
 (pss_cons (ps_for PassesOwn.never rfl (pi_range1 (by rfl) B.range (pa_cons (pv 2) pa_nil)) (pg_name (i := 6) scBtw.nd rfl (.inl rfl))
 (pss_one (ps_for PassesOwn.never rfl (pi_range1 (by rfl) B.range (pa_cons (pv 2) pa_nil)) (pg_name (i := 4) scBtw.nd rfl (.inl rfl))
 (pss_one (ps_for PassesOwn.never rfl (pi_range1 (by rfl) B.range (pa_cons (pv 2) pa_nil)) (pg_name (i := 5) scBtw.nd rfl (.inl rfl))
 (pss_one (ps_nput hu9 (pv 3) (pe_tup (pa_cons (pv 4) (pa_cons (pv 5) pa_nil))) (pe_call GL hr (by rfl) gL FL.kp bL .nil pass0 (pa_cons (pe_lst (pa_cons (pe_nget hu9 (pv 3) (pe_tup (pa_cons (pv 4) (pa_cons (pv 5) pa_nil))) (fun _ _ => rfl)) (pa_cons (pe_call GB hr (by rfl) gB FB.kp bB .nil pass0 (pa_cons (pe_nget hu9 (pv 3) (pe_tup (pa_cons (pv 4) (pa_cons (pv 6) pa_nil))) (fun _ _ => rfl)) (pa_cons (pe_nget hu9 (pv 3) (pe_tup (pa_cons (pv 6) (pa_cons (pv 5) pa_nil))) (fun _ _ => rfl)) pa_nil))) pa_nil))) pa_nil)) (by rfl))))))))
 (pss_one (ps_ret (pv 3)))))), ?_⟩
    have rl : rvs.length = R.length := Paired.len hrv
    have hop : ∀ {H' : Hp}, Evl.Ex H H' → ∀ {i : Nat} {h : HopD}, R[i]? = some h → ∃ x a z, rvs[i]? = some x ∧ x = .ref a ∧ H' a = some (.tup [.int h.frm, .int h.to_, .int h.price, .ref z]) ∧ H' z = some (.tup (h.v.map V.int)) := fun e i h hi => by
      obtain ⟨x, hx, a, z, r, h1, h2⟩ := Paired.get2 hrv hi
      exact ⟨x, a, z, hx, r, e _ _ h1, e _ _ h2⟩
    refine ⟨fun σ H' => ∃ d, σ = [some (.ref ra), some (.ref ud), some (.int (R.length : Nat)), some (.ref d), none, none, none] ∧ Evl.Ex H H' ∧ H d = none ∧ NDm P w H' d [], ?_, ?_⟩
    · refine ⟨.ref ra, rfl, ra, rvs, rfl, .inl (SqL.of hra), fun d nd => ?_⟩
      rw [rl]
      exact ⟨_, _, rfl, d, rfl, Evl.Ex.new nd, nd, NDm.empty⟩
    rintro _ H1 ⟨d, rfl, e1, nd, hd1⟩
    refine ⟨fun σ H' => ∃ (kvs : List (NKey × V)) (y4 y5 y6 : Option V), σ = [some (.ref ra), some (.ref ud), some (.int (R.length : Nat)), some (.ref d), y4, y5, y6] ∧ Evl.Ex H H' ∧ NDm P w H' d kvs ∧ kvs.length ≤ 128 ∧ BtI kvs (edge T R) R.length R.length 0, ?_, ?_⟩
    · -- one gap from row to row
      refine ⟨.int (R.length : Nat), rfl, (R.length : Nat), rfl, by omega, by omega, ?_⟩
      refine for_range (lo := 0) (n := (((R.length : Nat) : Int)).toNat) (fun i σ H' => ∃ (kvs : List (NKey × V)) (y4 y5 y6 : Option V), σ = [some (.ref ra), some (.ref ud), some (.int (R.length : Nat)), some (.ref d), y4, y5, y6] ∧ Evl.Ex H H' ∧ NDm P w H' d kvs ∧ kvs.length ≤ 16 * i ∧ BtI kvs (edge T R) R.length i 0)
        ⟨[], _, _, _, rfl, e1, hd1, Nat.zero_le _, fun a b ha => absurd ha (by omega), fun b hb => absurd hb (by omega)⟩ ?_ ?_
      · rintro i σ H2 hi ⟨kvs, y4, y5, y6, rfl, e2, hd2, kl, bt⟩
        have il : i < R.length := by omega
        have ei : (0 : Int) + (i : Nat) = ((i : Nat) : Int) := by omega
        rw [ei]
        refine ⟨.int (R.length : Nat), rfl, (R.length : Nat), rfl, by omega, by omega, ?_⟩
        refine for_range (lo := 0) (n := (((R.length : Nat) : Int)).toNat) (fun j σ H' => ∃ (kvs : List (NKey × V)) (y5 y6 : Option V), σ = [some (.ref ra), some (.ref ud), some (.int (R.length : Nat)), some (.ref d), some (.int (i : Nat)), y5, y6] ∧ Evl.Ex H H' ∧ NDm P w H' d kvs ∧ kvs.length ≤ 16 * i + 2 * j ∧ BtI kvs (edge T R) R.length i j)
          ⟨kvs, _, _, rfl, e2, hd2, by omega, bt⟩ ?_ ?_
        · rintro j σ H3 hj ⟨kvs, y5, y6, rfl, e3, hd3, kl3, bt3⟩
          have jl : j < R.length := by omega
          have ej : (0 : Int) + (j : Nat) = ((j : Nat) : Int) := by omega
          rw [ej]
          obtain ⟨g, hg⟩ : ∃ g, R[i]? = some g := ⟨_, List.getElem?_eq_getElem il⟩
          obtain ⟨h, hh⟩ : ∃ h, R[j]? = some h := ⟨_, List.getElem?_eq_getElem jl⟩
          have sS : ∀ x y : Int, scal (.int x) (.int y) = true := fun _ _ => rfl
          have rest : ∀ (H4 : Hp) (kvs' : List (NKey × V)), Evl.Ex H H4 → NDm P w H4 d kvs' → kvs'.length ≤ 16 * i + 2 * j + 1 → (i = j → BtI kvs' (edge T R) R.length i (j + 1)) → (i ≠ j → BtI kvs' (edge T R) R.length i j ∧ (edge T R i j = none → BtI kvs' (edge T R) R.length i (j + 1))) →
              (tIfS (tAnd (tTest (tOp rNe (tVar 4) (tVar 5))) (tTest (tOp rEq (tOp (rIxT K) (tOp (rIxL K) (tVar 0) (tVar 4)) (tC (V.int 1))) (tOp (rIxT K) (tOp (rIxL K) (tVar 0) (tVar 5)) (tC (V.int 0))))))
                (sNPut P w (tVar 3) (tTup (tCons (tVar 4) (tCons (tVar 5) tNil))) (tCall spLBoth [] E0 (tCons (tNGet P w (tVar 1) (tTup (tCons (tOp (rIxT K) (tOp (rIxL K) (tVar 0) (tVar 4)) (tC (V.int 3))) (tCons (tOp (rIxT K) (tOp (rIxL K) (tVar 0) (tVar 5)) (tC (V.int 3))) tNil)))) (tCons (tOp (rIxT K) (tOp (rIxL K) (tVar 0) (tVar 5)) (tC (V.int 2))) tNil)))) tNext)
                { nx := fun σ H' => ∃ (kvs : List (NKey × V)) (y5 y6 : Option V), σ = [some (.ref ra), some (.ref ud), some (.int (R.length : Nat)), some (.ref d), some (.int (i : Nat)), y5, y6] ∧ Evl.Ex H H' ∧ NDm P w H' d kvs ∧ kvs.length ≤ 16 * i + 2 * (j + 1) ∧ BtI kvs (edge T R) R.length i (j + 1), rt := Q }
                [some (.ref ra), some (.ref ud), some (.int (R.length : Nat)), some (.ref d), some (.int (i : Nat)), some (.int (j : Nat)), y6] H4 := by
            intro H4 kvs' e4 hd4 kl4 b1 b2
            have hra4 := e4 _ _ hra
            obtain ⟨_, ga, gz, hgx, egx, hga, hgz⟩ := hop e4 hg
            obtain ⟨_, ha, hz, hhx, ehx, hha, hhz⟩ := hop e4 hh
            subst egx ehx
            refine ⟨.int (i : Nat), rfl, .int (j : Nat), rfl, sS _ _, _, rfl, ite2 (fun hc => ?_) (fun hc => ?_)⟩
            · have ij : i ≠ j := fun z => by rw [z] at hc; simp at hc
              obtain ⟨b3, b4⟩ := b2 ij
              refine ⟨.ref ra, rfl, .int (i : Nat), rfl, ra, rvs, _, _, rfl, rfl, SqL.of hra4, atI_nat hgx, ga, _, 1, .int g.to_, rfl, rfl, SqT.of hga, atI_nat (j := 1) rfl, .ref ra, rfl, .int (j : Nat), rfl, ra, rvs, _, _, rfl, rfl, SqL.of hra4, atI_nat hhx, ha, _, 0, .int h.frm, rfl, rfl, SqT.of hha, atI_nat (j := 0) rfl, sS _ _, _, rfl, ite2 (fun hc2 => ?_) (fun hc2 => ?_)⟩
              · have gf : g.to_ = h.frm := V.int.inj (of_decide_eq_true hc2)
                refine ⟨.ref ud, rfl, .ref ra, rfl, .int (i : Nat), rfl, ra, rvs, _, _, rfl, rfl, SqL.of hra4, atI_nat hgx, ga, _, 3, .ref gz, rfl, rfl, SqT.of hga, atI_nat (j := 3) rfl, .ref ra, rfl, .int (j : Nat), rfl, ra, rvs, _, _, rfl, rfl, SqL.of hra4, atI_nat hhx, ha, _, 3, .ref hz, rfl, rfl, SqT.of hha, atI_nat (j := 3) rfl, (by show 2 ≤ sizeLine; decide), fun t nt => ?_⟩
                have e5 := Evl.Ex.new (o := .tup [.ref gz, .ref hz]) nt
                have gt : (upd H4 t (.tup [.ref gz, .ref hz])) t = some (.tup [.ref gz, .ref hz]) := upd_same
                generalize upd H4 t (.tup [.ref gz, .ref hz]) = H5 at e5 gt
                have e05 := e4.trans e5
                refine ⟨ud, t, ukv, wwK g.v h.v, oT (T g.v h.v), rfl, rfl, ww_at gt (e5 _ _ hgz) (e5 _ _ hhz), hud.ex e05, hT _ (hw _ (List.mem_of_getElem? hg)) _ (hw _ (List.mem_of_getElem? hh)), ?_⟩
                refine ⟨.ref ra, rfl, .int (j : Nat), rfl, ra, rvs, _, _, rfl, rfl, SqL.of (e5 _ _ hra4), atI_nat hhx, ha, _, 2, .int h.price, rfl, rfl, SqT.of (e5 _ _ hha), atI_nat (j := 2) rfl, ?_⟩
                refine tnil1 ⟨T g.v h.v, some h.price, rfl, ?_⟩
                refine ⟨.ref d, rfl, .int (i : Nat), rfl, .int (j : Nat), rfl, (by show 2 ≤ sizeLine; decide), fun t2 nt2 => ?_⟩
                have e6 := Evl.Ex.new (o := .tup [.int (i : Nat), .int (j : Nat)]) nt2
                refine ⟨d, t2, kvs', abK i j, rfl, rfl, ab_at upd_same, hd4.ex (e5.trans e6), Nat.lt_of_le_of_lt (by omega : kvs'.length ≤ 200) (by decide), fun xs hN => ?_⟩
                have ed : bothO (T g.v h.v) (some h.price) = edge T R i j := by rw [edge_get hg hh, if_pos gf]
                exact ⟨_, _, _, rfl, (e05.trans e6).mut nd, hN, by have := DSub.putK_len kvs' (abK i j) (oT (bothO (T g.v h.v) (some h.price))); omega, b3.put (by rw [ed]; unfold Fw.D0; rw [if_neg ij])⟩
              · have gf : g.to_ ≠ h.frm := fun z => hc2 (by rw [z]; exact decide_eq_true rfl)
                have ed : edge T R i j = none := by rw [edge_get hg hh, if_neg gf]
                exact ⟨_, _, _, rfl, e4, hd4, by omega, b4 ed⟩
            · have ij : i = j := by
                by_cases z : i = j
                · exact z
                · exfalso
                  apply hc
                  have : (V.int (i : Nat)) ≠ V.int (j : Nat) := fun y => z (by have := V.int.inj y; omega)
                  simp [this]
              exact iteF ⟨_, _, _, rfl, e4, hd4, by omega, b1 ij⟩
          refine ⟨.int (i : Nat), rfl, .int (j : Nat), rfl, rfl, _, rfl, ite2 (fun hc => ?_) (fun hc => ?_)⟩
          · have ij : i = j := by have := V.int.inj (of_decide_eq_true hc); omega
            refine ⟨.ref d, rfl, .int (i : Nat), rfl, .int (j : Nat), rfl, (by show 2 ≤ sizeLine; decide), fun t nt => ?_⟩
            have e4 := Evl.Ex.new (o := .tup [.int (i : Nat), .int (j : Nat)]) nt
            refine ⟨d, t, kvs, abK i j, rfl, rfl, ab_at upd_same, hd3.ex e4, Nat.lt_of_le_of_lt (by omega : kvs.length ≤ 200) (by decide), fun xs hN => ?_⟩
            refine rest _ _ ((e3.trans e4).mut nd) hN (by have := DSub.putK_len kvs (abK i j) (V.int 0); omega) (fun _ => bt3.put (by unfold Fw.D0; rw [if_pos ij]; rfl)) (fun z => absurd ij z)
          · have ij : i ≠ j := fun z => hc (by rw [z]; exact decide_eq_true rfl)
            refine ⟨.ref d, rfl, .int (i : Nat), rfl, .int (j : Nat), rfl, (by show 2 ≤ sizeLine; decide), fun t nt => ?_⟩
            have e4 := Evl.Ex.new (o := .tup [.int (i : Nat), .int (j : Nat)]) nt
            refine ⟨d, t, kvs, abK i j, rfl, rfl, ab_at upd_same, hd3.ex e4, Nat.lt_of_le_of_lt (by omega : kvs.length ≤ 200) (by decide), fun xs hN => ?_⟩
            refine rest _ _ ((e3.trans e4).mut nd) hN (by have := DSub.putK_len kvs (abK i j) V.non; omega) (fun z => absurd z ij) (fun _ => ⟨bt3.skip _, fun ed => bt3.put (by unfold Fw.D0; rw [if_neg ij, ed]; rfl)⟩)
        · rintro σ H3 ⟨kvs, y5, y6, rfl, e3, hd3, kl3, bt3⟩
          rw [Int.toNat_natCast] at kl3 bt3
          exact ⟨kvs, _, _, _, rfl, e3, hd3, by omega, bt3.next⟩
      · rintro σ H2 ⟨kvs, y4, y5, y6, rfl, e2, hd2, kl, bt⟩
        rw [Int.toNat_natCast] at kl bt
        exact ⟨kvs, _, _, _, rfl, e2, hd2, by omega, bt⟩
    rintro _ H2 ⟨kvs, y4, y5, y6, rfl, e2, hd2, kl2, bt2⟩
    -- letting the rows in, one after another
    refine ⟨.int (R.length : Nat), rfl, (R.length : Nat), rfl, by omega, by omega, ?_⟩
    refine for_range (lo := 0) (n := (((R.length : Nat) : Int)).toNat) (fun c σ H' => ∃ (kvs : List (NKey × V)) (D : Nat → Nat → Option Int) (y4 y5 y6 : Option V), σ = [some (.ref ra), some (.ref ud), some (.int (R.length : Nat)), some (.ref d), y4, y5, y6] ∧ Evl.Ex H H' ∧ NDm P w H' d kvs ∧ kvs.length ≤ 128 + 64 * c ∧ DtV kvs R.length D ∧ Fw.Run R.length (edge T R) c D)
      ⟨kvs, Fw.D0 (edge T R), _, _, _, rfl, e2, hd2, by omega, fun a b ha hb => bt2.1 a b ha hb, Fw.run0 fun a b _ _ => rfl⟩ ?_ ?_
    · rintro c σ H3 hc ⟨kvs, D, y4, y5, y6, rfl, e3, hd3, kl3, dv3, rn3⟩
      have cl : c < R.length := by omega
      have ec : (0 : Int) + (c : Nat) = ((c : Nat) : Int) := by omega
      rw [ec]
      refine ⟨.int (R.length : Nat), rfl, (R.length : Nat), rfl, by omega, by omega, ?_⟩
      refine for_range (lo := 0) (n := (((R.length : Nat) : Int)).toNat) (fun i σ H' => ∃ (kvs : List (NKey × V)) (D : Nat → Nat → Option Int) (y4 y5 : Option V), σ = [some (.ref ra), some (.ref ud), some (.int (R.length : Nat)), some (.ref d), y4, y5, some (.int (c : Nat))] ∧ Evl.Ex H H' ∧ NDm P w H' d kvs ∧ kvs.length ≤ 128 + 64 * c + 8 * i ∧ DtV kvs R.length D ∧ Fw.Run R.length (edge T R) c D ∧
          ∀ a b, a < i → b < R.length → Fw.Got R.length (edge T R) c D a b)
        ⟨kvs, D, _, _, rfl, e3, hd3, by omega, dv3, rn3, fun a b ha => absurd ha (by omega)⟩ ?_ ?_
      · rintro i σ H4 hi ⟨kvs, D, y4, y5, rfl, e4, hd4, kl4, dv4, rn4, gt4⟩
        have il : i < R.length := by omega
        have ei : (0 : Int) + (i : Nat) = ((i : Nat) : Int) := by omega
        rw [ei]
        refine ⟨.int (R.length : Nat), rfl, (R.length : Nat), rfl, by omega, by omega, ?_⟩
        refine for_range (lo := 0) (n := (((R.length : Nat) : Int)).toNat) (fun j σ H' => ∃ (kvs : List (NKey × V)) (D : Nat → Nat → Option Int) (y5 : Option V), σ = [some (.ref ra), some (.ref ud), some (.int (R.length : Nat)), some (.ref d), some (.int (i : Nat)), y5, some (.int (c : Nat))] ∧ Evl.Ex H H' ∧ NDm P w H' d kvs ∧ kvs.length ≤ 128 + 64 * c + 8 * i + j ∧ DtV kvs R.length D ∧ Fw.Run R.length (edge T R) c D ∧
            (∀ a b, a < i → b < R.length → Fw.Got R.length (edge T R) c D a b) ∧ ∀ b, b < j → Fw.Got R.length (edge T R) c D i b)
          ⟨kvs, D, _, rfl, e4, hd4, by omega, dv4, rn4, gt4, fun b hb => absurd hb (by omega)⟩ ?_ ?_
        · rintro j σ H5 hj ⟨kvs, D, y5, rfl, e5, hd5, kl5, dv5, rn5, gt5, gi5⟩
          have jl : j < R.length := by omega
          have ej : (0 : Int) + (j : Nat) = ((j : Nat) : Int) := by omega
          rw [ej]
          refine ⟨.ref d, rfl, .int (i : Nat), rfl, .int (j : Nat), rfl, (by show 2 ≤ sizeLine; decide), fun t nt => ?_⟩
          have e6 := Evl.Ex.new (o := .tup [.int (i : Nat), .int (j : Nat)]) nt
          refine ⟨d, t, kvs, abK i j, _, rfl, rfl, ab_at upd_same, (hd5.ex e6).nd, dv5 i j il jl, ?_⟩
          generalize upd H5 t (.tup [.int (i : Nat), .int (j : Nat)]) = H6 at e6
          refine ⟨.ref d, rfl, .int (i : Nat), rfl, .int (c : Nat), rfl, (by show 2 ≤ sizeLine; decide), fun t nt => ?_⟩
          have e7 := e6.trans (Evl.Ex.new (o := .tup [.int (i : Nat), .int (c : Nat)]) nt)
          refine ⟨d, t, kvs, abK i c, _, rfl, rfl, ab_at upd_same, (hd5.ex e7).nd, dv5 i c il cl, ?_⟩
          generalize upd H6 t (.tup [.int (i : Nat), .int (c : Nat)]) = H7 at e7
          refine ⟨.ref d, rfl, .int (c : Nat), rfl, .int (j : Nat), rfl, (by show 2 ≤ sizeLine; decide), fun t nt => ?_⟩
          have e8 := e7.trans (Evl.Ex.new (o := .tup [.int (c : Nat), .int (j : Nat)]) nt)
          refine ⟨d, t, kvs, abK c j, _, rfl, rfl, ab_at upd_same, (hd5.ex e8).nd, dv5 c j cl jl, ?_⟩
          generalize upd H7 t (.tup [.int (c : Nat), .int (j : Nat)]) = H8 at e8
          refine tnil1 ⟨D i c, D c j, rfl, ?_⟩
          refine ⟨(by show 2 ≤ sizeLine; decide), fun L nL => ?_⟩
          refine tnil1 ⟨L, [D i j, bothO (D i c) (D c j)], rfl, upd_same, (by show 2 ≤ 60; decide), fun H10 e10 => ?_⟩
          have e9 := (e8.trans (Evl.Ex.new nL)).trans e10
          refine ⟨.ref d, rfl, .int (i : Nat), rfl, .int (j : Nat), rfl, (by show 2 ≤ sizeLine; decide), fun t2 nt2 => ?_⟩
          have e11 := e9.trans (Evl.Ex.new (o := .tup [.int (i : Nat), .int (j : Nat)]) nt2)
          refine ⟨d, t2, kvs, abK i j, rfl, rfl, ab_at upd_same, hd5.ex e11, Nat.lt_of_le_of_lt (by omega : kvs.length ≤ 1000) (by decide), fun xs hN => ?_⟩
          obtain ⟨r1, r2, r3⟩ := rn5.put cl il jl
          refine ⟨_, _, _, rfl, (e5.trans e11).mut nd, hN, ?_, dv5.put i j _, r1, fun a b ha hb => r3 a b (by omega) hb (gt5 a b ha hb), fun b hb => ?_⟩
          · have := DSub.putK_len kvs (abK i j) (oT (lessO [D i j, bothO (D i c) (D c j)]))
            omega
          · by_cases z : b = j
            · rw [z]; exact r2
            · exact r3 i b il (by omega) (gi5 b (by omega))
        · rintro σ H5 ⟨kvs, D, y5, rfl, e5, hd5, kl5, dv5, rn5, gt5, gi5⟩
          rw [Int.toNat_natCast] at kl5 gi5
          refine ⟨kvs, D, _, _, rfl, e5, hd5, by omega, dv5, rn5, fun a b ha hb => ?_⟩
          by_cases z : a = i
          · rw [z]; exact gi5 b hb
          · exact gt5 a b (by omega) hb
      · rintro σ H4 ⟨kvs, D, y4, y5, rfl, e4, hd4, kl4, dv4, rn4, gt4⟩
        rw [Int.toNat_natCast] at kl4 gt4
        exact ⟨kvs, D, _, _, _, rfl, e4, hd4, by omega, dv4, rn4.next gt4⟩
    · rintro σ H3 ⟨kvs, D, y4, y5, y6, rfl, e3, hd3, kl3, dv3, rn3⟩
      rw [Int.toNat_natCast] at rn3
      exact ⟨_, rfl, q H3 d D e3 nd ⟨kvs, hd3.nd, dv3⟩ rn3⟩
end
end Wb

set_option Elab.async false
set_option linter.all false
set_option maxRecDepth 100000
set_option maxHeartbeats 8000000
set_option pp.maxSteps 900
set_option pp.deepTerms false
namespace Wb
open PySem PySem.Spec PyProof.Rows L2
/-! ### behind the rows of a bolt, and over it -/
abbrev sTls : Stmt := topS 54
abbrev nTls : List Str := ["_law_rows", "_law_between_here", "_law_under", "_law_word", "_law_found", "_law_a", "_law_some", "_law_b"]
theorem scTls : FnScope nTls ["_law_rows", "_law_between_here", "_law_under", "_law_word"] (defScope sTls) := ⟨rfl, rfl, rfl, by decide +kernel, rfl, by decide +kernel, by decide +kernel⟩
abbrev sOvr : Stmt := topS 55
abbrev nOvr : List Str := ["_law_rows", "_law_under", "_law_tails_here", "_law_one", "_law_word", "_law_some", "_law_a"]
theorem scOvr : FnScope nOvr ["_law_rows", "_law_under", "_law_tails_here", "_law_one", "_law_word"] (defScope sOvr) := ⟨rfl, rfl, rfl, by decide +kernel, rfl, by decide +kernel, by decide +kernel⟩
/-- what a row's tail is made of -/
def TlO (R : List HopD) (D : Nat → Nat → Option Int) (T : Word → Word → Option Int) (v : Word) (y : Int) (n a : Nat) (tos : List (Option Int)) : Prop := ∀ o, o ∈ tos ↔ ∃ c h', c < n ∧ R[c]? = some h' ∧ h'.to_ = y ∧ o = bothO (D a c) (T h'.v v)
def OvO (R : List HopD) (T : Word → Word → Option Int) (tl : Nat → Option Int) (u : Word) (x : Int) (n : Nat) (os : List (Option Int)) : Prop := ∀ o, o ∈ os ↔ ∃ a h, a < n ∧ R[a]? = some h ∧ h.frm = x ∧ o = bothO (bothO (T u h.v) (some h.price)) (tl a)
theorem word_last {H : Hp} {a : Addr} {v : Word} {y : Int} (h : H a = some (.tup ((v ++ [y]).map V.int))) : H a = some (.tup (v.map V.int ++ [V.int y])) := by rw [h, List.map_append]; rfl
def spTls (P : Program) (w : World) : Sp := fun vs H Q _ => ∃ (ra bd ud wa : Addr) (R : List HopD) (ws : List Word) (T : Word → Word → Option Int) (D : Nat → Nat → Option Int) (v : Word) (y : Int), vs = [.ref ra, .ref bd, .ref ud, .ref wa] ∧ RowsAt H ra R ∧ R.length ≤ 8 ∧ DtAt P w H bd R.length D ∧ TabAt P w H ud ws T ∧ (∀ h ∈ R, h.v ∈ ws) ∧
  H wa = some (.tup ((v ++ [y]).map V.int)) ∧ v ∈ ws ∧ ∀ (H' : Hp) (a : Addr) (os : List (Option Int)), Evl.Ex H H' → H' a = some (.lst (os.map oT)) → os.length = R.length → (∀ i o, os[i]? = some o → ∃ tos, o = lessO tos ∧ TlO R D T v y R.length i tos) → Q (.ref a) H'
def spOvr (P : Program) (w : World) : Sp := fun vs H Q _ => ∃ (ra ud ta oa wa : Addr) (R : List HopD) (ws : List Word) (T : Word → Word → Option Int) (tl : List (Option Int)) (u v : Word) (x y : Int), vs = [.ref ra, .ref ud, .ref ta, .ref oa, .ref wa] ∧ RowsAt H ra R ∧ R.length ≤ 8 ∧ TabAt P w H ud ws T ∧ (∀ h ∈ R, h.v ∈ ws) ∧
  H ta = some (.lst (tl.map oT)) ∧ tl.length = R.length ∧ H oa = some (.tup ((u ++ [x]).map V.int)) ∧ H wa = some (.tup ((v ++ [y]).map V.int)) ∧ u ∈ ws ∧ v ∈ ws ∧
  ((x = y → ∀ H', Evl.Ex H H' → Q (oT (T u v)) H') ∧ (x ≠ y → ∀ H' os, Evl.Ex H H' → OvO R T (fun a => (tl[a]?).join) u x R.length os → Q (oT (lessO os)) H'))
section
variable {P : Program} {w : World} {K : PySem.W.Frag} {mg : Str → Option Value} {base : Heap}
theorem ok_tls {f f1 f2 : Addr} {fd fd1 fd2 : FuncData} (F : Fun K "_law_tails" "_law_tails" sTls f fd) (FB : Fun K "_law_both" "_law_both" sLBoth f1 fd1) (bB : Binds K fd1 ["_law_one", "_law_other"] []) (gB : mg "_law_both" = some (.ref f1))
    (FL : Fun K "_law_lesser" "_law_lesser" sLesser f2 fd2) (bL : Binds K fd2 ["_law_some"] []) (gL : mg "_law_lesser" = some (.ref f2)) (gm : mg "min" = none) (B : Bi mg) : FnOk P w K mg base CX0 2 f fd ["_law_rows", "_law_between_here", "_law_under", "_law_word"] (spTls P w) := by
  have GB : FnOk P w K mg base CX0 1 f1 fd1 ["_law_one", "_law_other"] spLBoth := ok_lboth FB
  have GL : FnOk P w K mg base CX0 1 f2 fd2 ["_law_some"] spLesser := ok_lesser FL gm B
  refine F.ok scTls (fun vs H Q E h => ?_) (fun cdv A outer s H vs Q E hr h => ?_)
  · obtain ⟨ra, bd, ud, wa, R, ws, T, D, v, y, rfl, _⟩ := h; rfl
  · obtain ⟨ra, bd, ud, wa, R, ws, T, D, v, y, rfl, ⟨rvs, hra, hrv⟩, r8, ⟨bkv, hbd, hD⟩, ⟨ukv, hud, hT⟩, hw, hwa, hv, q⟩ := h
    have hu9 := hu9_of hr
    have hwa := word_last hwa
    refine ⟨_, (Evl.pss_cut (ps_set (i := 4) scTls.nd rfl (.inl rfl) (pe_lst pa_nil))
 (pss_cons (ps_for PassesOwn.never rfl (pi_range1 (by rfl) B.range (pa_cons (pe_callB call_len_seq (by rfl) B.len PySem.boot_len (pa_cons (pv 0) pa_nil)) pa_nil)) (pg_name (i := 5) scTls.nd rfl (.inl rfl))
 (Evl.pss_cut (ps_set (i := 6) scTls.nd rfl (.inl rfl) (pe_lst pa_nil))
 (Evl.pss_cut (ps_for PassesOwn.never rfl (pi_range1 (by rfl) B.range (pa_cons (pe_callB call_len_seq (by rfl) B.len PySem.boot_len (pa_cons (pv 0) pa_nil)) pa_nil)) (pg_name (i := 7) scTls.nd rfl (.inl rfl))
 (pss_one (ps_if (pt_cmpR op_eq (pe_ix (r := rIxT K) ix_tup (pe_ix (r := rIxL K) ix_list (pv 0) (pv 7) (fun _ _ => rfl)) pe_int (fun _ _ => rfl)) (pe_ix (r := rIxT K) ix_tup (pv 3) (pe_un un_neg pe_int) (fun _ _ => rfl)) (nomark _))
 (pss_one (ps_expr (pe_bm PySem.F.plainAttrs_list PySem.F.slot_list_append PySem.F.type_list_append mt_append (pv 6) (pa_cons (pe_call GB hr (by rfl) gB FB.kp bB .nil pass0 (pa_cons (pe_nget hu9 (pv 1) (pe_tup (pa_cons (pv 5) (pa_cons (pv 7) pa_nil))) (fun _ _ => rfl)) (pa_cons (pe_nget hu9 (pv 2) (pe_tup (pa_cons (pe_ix (r := rIxT K) ix_tup (pe_ix (r := rIxL K) ix_list (pv 0) (pv 7) (fun _ _ => rfl)) pe_int (fun _ _ => rfl)) (pa_cons (pe_slice (r := rSlA K) sl_tupA (pv 3) po_none (po_some (pe_un un_neg pe_int))) pa_nil))) (fun _ _ => rfl)) pa_nil))) pa_nil))))
 pss_nil)))
 (pss_one (ps_expr (pe_bm PySem.F.plainAttrs_list PySem.F.slot_list_append PySem.F.type_list_append mt_append (pv 4) (pa_cons (pe_call GL hr (by rfl) gL FL.kp bL .nil pass0 (pa_cons (pv 6) pa_nil)) pa_nil)))))))
 (pss_one (ps_ret (pv 4))))), ?_⟩
    have rl : rvs.length = R.length := Paired.len hrv
    have hop : ∀ {H' : Hp}, Evl.Ex H H' → ∀ {i : Nat} {h : HopD}, R[i]? = some h → ∃ x a z, rvs[i]? = some x ∧ x = .ref a ∧ H' a = some (.tup [.int h.frm, .int h.to_, .int h.price, .ref z]) ∧ H' z = some (.tup (h.v.map V.int)) := fun e i h hi => by
      obtain ⟨x, hx, a, z, r, h1, h2⟩ := Paired.get2 hrv hi
      exact ⟨x, a, z, hx, r, e _ _ h1, e _ _ h2⟩
    have sS : ∀ x y : Int, scal (.int x) (.int y) = true := fun _ _ => rfl
    refine ⟨fun σ H' => ∃ L, σ = [some (.ref ra), some (.ref bd), some (.ref ud), some (.ref wa), some (.ref L), none, none, none] ∧ Evl.Ex H H' ∧ H L = none ∧ H' L = some (.lst []), ?_, ?_⟩
    · exact ⟨Nat.zero_le _, fun L nL => ⟨L, rfl, Evl.Ex.new nL, nL, upd_same⟩⟩
    rintro _ H1 ⟨L, rfl, e1, nL, hL1⟩
    refine ⟨.ref ra, rfl, ra, rvs, rfl, .inl (SqL.of (e1 _ _ hra)), (rvs.length : Nat), rfl, by omega, by omega, ?_⟩
    refine for_range (lo := 0) (n := (((rvs.length : Nat) : Int)).toNat) (fun i σ H' => ∃ (os : List (Option Int)) (y5 y6 y7 : Option V), σ = [some (.ref ra), some (.ref bd), some (.ref ud), some (.ref wa), some (.ref L), y5, y6, y7] ∧ Evl.Ex H H' ∧ H' L = some (.lst (os.map oT)) ∧ os.length = i ∧ ∀ a o, os[a]? = some o → ∃ tos, o = lessO tos ∧ TlO R D T v y R.length a tos)
      ⟨[], _, _, _, rfl, e1, hL1, rfl, fun a o h => by simp at h⟩ ?_ ?_
    · rintro i σ H2 hi ⟨os, y5, y6, y7, rfl, e2, hL2, ol, ho⟩
      have il : i < R.length := by omega
      have ei : (0 : Int) + (i : Nat) = ((i : Nat) : Int) := by omega
      rw [ei]
      refine ⟨fun σ H' => ∃ S, σ = [some (.ref ra), some (.ref bd), some (.ref ud), some (.ref wa), some (.ref L), some (.int (i : Nat)), some (.ref S), y7] ∧ Evl.Ex H2 H' ∧ H2 S = none ∧ H' S = some (.lst []), ?_, ?_⟩
      · exact ⟨Nat.zero_le _, fun S nS => ⟨S, rfl, Evl.Ex.new nS, nS, upd_same⟩⟩
      rintro _ H3 ⟨S, rfl, e3, nS, hS3⟩
      have nLS : L ≠ S := fun z => by rw [← z, hL2] at nS; cases nS
      refine ⟨fun σ H' => ∃ (tos : List (Option Int)) (y7 : Option V), σ = [some (.ref ra), some (.ref bd), some (.ref ud), some (.ref wa), some (.ref L), some (.int (i : Nat)), some (.ref S), y7] ∧ Evl.Ex H2 H' ∧ H' S = some (.lst (tos.map oT)) ∧ tos.length ≤ 8 ∧ TlO R D T v y R.length i tos, ?_, ?_⟩
      · refine ⟨.ref ra, rfl, ra, rvs, rfl, .inl (SqL.of (e3 _ _ (e2 _ _ hra))), (rvs.length : Nat), rfl, by omega, by omega, ?_⟩
        refine for_range (lo := 0) (n := (((rvs.length : Nat) : Int)).toNat) (fun j σ H' => ∃ (tos : List (Option Int)) (y7 : Option V), σ = [some (.ref ra), some (.ref bd), some (.ref ud), some (.ref wa), some (.ref L), some (.int (i : Nat)), some (.ref S), y7] ∧ Evl.Ex H2 H' ∧ H' S = some (.lst (tos.map oT)) ∧ tos.length ≤ j ∧ TlO R D T v y j i tos)
          ⟨[], _, rfl, e3, hS3, Nat.zero_le _, fun o => ⟨fun h => (nomatch h), fun ⟨c, h', hc, _⟩ => absurd hc (by omega)⟩⟩ ?_ ?_
        · rintro j σ H4 hj ⟨tos, y7, rfl, e4, hS4, tl, ht⟩
          have jl : j < R.length := by omega
          have ej : (0 : Int) + (j : Nat) = ((j : Nat) : Int) := by omega
          rw [ej]
          have e04 := e2.trans e4
          obtain ⟨h, hh⟩ : ∃ h, R[j]? = some h := ⟨_, List.getElem?_eq_getElem jl⟩
          obtain ⟨_, ha, hz, hhx, ehx, hha, hhz⟩ := hop e04 hh
          subst ehx
          have hra4 := e04 _ _ hra
          have hwa4 := e04 _ _ hwa
          have more : ∀ o, (∃ c h', c < j + 1 ∧ R[c]? = some h' ∧ h'.to_ = y ∧ o = bothO (D i c) (T h'.v v)) ↔ (∃ c h', c < j ∧ R[c]? = some h' ∧ h'.to_ = y ∧ o = bothO (D i c) (T h'.v v)) ∨ (h.to_ = y ∧ o = bothO (D i j) (T h.v v)) := fun o => by
            constructor
            · rintro ⟨c, h', hc, hr', ey, eo⟩
              by_cases z : c = j
              · subst z
                rw [hh] at hr'
                cases hr'
                exact .inr ⟨ey, eo⟩
              · exact .inl ⟨c, h', by omega, hr', ey, eo⟩
            · rintro (⟨c, h', hc, z⟩ | ⟨ey, eo⟩)
              · exact ⟨c, h', by omega, z⟩
              · exact ⟨j, h, by omega, hh, ey, eo⟩
          refine ⟨.ref ra, rfl, .int (j : Nat), rfl, ra, rvs, _, _, rfl, rfl, SqL.of hra4, atI_nat hhx, ha, _, 1, .int h.to_, rfl, rfl, SqT.of hha, atI_nat (j := 1) rfl, .ref wa, rfl, 1, rfl, wa, _, -1, .int y, rfl, rfl, SqT.of hwa4, atI_last _ _, sS _ _, _, rfl, ite2 (fun hc => ?_) (fun hc => ?_)⟩
          · have ey : h.to_ = y := V.int.inj (of_decide_eq_true hc)
            refine ⟨.ref S, rfl, .inl ⟨rfl, _, SqL.of hS4⟩, ?_⟩
            refine ⟨.ref bd, rfl, .int (i : Nat), rfl, .int (j : Nat), rfl, (by show 2 ≤ sizeLine; decide), fun t nt => ?_⟩
            have e5 := Evl.Ex.new (o := .tup [.int (i : Nat), .int (j : Nat)]) nt
            refine ⟨bd, t, bkv, abK i j, _, rfl, rfl, ab_at upd_same, hbd.ex (e04.trans e5), hD i j il jl, ?_⟩
            generalize upd H4 t (.tup [.int (i : Nat), .int (j : Nat)]) = H5 at e5
            refine ⟨.ref ud, rfl, .ref ra, rfl, .int (j : Nat), rfl, ra, rvs, _, _, rfl, rfl, SqL.of (e5 _ _ hra4), atI_nat hhx, ha, _, 3, .ref hz, rfl, rfl, SqT.of (e5 _ _ hha), atI_nat (j := 3) rfl, .ref wa, rfl, ?_⟩
            refine nopart1 ?_
            refine ⟨1, rfl, -1, rfl, ?_⟩
            refine sl_own (K := K) (lo := none) (hi := some (-1)) (e5 _ _ hwa4) fun H6 z6 e6 q6 => ?_
            rw [cut_last, List.dropLast_concat] at q6
            refine ⟨(by show 2 ≤ sizeLine; decide), fun t2 nt2 => ?_⟩
            have e7 := Evl.Ex.new (o := .tup [.ref hz, .ref z6]) nt2
            have e47 := (e5.trans e6).trans e7
            refine ⟨ud, t2, ukv, wwK h.v v, _, rfl, rfl, ww_at upd_same (e47 _ _ hhz) (e7 _ _ q6), hud.ex (e04.trans e47), hT _ (hw _ (List.mem_of_getElem? hh)) _ hv, ?_⟩
            refine tnil1 ⟨D i j, T h.v v, rfl, ?_⟩
            refine tnil1 ⟨S, _, _, rfl, rfl, e47 _ _ hS4, Nat.lt_of_le_of_lt (by rw [List.length_map]; omega : (tos.map oT).length ≤ 8) (by decide), ?_⟩
            refine ⟨tos ++ [bothO (D i j) (T h.v v)], _, rfl, (e4.trans e47).mut nS, by rw [upd_same, List.map_append]; rfl, by rw [List.length_append, List.length_singleton]; omega, fun o => ?_⟩
            rw [more o, List.mem_append, ht o, List.mem_singleton]
            exact or_congr Iff.rfl ⟨fun z => ⟨ey, z⟩, fun z => z.2⟩
          · have ey : h.to_ ≠ y := fun z => hc (by rw [z]; exact decide_eq_true rfl)
            refine ⟨tos, _, rfl, e4, hS4, by omega, fun o => ?_⟩
            rw [more o, ht o]
            exact ⟨.inl, fun z => z.elim id fun z => absurd z.1 ey⟩
        · rintro σ H4 ⟨tos, y7, rfl, e4, hS4, tl, ht⟩
          rw [Int.toNat_natCast, rl] at ht
          exact ⟨tos, _, rfl, e4, hS4, by omega, ht⟩
      rintro _ H4 ⟨tos, y7, rfl, e4, hS4, tl, ht⟩
      have hL4 := e4 _ _ hL2
      refine ⟨.ref L, rfl, .inl ⟨rfl, _, SqL.of hL4⟩, ?_⟩
      refine ⟨.ref S, rfl, S, tos, rfl, hS4, by omega, fun H5 e5 => ?_⟩
      refine tnil1 ⟨L, _, _, rfl, rfl, e5 _ _ hL4, Nat.lt_of_le_of_lt (by rw [List.length_map]; omega : (os.map oT).length ≤ 8) (by decide), ?_⟩
      refine ⟨os ++ [lessO tos], _, _, _, rfl, ((e2.trans e4).trans e5).mut nL, by rw [upd_same, List.map_append]; rfl, by rw [List.length_append, List.length_singleton, ol], fun a o hao => ?_⟩
      by_cases z : a < os.length
      · rw [List.getElem?_append_left z] at hao
        exact ho a o hao
      · have lt := (List.getElem?_eq_some_iff.mp hao).1
        rw [List.length_append, List.length_singleton] at lt
        have ea : a = i := by omega
        subst ea
        rw [List.getElem?_append_right (by omega), show a - os.length = 0 by omega] at hao
        cases hao
        exact ⟨tos, rfl, ht⟩
    · rintro σ H2 ⟨os, y5, y6, y7, rfl, e2, hL2, ol, ho⟩
      rw [Int.toNat_natCast, rl] at ol
      exact ⟨_, rfl, q H2 L os e2 hL2 ol ho⟩
theorem ok_ovr {f f1 f2 : Addr} {fd fd1 fd2 : FuncData} (F : Fun K "_law_over" "_law_over" sOvr f fd) (FB : Fun K "_law_both" "_law_both" sLBoth f1 fd1) (bB : Binds K fd1 ["_law_one", "_law_other"] []) (gB : mg "_law_both" = some (.ref f1))
    (FL : Fun K "_law_lesser" "_law_lesser" sLesser f2 fd2) (bL : Binds K fd2 ["_law_some"] []) (gL : mg "_law_lesser" = some (.ref f2)) (gm : mg "min" = none) (B : Bi mg) : FnOk P w K mg base CX0 2 f fd ["_law_rows", "_law_under", "_law_tails_here", "_law_one", "_law_word"] (spOvr P w) := by
  have GB : FnOk P w K mg base CX0 1 f1 fd1 ["_law_one", "_law_other"] spLBoth := ok_lboth FB
  have GL : FnOk P w K mg base CX0 1 f2 fd2 ["_law_some"] spLesser := ok_lesser FL gm B
  refine F.ok scOvr (fun vs H Q E h => ?_) (fun cdv A outer s H vs Q E hr h => ?_)
  · obtain ⟨ra, ud, ta, oa, wa, R, ws, T, tl, u, v, x, y, rfl, _⟩ := h; rfl
  · obtain ⟨ra, ud, ta, oa, wa, R, ws, T, tl, u, v, x, y, rfl, ⟨rvs, hra, hrv⟩, r8, ⟨ukv, hud, hT⟩, hw, hta, tll, hoa, hwa, hu, hv, q1, q2⟩ := h
    have hu9 := hu9_of hr
    have hwa := word_last hwa
    have hoa := word_last hoa
    refine ⟨_, (pss_cons (ps_if (pt_cmpR op_eq (pe_ix (r := rIxT K) ix_tup (pv 3) (pe_un un_neg pe_int) (fun _ _ => rfl)) (pe_ix (r := rIxT K) ix_tup (pv 4) (pe_un un_neg pe_int) (fun _ _ => rfl)) (nomark _))
 (pss_one (ps_ret (pe_nget hu9 (pv 1) (pe_tup (pa_cons (pe_slice (r := rSlA K) sl_tupA (pv 3) po_none (po_some (pe_un un_neg pe_int))) (pa_cons (pe_slice (r := rSlA K) sl_tupA (pv 4) po_none (po_some (pe_un un_neg pe_int))) pa_nil))) (fun _ _ => rfl))))
 pss_nil)
 (Evl.pss_cut (ps_set (i := 5) scOvr.nd rfl (.inl rfl) (pe_lst pa_nil))
 (pss_cons (ps_for PassesOwn.never rfl (pi_range1 (by rfl) B.range (pa_cons (pe_callB call_len_seq (by rfl) B.len PySem.boot_len (pa_cons (pv 0) pa_nil)) pa_nil)) (pg_name (i := 6) scOvr.nd rfl (.inl rfl))
 (pss_one (ps_if (pt_cmpR op_eq (pe_ix (r := rIxT K) ix_tup (pe_ix (r := rIxL K) ix_list (pv 0) (pv 6) (fun _ _ => rfl)) pe_int (fun _ _ => rfl)) (pe_ix (r := rIxT K) ix_tup (pv 3) (pe_un un_neg pe_int) (fun _ _ => rfl)) (nomark _))
 (pss_one (ps_expr (pe_bm PySem.F.plainAttrs_list PySem.F.slot_list_append PySem.F.type_list_append mt_append (pv 5) (pa_cons (pe_call GB hr (by rfl) gB FB.kp bB .nil pass0 (pa_cons (pe_call GB hr (by rfl) gB FB.kp bB .nil pass0 (pa_cons (pe_nget hu9 (pv 1) (pe_tup (pa_cons (pe_slice (r := rSlA K) sl_tupA (pv 3) po_none (po_some (pe_un un_neg pe_int))) (pa_cons (pe_ix (r := rIxT K) ix_tup (pe_ix (r := rIxL K) ix_list (pv 0) (pv 6) (fun _ _ => rfl)) pe_int (fun _ _ => rfl)) pa_nil))) (fun _ _ => rfl)) (pa_cons (pe_ix (r := rIxT K) ix_tup (pe_ix (r := rIxL K) ix_list (pv 0) (pv 6) (fun _ _ => rfl)) pe_int (fun _ _ => rfl)) pa_nil))) (pa_cons (pe_ix (r := rIxL K) ix_list (pv 2) (pv 6) (fun _ _ => rfl)) pa_nil))) pa_nil))))
 pss_nil)))
 (pss_one (ps_ret (pe_call GL hr (by rfl) gL FL.kp bL .nil pass0 (pa_cons (pv 5) pa_nil))))))), ?_⟩
    have rl : rvs.length = R.length := Paired.len hrv
    have hop : ∀ {H' : Hp}, Evl.Ex H H' → ∀ {i : Nat} {h : HopD}, R[i]? = some h → ∃ x a z, rvs[i]? = some x ∧ x = .ref a ∧ H' a = some (.tup [.int h.frm, .int h.to_, .int h.price, .ref z]) ∧ H' z = some (.tup (h.v.map V.int)) := fun e i h hi => by
      obtain ⟨x, hx, a, z, r, h1, h2⟩ := Paired.get2 hrv hi
      exact ⟨x, a, z, hx, r, e _ _ h1, e _ _ h2⟩
    have sS : ∀ x y : Int, scal (.int x) (.int y) = true := fun _ _ => rfl
    refine ⟨.ref oa, rfl, 1, rfl, oa, _, -1, .int x, rfl, rfl, SqT.of hoa, atI_last _ _, .ref wa, rfl, 1, rfl, wa, _, -1, .int y, rfl, rfl, SqT.of hwa, atI_last _ _, sS _ _, _, rfl, ite2 (fun hc => ?_) (fun hc => ?_)⟩
    · have exy : x = y := V.int.inj (of_decide_eq_true hc)
      refine ⟨.ref ud, rfl, .ref oa, rfl, ?_⟩
      refine nopart1 ?_
      refine ⟨1, rfl, -1, rfl, ?_⟩
      refine sl_own (K := K) (lo := none) (hi := some (-1)) hoa fun H1 z1 e1 k1 => ?_
      rw [cut_last, List.dropLast_concat] at k1
      refine ⟨.ref wa, rfl, ?_⟩
      refine nopart1 ?_
      refine ⟨1, rfl, -1, rfl, ?_⟩
      refine sl_own (K := K) (lo := none) (hi := some (-1)) (e1 _ _ hwa) fun H2 z2 e2 k2 => ?_
      rw [cut_last, List.dropLast_concat] at k2
      refine ⟨(by show 2 ≤ sizeLine; decide), fun t nt => ?_⟩
      have e3 := Evl.Ex.new (o := .tup [.ref z1, .ref z2]) nt
      have e03 := (e1.trans e2).trans e3
      exact ⟨ud, t, ukv, wwK u v, _, rfl, rfl, ww_at upd_same (e3 _ _ (e2 _ _ k1)) (e3 _ _ k2), hud.ex e03, hT _ hu _ hv, q1 exy _ e03⟩
    have nxy : x ≠ y := fun z => hc (by rw [z]; exact decide_eq_true rfl)
    refine ⟨fun σ H' => ∃ S, σ = [some (.ref ra), some (.ref ud), some (.ref ta), some (.ref oa), some (.ref wa), some (.ref S), none] ∧ Evl.Ex H H' ∧ H S = none ∧ H' S = some (.lst []), ?_, ?_⟩
    · exact ⟨Nat.zero_le _, fun S nS => ⟨S, rfl, Evl.Ex.new nS, nS, upd_same⟩⟩
    rintro _ H1 ⟨S, rfl, e1, nS, hS1⟩
    refine ⟨.ref ra, rfl, ra, rvs, rfl, .inl (SqL.of (e1 _ _ hra)), (rvs.length : Nat), rfl, by omega, by omega, ?_⟩
    refine for_range (lo := 0) (n := (((rvs.length : Nat) : Int)).toNat) (fun i σ H' => ∃ (os : List (Option Int)) (y6 : Option V), σ = [some (.ref ra), some (.ref ud), some (.ref ta), some (.ref oa), some (.ref wa), some (.ref S), y6] ∧ Evl.Ex H H' ∧ H' S = some (.lst (os.map oT)) ∧ os.length ≤ i ∧ OvO R T (fun a => (tl[a]?).join) u x i os)
      ⟨[], _, rfl, e1, hS1, Nat.zero_le _, fun o => ⟨fun h => (nomatch h), fun ⟨c, h', hc, _⟩ => absurd hc (by omega)⟩⟩ ?_ ?_
    · rintro i σ H2 hi ⟨os, y6, rfl, e2, hS2, ol, ho⟩
      have il : i < R.length := by omega
      have ei : (0 : Int) + (i : Nat) = ((i : Nat) : Int) := by omega
      rw [ei]
      obtain ⟨h, hh⟩ : ∃ h, R[i]? = some h := ⟨_, List.getElem?_eq_getElem il⟩
      obtain ⟨to, hto⟩ : ∃ to, tl[i]? = some to := ⟨_, List.getElem?_eq_getElem (by omega)⟩
      obtain ⟨_, ha, hz, hhx, ehx, hha, hhz⟩ := hop e2 hh
      subst ehx
      have hra2 := e2 _ _ hra
      have hta2 := e2 _ _ hta
      have ejoin : (tl[i]?).join = to := by rw [hto]; rfl
      have more : ∀ o, (∃ a h, a < i + 1 ∧ R[a]? = some h ∧ h.frm = x ∧ o = bothO (bothO (T u h.v) (some h.price)) ((tl[a]?).join)) ↔ (∃ a h, a < i ∧ R[a]? = some h ∧ h.frm = x ∧ o = bothO (bothO (T u h.v) (some h.price)) ((tl[a]?).join)) ∨ (h.frm = x ∧ o = bothO (bothO (T u h.v) (some h.price)) to) := fun o => by
        constructor
        · rintro ⟨c, h', hc, hr', ey, eo⟩
          by_cases z : c = i
          · subst z
            rw [hh] at hr'
            cases hr'
            rw [ejoin] at eo
            exact .inr ⟨ey, eo⟩
          · exact .inl ⟨c, h', by omega, hr', ey, eo⟩
        · rintro (⟨c, h', hc, z⟩ | ⟨ey, eo⟩)
          · exact ⟨c, h', by omega, z⟩
          · exact ⟨i, h, by omega, hh, ey, by rw [ejoin]; exact eo⟩
      refine ⟨.ref ra, rfl, .int (i : Nat), rfl, ra, rvs, _, _, rfl, rfl, SqL.of hra2, atI_nat hhx, ha, _, 0, .int h.frm, rfl, rfl, SqT.of hha, atI_nat (j := 0) rfl, .ref oa, rfl, 1, rfl, oa, _, -1, .int x, rfl, rfl, SqT.of (e2 _ _ hoa), atI_last _ _, sS _ _, _, rfl, ite2 (fun hc => ?_) (fun hc => ?_)⟩
      · have ex : h.frm = x := V.int.inj (of_decide_eq_true hc)
        refine ⟨.ref S, rfl, .inl ⟨rfl, _, SqL.of hS2⟩, ?_⟩
        refine ⟨.ref ud, rfl, .ref oa, rfl, ?_⟩
        refine nopart1 ?_
        refine ⟨1, rfl, -1, rfl, ?_⟩
        refine sl_own (K := K) (lo := none) (hi := some (-1)) (e2 _ _ hoa) fun H3 z3 e3 k3 => ?_
        rw [cut_last, List.dropLast_concat] at k3
        refine ⟨.ref ra, rfl, .int (i : Nat), rfl, ra, rvs, _, _, rfl, rfl, SqL.of (e3 _ _ hra2), atI_nat hhx, ha, _, 3, .ref hz, rfl, rfl, SqT.of (e3 _ _ hha), atI_nat (j := 3) rfl, (by show 2 ≤ sizeLine; decide), fun t nt => ?_⟩
        have e4 := Evl.Ex.new (o := .tup [.ref z3, .ref hz]) nt
        have e24 := e3.trans e4
        refine ⟨ud, t, ukv, wwK u h.v, _, rfl, rfl, ww_at upd_same (e4 _ _ k3) (e24 _ _ hhz), hud.ex (e2.trans e24), hT _ hu _ (hw _ (List.mem_of_getElem? hh)), ?_⟩
        generalize upd H3 t (.tup [.ref z3, .ref hz]) = H4 at e4 e24
        refine ⟨.ref ra, rfl, .int (i : Nat), rfl, ra, rvs, _, _, rfl, rfl, SqL.of (e24 _ _ hra2), atI_nat hhx, ha, _, 2, .int h.price, rfl, rfl, SqT.of (e24 _ _ hha), atI_nat (j := 2) rfl, ?_⟩
        refine tnil1 ⟨T u h.v, some h.price, rfl, ?_⟩
        refine ⟨.ref ta, rfl, .int (i : Nat), rfl, ta, _, _, oT to, rfl, rfl, SqL.of (e24 _ _ hta2), atI_nat (by rw [List.getElem?_map, hto]; rfl), ?_⟩
        refine tnil1 ⟨bothO (T u h.v) (some h.price), to, rfl, ?_⟩
        refine tnil1 ⟨S, _, _, rfl, rfl, e24 _ _ hS2, Nat.lt_of_le_of_lt (by rw [List.length_map]; omega : (os.map oT).length ≤ 8) (by decide), ?_⟩
        refine ⟨os ++ [bothO (bothO (T u h.v) (some h.price)) to], _, rfl, (e2.trans e24).mut nS, by rw [upd_same, List.map_append]; rfl, by rw [List.length_append, List.length_singleton]; omega, fun o => ?_⟩
        rw [more o, List.mem_append, ho o, List.mem_singleton]
        exact or_congr Iff.rfl ⟨fun z => ⟨ex, z⟩, fun z => z.2⟩
      · have ex : h.frm ≠ x := fun z => hc (by rw [z]; exact decide_eq_true rfl)
        refine ⟨os, _, rfl, e2, hS2, by omega, fun o => ?_⟩
        rw [more o, ho o]
        exact ⟨.inl, fun z => z.elim id fun z => absurd z.1 ex⟩
    · rintro σ H2 ⟨os, y6, rfl, e2, hS2, ol, ho⟩
      rw [Int.toNat_natCast, rl] at ho
      refine ⟨.ref S, rfl, S, os, rfl, hS2, by omega, fun H3 e3 => ?_⟩
      exact q2 nxy H3 os (e2.trans e3) ho
end
end Wb

set_option Elab.async false
set_option linter.all false
set_option maxRecDepth 100000
set_option maxHeartbeats 16000000
set_option pp.maxSteps 900
set_option pp.deepTerms false
namespace Wb
open PySem PySem.Spec PyProof.Rows L2
abbrev sGrt : Stmt := topS 47
abbrev nGrt : List Str := ["_law_pen_here", "_law_counts", "_law_k"]
theorem scGrt : FnScope nGrt ["_law_pen_here"] (defScope sGrt) := ⟨rfl, rfl, rfl, by decide +kernel, rfl, by decide +kernel, by decide +kernel⟩
abbrev sTbl : Stmt := topS 56
abbrev nTbl : List Str := ["_law_bolt_here", "_law_words", "_law_under", "_law_rows", "_law_found", "_law_between_here", "_law_word", "_law_tails_here", "_law_one"]
theorem scTbl : FnScope nTbl ["_law_bolt_here", "_law_words", "_law_under"] (defScope sTbl) := ⟨rfl, rfl, rfl, by decide +kernel, rfl, by decide +kernel, by decide +kernel⟩
abbrev sTbs : Stmt := topS 57
abbrev nTbs : List Str := ["_law_lock_here", "_law_ends", "_law_found", "_law_m"]
theorem scTbs : FnScope nTbs ["_law_lock_here", "_law_ends"] (defScope sTbs) := ⟨rfl, rfl, rfl, by decide +kernel, rfl, by decide +kernel, by decide +kernel⟩
structure Ld (K : PySem.W.Frag) (mg : Str → Option Value) where
  f41 : Addr
  d41 : FuncData
  F41 : Fun K "_law_pen" "_law_pen" sPen f41 d41
  b41 : Binds K d41 ["_law_script"] []
  g41 : mg "_law_pen" = some (.ref f41)
  f42 : Addr
  d42 : FuncData
  F42 : Fun K "_law_draw" "_law_draw" sDraw f42 d42
  b42 : Binds K d42 ["_law_pen_here", "_law_many"] []
  g42 : mg "_law_draw" = some (.ref f42)
  f43 : Addr
  d43 : FuncData
  F43 : Fun K "_law_stand" "_law_stand" sLStand f43 d43
  b43 : Binds K d43 ["_law_pen_here", "_law_counts"] []
  g43 : mg "_law_stand" = some (.ref f43)
  f44 : Addr
  d44 : FuncData
  F44 : Fun K "_law_price" "_law_price" sLPrice f44 d44
  b44 : Binds K d44 ["_law_pen_here"] []
  g44 : mg "_law_price" = some (.ref f44)
  f45 : Addr
  d45 : FuncData
  F45 : Fun K "_law_bolt" "_law_bolt" sLBolt f45 d45
  b45 : Binds K d45 ["_law_pen_here", "_law_many", "_law_words", "_law_rich"] []
  g45 : mg "_law_bolt" = some (.ref f45)
  f46 : Addr
  d46 : FuncData
  F46 : Fun K "_law_lock" "_law_lock" sLLock f46 d46
  b46 : Binds K d46 ["_law_pen_here", "_law_counts", "_law_rich"] []
  g46 : mg "_law_lock" = some (.ref f46)
  f47 : Addr
  d47 : FuncData
  F47 : Fun K "_law_great" "_law_great" sGrt f47 d47
  b47 : Binds K d47 ["_law_pen_here"] []
  g47 : mg "_law_great" = some (.ref f47)
  f48 : Addr
  d48 : FuncData
  F48 : Fun K "_law_any" "_law_any" sLAny f48 d48
  b48 : Binds K d48 ["_law_pen_here", "_law_lock_here"] []
  g48 : mg "_law_any" = some (.ref f48)
  f49 : Addr
  d49 : FuncData
  F49 : Fun K "_law_both" "_law_both" sLBoth f49 d49
  b49 : Binds K d49 ["_law_one", "_law_other"] []
  g49 : mg "_law_both" = some (.ref f49)
  f50 : Addr
  d50 : FuncData
  F50 : Fun K "_law_lesser" "_law_lesser" sLesser f50 d50
  b50 : Binds K d50 ["_law_some"] []
  g50 : mg "_law_lesser" = some (.ref f50)
  f51 : Addr
  d51 : FuncData
  F51 : Fun K "_law_words_at" "_law_words_at" sWat f51 d51
  b51 : Binds K d51 ["_law_lock_here", "_law_ends", "_law_m"] []
  g51 : mg "_law_words_at" = some (.ref f51)
  f52 : Addr
  d52 : FuncData
  F52 : Fun K "_law_gap_rows" "_law_gap_rows" sGro f52 d52
  b52 : Binds K d52 ["_law_bolt_here"] []
  g52 : mg "_law_gap_rows" = some (.ref f52)
  f53 : Addr
  d53 : FuncData
  F53 : Fun K "_law_between" "_law_between" sBtw f53 d53
  b53 : Binds K d53 ["_law_rows", "_law_under"] []
  g53 : mg "_law_between" = some (.ref f53)
  f54 : Addr
  d54 : FuncData
  F54 : Fun K "_law_tails" "_law_tails" sTls f54 d54
  b54 : Binds K d54 ["_law_rows", "_law_between_here", "_law_under", "_law_word"] []
  g54 : mg "_law_tails" = some (.ref f54)
  f55 : Addr
  d55 : FuncData
  F55 : Fun K "_law_over" "_law_over" sOvr f55 d55
  b55 : Binds K d55 ["_law_rows", "_law_under", "_law_tails_here", "_law_one", "_law_word"] []
  g55 : mg "_law_over" = some (.ref f55)
  f56 : Addr
  d56 : FuncData
  F56 : Fun K "_law_table" "_law_table" sTbl f56 d56
  b56 : Binds K d56 ["_law_bolt_here", "_law_words", "_law_under"] []
  g56 : mg "_law_table" = some (.ref f56)
  f57 : Addr
  d57 : FuncData
  F57 : Fun K "_law_tables" "_law_tables" sTbs f57 d57
  b57 : Binds K d57 ["_law_lock_here", "_law_ends"] []
  g57 : mg "_law_tables" = some (.ref f57)
  mn : mg "min" = none

/-! ### least prices between words, as a function -/
open Classical in
noncomputable def PT (l : Lock) (m : Nat) (u v : Word) : Option Int := if h : ∃ o, Lst (Pm l m u v) o then Classical.choose h else none
theorem PT_of {l : Lock} {m : Nat} {u v : Word} {o : Option Int} (h : Lst (Pm l m u v) o) : PT l m u v = o := by
  have e : ∃ o, Lst (Pm l m u v) o := ⟨o, h⟩
  unfold PT
  rw [dif_pos e]
  exact (Classical.choose_spec e).unique h
structure DnW (l : Lock) (m : Nat) (kvs : List (NKey × V)) (u v : Word) : Prop where
  at_ : valV kvs (wwK u v) = some (oT (PT l m u v))
  is : Lst (Pm l m u v) (PT l m u v)
  bd : ∀ p, PT l m u v = some p → p ≤ BB m
theorem DnW.put {l : Lock} {m : Nat} {kvs : List (NKey × V)} {u v : Word} (h : DnW l m kvs u v) (a b : Word) : DnW l m (putK kvs (wwK a b) (oT (PT l m a b))) u v := by
  refine ⟨?_, h.is, h.bd⟩
  rw [valV_put]
  by_cases c : wwK u v = wwK a b
  · obtain ⟨rfl, rfl⟩ := wwK_inj c
    rw [if_pos rfl]
  · rw [if_neg c]; exact h.at_
def spGrt (K : PySem.W.Frag) : Sp := fun vs H Q _ => ∃ (p c : Addr) (T : Int), vs = [.ref p] ∧ PenAt H p c T ∧ T ≤ 5000000 ∧
  ∀ H' v l, Exx p H H' → PenAt H' p c (T + 40000) → LockAt K H' v l → LockOk l → Q v H'
def spTbl (P : Program) (w : World) (K : PySem.W.Frag) : Sp := fun vs H Q _ => ∃ (bv : V) (wl ud : Addr) (l : Lock) (m : Nat) (b : Bolt) (ws ws' : List Word) (wvs : List V), vs = [bv, .ref wl, .ref ud] ∧ BoltAt K H bv b ∧ LockOk l ∧ l[m]? = some b ∧ TabAt P w H ud ws (PT l m) ∧ TabW l m ws (PT l m) (BB m) ∧ (∀ h ∈ rowsB b, h.v ∈ ws) ∧
  H wl = some (.lst wvs) ∧ Paired (Wd K H) wvs ws' ∧ ws'.length ≤ 10 ∧ (∀ u ∈ ws', ∃ v y, u = v ++ [y] ∧ v ∈ ws) ∧
  ∀ H' d, Evl.Ex H H' → TabAt P w H' d ws' (PT l (m + 1)) → TabW l (m + 1) ws' (PT l (m + 1)) (BB (m + 1)) → Q (.ref d) H'
def spTbs (P : Program) (w : World) (K : PySem.W.Frag) : Sp := fun vs H Q _ => ∃ (lk : V) (ea : Addr) (l : Lock) (evs : List V) (es : List Word), vs = [lk, .ref ea] ∧ LockAt K H lk l ∧ LockOk l ∧ H ea = some (.lst evs) ∧ Paired (Wd K H) evs es ∧ es.length = 2 ∧ (∀ e ∈ es, inr l e) ∧
  ∀ H' a vs d ws, Evl.Ex H H' → H' a = some (.lst (vs ++ [.ref d])) → TabAt P w H' d ws (PT l l.length) → TabW l l.length ws (PT l l.length) (BB l.length) → (∀ e ∈ es, e ∈ ws) → Q (.ref a) H'
section
variable {P : Program} {w : World} {K : PySem.W.Frag} {mg : Str → Option Value} {base : Heap}
theorem ok_grt (L : Ld K mg) (B : Bi mg) : FnOk P w K mg base CX0 5 L.f47 L.d47 ["_law_pen_here"] (spGrt K) := by
  have G1 : FnOk P w K mg base CX0 1 L.f42 L.d42 ["_law_pen_here", "_law_many"] spDraw := ok_draw L.F42 B
  have GK : FnOk P w K mg base CX0 4 L.f46 L.d46 ["_law_pen_here", "_law_counts", "_law_rich"] (spLLock K) := ok_llock L.F46 L.F42 L.b42 L.g42 L.F43 L.b43 L.g43 L.F44 L.b44 L.g44 L.F45 L.b45 L.g45 B
  refine L.F47.ok scGrt (fun vs H Q E h => ?_) (fun cdv A outer s H vs Q E hr h => ?_)
  · obtain ⟨p, c, T, rfl, _⟩ := h; rfl
  · obtain ⟨p, c, T, rfl, hp, T5, q⟩ := h
    have hr1 : Room 1 _ := hr.mono (by decide)
    refine ⟨_, (Evl.pss_cut (ps_setLc (i := 1) (own := [("_law_k", 2)]) (g := gName 2) (te := tOp rAdd (tC (.int 2)) (tCall spDraw [] E0 (tCons (tVar 0) (tCons (tC (.int 3)) tNil)))) rfl scGrt.nd rfl rfl rfl (pi_range1 (by rfl) B.range (pa_cons (pe_op op_add pe_int (pe_call G1 hr1 (by rfl) L.g42 L.F42.kp L.b42 .nil pass0 (pa_cons (pv 0) (pa_cons pe_int pa_nil)))) pa_nil)) (blkOk_by (own := [("_law_k", 2)]) (N := nGrt) (sc := defScope sGrt) (by decide +kernel)) (fun _ _ _ _ _ => (pg_name (i := 2) scGrt.nd rfl (.inl rfl))) (fun _ _ _ _ _ => pts_nil) (fun _ _ _ _ _ => (pe_op op_add pe_int (pe_call G1 hr1 (by rfl) L.g42 L.F42.kp L.b42 .nil pass0 (pa_cons (pv 0) (pa_cons pe_int pa_nil))))))
 (pss_one (ps_ret (pe_call GK hr (by rfl) L.g46 L.F46.kp L.b46 .nil pass0 (pa_cons (pv 0) (pa_cons (pv 1) (pa_cons (pe_cmpR op_gt (pe_call G1 hr1 (by rfl) L.g42 L.F42.kp L.b42 .nil pass0 (pa_cons (pv 0) (pa_cons pe_int pa_nil))) pe_int (nomark _)) pa_nil))))))), ?_⟩
    refine ⟨fun σ H' => ∃ (S : Addr) (ms : List Int), σ = [some (.ref p), some (.ref S), none] ∧ Exx p H H' ∧ PenAt H' p c (T + 61) ∧ S ≠ p ∧ S ≠ c ∧ H' S = some (.lst (ms.map V.int)) ∧ SizesOk ms, ?_, ?_⟩
    · refine ⟨.ref p, rfl, p, c, 53, _, rfl, hp, by decide, by decide, by omega, fun r H2 r0 r1 x2 hp2 => ⟨8, r, rfl, rfl, _, rfl, by omega, by omega, fun D nD => ?_⟩⟩
      have nDp : D ≠ p := hp2.new1 nD
      have nDc : D ≠ c := hp2.new2 nD
      refine lc_range (lo := 0) (n := (8 + r).toNat) (fun i H' => ∃ ms : List Int, Exx p H2 H' ∧ PenAt H' p c (T + 1 + (i : Nat)) ∧ H' D = some (.lst (ms.map V.int)) ∧ ms.length = i ∧ ∀ m ∈ ms, 2 ≤ m ∧ m ≤ 4) ⟨[], Exx.new nD, by simpa using hp2.put (o := .lst []) nDp nDc, upd_same, rfl, fun m h => (nomatch h)⟩ ?_ ?_
      · rintro i H3 hi ⟨ms, x3, hp3, hD3, ml, hm⟩
        refine ⟨rfl, .ref p, rfl, p, c, 3, _, rfl, hp3, by decide, by decide, by omega, fun z H4 z0 z1 x4 hp4 => ⟨2, z, rfl, rfl, ?_⟩⟩
        refine ⟨_, x4 _ _ nDp hD3, Nat.lt_of_le_of_lt (by rw [List.length_map]; omega : (ms.map V.int).length ≤ 60) (by decide), ms ++ [2 + z], (x3.trans x4).mut nD, (hp4.put nDp nDc).mono (by omega), by rw [upd_same, List.map_append]; rfl, by rw [List.length_append, ml]; rfl, fun m hmm => ?_⟩
        rcases List.mem_append.mp hmm with h | h
        · exact hm m h
        · rw [List.mem_singleton.mp h]; omega
      · rintro H3 ⟨ms, x3, hp3, hD3, ml, hm⟩
        exact ⟨D, ms, rfl, x2.trans x3, hp3.mono (by omega), nDp, nDc, hD3, ⟨fun z => by rw [z] at ml; simp at ml; omega, by omega, hm⟩⟩
    rintro _ H3 ⟨S, ms, rfl, x3, hp3, nSp, nSc, hS, so⟩
    refine ⟨.ref p, rfl, .ref S, rfl, .ref p, rfl, p, c, 5, _, rfl, hp3, by decide, by decide, by omega, fun r H4 r0 r1 x4 hp4 => ⟨r, 0, rfl, rfl, ?_⟩⟩
    refine tnil1 ⟨p, c, S, _, ms, decide (r > 0), rfl, hp4, by omega, nSp, x4 _ _ nSp hS, so, fun H5 v l x5 hp5 hl ok mo => ?_⟩
    exact q H5 v l ((x3.trans x4).trans x5) (hp5.mono (by omega)) hl ok
end
end Wb

set_option Elab.async false
set_option linter.all false
set_option maxRecDepth 100000
set_option maxHeartbeats 16000000
set_option pp.maxSteps 900
set_option pp.deepTerms false
namespace Wb
open PySem PySem.Spec PyProof.Rows L2
section
variable {P : Program} {w : World} {K : PySem.W.Frag} {mg : Str → Option Value} {base : Heap}
theorem ok_tbl (L : Ld K mg) (B : Bi mg) : FnOk P w K mg base CX0 3 L.f56 L.d56 ["_law_bolt_here", "_law_words", "_law_under"] (spTbl P w K) := by
  have GR : FnOk P w K mg base CX0 1 L.f52 L.d52 ["_law_bolt_here"] (spGro K) := ok_gro L.F52 B
  have GW : FnOk P w K mg base CX0 2 L.f53 L.d53 ["_law_rows", "_law_under"] (spBtw P w) := ok_btw L.F53 L.F49 L.b49 L.g49 L.F50 L.b50 L.g50 L.mn B
  have GT : FnOk P w K mg base CX0 2 L.f54 L.d54 ["_law_rows", "_law_between_here", "_law_under", "_law_word"] (spTls P w) := ok_tls L.F54 L.F49 L.b49 L.g49 L.F50 L.b50 L.g50 L.mn B
  have GO : FnOk P w K mg base CX0 2 L.f55 L.d55 ["_law_rows", "_law_under", "_law_tails_here", "_law_one", "_law_word"] (spOvr P w) := ok_ovr L.F55 L.F49 L.b49 L.g49 L.F50 L.b50 L.g50 L.mn B
  refine L.F56.ok scTbl (fun vs H Q E h => ?_) (fun cdv A outer s H vs Q E hr h => ?_)
  · obtain ⟨bv, wl, ud, l, m, b, ws, ws', wvs, rfl, _⟩ := h; rfl
  · obtain ⟨bv, wl, ud, l, m, b, ws, ws', wvs, rfl, hbv, ok, hb, hud, TW, hw, hwl, hwv, w10, hws, q⟩ := h
    have hu9 := hu9_of hr
    have hr1 : Room 1 _ := hr.mono (by decide)
    have bok := ok.bolts m b hb
    have r8 := rows8 bok
    refine ⟨_, (Evl.pss_cut (ps_par (by rfl) scTbl.nd (i := 3) (j := 4) rfl rfl (by decide) rfl rfl (pa_cons (pe_call GR hr1 (by rfl) L.g52 L.F52.kp L.b52 .nil pass0 (pa_cons (pv 0) pa_nil)) (pa_cons pe_dnewN pa_nil)) (by rfl))
 (Evl.pss_cut (ps_set (i := 5) scTbl.nd rfl (.inl rfl) (pe_call GW hr (by rfl) L.g53 L.F53.kp L.b53 .nil pass0 (pa_cons (pv 3) (pa_cons (pv 2) pa_nil))))
 (pss_cons (ps_for PassesOwn.never rfl (pi_list (pv 1)) (pg_name (i := 6) scTbl.nd rfl (.inl rfl))
 (Evl.pss_cut (ps_set (i := 7) scTbl.nd rfl (.inl rfl) (pe_call GT hr (by rfl) L.g54 L.F54.kp L.b54 .nil pass0 (pa_cons (pv 3) (pa_cons (pv 5) (pa_cons (pv 2) (pa_cons (pv 6) pa_nil))))))
 (pss_one (ps_for PassesOwn.never rfl (pi_list (pv 1)) (pg_name (i := 8) scTbl.nd rfl (.inl rfl))
 (pss_one (ps_nput hu9 (pv 4) (pe_tup (pa_cons (pv 8) (pa_cons (pv 6) pa_nil))) (pe_call GO hr (by rfl) L.g55 L.F55.kp L.b55 .nil pass0 (pa_cons (pv 3) (pa_cons (pv 2) (pa_cons (pv 7) (pa_cons (pv 8) (pa_cons (pv 6) pa_nil)))))) (by rfl)))))))
 (pss_one (ps_ret (pv 4)))))), ?_⟩
    have wvl : wvs.length = ws'.length := Paired.len hwv
    refine ⟨fun σ H' => ∃ ra d, σ = [some bv, some (.ref wl), some (.ref ud), some (.ref ra), some (.ref d), none, none, none, none] ∧ Evl.Ex H H' ∧ H d = none ∧ RowsAt H' ra (rowsB b) ∧ NDm P w H' d [], ?_, ?_⟩
    · refine ⟨bv, rfl, bv, b, _, rfl, hbv, bok, fun H1 ra e1 nra hra => ?_⟩
      intro d nd
      have e2 := Evl.Ex.new (o := DN P w d []) nd
      have nd0 : H d = none := by
        cases z : H d with
        | none => rfl
        | some o => rw [e1 _ _ z] at nd; cases nd
      exact ⟨_, _, rfl, ra, d, rfl, e1.trans e2, nd0, hra.ex e2, NDm.empty⟩
    rintro _ H1 ⟨ra, d, rfl, e1, nd, hra1, hd1⟩
    refine ⟨fun σ H' => ∃ bd D, σ = [some bv, some (.ref wl), some (.ref ud), some (.ref ra), some (.ref d), some (.ref bd), none, none, none] ∧ Evl.Ex H1 H' ∧ bd ≠ d ∧ DtAt P w H' bd (rowsB b).length D ∧ Fw.Run (rowsB b).length (edge (PT l m) (rowsB b)) (rowsB b).length D, ?_, ?_⟩
    · exact ⟨.ref ra, rfl, .ref ud, rfl, ra, ud, rowsB b, ws, PT l m, rfl, hra1, r8, hud.ex e1, hw, fun H2 bd D e2 nbd hbd rn => ⟨bd, D, rfl, e2, (fun z => (by obtain ⟨_, h, _⟩ := hd1; rw [z, h] at nbd; cases nbd)), hbd, rn⟩⟩
    rintro _ H2 ⟨bd, D, rfl, e2, nbd, hbd2, rn⟩
    have e02 := e1.trans e2
    have enn := edge_nn ok TW hb hw
    have ebd := edge_bd ok TW hb hw
    have b0 : 0 ≤ BB m := by unfold BB; exact Int.mul_nonneg (Int.le_of_lt (Int.pow_pos (by decide))) (by decide)
    have Dl : ∀ a c, a < (rowsB b).length → c < (rowsB b).length → Lst (Fw.Pth (rowsB b).length (edge (PT l m) (rowsB b)) a c) (D a c) := fun a c ha hc => rn.least enn ha hc
    have Db : ∀ a c p, a < (rowsB b).length → c < (rowsB b).length → D a c = some p → p ≤ 2 ^ (rowsB b).length * (BB m + 1000000) := fun a c p ha hc h => rn.bound enn (by omega) ebd ha hc h
    refine ⟨.ref wl, rfl, wl, rfl, ⟨_, SqL.of (e02 _ _ hwl)⟩, ?_⟩
    refine for_list (K := K) (a := wl) (xs := wvs) (fun i σ H' => ∃ (kvs : List (NKey × V)) (y6 y7 y8 : Option V), σ = [some bv, some (.ref wl), some (.ref ud), some (.ref ra), some (.ref d), some (.ref bd), y6, y7, y8] ∧ Evl.Ex H H' ∧ RowsAt H' ra (rowsB b) ∧ DtAt P w H' bd (rowsB b).length D ∧ NDm P w H' d kvs ∧ kvs.length ≤ 10 * i ∧
        ∀ u ∈ ws', ∀ v ∈ ws'.take i, DnW l (m + 1) kvs u v)
      ⟨[], _, _, _, rfl, e02, hra1.ex e2, hbd2, hd1.ex e2, Nat.zero_le _, fun u hu v hv => by rw [List.take_zero] at hv; exact nomatch hv⟩ ?_ ?_ ?_
    · rintro i σ H' _ ⟨_, _, _, _, _, e, _⟩
      exact SqL.of (e _ _ hwl)
    · rintro i x σ H3 hx ⟨kvs, y6, y7, y8, rfl, e3, hra3, hbd3, hd3, kl3, dn3⟩
      obtain ⟨wd, hwd, ⟨wa, rfl, hwa⟩⟩ := Paired.get1 hwv hx
      have il := (List.getElem?_eq_some_iff.mp hwd).1
      obtain ⟨v, y, rfl, hvw⟩ := hws wd (List.mem_of_getElem? hwd)
      refine ⟨fun σ H' => ∃ (ta : Addr) (tl : List (Option Int)), σ = [some bv, some (.ref wl), some (.ref ud), some (.ref ra), some (.ref d), some (.ref bd), some (.ref wa), some (.ref ta), y8] ∧ Evl.Ex H3 H' ∧ H' ta = some (.lst (tl.map oT)) ∧ tl.length = (rowsB b).length ∧ ∀ i o, tl[i]? = some o → ∃ tos, o = lessO tos ∧ TlO (rowsB b) D (PT l m) v y (rowsB b).length i tos, ?_, ?_⟩
      · refine ⟨.ref ra, rfl, .ref bd, rfl, .ref ud, rfl, .ref wa, rfl, ra, bd, ud, wa, rowsB b, ws, PT l m, D, v, y, rfl, hra3, r8, hbd3, hud.ex e3, hw, e3 _ _ hwa, hvw, fun H4 ta tl e4 hta tll htl => ?_⟩
        exact ⟨ta, tl, rfl, e4, hta, tll, htl⟩
      rintro _ H4 ⟨ta, tl, rfl, e4, hta4, tll, htl⟩
      have e04 := e3.trans e4
      have htl2 : ∀ a, a < (rowsB b).length → ∃ tos, (tl[a]?).join = lessO tos ∧ ∀ o, o ∈ tos ↔ ∃ c h', (rowsB b)[c]? = some h' ∧ h'.to_ = y ∧ o = bothO (D a c) (PT l m h'.v v) := fun a ha => by
        obtain ⟨o, hao⟩ : ∃ o, tl[a]? = some o := ⟨_, List.getElem?_eq_getElem (by omega)⟩
        obtain ⟨tos, e, ht⟩ := htl a o hao
        refine ⟨tos, by rw [hao]; exact e, fun o' => (ht o').trans ⟨fun ⟨c, h', _, z⟩ => ⟨c, h', z⟩, fun ⟨c, h', z⟩ => ⟨c, h', (List.getElem?_eq_some_iff.mp z.1).1, z⟩⟩⟩
      refine ⟨.ref wl, rfl, wl, rfl, ⟨_, SqL.of (e04 _ _ hwl)⟩, ?_⟩
      refine for_list (K := K) (a := wl) (xs := wvs) (fun j σ H' => ∃ (kvs : List (NKey × V)) (y8 : Option V), σ = [some bv, some (.ref wl), some (.ref ud), some (.ref ra), some (.ref d), some (.ref bd), some (.ref wa), some (.ref ta), y8] ∧ Evl.Ex H H' ∧ RowsAt H' ra (rowsB b) ∧ DtAt P w H' bd (rowsB b).length D ∧ H' ta = some (.lst (tl.map oT)) ∧ NDm P w H' d kvs ∧ kvs.length ≤ 10 * i + j ∧
          (∀ u ∈ ws', ∀ v ∈ ws'.take i, DnW l (m + 1) kvs u v) ∧ ∀ u ∈ ws'.take j, DnW l (m + 1) kvs u (v ++ [y]))
        ⟨kvs, _, rfl, e04, hra3.ex e4, hbd3.ex e4, hta4, hd3.ex e4, by omega, dn3, fun u hu => by rw [List.take_zero] at hu; exact nomatch hu⟩ ?_ ?_ ?_
      · rintro j σ H' _ ⟨_, _, _, e, _⟩
        exact SqL.of (e _ _ hwl)
      · rintro j z σ H5 hz ⟨kvs, y8, rfl, e5, hra5, hbd5, hta5, hd5, kl5, dn5, di5⟩
        obtain ⟨od, hod, ⟨oa, rfl, hoa⟩⟩ := Paired.get1 hwv hz
        have jl := (List.getElem?_eq_some_iff.mp hod).1
        obtain ⟨u, x, rfl, huw⟩ := hws od (List.mem_of_getElem? hod)
        -- what is put
        have fin : ∀ (o : Option Int) (H6 : Hp), Evl.Ex H5 H6 → Lst (Pm l (m + 1) (u ++ [x]) (v ++ [y])) o → (∀ p, o = some p → p ≤ BB (m + 1)) → tVar 4 [some bv, some (.ref wl), some (.ref ud), some (.ref ra), some (.ref d), some (.ref bd), some (.ref wa), some (.ref ta), some (.ref oa)] H6 fun x' H2 => tTup (tCons (tVar 8) (tCons (tVar 6) tNil)) [some bv, some (.ref wl), some (.ref ud), some (.ref ra), some (.ref d), some (.ref bd), some (.ref wa), some (.ref ta), some (.ref oa)] H2 fun y' H3 => ∃ (a b' : Addr) (kvs : List (NKey × V)) (k : NKey), x' = .ref a ∧ y' = .ref b' ∧ KAt H3 b' k ∧ NDm P w H3 a kvs ∧ kvs.length < sizeLine ∧
            ∀ xs, NDm P w (upd H3 a (DN P w a xs)) a (putK kvs k (oT o)) → ∃ (kvs : List (NKey × V)) (y8 : Option V), [some bv, some (.ref wl), some (.ref ud), some (.ref ra), some (.ref d), some (.ref bd), some (.ref wa), some (.ref ta), some (.ref oa)] = [some bv, some (.ref wl), some (.ref ud), some (.ref ra), some (.ref d), some (.ref bd), some (.ref wa), some (.ref ta), y8] ∧ Evl.Ex H (upd H3 a (DN P w a xs)) ∧ RowsAt (upd H3 a (DN P w a xs)) ra (rowsB b) ∧ DtAt P w (upd H3 a (DN P w a xs)) bd (rowsB b).length D ∧ (upd H3 a (DN P w a xs)) ta = some (.lst (tl.map oT)) ∧ NDm P w (upd H3 a (DN P w a xs)) d kvs ∧ kvs.length ≤ 10 * i + (j + 1) ∧
              (∀ u ∈ ws', ∀ v ∈ ws'.take i, DnW l (m + 1) kvs u v) ∧ ∀ u ∈ ws'.take (j + 1), DnW l (m + 1) kvs u (v ++ [y]) := by
          intro o H6 e6 ho hob
          refine ⟨.ref d, rfl, .ref oa, rfl, .ref wa, rfl, (by show 2 ≤ sizeLine; decide), fun t nt => ?_⟩
          have e7 := e6.trans (Evl.Ex.new (o := .tup [.ref oa, .ref wa]) nt)
          refine ⟨d, t, kvs, wwK (u ++ [x]) (v ++ [y]), rfl, rfl, ww_at upd_same (e7 _ _ (e5 _ _ hoa)) (e7 _ _ (e5 _ _ hwa)), hd5.ex e7, Nat.lt_of_le_of_lt (by omega : kvs.length ≤ 200) (by decide), fun xs hN => ?_⟩
          generalize upd H6 t (.tup [.ref oa, .ref wa]) = H7 at e7 hN
          have eo : o = PT l (m + 1) (u ++ [x]) (v ++ [y]) := (PT_of ho).symm
          obtain ⟨bkv, hbk, hD⟩ := hbd5
          obtain ⟨rvs, hrr, hrv⟩ := hra5
          have hd7 := hd5.ex e7
          have ndl : ∀ {a : Addr} {vs : List V}, H7 a = some (.lst vs) → a ≠ d := fun {a vs} h z => by
            obtain ⟨_, h1, _⟩ := hd7
            rw [z, h1] at h
            exact nomatch h
          have tk : ∀ (a : Addr) (vs : List V), H7 a = some (.tup vs) → (upd H7 d (DN P w d xs)) a = some (.tup vs) := fun a vs h => by
            have ne : a ≠ d := fun z => by
              obtain ⟨_, h1, _⟩ := hd7
              rw [z, h1] at h
              exact nomatch h
            rw [upd_ne ne]; exact h
          refine ⟨putK kvs (wwK (u ++ [x]) (v ++ [y])) (oT o), _, rfl, (e5.trans e7).mut nd, ⟨rvs, ?_, Paired.imp (fun _ _ => ?_) hrv⟩, ⟨bkv, (hbk.ex e7).keep tk (fun o' h => by rw [upd_ne nbd]; exact h), hD⟩, ?_, hN, ?_, fun u' hu' v' hv' => ?_, fun u' hu' => ?_⟩
          · rw [upd_ne (ndl (e7 _ _ hrr))]; exact e7 _ _ hrr
          · rintro ⟨a, z, r, h1, h2⟩
            exact ⟨a, z, r, tk _ _ (e7 _ _ h1), tk _ _ (e7 _ _ h2)⟩
          · rw [upd_ne (ndl (e7 _ _ hta5))]; exact e7 _ _ hta5
          · have := DSub.putK_len kvs (wwK (u ++ [x]) (v ++ [y])) (oT o)
            omega
          · rw [eo]; exact (dn5 u' hu' v' hv').put _ _
          · rw [eo]
            rw [take_succ_get hod] at hu'
            rcases List.mem_append.mp hu' with h | h
            · exact (di5 u' h).put _ _
            · rw [List.mem_singleton.mp h]
              refine ⟨by rw [valV_put, if_pos rfl], by rw [← eo]; exact ho, fun p hp => hob p (by rw [eo]; exact hp)⟩
        refine ⟨.ref ra, rfl, .ref ud, rfl, .ref ta, rfl, .ref oa, rfl, .ref wa, rfl, ra, ud, ta, oa, wa, rowsB b, ws, PT l m, tl, u, v, x, y, rfl, hra5, r8, hud.ex e5, hw, hta5, tll, e5 _ _ hoa, e5 _ _ hwa, huw, hvw, fun exy H6 e6 => ?_, fun nxy H6 os e6 hos => ?_⟩
        · refine fin _ H6 e6 (by rw [exy]; exact over_same ok TW huw hvw y) fun p hp => ?_
          have b1 := TW.bd u huw v hvw p hp
          have b2 := bb_up m r8
          have b3 : 0 ≤ (2 : Int) ^ (rowsB b).length * (BB m + 1000000) := Int.mul_nonneg (Int.le_of_lt (Int.pow_pos (by decide))) (by omega)
          omega
        · have hos2 : ∀ o, o ∈ os ↔ ∃ (a : Nat) (h : HopD), (rowsB b)[a]? = some h ∧ h.frm = x ∧ o = bothO (bothO (PT l m u h.v) (some h.price)) ((tl[a]?).join) := fun o => (hos o).trans ⟨fun ⟨c, h', _, z⟩ => ⟨c, h', z⟩, fun ⟨c, h', z⟩ => ⟨c, h', (List.getElem?_eq_some_iff.mp z.1).1, z⟩⟩
          refine fin _ H6 e6 (over_is ok TW hb hw Dl huw hvw nxy (tl := fun a => (tl[a]?).join) htl2 hos2) fun p hp => ?_
          have b1 := over_bd TW ok hb hw Db huw hvw (tl := fun a => (tl[a]?).join) htl2 hos2 hp
          have b2 := bb_up m r8
          omega
      · rintro σ H5 ⟨kvs, y8, rfl, e5, hra5, hbd5, hta5, hd5, kl5, dn5, di5⟩
        rw [wvl, List.take_length] at di5
        refine ⟨kvs, _, _, _, rfl, e5, hra5, hbd5, hd5, by omega, fun u hu v' hv' => ?_⟩
        rw [take_succ_get hwd] at hv'
        rcases List.mem_append.mp hv' with h | h
        · exact dn5 u hu v' h
        · rw [List.mem_singleton.mp h]; exact di5 u hu
    · rintro σ H3 ⟨kvs, y6, y7, y8, rfl, e3, hra3, hbd3, hd3, kl3, dn3⟩
      rw [wvl, List.take_length] at dn3
      refine ⟨_, rfl, q H3 d e3 ⟨kvs, hd3.nd, fun u hu v hv => (dn3 u hu v hv).at_⟩ ⟨fun u hu v hv => (dn3 u hu v hv).is, fun u hu v hv => (dn3 u hu v hv).bd, fun u hu => ?_⟩⟩
      obtain ⟨v, y, rfl, hv⟩ := hws u hu
      rw [List.length_append, List.length_singleton, TW.len v hv]
theorem ex_none {H H' : Hp} (e : Evl.Ex H H') {a : Addr} (h : H' a = none) : H a = none := by
  cases z : H a with
  | none => rfl
  | some o => rw [e _ _ z] at h; cases h
theorem inr_take {l : Lock} {es : List Word} {m : Nat} {w : Word} (h : wordAt l es (m + 1) w) : wordAt l es m (w.take m) := by
  rcases h with ⟨e, he, rfl⟩ | ⟨j, b, g, v, hj, hb, hg, hv, rfl⟩
  · exact .inl ⟨e, he, by rw [List.take_take, Nat.min_eq_left (by omega)]⟩
  · exact .inr ⟨j, b, g, v, by omega, hb, hg, hv, by rw [List.take_take, Nat.min_eq_left (by omega)]⟩
theorem ok_tbs (L : Ld K mg) (B : Bi mg) : FnOk P w K mg base CX0 4 L.f57 L.d57 ["_law_lock_here", "_law_ends"] (spTbs P w K) := by
  have GT : FnOk P w K mg base CX0 3 L.f56 L.d56 ["_law_bolt_here", "_law_words", "_law_under"] (spTbl P w K) := ok_tbl L B
  have GW : FnOk P w K mg base CX0 1 L.f51 L.d51 ["_law_lock_here", "_law_ends", "_law_m"] (spWat K) := ok_wat L.F51 B
  refine L.F57.ok scTbs (fun vs H Q E h => ?_) (fun cdv A outer s H vs Q E hr h => ?_)
  · obtain ⟨lk, ea, l, evs, es, rfl, _⟩ := h; rfl
  · obtain ⟨lk, ea, l, evs, es, rfl, ⟨la, bs, rfl, hla, hbs⟩, ok, hea, hev, e2, hin, q⟩ := h
    have hu9 := hu9_of hr
    have hr1 : Room 1 _ := hr.mono (by decide)
    refine ⟨_, (Evl.pss_cut (ps_set (i := 2) scTbs.nd rfl (.inl rfl) (pe_lst (pa_cons (pe_disp1N hu9 (pe_tup (pa_cons (pe_tup pa_nil) (pa_cons (pe_tup pa_nil) pa_nil))) pe_int) pa_nil)))
 (pss_cons (ps_for PassesOwn.never rfl (pi_range1 (by rfl) B.range (pa_cons (pe_callB call_len_seq (by rfl) B.len PySem.boot_len (pa_cons (pv 0) pa_nil)) pa_nil)) (pg_name (i := 3) scTbs.nd rfl (.inl rfl))
 (pss_one (ps_expr (pe_bm PySem.F.plainAttrs_list PySem.F.slot_list_append PySem.F.type_list_append mt_append (pv 2) (pa_cons (pe_call GT hr (by rfl) L.g56 L.F56.kp L.b56 .nil pass0 (pa_cons (pe_ix (r := rIxT K) ix_tup (pv 0) (pv 3) (fun _ _ => rfl)) (pa_cons (pe_call GW hr1 (by rfl) L.g51 L.F51.kp L.b51 .nil pass0 (pa_cons (pv 0) (pa_cons (pv 1) (pa_cons (pe_op op_add (pv 3) pe_int) pa_nil)))) (pa_cons (pe_ix (r := rIxL K) ix_list (pv 2) (pe_un un_neg pe_int) (fun _ _ => rfl)) pa_nil)))) pa_nil)))))
 (pss_one (ps_ret (pv 2))))), ?_⟩
    have bsl : bs.length = l.length := Paired.len hbs
    have l60 := ok.n1
    refine ⟨fun σ H' => ∃ D d, σ = [some (.ref la), some (.ref ea), some (.ref D), none] ∧ Evl.Ex H H' ∧ H D = none ∧ H' D = some (.lst [.ref d]) ∧ TabAt P w H' d [[]] (PT l 0), ?_, ?_⟩
    · intro d nd
      have e1 := Evl.Ex.new (o := DN P w d []) nd
      refine ⟨Nat.zero_le _, fun t1 n1 => ?_⟩
      have e2 := Evl.Ex.new (o := .tup []) n1
      refine ⟨Nat.zero_le _, fun t2 n2 => ?_⟩
      have e3 := Evl.Ex.new (o := .tup []) n2
      refine ⟨(by show 2 ≤ sizeLine; decide), fun t n3 => ?_⟩
      have e4 := Evl.Ex.new (o := .tup [.ref t1, .ref t2]) n3
      have e14 := (e2.trans e3).trans e4
      refine ⟨t, wwK [] [], rfl, ww_at upd_same (e4 _ _ (e3 _ _ upd_same)) (e4 _ _ upd_same), e14 _ _ upd_same, fun xs hN => ?_⟩
      have e5 := (e1.trans e14).mut (o := DN P w d xs) nd
      refine ⟨(by show 1 ≤ sizeLine; decide), fun D nD => ?_⟩
      have e6 := Evl.Ex.new (o := .lst [.ref d]) nD
      have nD0 : H D = none := ex_none e5 nD
      refine ⟨D, d, rfl, e5.trans e6, nD0, upd_same, [(wwK [] [], .int 0)], (hN.ex e6).nd, fun u hu v hv => ?_⟩
      have z : Lst (Pm l 0 [] []) (some 0) := ⟨WayM.refl, fun q hq => by rw [(way_zero hq).1]; exact Int.le_refl _⟩
      rw [List.mem_singleton.mp hu, List.mem_singleton.mp hv, PT_of z]
      simp [valV, oT]
    rintro _ H1 ⟨D, d, rfl, e1, nD, hD1, ht1⟩
    refine ⟨.ref la, rfl, la, bs, rfl, .inr (Evl.ex_t e1 hla), (bs.length : Nat), rfl, by omega, by omega, ?_⟩
    refine for_range (lo := 0) (n := (((bs.length : Nat) : Int)).toNat) (fun m σ H' => ∃ (vs : List V) (d : Addr) (ws : List Word) (y3 : Option V), σ = [some (.ref la), some (.ref ea), some (.ref D), y3] ∧ Evl.Ex H H' ∧ H' D = some (.lst (vs ++ [.ref d])) ∧ vs.length = m ∧ TabAt P w H' d ws (PT l m) ∧ TabW l m ws (PT l m) (BB m) ∧ ∀ u, wordAt l es m u → u ∈ ws)
      ⟨[], d, [[]], _, rfl, e1, hD1, rfl, ht1, ?_, fun u hu => ?_⟩ ?_ ?_
    · have z : Lst (Pm l 0 [] []) (some 0) := ⟨WayM.refl, fun q hq => by rw [(way_zero hq).1]; exact Int.le_refl _⟩
      have T0 : TabW l 0 [[]] (PT l 0) 0 := tab_zero (PT_of z)
      exact ⟨T0.is, fun u hu v hv p hp => Int.le_trans (T0.bd u hu v hv p hp) (by decide), T0.len⟩
    · rcases hu with ⟨e, _, rfl⟩ | ⟨j, b, g, v, _, _, _, _, rfl⟩
      · rw [List.take_zero]; exact List.mem_singleton.mpr rfl
      · rw [List.take_zero]; exact List.mem_singleton.mpr rfl
    · rintro m σ H2 hm ⟨vs, d, ws, y3, rfl, e2', hD2, vl, ht2, TW, cov⟩
      have ml : m < l.length := by omega
      have em : (0 : Int) + (m : Nat) = ((m : Nat) : Int) := by omega
      rw [em]
      obtain ⟨b, hb⟩ : ∃ b, l[m]? = some b := ⟨_, List.getElem?_eq_getElem ml⟩
      obtain ⟨bv, hbv, hba⟩ := Paired.get2 hbs hb
      refine ⟨.ref D, rfl, .inl ⟨rfl, _, SqL.of hD2⟩, ?_⟩
      refine ⟨.ref la, rfl, .int (m : Nat), rfl, la, bs, _, bv, rfl, rfl, Evl.ex_t e2' hla, atI_nat hbv, ?_⟩
      refine ⟨.ref la, rfl, .ref ea, rfl, .int (m : Nat), rfl, (m : Nat), 1, rfl, rfl, ?_⟩
      refine tnil1 ⟨.ref la, ea, m + 1, l, evs, es, rfl, ⟨la, bs, rfl, Evl.ex_t e2' hla, Paired.imp (fun _ _ => BoltAt.mono (TX.ex e2')) hbs⟩, ok, e2' _ _ hea, Paired.imp (fun _ _ => wd_ex e2') hev, e2, hin, by omega, fun H3 wl us ws' e3 hwl hus hws w10 => ?_⟩
      refine ⟨.ref D, rfl, 1, rfl, D, _, -1, .ref d, rfl, rfl, SqL.of (e3 _ _ hD2), atI_last _ _, ?_⟩
      have rowin : ∀ h ∈ rowsB b, h.v ∈ ws := fun h hh => by
        obtain ⟨g, hg, hv, _⟩ := mem_rowsB.mp hh
        refine cov _ (.inr ⟨m, b, g, h.v, Nat.le_refl _, hb, hg, hv, ?_⟩)
        have wl := (((ok.bolts m b hb).gaps g hg).words h.v hv).1
        have ml2 : (manysOf (l.take m)).length = m := by unfold manysOf; rw [List.length_map, List.length_take]; omega
        rw [List.take_of_length_le (by omega)]
      refine tnil1 ⟨bv, wl, d, l, m, b, ws, ws', us, rfl, hba.mono (TX.ex (e2'.trans e3)), ok, hb, ht2.ex e3, TW, rowin, hwl, hus, w10, fun u hu => ?_, fun H4 d' e4 ht4 TW' => ?_⟩
      · have hu' := (hws u).mp hu
        have ul := (word_bd ok hin (by omega) hu').1
        obtain ⟨v, y, rfl, vl⟩ := snoc_of ul
        refine ⟨v, y, rfl, cov v ?_⟩
        have := inr_take hu'
        rwa [take_app (by omega), List.take_of_length_le (by omega)] at this
      have e24 := e3.trans e4
      refine tnil1 ⟨D, _, _, rfl, rfl, e24 _ _ hD2, Nat.lt_of_le_of_lt (by rw [List.length_append, List.length_singleton]; omega : (vs ++ [V.ref d]).length ≤ 61) (by decide), ?_⟩
      have hD4 := e24 _ _ hD2
      obtain ⟨kv4, ⟨xs4, hx4, hr4⟩, hT4⟩ := ht4
      have nd4 : d' ≠ D := fun z => by
        rw [z] at hx4
        rcases hx4 with h | ⟨o, h⟩ <;> (rw [hD4] at h; exact nomatch h)
      refine ⟨vs ++ [.ref d], d', ws', _, rfl, (e2'.trans e24).mut nD, upd_same, by rw [List.length_append, List.length_singleton, vl], ⟨kv4, ND.keep (fun b xs h => ?_) (fun o h => ?_) ⟨xs4, hx4, hr4⟩, hT4⟩, TW', fun u hu => (hws u).mpr hu⟩
      · rw [upd_ne (fun z => by rw [z, hD4] at h; exact nomatch h)]; exact h
      · rw [upd_ne nd4]; exact h
    · rintro σ H2 ⟨vs, d, ws, y3, rfl, e2', hD2, vl, ht2, TW, cov⟩
      have em : (((bs.length : Nat) : Int)).toNat = l.length := by omega
      rw [em] at ht2 TW cov
      exact ⟨_, rfl, q H2 D vs d ws e2' hD2 ht2 TW fun e he => cov e (.inl ⟨e, he, by rw [List.take_of_length_le (by rw [(hin e he).1]; exact Nat.le_refl _)]⟩)⟩
end
end Wb

set_option Elab.async false
set_option linter.all false
set_option maxRecDepth 100000
set_option maxHeartbeats 16000000
set_option pp.maxSteps 900
set_option pp.deepTerms false
namespace Wb
open PySem PySem.Spec PyProof.Rows L2
abbrev sLaw : Stmt := topS 58
abbrev nLaw : List Str := ["_law_script", "_law_pen_here", "_law_lock_here", "_law_ends", "_law_due", "_law_one", "_law_other"]
theorem scLaw : FnScope nLaw ["_law_script"] (defScope sLaw) := ⟨rfl, rfl, rfl, by decide +kernel, rfl, by decide +kernel, by decide +kernel⟩
def spLaw (K : PySem.W.Frag) : Sp := fun vs H Q _ => ∃ (a : Addr) (ns : List Int), vs = [.ref a] ∧ SqL K H a (ns.map V.int) ∧ ∀ H', Q (.bl true) H'
section
variable {P : Program} {w : World} {K : PySem.W.Frag} {mg : Str → Option Value} {base : Heap}
theorem ok_law {f : Addr} {fd : FuncData} (F : Fun K "law" "law" sLaw f fd) (D : Pr K mg) (L : Ld K mg) (Z : LeK K mg) (LV : LvC K mg) (TB : TbK K mg) (TW : TwC K mg) (O : NoC K mg) : FnG P w K mg base 12 f fd ["_law_script"] (spLaw K) := by
  have B := D.B
  have GP : FnOk P w K mg base CX0 1 L.f41 L.d41 ["_law_script"] (spPen K) := ok_pen L.F41 B
  have GG : FnOk P w K mg base CX0 5 L.f47 L.d47 ["_law_pen_here"] (spGrt K) := ok_grt L B
  have GA : FnOk P w K mg base CX0 3 L.f48 L.d48 ["_law_pen_here", "_law_lock_here"] (spLAny K) := ok_lany L.F48 L.F43 L.b43 L.g43 L.F42 L.b42 L.g42 B
  have GT : FnOk P w K mg base CX0 4 L.f57 L.d57 ["_law_lock_here", "_law_ends"] (spTbs P w K) := ok_tbs L B
  have GL : FnOk P w K mg base CX0 11 Z.f39 Z.d39 ["lock", "row"] (spLeast K) := ok_least D Z LV TB TW O
  refine fnG_ok F scLaw (fun vs H Q E h => ?_) (fun cdv A' outer s0 H vs Q E hgd hr h => ?_)
  · obtain ⟨a, ns, rfl, _⟩ := h; rfl
  · obtain ⟨a, ns, rfl, hS, q⟩ := h
    have hr1 : Room 1 _ := hr.mono (by decide)
    have hr3 : Room 3 _ := hr.mono (by decide)
    have hr4 : Room 4 _ := hr.mono (by decide)
    have hr5 : Room 5 _ := hr.mono (by decide)
    have hu9 := hu9_of hr
    refine ⟨_, (pss_cons (ps_set (i := 1) scLaw.nd rfl (.inl rfl) (pe_call GP hr1 (by rfl) L.g41 L.F41.kp L.b41 .nil pass0 (pa_cons (pv 0) pa_nil)))
 (pss_cons (ps_set (i := 2) scLaw.nd rfl (.inl rfl) (pe_call GG hr5 (by rfl) L.g47 L.F47.kp L.b47 .nil pass0 (pa_cons (pv 1) pa_nil)))
 (Evl.pss_cut (ps_set (i := 3) scLaw.nd rfl (.inl rfl) (pe_lst (pa_cons (pe_call GA hr3 (by rfl) L.g48 L.F48.kp L.b48 .nil pass0 (pa_cons (pv 1) (pa_cons (pv 2) pa_nil))) (pa_cons (pe_call GA hr3 (by rfl) L.g48 L.F48.kp L.b48 .nil pass0 (pa_cons (pv 1) (pa_cons (pv 2) pa_nil))) pa_nil))))
 (Evl.pss_cut (ps_set (i := 4) scLaw.nd rfl (.inl rfl) (pe_ix (r := rIxL K) ix_list (pe_call GT hr4 (by rfl) L.g57 L.F57.kp L.b57 .nil pass0 (pa_cons (pv 2) (pa_cons (pv 3) pa_nil))) (pe_un un_neg pe_int) (fun _ _ => rfl)))
 (pss_cons (ps_for PassesOwn.never rfl (pi_list (pv 3)) (pg_name (i := 5) scLaw.nd rfl (.inl rfl))
 (pss_one (ps_for PassesOwn.never rfl (pi_list (pv 3)) (pg_name (i := 6) scLaw.nd rfl (.inl rfl))
 (pss_one (ps_if (pt_cmpR op_ne (pe_callB call_reprO (by rfl) B.repr boot_repr (pa_cons (pe_call GL hr (by rfl) Z.g39 Z.F39.kp Z.b39 .nil pass0 (pa_cons (pv 2) (pa_cons (pe_tup (pa_cons (pv 5) (pa_cons (pv 6) pa_nil))) pa_nil))) pa_nil)) (pe_callB call_reprO (by rfl) B.repr boot_repr (pa_cons (pe_nget hu9 (pv 4) (pe_tup (pa_cons (pv 5) (pa_cons (pv 6) pa_nil))) (fun _ _ => rfl)) pa_nil)) (nomark _))
 (pss_one (ps_ret pe_bl))
 pss_nil)))))
 (pss_one (ps_ret pe_bl))))))), ?_⟩
    refine ⟨.ref a, rfl, a, ns, rfl, hS, fun H1 p e1 np hpc => ?_⟩
    obtain ⟨c, hp1⟩ := hpc
    refine ⟨.ref p, rfl, p, c, _, rfl, hp1, by decide, fun H2 v l x2 hp2 hl2 ok => ?_⟩
    refine ⟨fun σ H' => ∃ (ea xa xb : Addr) (s1 s2 : Word), σ = [some (.ref a), some (.ref p), some v, some (.ref ea), none, none, none] ∧ LockAt K H' v l ∧ H' ea = some (.lst [.ref xa, .ref xb]) ∧ H' xa = some (.tup (s1.map V.int)) ∧ H' xb = some (.tup (s2.map V.int)) ∧ inr l s1 ∧ inr l s2, ?_, ?_⟩
    · refine ⟨.ref p, rfl, v, rfl, p, c, v, l, _, rfl, hp2, by omega, hl2, ok, fun H3 xa s1 x3 hp3 hxa i1 => ?_⟩
      have t3 : TX K H2 H3 := hp2.tx x3
      refine ⟨.ref p, rfl, v, rfl, p, c, v, l, _, rfl, hp3, by omega, hl2.mono t3, ok, fun H4 xb s2 x4 hp4 hxb i2 => ?_⟩
      have t4 : TX K H3 H4 := hp3.tx x4
      refine ⟨(by show 2 ≤ sizeLine; decide), fun ea nea => ?_⟩
      have e5 := Evl.Ex.new (o := .lst [.ref xa, .ref xb]) nea
      exact ⟨ea, xa, xb, s1, s2, rfl, (hl2.mono (t3.trans t4)).mono (TX.ex e5), upd_same, e5 _ _ (t4.2 _ _ hxa), e5 _ _ hxb, i1, i2⟩
    rintro _ H3 ⟨ea, xa, xb, s1, s2, rfl, hl3, hea, hxa, hxb, i1, i2⟩
    have hev : Paired (Wd K H3) [.ref xa, .ref xb] [s1, s2] := .cons ⟨xa, rfl, hxa⟩ (.cons ⟨xb, rfl, hxb⟩ .nil)
    have hin : ∀ e ∈ [s1, s2], inr l e := fun e he => by
      rcases List.mem_cons.mp he with rfl | he
      · exact i1
      · rw [List.mem_singleton.mp he]; exact i2
    refine ⟨fun σ H' => ∃ (d : Addr) (ws : List Word), σ = [some (.ref a), some (.ref p), some v, some (.ref ea), some (.ref d), none, none] ∧ Evl.Ex H3 H' ∧ TabAt P w H' d ws (PT l l.length) ∧ TabW l l.length ws (PT l l.length) (BB l.length) ∧ ∀ e ∈ [s1, s2], e ∈ ws, ?_, ?_⟩
    · refine ⟨v, rfl, .ref ea, rfl, v, ea, l, _, [s1, s2], rfl, hl3, ok, hea, hev, rfl, hin, fun H4 A vs d ws e4 hA hT TW cov => ?_⟩
      exact ⟨1, rfl, A, _, -1, .ref d, rfl, rfl, SqL.of hA, atI_last _ _, d, ws, rfl, e4, hT, TW, cov⟩
    rintro _ H4 ⟨d, ws, rfl, e4, hT4, TWs, cov⟩
    have sS : ∀ z y : Str, scal (.str z) (.str y) = true := fun _ _ => rfl
    refine ⟨.ref ea, rfl, ea, rfl, ⟨_, SqL.of (e4 _ _ hea)⟩, ?_⟩
    refine for_list (K := K) (a := ea) (xs := [.ref xa, .ref xb]) (fun i σ H' => ∃ y5 y6 : Option V, σ = [some (.ref a), some (.ref p), some v, some (.ref ea), some (.ref d), y5, y6] ∧ Evl.Ex H3 H' ∧ TabAt P w H' d ws (PT l l.length))
      ⟨_, _, rfl, e4, hT4⟩ ?_ ?_ ?_
    · rintro i σ H' _ ⟨_, _, _, e, _⟩
      exact SqL.of (e _ _ hea)
    · rintro i x σ H5 hx ⟨y5, y6, rfl, e5, hT5⟩
      obtain ⟨u, hu, ⟨ua, rfl, hua⟩⟩ := Paired.get1 hev hx
      have um := List.mem_of_getElem? hu
      refine ⟨.ref ea, rfl, ea, rfl, ⟨_, SqL.of (e5 _ _ hea)⟩, ?_⟩
      refine for_list (K := K) (a := ea) (xs := [.ref xa, .ref xb]) (fun j σ H' => ∃ y6 : Option V, σ = [some (.ref a), some (.ref p), some v, some (.ref ea), some (.ref d), some (.ref ua), y6] ∧ Evl.Ex H3 H' ∧ TabAt P w H' d ws (PT l l.length))
        ⟨_, rfl, e5, hT5⟩ ?_ ?_ ?_
      · rintro j σ H' _ ⟨_, _, e, _⟩
        exact SqL.of (e _ _ hea)
      · rintro j y σ H6 hy ⟨y6, rfl, e6, hT6⟩
        obtain ⟨z, hz, ⟨za, rfl, hza⟩⟩ := Paired.get1 hev hy
        have zm := List.mem_of_getElem? hz
        refine ⟨v, rfl, .ref ua, rfl, .ref za, rfl, (by show 2 ≤ sizeLine; decide), fun t nt => ?_⟩
        refine tnil1 (least_now (hl3.mono (TX.ex e6)) ok nt (wishT_whole (e6 _ _ hua)) (wishT_whole (e6 _ _ hza)) (whole_ok (hin u um)) (whole_ok (hin z zm)) fun H7 o e7 ho => ?_)
        have ho2 : Lst (Pm l l.length u z) o := ho.congr fun p => rwS_go (hin u um) (hin z zm) p
        have L2 := TWs.is u (cov u um) z (cov z zm)
        have eo : o = PT l l.length u z := ho2.unique L2
        have bd : ∀ q, PT l l.length u z = some q → 0 ≤ q ∧ q ≤ BB l.length := fun q hq => by
          refine ⟨?_, TWs.bd u (cov u um) z (cov z zm) q hq⟩
          rw [hq] at L2
          exact Pm.nn ok L2.1
        subst eo
        refine ⟨_, rfl, bb_log ok.n1 bd, ?_⟩
        have e37 := e6.trans e7
        refine ⟨.ref d, rfl, .ref ua, rfl, .ref za, rfl, (by show 2 ≤ sizeLine; decide), fun t2 nt2 => ?_⟩
        have e8 := Evl.Ex.new (o := .tup [.ref ua, .ref za]) nt2
        obtain ⟨kvs, hk, hv⟩ := hT6.ex (e7.trans e8)
        refine ⟨d, t2, kvs, wwK u z, _, rfl, rfl, ww_at upd_same (e8 _ _ (e37 _ _ hua)) (e8 _ _ (e37 _ _ hza)), hk, hv u (cov u um) z (cov z zm), ?_⟩
        refine tnil1 ⟨_, rfl, bb_log ok.n1 bd, ?_⟩
        refine ⟨sS _ _, _, rfl, ?_⟩
        rw [decide_eq_true rfl]
        refine iteF ?_
        exact ⟨_, rfl, e37.trans e8, hT6.ex (e7.trans e8)⟩
      · rintro σ H6 ⟨y6, rfl, e6, hT6⟩
        exact ⟨_, _, rfl, e6, hT6⟩
    · rintro σ H5 ⟨y5, y6, rfl, e5, hT5⟩
      exact q _
end
end Wb

set_option Elab.async false
set_option linter.all false
set_option maxRecDepth 100000
set_option maxHeartbeats 4000000
set_option pp.maxSteps 600
set_option pp.deepTerms false
namespace Wb
open PySem PySem.Spec PyProof.Rows L2
section
variable {P : Program} {w : World} {K : PySem.W.Frag} {mg mb : Str → Option Value} {k : Nat} {fa a : Addr} {fd : FuncData} {x : Str} {sp : Sp} {t : Shared} {vs : List Value} {ns : List Int}
/-- from a heap that tracks at most the script -/
theorem top_core (kin : K.In t.heap) (mns : t.heap.Ns mainGlobals mg) (bns : t.heap.Ns builtinsNs mb)
    (bok : ∀ y : Str, y ≠ "__name__" → mb y = bootBuiltins y) (nol : t.heap.NoLimit) (gen0 : t.gens = #[])
    (oa : t.heap.get? a = some { cls := .type "list", data := .seq vs.toArray }) (rv : Vals (ns.map V.int) vs) (room : Room k callerA) (gu : callerA.guards = some [])
    (prom : ∀ bs : Heap, K.In bs → bs.Ns mainGlobals mg → FnG P w K mg bs k fa fd [x] sp) (bnd : ∀ (t' : Shared) (u : Value), BindsTo t' fd ⟨[u], []⟩ [(x, u)])
    (I : Hp) (only : Only I) (due : sp [.ref a] I (fun v _ => v = .bl true) fun _ _ _ => False) (iok : HOk P w I t.heap) (at_a : ∀ b, I b ≠ none → b = a) (free_a : I a ≠ none → K.lookup a = none) :
    codeAny (model P w) callerA (.call (.ref fa) ⟨[.ref a], []⟩) (fun r t' => r = .ok (.ret (.bool true)) ∧ OldK t.heap t'.heap ∧ t'.os = t.os ∧ AllBare t'.gens) t := by
  have keep : ∀ {b : Addr} {o : Obj}, I b = none → t.heap.get? b = some o → (hidT t.heap I).get? b = some o := fun n e => hidT_get e n
  have isA : ∀ {b : Addr}, I b ≠ none → t.heap.get? b = some { cls := .type "list", data := .seq vs.toArray } := fun {b} n => by
    rw [at_a b n]
    exact oa
  have nsI : ∀ {b : Addr} {m : Str → Option Value}, t.heap.Ns b m → (hidT t.heap I).Ns b m := by
    intro b m h
    obtain ⟨o, es, ep, e1, e2, e3⟩ := h
    refine ⟨o, es, ep, keep ?_ e1, e2, e3⟩
    refine Classical.byContradiction fun n => ?_
    have z := isA n
    rw [e1] at z
    cases z
    have z2 : Data.seq vs.toArray _ = Data.dict es ep := e2
    cases z2
  have kinI : K.In (hidT t.heap I) := by
    intro b o e
    refine keep (Classical.byContradiction fun n => ?_) (kin b o e)
    have z := free_a (by rw [← at_a b n]; exact n)
    rw [← at_a b n, e] at z
    cases z
  have nolI : (hidT t.heap I).NoLimit := by
    obtain ⟨mc, h1, h2⟩ := nol
    exact ⟨mc, nsI h1, h2⟩
  have mod : Mod K mg (hidT t.heap I) := ⟨kinI, nsI mns, ⟨mb, nsI bns, bok⟩, nolI⟩
  have env : Env0 P w K mg (hidT t.heap I) callerA [] t I :=
    ⟨rfl, mod, fun b o e => of_hidT e, Nat.le_of_eq (hidT_size _ _), trivial, (fun b hb => absurd hb (List.not_mem_nil)), iok, .of_eq gen0⟩
  refine codeAny_mono ((prom _ kinI (nsI mns)).go callerA [] t I ⟨[.ref a], []⟩ [.ref a] [.ref a] _ _ gu room env (bnd t (.ref a)) (.cons rfl .nil) due) ?_
  intro r t' h
  cases r with
  | error e => exact False.elim h
  | ok fl =>
    cases fl with
    | next => exact False.elim h
    | brk => exact False.elim h
    | cont => exact False.elim h
    | ret u =>
      obtain ⟨v, I', eos, bare, un, iok', rr, hv⟩ := h
      have hv' : v = .bl true := hv
      rw [hv'] at rr
      have hu : u = Value.bool true := rr
      rw [hu]
      refine ⟨rfl, OldK.of_keep fun b o e => ?_, eos, bare⟩
      rcases only b with z | ⟨ob, xs, z⟩
      · exact un.keep b o e z (by intro h; exact absurd h List.not_mem_nil) (by simp)
      · obtain ⟨e1, _⟩ := iok b _ z
        obtain ⟨e2, _⟩ := iok' b _ (un.frzs b ob _ z)
        rw [e] at e1
        cases e1
        exact e2
theorem call_top (kin : K.In t.heap) (mns : t.heap.Ns mainGlobals mg) (bns : t.heap.Ns builtinsNs mb)
    (bok : ∀ y : Str, y ≠ "__name__" → mb y = bootBuiltins y) (nol : t.heap.NoLimit) (gen0 : t.gens = #[])
    (oa : t.heap.get? a = some { cls := .type "list", data := .seq vs.toArray }) (iv : IntsAre vs ns) (len : ns.length ≤ sizeLine) (room : Room k callerA) (gu : callerA.guards = some [])
    (prom : ∀ bs : Heap, K.In bs → bs.Ns mainGlobals mg → FnG P w K mg bs k fa fd [x] sp) (bnd : ∀ (t' : Shared) (u : Value), BindsTo t' fd ⟨[u], []⟩ [(x, u)])
    (due : ∀ I : Hp, SqL K I a (ns.map V.int) → sp [.ref a] I (fun v _ => v = .bl true) fun _ _ _ => False) :
    codeAny (model P w) callerA (.call (.ref fa) ⟨[.ref a], []⟩) (fun r t' => r = .ok (.ret (.bool true)) ∧ OldK t.heap t'.heap ∧ t'.os = t.os ∧ AllBare t'.gens) t := by
  have rv := vals_ints iv
  have lv := iv.length
  cases hk : K.lookup a with
  | some o =>
    have e := kin a o hk
    rw [oa] at e
    cases e
    have hS : SqL K (fun _ => none) a (ns.map V.int) := .inr ⟨_, vs.toArray, _, hk, rfl, rfl, rfl, (by rw [List.size_toArray, lv]; exact len), (by simpa using rv)⟩
    exact top_core kin mns bns bok nol gen0 oa rv room gu prom bnd (fun _ => none) (fun _ => .inl rfl) (due _ hS) (fun b u z => (by cases z)) (fun b z => absurd rfl z) (fun z => absurd rfl z)
  | none =>
    have one : ∀ b, b ≠ a → (fun b => if b = a then some (HO.frz { cls := .type "list", data := .seq vs.toArray } (.lst (ns.map V.int))) else none : Hp) b = none := fun b n => if_neg n
    have two : (fun b => if b = a then some (HO.frz { cls := .type "list", data := .seq vs.toArray } (.lst (ns.map V.int))) else none : Hp) a = some (HO.frz { cls := .type "list", data := .seq vs.toArray } (.lst (ns.map V.int))) := if_pos rfl
    generalize (fun b => if b = a then some (HO.frz { cls := .type "list", data := .seq vs.toArray } (.lst (ns.map V.int))) else none : Hp) = I at one two
    have hS : SqL K I a (ns.map V.int) := .inl (.inr ⟨_, two⟩)
    have at_a : ∀ b, I b ≠ none → b = a := fun b n => Classical.byContradiction fun z => n (one b z)
    refine top_core kin mns bns bok nol gen0 oa rv room gu prom bnd I ?_ (due I hS) ?_ at_a (fun _ => hk)
    · intro b
      by_cases z : b = a
      · rw [z]
        exact .inr ⟨_, _, two⟩
      · exact .inl (one b z)
    · intro b u z
      have e := at_a b (by rw [z]; exact fun y => nomatch y)
      subst e
      rw [two] at z
      cases z
      exact ⟨oa, (by rw [List.length_map]; exact len), vs, _, rv, oa⟩
end
theorem walk_top {l : PySem.W.OpenLaw} {n k : Nat} {q : Program} {loose : List Str} {XP : (Str → Option Value) → Heap → Prop} {YP : World → Heap → Prop} {d : DefRec} {K : Params → PySem.W.Frag} {sp : World → Sp} {x : Str}
    (hn : l.most = some n) (hn2 : n ≤ sizeLine) (hd : d.params.defaults = []) (room : Room k callerA) (gu : callerA.guards = some [])
    (hY : ∀ (w : World) (h : Heap), YP w h → (K w.params).In h)
    (F : ∀ (w : World) (mg : Str → Option Value) (fa : Addr) (h : Heap), (K w.params).In h → h.Ns mainGlobals mg → mg d.name = some (.ref fa) → ∃ fd : FuncData,
      (∀ (t : Shared) (u : Value), BindsTo t fd ⟨[u], []⟩ [(x, u)]) ∧ ∀ bs : Heap, (K w.params).In bs → bs.Ns mainGlobals mg → FnG l.prog w (K w.params) mg bs k fa fd [x] (sp w))
    (due : ∀ (w : World) (I : Hp) (a : Addr) (ns : List Int), SqL (K w.params) I a (ns.map V.int) → sp w [.ref a] I (fun v _ => v = .bl true) fun _ _ _ => False) :
    PySem.W.WalkO q loose XP YP l.row.toRowW d [] (fun f vs => PySem.call f vs) := by
  refine Att.attach_call hn hd ?_
  intro w t0 t mg mb fa o pm cd doc a vs ns G Y ho hdt hcd hmg oa iv hl gen0
  obtain ⟨fd, hb, hF⟩ := F w mg fa _ (hY w _ Y) G.T.g hmg
  exact call_top (hY w _ Y) G.T.g G.T.b G.T.builtins G.T.nolimit gen0 oa iv (Nat.le_trans hl hn2) room gu hF hb fun I hS => due w I a ns hS
end Wb

set_option Elab.async false
set_option linter.all false
set_option maxRecDepth 100000
set_option maxHeartbeats 4000000
namespace Wb
open PySem PySem.Spec PyProof.Rows L2
theorem all_facts {pr : Program} {w : World} {K : PySem.W.Frag} {h : Heap} {mg : Str → Option Value} {fa : Addr} (X : K.In h) (G : h.Ns mainGlobals mg) (hfa : mg "law" = some (.ref fa))
    {f3 : Addr} {oc3 kV3 dc3 pm3 cd3 ct3 : Value} {od3 an3 : Option Addr} {sl3 : Array (Option Value)}
    (a3 : PySem.W.nsIn K mainGlobals "is_whole" = some (some (.ref f3)))
    (l3 : K.lookup f3 = some ⟨oc3, od3, .func (PySem.W.fnOf "is_whole" "is_whole" (defArgs sWhole) (defBody sWhole) (defScope sWhole) .none kV3 dc3 pm3 an3 cd3 ct3), sl3⟩)
    (c3 : PySem.W.codeIn K cd3 "is_whole" = true) (k3 : PySem.W.keepIn K (.ref f3) = true)
    {f4 : Addr} {oc4 kV4 dc4 pm4 cd4 ct4 : Value} {od4 an4 : Option Addr} {sl4 : Array (Option Value)}
    (a4 : PySem.W.nsIn K mainGlobals "is_whole_in" = some (some (.ref f4)))
    (l4 : K.lookup f4 = some ⟨oc4, od4, .func (PySem.W.fnOf "is_whole_in" "is_whole_in" (defArgs sWholeIn) (defBody sWholeIn) (defScope sWholeIn) .none kV4 dc4 pm4 an4 cd4 ct4), sl4⟩)
    (c4 : PySem.W.codeIn K cd4 "is_whole_in" = true) (k4 : PySem.W.keepIn K (.ref f4) = true)
    {f5 : Addr} {oc5 kV5 dc5 pm5 cd5 ct5 : Value} {od5 an5 : Option Addr} {sl5 : Array (Option Value)}
    (a5 : PySem.W.nsIn K mainGlobals "is_tuple_of" = some (some (.ref f5)))
    (l5 : K.lookup f5 = some ⟨oc5, od5, .func (PySem.W.fnOf "is_tuple_of" "is_tuple_of" (defArgs sTupOf) (defBody sTupOf) (defScope sTupOf) .none kV5 dc5 pm5 an5 cd5 ct5), sl5⟩)
    (c5 : PySem.W.codeIn K cd5 "is_tuple_of" = true) (k5 : PySem.W.keepIn K (.ref f5) = true)
    {f6 : Addr} {oc6 kV6 dc6 pm6 cd6 ct6 : Value} {od6 an6 : Option Addr} {sl6 : Array (Option Value)}
    (a6 : PySem.W.nsIn K mainGlobals "are_places" = some (some (.ref f6)))
    (l6 : K.lookup f6 = some ⟨oc6, od6, .func (PySem.W.fnOf "are_places" "are_places" (defArgs sPlaces) (defBody sPlaces) (defScope sPlaces) .none kV6 dc6 pm6 an6 cd6 ct6), sl6⟩)
    (c6 : PySem.W.codeIn K cd6 "are_places" = true) (k6 : PySem.W.keepIn K (.ref f6) = true)
    {f13 : Addr} {oc13 kV13 dc13 pm13 cd13 ct13 : Value} {od13 an13 : Option Addr} {sl13 : Array (Option Value)}
    (a13 : PySem.W.nsIn K mainGlobals "words_of" = some (some (.ref f13)))
    (l13 : K.lookup f13 = some ⟨oc13, od13, .func (PySem.W.fnOf "words_of" "words_of" (defArgs sWords) (defBody sWords) (defScope sWords) .none kV13 dc13 pm13 an13 cd13 ct13), sl13⟩)
    (c13 : PySem.W.codeIn K cd13 "words_of" = true) (k13 : PySem.W.keepIn K (.ref f13) = true)
    {f21 : Addr} {oc21 kV21 dc21 pm21 cd21 ct21 : Value} {od21 an21 : Option Addr} {sl21 : Array (Option Value)}
    (a21 : PySem.W.nsIn K mainGlobals "fault_of" = some (some (.ref f21)))
    (l21 : K.lookup f21 = some ⟨oc21, od21, .func (PySem.W.fnOf "fault_of" "fault_of" (defArgs sFault) (defBody sFault) (defScope sFault) .none kV21 dc21 pm21 an21 cd21 ct21), sl21⟩)
    (c21 : PySem.W.codeIn K cd21 "fault_of" = true) (k21 : PySem.W.keepIn K (.ref f21) = true)
    {f22 : Addr} {oc22 kV22 dc22 pm22 cd22 ct22 : Value} {od22 an22 : Option Addr} {sl22 : Array (Option Value)}
    (a22 : PySem.W.nsIn K mainGlobals "is_bolt" = some (some (.ref f22)))
    (l22 : K.lookup f22 = some ⟨oc22, od22, .func (PySem.W.fnOf "is_bolt" "is_bolt" (defArgs sBolt) (defBody sBolt) (defScope sBolt) .none kV22 dc22 pm22 an22 cd22 ct22), sl22⟩)
    (c22 : PySem.W.codeIn K cd22 "is_bolt" = true) (k22 : PySem.W.keepIn K (.ref f22) = true)
    {f23 : Addr} {oc23 kV23 dc23 pm23 cd23 ct23 : Value} {od23 an23 : Option Addr} {sl23 : Array (Option Value)}
    (a23 : PySem.W.nsIn K mainGlobals "is_gap" = some (some (.ref f23)))
    (l23 : K.lookup f23 = some ⟨oc23, od23, .func (PySem.W.fnOf "is_gap" "is_gap" (defArgs sGap) (defBody sGap) (defScope sGap) .none kV23 dc23 pm23 an23 cd23 ct23), sl23⟩)
    (c23 : PySem.W.codeIn K cd23 "is_gap" = true) (k23 : PySem.W.keepIn K (.ref f23) = true)
    {f24 : Addr} {oc24 kV24 dc24 pm24 cd24 ct24 : Value} {od24 an24 : Option Addr} {sl24 : Array (Option Value)}
    (a24 : PySem.W.nsIn K mainGlobals "are_ways" = some (some (.ref f24)))
    (l24 : K.lookup f24 = some ⟨oc24, od24, .func (PySem.W.fnOf "are_ways" "are_ways" (defArgs sWays) (defBody sWays) (defScope sWays) .none kV24 dc24 pm24 an24 cd24 ct24), sl24⟩)
    (c24 : PySem.W.codeIn K cd24 "are_ways" = true) (k24 : PySem.W.keepIn K (.ref f24) = true)
    {f25 : Addr} {oc25 kV25 dc25 pm25 cd25 ct25 : Value} {od25 an25 : Option Addr} {sl25 : Array (Option Value)}
    (a25 : PySem.W.nsIn K mainGlobals "manys_of" = some (some (.ref f25)))
    (l25 : K.lookup f25 = some ⟨oc25, od25, .func (PySem.W.fnOf "manys_of" "manys_of" (defArgs sManys) (defBody sManys) (defScope sManys) .none kV25 dc25 pm25 an25 cd25 ct25), sl25⟩)
    (c25 : PySem.W.codeIn K cd25 "manys_of" = true) (k25 : PySem.W.keepIn K (.ref f25) = true)
    {f26 : Addr} {oc26 kV26 dc26 pm26 cd26 ct26 : Value} {od26 an26 : Option Addr} {sl26 : Array (Option Value)}
    (a26 : PySem.W.nsIn K mainGlobals "need_lock" = some (some (.ref f26)))
    (l26 : K.lookup f26 = some ⟨oc26, od26, .func (PySem.W.fnOf "need_lock" "need_lock" (defArgs sNeedL) (defBody sNeedL) (defScope sNeedL) .none kV26 dc26 pm26 an26 cd26 ct26), sl26⟩)
    (c26 : PySem.W.codeIn K cd26 "need_lock" = true) (k26 : PySem.W.keepIn K (.ref f26) = true)
    {f41 : Addr} {oc41 kV41 dc41 pm41 cd41 ct41 : Value} {od41 an41 : Option Addr} {sl41 : Array (Option Value)}
    (a41 : PySem.W.nsIn K mainGlobals "_law_pen" = some (some (.ref f41)))
    (l41 : K.lookup f41 = some ⟨oc41, od41, .func (PySem.W.fnOf "_law_pen" "_law_pen" (defArgs sPen) (defBody sPen) (defScope sPen) .none kV41 dc41 pm41 an41 cd41 ct41), sl41⟩)
    (c41 : PySem.W.codeIn K cd41 "_law_pen" = true) (k41 : PySem.W.keepIn K (.ref f41) = true)
    {f42 : Addr} {oc42 kV42 dc42 pm42 cd42 ct42 : Value} {od42 an42 : Option Addr} {sl42 : Array (Option Value)}
    (a42 : PySem.W.nsIn K mainGlobals "_law_draw" = some (some (.ref f42)))
    (l42 : K.lookup f42 = some ⟨oc42, od42, .func (PySem.W.fnOf "_law_draw" "_law_draw" (defArgs sDraw) (defBody sDraw) (defScope sDraw) .none kV42 dc42 pm42 an42 cd42 ct42), sl42⟩)
    (c42 : PySem.W.codeIn K cd42 "_law_draw" = true) (k42 : PySem.W.keepIn K (.ref f42) = true)
    {f43 : Addr} {oc43 kV43 dc43 pm43 cd43 ct43 : Value} {od43 an43 : Option Addr} {sl43 : Array (Option Value)}
    (a43 : PySem.W.nsIn K mainGlobals "_law_stand" = some (some (.ref f43)))
    (l43 : K.lookup f43 = some ⟨oc43, od43, .func (PySem.W.fnOf "_law_stand" "_law_stand" (defArgs sLStand) (defBody sLStand) (defScope sLStand) .none kV43 dc43 pm43 an43 cd43 ct43), sl43⟩)
    (c43 : PySem.W.codeIn K cd43 "_law_stand" = true) (k43 : PySem.W.keepIn K (.ref f43) = true)
    {f44 : Addr} {oc44 kV44 dc44 pm44 cd44 ct44 : Value} {od44 an44 : Option Addr} {sl44 : Array (Option Value)}
    (a44 : PySem.W.nsIn K mainGlobals "_law_price" = some (some (.ref f44)))
    (l44 : K.lookup f44 = some ⟨oc44, od44, .func (PySem.W.fnOf "_law_price" "_law_price" (defArgs sLPrice) (defBody sLPrice) (defScope sLPrice) .none kV44 dc44 pm44 an44 cd44 ct44), sl44⟩)
    (c44 : PySem.W.codeIn K cd44 "_law_price" = true) (k44 : PySem.W.keepIn K (.ref f44) = true)
    {f45 : Addr} {oc45 kV45 dc45 pm45 cd45 ct45 : Value} {od45 an45 : Option Addr} {sl45 : Array (Option Value)}
    (a45 : PySem.W.nsIn K mainGlobals "_law_bolt" = some (some (.ref f45)))
    (l45 : K.lookup f45 = some ⟨oc45, od45, .func (PySem.W.fnOf "_law_bolt" "_law_bolt" (defArgs sLBolt) (defBody sLBolt) (defScope sLBolt) .none kV45 dc45 pm45 an45 cd45 ct45), sl45⟩)
    (c45 : PySem.W.codeIn K cd45 "_law_bolt" = true) (k45 : PySem.W.keepIn K (.ref f45) = true)
    {f46 : Addr} {oc46 kV46 dc46 pm46 cd46 ct46 : Value} {od46 an46 : Option Addr} {sl46 : Array (Option Value)}
    (a46 : PySem.W.nsIn K mainGlobals "_law_lock" = some (some (.ref f46)))
    (l46 : K.lookup f46 = some ⟨oc46, od46, .func (PySem.W.fnOf "_law_lock" "_law_lock" (defArgs sLLock) (defBody sLLock) (defScope sLLock) .none kV46 dc46 pm46 an46 cd46 ct46), sl46⟩)
    (c46 : PySem.W.codeIn K cd46 "_law_lock" = true) (k46 : PySem.W.keepIn K (.ref f46) = true)
    {f47 : Addr} {oc47 kV47 dc47 pm47 cd47 ct47 : Value} {od47 an47 : Option Addr} {sl47 : Array (Option Value)}
    (a47 : PySem.W.nsIn K mainGlobals "_law_great" = some (some (.ref f47)))
    (l47 : K.lookup f47 = some ⟨oc47, od47, .func (PySem.W.fnOf "_law_great" "_law_great" (defArgs sGrt) (defBody sGrt) (defScope sGrt) .none kV47 dc47 pm47 an47 cd47 ct47), sl47⟩)
    (c47 : PySem.W.codeIn K cd47 "_law_great" = true) (k47 : PySem.W.keepIn K (.ref f47) = true)
    {f48 : Addr} {oc48 kV48 dc48 pm48 cd48 ct48 : Value} {od48 an48 : Option Addr} {sl48 : Array (Option Value)}
    (a48 : PySem.W.nsIn K mainGlobals "_law_any" = some (some (.ref f48)))
    (l48 : K.lookup f48 = some ⟨oc48, od48, .func (PySem.W.fnOf "_law_any" "_law_any" (defArgs sLAny) (defBody sLAny) (defScope sLAny) .none kV48 dc48 pm48 an48 cd48 ct48), sl48⟩)
    (c48 : PySem.W.codeIn K cd48 "_law_any" = true) (k48 : PySem.W.keepIn K (.ref f48) = true)
    {f49 : Addr} {oc49 kV49 dc49 pm49 cd49 ct49 : Value} {od49 an49 : Option Addr} {sl49 : Array (Option Value)}
    (a49 : PySem.W.nsIn K mainGlobals "_law_both" = some (some (.ref f49)))
    (l49 : K.lookup f49 = some ⟨oc49, od49, .func (PySem.W.fnOf "_law_both" "_law_both" (defArgs sLBoth) (defBody sLBoth) (defScope sLBoth) .none kV49 dc49 pm49 an49 cd49 ct49), sl49⟩)
    (c49 : PySem.W.codeIn K cd49 "_law_both" = true) (k49 : PySem.W.keepIn K (.ref f49) = true)
    {f50 : Addr} {oc50 kV50 dc50 pm50 cd50 ct50 : Value} {od50 an50 : Option Addr} {sl50 : Array (Option Value)}
    (a50 : PySem.W.nsIn K mainGlobals "_law_lesser" = some (some (.ref f50)))
    (l50 : K.lookup f50 = some ⟨oc50, od50, .func (PySem.W.fnOf "_law_lesser" "_law_lesser" (defArgs sLesser) (defBody sLesser) (defScope sLesser) .none kV50 dc50 pm50 an50 cd50 ct50), sl50⟩)
    (c50 : PySem.W.codeIn K cd50 "_law_lesser" = true) (k50 : PySem.W.keepIn K (.ref f50) = true)
    {f51 : Addr} {oc51 kV51 dc51 pm51 cd51 ct51 : Value} {od51 an51 : Option Addr} {sl51 : Array (Option Value)}
    (a51 : PySem.W.nsIn K mainGlobals "_law_words_at" = some (some (.ref f51)))
    (l51 : K.lookup f51 = some ⟨oc51, od51, .func (PySem.W.fnOf "_law_words_at" "_law_words_at" (defArgs sWat) (defBody sWat) (defScope sWat) .none kV51 dc51 pm51 an51 cd51 ct51), sl51⟩)
    (c51 : PySem.W.codeIn K cd51 "_law_words_at" = true) (k51 : PySem.W.keepIn K (.ref f51) = true)
    {f52 : Addr} {oc52 kV52 dc52 pm52 cd52 ct52 : Value} {od52 an52 : Option Addr} {sl52 : Array (Option Value)}
    (a52 : PySem.W.nsIn K mainGlobals "_law_gap_rows" = some (some (.ref f52)))
    (l52 : K.lookup f52 = some ⟨oc52, od52, .func (PySem.W.fnOf "_law_gap_rows" "_law_gap_rows" (defArgs sGro) (defBody sGro) (defScope sGro) .none kV52 dc52 pm52 an52 cd52 ct52), sl52⟩)
    (c52 : PySem.W.codeIn K cd52 "_law_gap_rows" = true) (k52 : PySem.W.keepIn K (.ref f52) = true)
    {f53 : Addr} {oc53 kV53 dc53 pm53 cd53 ct53 : Value} {od53 an53 : Option Addr} {sl53 : Array (Option Value)}
    (a53 : PySem.W.nsIn K mainGlobals "_law_between" = some (some (.ref f53)))
    (l53 : K.lookup f53 = some ⟨oc53, od53, .func (PySem.W.fnOf "_law_between" "_law_between" (defArgs sBtw) (defBody sBtw) (defScope sBtw) .none kV53 dc53 pm53 an53 cd53 ct53), sl53⟩)
    (c53 : PySem.W.codeIn K cd53 "_law_between" = true) (k53 : PySem.W.keepIn K (.ref f53) = true)
    {f54 : Addr} {oc54 kV54 dc54 pm54 cd54 ct54 : Value} {od54 an54 : Option Addr} {sl54 : Array (Option Value)}
    (a54 : PySem.W.nsIn K mainGlobals "_law_tails" = some (some (.ref f54)))
    (l54 : K.lookup f54 = some ⟨oc54, od54, .func (PySem.W.fnOf "_law_tails" "_law_tails" (defArgs sTls) (defBody sTls) (defScope sTls) .none kV54 dc54 pm54 an54 cd54 ct54), sl54⟩)
    (c54 : PySem.W.codeIn K cd54 "_law_tails" = true) (k54 : PySem.W.keepIn K (.ref f54) = true)
    {f55 : Addr} {oc55 kV55 dc55 pm55 cd55 ct55 : Value} {od55 an55 : Option Addr} {sl55 : Array (Option Value)}
    (a55 : PySem.W.nsIn K mainGlobals "_law_over" = some (some (.ref f55)))
    (l55 : K.lookup f55 = some ⟨oc55, od55, .func (PySem.W.fnOf "_law_over" "_law_over" (defArgs sOvr) (defBody sOvr) (defScope sOvr) .none kV55 dc55 pm55 an55 cd55 ct55), sl55⟩)
    (c55 : PySem.W.codeIn K cd55 "_law_over" = true) (k55 : PySem.W.keepIn K (.ref f55) = true)
    {f56 : Addr} {oc56 kV56 dc56 pm56 cd56 ct56 : Value} {od56 an56 : Option Addr} {sl56 : Array (Option Value)}
    (a56 : PySem.W.nsIn K mainGlobals "_law_table" = some (some (.ref f56)))
    (l56 : K.lookup f56 = some ⟨oc56, od56, .func (PySem.W.fnOf "_law_table" "_law_table" (defArgs sTbl) (defBody sTbl) (defScope sTbl) .none kV56 dc56 pm56 an56 cd56 ct56), sl56⟩)
    (c56 : PySem.W.codeIn K cd56 "_law_table" = true) (k56 : PySem.W.keepIn K (.ref f56) = true)
    {f57 : Addr} {oc57 kV57 dc57 pm57 cd57 ct57 : Value} {od57 an57 : Option Addr} {sl57 : Array (Option Value)}
    (a57 : PySem.W.nsIn K mainGlobals "_law_tables" = some (some (.ref f57)))
    (l57 : K.lookup f57 = some ⟨oc57, od57, .func (PySem.W.fnOf "_law_tables" "_law_tables" (defArgs sTbs) (defBody sTbs) (defScope sTbs) .none kV57 dc57 pm57 an57 cd57 ct57), sl57⟩)
    (c57 : PySem.W.codeIn K cd57 "_law_tables" = true) (k57 : PySem.W.keepIn K (.ref f57) = true)
    {f7 : Addr} {oc7 kV7 dc7 pm7 cd7 ct7 : Value} {od7 an7 : Option Addr} {sl7 : Array (Option Value)}
    (a7 : PySem.W.nsIn K mainGlobals "are_wished" = some (some (.ref f7)))
    (l7 : K.lookup f7 = some ⟨oc7, od7, .func (PySem.W.fnOf "are_wished" "are_wished" (defArgs sWishedR) (defBody sWishedR) (defScope sWishedR) .none kV7 dc7 pm7 an7 cd7 ct7), sl7⟩)
    (c7 : PySem.W.codeIn K cd7 "are_wished" = true) (k7 : PySem.W.keepIn K (.ref f7) = true)
    {f27 : Addr} {oc27 kV27 dc27 pm27 cd27 ct27 : Value} {od27 an27 : Option Addr} {sl27 : Array (Option Value)}
    (a27 : PySem.W.nsIn K mainGlobals "need_row" = some (some (.ref f27)))
    (l27 : K.lookup f27 = some ⟨oc27, od27, .func (PySem.W.fnOf "need_row" "need_row" (defArgs sNeedRow) (defBody sNeedRow) (defScope sNeedRow) .none kV27 dc27 pm27 an27 cd27 ct27), sl27⟩)
    (c27 : PySem.W.codeIn K cd27 "need_row" = true) (k27 : PySem.W.keepIn K (.ref f27) = true)
    {f37 : Addr} {oc37 kV37 dc37 pm37 cd37 ct37 : Value} {od37 an37 : Option Addr} {sl37 : Array (Option Value)}
    (a37 : PySem.W.nsIn K mainGlobals "entry_of" = some (some (.ref f37)))
    (l37 : K.lookup f37 = some ⟨oc37, od37, .func (PySem.W.fnOf "entry_of" "entry_of" (defArgs sEntryOf) (defBody sEntryOf) (defScope sEntryOf) .none kV37 dc37 pm37 an37 cd37 ct37), sl37⟩)
    (c37 : PySem.W.codeIn K cd37 "entry_of" = true) (k37 : PySem.W.keepIn K (.ref f37) = true)
    {f39 : Addr} {oc39 kV39 dc39 pm39 cd39 ct39 : Value} {od39 an39 : Option Addr} {sl39 : Array (Option Value)}
    (a39 : PySem.W.nsIn K mainGlobals "least" = some (some (.ref f39)))
    (l39 : K.lookup f39 = some ⟨oc39, od39, .func (PySem.W.fnOf "least" "least" (defArgs sLeast) (defBody sLeast) (defScope sLeast) .none kV39 dc39 pm39 an39 cd39 ct39), sl39⟩)
    (c39 : PySem.W.codeIn K cd39 "least" = true) (k39 : PySem.W.keepIn K (.ref f39) = true)
    {f34 : Addr} {oc34 kV34 dc34 pm34 cd34 ct34 : Value} {od34 an34 : Option Addr} {sl34 : Array (Option Value)}
    (a34 : PySem.W.nsIn K mainGlobals "layers_from" = some (some (.ref f34)))
    (l34 : K.lookup f34 = some ⟨oc34, od34, .func (PySem.W.fnOf "layers_from" "layers_from" (defArgs sLayers) (defBody sLayers) (defScope sLayers) .none kV34 dc34 pm34 an34 cd34 ct34), sl34⟩)
    (c34 : PySem.W.codeIn K cd34 "layers_from" = true) (k34 : PySem.W.keepIn K (.ref f34) = true)
    {f35 : Addr} {oc35 kV35 dc35 pm35 cd35 ct35 : Value} {od35 an35 : Option Addr} {sl35 : Array (Option Value)}
    (a35 : PySem.W.nsIn K mainGlobals "are_one" = some (some (.ref f35)))
    (l35 : K.lookup f35 = some ⟨oc35, od35, .func (PySem.W.fnOf "are_one" "are_one" (defArgs sAreOne) (defBody sAreOne) (defScope sAreOne) .none kV35 dc35 pm35 an35 cd35 ct35), sl35⟩)
    (c35 : PySem.W.codeIn K cd35 "are_one" = true) (k35 : PySem.W.keepIn K (.ref f35) = true)
    {f33 : Addr} {oc33 kV33 dc33 pm33 cd33 ct33 : Value} {od33 an33 : Option Addr} {sl33 : Array (Option Value)}
    (a33 : PySem.W.nsIn K mainGlobals "table_of" = some (some (.ref f33)))
    (l33 : K.lookup f33 = some ⟨oc33, od33, .func (PySem.W.fnOf "table_of" "table_of" (defArgs sTableOf) (defBody sTableOf) (defScope sTableOf) .none kV33 dc33 pm33 an33 cd33 ct33), sl33⟩)
    (c33 : PySem.W.codeIn K cd33 "table_of" = true) (k33 : PySem.W.keepIn K (.ref f33) = true)
    {f36 : Addr} {oc36 kV36 dc36 pm36 cd36 ct36 : Value} {od36 an36 : Option Addr} {sl36 : Array (Option Value)}
    (a36 : PySem.W.nsIn K mainGlobals "ground_row" = some (some (.ref f36)))
    (l36 : K.lookup f36 = some ⟨oc36, od36, .func (PySem.W.fnOf "ground_row" "ground_row" (defArgs sGround) (defBody sGround) (defScope sGround) .none kV36 dc36 pm36 an36 cd36 ct36), sl36⟩)
    (c36 : PySem.W.codeIn K cd36 "ground_row" = true) (k36 : PySem.W.keepIn K (.ref f36) = true)
    {f58 : Addr} {oc58 kV58 dc58 pm58 cd58 ct58 : Value} {od58 an58 : Option Addr} {sl58 : Array (Option Value)}
    (a58 : PySem.W.nsIn K mainGlobals "law" = some (some (.ref f58)))
    (l58 : K.lookup f58 = some ⟨oc58, od58, .func (PySem.W.fnOf "law" "law" (defArgs sLaw) (defBody sLaw) (defScope sLaw) .none kV58 dc58 pm58 an58 cd58 ct58), sl58⟩)
    (c58 : PySem.W.codeIn K cd58 "law" = true) (k58 : PySem.W.keepIn K (.ref f58) = true)
    {t0 : Tok} (n0 : PySem.W.nsIn K mainGlobals "MOST_BOLTS" = some (some (.int 60 t0)))
    {t1 : Tok} (n1 : PySem.W.nsIn K mainGlobals "FEWEST_PLACES" = some (some (.int 2 t1)))
    {t2 : Tok} (n2 : PySem.W.nsIn K mainGlobals "MOST_PLACES" = some (some (.int 4 t2)))
    {t3 : Tok} (n3 : PySem.W.nsIn K mainGlobals "MOST_WAYS" = some (some (.int 8 t3)))
    {t4 : Tok} (n4 : PySem.W.nsIn K mainGlobals "MOST_WORDS" = some (some (.int 8 t4)))
    {t5 : Tok} (n5 : PySem.W.nsIn K mainGlobals "MOST_PRICE" = some (some (.int 1000000 t5)))
    (z0 : PySem.W.nsIn K mainGlobals "isinstance" = some none)
    (z1 : PySem.W.nsIn K mainGlobals "int" = some none)
    (z2 : PySem.W.nsIn K mainGlobals "bool" = some none)
    (z3 : PySem.W.nsIn K mainGlobals "tuple" = some none)
    (z4 : PySem.W.nsIn K mainGlobals "list" = some none)
    (z5 : PySem.W.nsIn K mainGlobals "len" = some none)
    (z6 : PySem.W.nsIn K mainGlobals "zip" = some none)
    (z7 : PySem.W.nsIn K mainGlobals "all" = some none)
    (z8 : PySem.W.nsIn K mainGlobals "range" = some none)
    (z9 : PySem.W.nsIn K mainGlobals "reversed" = some none)
    (z10 : PySem.W.nsIn K mainGlobals "enumerate" = some none)
    (z11 : PySem.W.nsIn K mainGlobals "sorted" = some none)
    (z12 : PySem.W.nsIn K mainGlobals "set" = some none)
    (z13 : PySem.W.nsIn K mainGlobals "abs" = some none)
    (z14 : PySem.W.nsIn K mainGlobals "repr" = some none)
    (z15 : PySem.W.nsIn K mainGlobals "min" = some none)
    {CV : Addr} (qVa : PySem.W.nsIn K mainGlobals "Level" = some (some (.ref CV))) (qVp : PySem.W.plainGet K CV Str.empty = true) (qVh : PySem.W.hasDictIn K CV = true) (qVo : PySem.W.plainOver K CV = true)
    (qVs : PySem.W.findIn K (.ref CV) "__setattr__" = some (some (.builtin "object.__setattr__"))) (qVm : PySem.W.makesIn K CV = true) (qVk : PySem.W.keepIn K (.ref CV) = true)
    (qVn0 : PySem.W.findIn K (.ref CV) "below" = some none)
    (qVn1 : PySem.W.findIn K (.ref CV) "many" = some none)
    (qVn2 : PySem.W.findIn K (.ref CV) "moves" = some none)
    (qVn3 : PySem.W.findIn K (.ref CV) "asked" = some none)
    (qVn4 : PySem.W.findIn K (.ref CV) "ends" = some none)
    (qVn5 : PySem.W.findIn K (.ref CV) "notes" = some none)
    (qVn6 : PySem.W.findIn K (.ref CV) "layers" = some none)
    (qVn7 : PySem.W.findIn K (.ref CV) "hops" = some none)
    (qVn8 : PySem.W.findIn K (.ref CV) "onward" = some none)
    (qVn9 : PySem.W.findIn K (.ref CV) "nexts" = some none)
    (qVn10 : PySem.W.findIn K (.ref CV) "lasts" = some none)
    {vV0 : Addr} {ocV0 kVV0 dcV0 pmV0 cdV0 ctV0 : Value} {odV0 anV0 : Option Addr} {slV0 : Array (Option Value)}
    (iV0 : PySem.W.findIn K (.ref CV) "__init__" = some (some (.ref vV0))) (jV0 : PySem.W.isFn K (.ref vV0) = true)
    (lV0 : K.lookup vV0 = some ⟨ocV0, odV0, .func (PySem.W.fnOf "__init__" "Level.__init__" (defArgs sLvInit) (defBody sLvInit) (defScope sLvInit) .none kVV0 dcV0 pmV0 anV0 cdV0 ctV0), slV0⟩)
    (cV0 : PySem.W.codeIn K cdV0 "Level.__init__" = true) (kpV0 : PySem.W.keepIn K (.ref vV0) = true)
    {vV2 : Addr} {ocV2 kVV2 dcV2 pmV2 cdV2 ctV2 : Value} {odV2 anV2 : Option Addr} {slV2 : Array (Option Value)}
    (iV2 : PySem.W.findIn K (.ref CV) "hops_from" = some (some (.ref vV2))) (jV2 : PySem.W.isFn K (.ref vV2) = true)
    (lV2 : K.lookup vV2 = some ⟨ocV2, odV2, .func (PySem.W.fnOf "hops_from" "Level.hops_from" (defArgs sHopsF) (defBody sHopsF) (defScope sHopsF) .none kVV2 dcV2 pmV2 anV2 cdV2 ctV2), slV2⟩)
    (cV2 : PySem.W.codeIn K cdV2 "Level.hops_from" = true) (kpV2 : PySem.W.keepIn K (.ref vV2) = true)
    {vV3 : Addr} {ocV3 kVV3 dcV3 pmV3 cdV3 ctV3 : Value} {odV3 anV3 : Option Addr} {slV3 : Array (Option Value)}
    (iV3 : PySem.W.findIn K (.ref CV) "hops_to" = some (some (.ref vV3))) (jV3 : PySem.W.isFn K (.ref vV3) = true)
    (lV3 : K.lookup vV3 = some ⟨ocV3, odV3, .func (PySem.W.fnOf "hops_to" "Level.hops_to" (defArgs sHopsT) (defBody sHopsT) (defScope sHopsT) .none kVV3 dcV3 pmV3 anV3 cdV3 ctV3), slV3⟩)
    (cV3 : PySem.W.codeIn K cdV3 "Level.hops_to" = true) (kpV3 : PySem.W.keepIn K (.ref vV3) = true)
    {vV4 : Addr} {ocV4 kVV4 dcV4 pmV4 cdV4 ctV4 : Value} {odV4 anV4 : Option Addr} {slV4 : Array (Option Value)}
    (iV4 : PySem.W.findIn K (.ref CV) "entries" = some (some (.ref vV4))) (jV4 : PySem.W.isFn K (.ref vV4) = true)
    (lV4 : K.lookup vV4 = some ⟨ocV4, odV4, .func (PySem.W.fnOf "entries" "Level.entries" (defArgs sEntries) (defBody sEntries) (defScope sEntries) .none kVV4 dcV4 pmV4 anV4 cdV4 ctV4), slV4⟩)
    (cV4 : PySem.W.codeIn K cdV4 "Level.entries" = true) (kpV4 : PySem.W.keepIn K (.ref vV4) = true)
    {vV5 : Addr} {ocV5 kVV5 dcV5 pmV5 cdV5 ctV5 : Value} {odV5 anV5 : Option Addr} {slV5 : Array (Option Value)}
    (iV5 : PySem.W.findIn K (.ref CV) "entry" = some (some (.ref vV5))) (jV5 : PySem.W.isFn K (.ref vV5) = true)
    (lV5 : K.lookup vV5 = some ⟨ocV5, odV5, .func (PySem.W.fnOf "entry" "Level.entry" (defArgs sEntry) (defBody sEntry) (defScope sEntry) .none kVV5 dcV5 pmV5 anV5 cdV5 ctV5), slV5⟩)
    (cV5 : PySem.W.codeIn K cdV5 "Level.entry" = true) (kpV5 : PySem.W.keepIn K (.ref vV5) = true)
    {vV6 : Addr} {ocV6 kVV6 dcV6 pmV6 cdV6 ctV6 : Value} {odV6 anV6 : Option Addr} {slV6 : Array (Option Value)}
    (iV6 : PySem.W.findIn K (.ref CV) "behind" = some (some (.ref vV6))) (jV6 : PySem.W.isFn K (.ref vV6) = true)
    (lV6 : K.lookup vV6 = some ⟨ocV6, odV6, .func (PySem.W.fnOf "behind" "Level.behind" (defArgs sBehind) (defBody sBehind) (defScope sBehind) .none kVV6 dcV6 pmV6 anV6 cdV6 ctV6), slV6⟩)
    (cV6 : PySem.W.codeIn K cdV6 "Level.behind" = true) (kpV6 : PySem.W.keepIn K (.ref vV6) = true)
    {vV7 : Addr} {ocV7 kVV7 dcV7 pmV7 cdV7 ctV7 : Value} {odV7 anV7 : Option Addr} {slV7 : Array (Option Value)}
    (iV7 : PySem.W.findIn K (.ref CV) "moved" = some (some (.ref vV7))) (jV7 : PySem.W.isFn K (.ref vV7) = true)
    (lV7 : K.lookup vV7 = some ⟨ocV7, odV7, .func (PySem.W.fnOf "moved" "Level.moved" (defArgs sMoved') (defBody sMoved') (defScope sMoved') .none kVV7 dcV7 pmV7 anV7 cdV7 ctV7), slV7⟩)
    (cV7 : PySem.W.codeIn K cdV7 "Level.moved" = true) (kpV7 : PySem.W.keepIn K (.ref vV7) = true)
    {vV8 : Addr} {ocV8 kVV8 dcV8 pmV8 cdV8 ctV8 : Value} {odV8 anV8 : Option Addr} {slV8 : Array (Option Value)}
    (iV8 : PySem.W.findIn K (.ref CV) "move_on" = some (some (.ref vV8))) (jV8 : PySem.W.isFn K (.ref vV8) = true)
    (lV8 : K.lookup vV8 = some ⟨ocV8, odV8, .func (PySem.W.fnOf "move_on" "Level.move_on" (defArgs sMoveOn) (defBody sMoveOn) (defScope sMoveOn) .none kVV8 dcV8 pmV8 anV8 cdV8 ctV8), slV8⟩)
    (cV8 : PySem.W.codeIn K cdV8 "Level.move_on" = true) (kpV8 : PySem.W.keepIn K (.ref vV8) = true)
    {vV12 : Addr} {ocV12 kVV12 dcV12 pmV12 cdV12 ctV12 : Value} {odV12 anV12 : Option Addr} {slV12 : Array (Option Value)}
    (iV12 : PySem.W.findIn K (.ref CV) "joined" = some (some (.ref vV12))) (jV12 : PySem.W.isFn K (.ref vV12) = true)
    (lV12 : K.lookup vV12 = some ⟨ocV12, odV12, .func (PySem.W.fnOf "joined" "Level.joined" (defArgs sJoined) (defBody sJoined) (defScope sJoined) .none kVV12 dcV12 pmV12 anV12 cdV12 ctV12), slV12⟩)
    (cV12 : PySem.W.codeIn K cdV12 "Level.joined" = true) (kpV12 : PySem.W.keepIn K (.ref vV12) = true)
    {vV13 : Addr} {ocV13 kVV13 dcV13 pmV13 cdV13 ctV13 : Value} {odV13 anV13 : Option Addr} {slV13 : Array (Option Value)}
    (iV13 : PySem.W.findIn K (.ref CV) "better" = some (some (.ref vV13))) (jV13 : PySem.W.isFn K (.ref vV13) = true)
    (lV13 : K.lookup vV13 = some ⟨ocV13, odV13, .func (PySem.W.fnOf "better" "Level.better" (defArgs sBetter) (defBody sBetter) (defScope sBetter) .none kVV13 dcV13 pmV13 anV13 cdV13 ctV13), slV13⟩)
    (cV13 : PySem.W.codeIn K cdV13 "Level.better" = true) (kpV13 : PySem.W.keepIn K (.ref vV13) = true)
    {CW : Addr} (qWa : PySem.W.nsIn K mainGlobals "Tower" = some (some (.ref CW))) (qWp : PySem.W.plainGet K CW Str.empty = true) (qWh : PySem.W.hasDictIn K CW = true) (qWo : PySem.W.plainOver K CW = true)
    (qWs : PySem.W.findIn K (.ref CW) "__setattr__" = some (some (.builtin "object.__setattr__"))) (qWm : PySem.W.makesIn K CW = true) (qWk : PySem.W.keepIn K (.ref CW) = true)
    (qWn0 : PySem.W.findIn K (.ref CW) "wishes" = some none)
    (qWn1 : PySem.W.findIn K (.ref CW) "notes" = some none)
    (qWn2 : PySem.W.findIn K (.ref CW) "layers" = some none)
    (qWn3 : PySem.W.findIn K (.ref CW) "levels" = some none)
    (qWn4 : PySem.W.findIn K (.ref CW) "stops" = some none)
    (qWn5 : PySem.W.findIn K (.ref CW) "words" = some none)
    (qWn6 : PySem.W.findIn K (.ref CW) "ground" = some none)
    {vW0 : Addr} {ocW0 kVW0 dcW0 pmW0 cdW0 ctW0 : Value} {odW0 anW0 : Option Addr} {slW0 : Array (Option Value)}
    (iW0 : PySem.W.findIn K (.ref CW) "__init__" = some (some (.ref vW0))) (jW0 : PySem.W.isFn K (.ref vW0) = true)
    (lW0 : K.lookup vW0 = some ⟨ocW0, odW0, .func (PySem.W.fnOf "__init__" "Tower.__init__" (defArgs sTwInit) (defBody sTwInit) (defScope sTwInit) .none kVW0 dcW0 pmW0 anW0 cdW0 ctW0), slW0⟩)
    (cW0 : PySem.W.codeIn K cdW0 "Tower.__init__" = true) (kpW0 : PySem.W.keepIn K (.ref vW0) = true)
    {vW1 : Addr} {ocW1 kVW1 dcW1 pmW1 cdW1 ctW1 : Value} {odW1 anW1 : Option Addr} {slW1 : Array (Option Value)}
    (iW1 : PySem.W.findIn K (.ref CW) "put" = some (some (.ref vW1))) (jW1 : PySem.W.isFn K (.ref vW1) = true)
    (lW1 : K.lookup vW1 = some ⟨ocW1, odW1, .func (PySem.W.fnOf "put" "Tower.put" (defArgs sTwPut) (defBody sTwPut) (defScope sTwPut) .none kVW1 dcW1 pmW1 anW1 cdW1 ctW1), slW1⟩)
    (cW1 : PySem.W.codeIn K cdW1 "Tower.put" = true) (kpW1 : PySem.W.keepIn K (.ref vW1) = true)
    {vW2 : Addr} {ocW2 kVW2 dcW2 pmW2 cdW2 ctW2 : Value} {odW2 anW2 : Option Addr} {slW2 : Array (Option Value)}
    (iW2 : PySem.W.findIn K (.ref CW) "rows_from" = some (some (.ref vW2))) (jW2 : PySem.W.isFn K (.ref vW2) = true)
    (lW2 : K.lookup vW2 = some ⟨ocW2, odW2, .func (PySem.W.fnOf "rows_from" "Tower.rows_from" (defArgs sTwRows) (defBody sTwRows) (defScope sTwRows) .none kVW2 dcW2 pmW2 anW2 cdW2 ctW2), slW2⟩)
    (cW2 : PySem.W.codeIn K cdW2 "Tower.rows_from" = true) (kpW2 : PySem.W.keepIn K (.ref vW2) = true)
    {vW3 : Addr} {ocW3 kVW3 dcW3 pmW3 cdW3 ctW3 : Value} {odW3 anW3 : Option Addr} {slW3 : Array (Option Value)}
    (iW3 : PySem.W.findIn K (.ref CW) "entry_from" = some (some (.ref vW3))) (jW3 : PySem.W.isFn K (.ref vW3) = true)
    (lW3 : K.lookup vW3 = some ⟨ocW3, odW3, .func (PySem.W.fnOf "entry_from" "Tower.entry_from" (defArgs sTwEntry) (defBody sTwEntry) (defScope sTwEntry) .none kVW3 dcW3 pmW3 anW3 cdW3 ctW3), slW3⟩)
    (cW3 : PySem.W.codeIn K cdW3 "Tower.entry_from" = true) (kpW3 : PySem.W.keepIn K (.ref vW3) = true)
    {CU : Addr} (qUa : PySem.W.nsIn K mainGlobals "NoNotes" = some (some (.ref CU))) (qUp : PySem.W.plainGet K CU Str.empty = true) (qUh : PySem.W.hasDictIn K CU = true) (qUo : PySem.W.plainOver K CU = true)
    (qUs : PySem.W.findIn K (.ref CU) "__setattr__" = some (some (.builtin "object.__setattr__"))) (qUm : PySem.W.makesIn K CU = true) (qUk : PySem.W.keepIn K (.ref CU) = true)
    {vU1 : Addr} {ocU1 kVU1 dcU1 pmU1 cdU1 ctU1 : Value} {odU1 anU1 : Option Addr} {slU1 : Array (Option Value)}
    (iU1 : PySem.W.findIn K (.ref CU) "standing" = some (some (.ref vU1))) (jU1 : PySem.W.isFn K (.ref vU1) = true)
    (lU1 : K.lookup vU1 = some ⟨ocU1, odU1, .func (PySem.W.fnOf "standing" "NoNotes.standing" (defArgs (nnS 0)) (defBody (nnS 0)) (defScope (nnS 0)) .none kVU1 dcU1 pmU1 anU1 cdU1 ctU1), slU1⟩)
    (cU1 : PySem.W.codeIn K cdU1 "NoNotes.standing" = true) (kpU1 : PySem.W.keepIn K (.ref vU1) = true)
    {vU2 : Addr} {ocU2 kVU2 dcU2 pmU2 cdU2 ctU2 : Value} {odU2 anU2 : Option Addr} {slU2 : Array (Option Value)}
    (iU2 : PySem.W.findIn K (.ref CU) "stepping" = some (some (.ref vU2))) (jU2 : PySem.W.isFn K (.ref vU2) = true)
    (lU2 : K.lookup vU2 = some ⟨ocU2, odU2, .func (PySem.W.fnOf "stepping" "NoNotes.stepping" (defArgs (nnS 1)) (defBody (nnS 1)) (defScope (nnS 1)) .none kVU2 dcU2 pmU2 anU2 cdU2 ctU2), slU2⟩)
    (cU2 : PySem.W.codeIn K cdU2 "NoNotes.stepping" = true) (kpU2 : PySem.W.keepIn K (.ref vU2) = true)
    {vU3 : Addr} {ocU3 kVU3 dcU3 pmU3 cdU3 ctU3 : Value} {odU3 anU3 : Option Addr} {slU3 : Array (Option Value)}
    (iU3 : PySem.W.findIn K (.ref CU) "behind" = some (some (.ref vU3))) (jU3 : PySem.W.isFn K (.ref vU3) = true)
    (lU3 : K.lookup vU3 = some ⟨ocU3, odU3, .func (PySem.W.fnOf "behind" "NoNotes.behind" (defArgs (nnS 2)) (defBody (nnS 2)) (defScope (nnS 2)) .none kVU3 dcU3 pmU3 anU3 cdU3 ctU3), slU3⟩)
    (cU3 : PySem.W.codeIn K cdU3 "NoNotes.behind" = true) (kpU3 : PySem.W.keepIn K (.ref vU3) = true)
    {vU4 : Addr} {ocU4 kVU4 dcU4 pmU4 cdU4 ctU4 : Value} {odU4 anU4 : Option Addr} {slU4 : Array (Option Value)}
    (iU4 : PySem.W.findIn K (.ref CU) "either" = some (some (.ref vU4))) (jU4 : PySem.W.isFn K (.ref vU4) = true)
    (lU4 : K.lookup vU4 = some ⟨ocU4, odU4, .func (PySem.W.fnOf "either" "NoNotes.either" (defArgs (nnS 3)) (defBody (nnS 3)) (defScope (nnS 3)) .none kVU4 dcU4 pmU4 anU4 cdU4 ctU4), slU4⟩)
    (cU4 : PySem.W.codeIn K cdU4 "NoNotes.either" = true) (kpU4 : PySem.W.keepIn K (.ref vU4) = true)
    (hqa : PySem.W.nsIn K mainGlobals "heappop" = some (some (.builtin "_heapq.heappop"))) (hqb : PySem.W.nsIn K mainGlobals "heappush" = some (some (.builtin "_heapq.heappush")))
    (qUi : PySem.W.findIn K (.ref CU) "__init__" = some (some (.builtin "object.__init__"))) :
    ∃ fd : FuncData, (∀ (t : Shared) (u : Value), BindsTo t fd ⟨[u], []⟩ [("_law_script", u)]) ∧ ∀ bs : Heap, K.In bs → bs.Ns mainGlobals mg → FnG pr w K mg bs 12 fa fd ["_law_script"] (spLaw K) := by
  have e := hfa.symm.trans (PySem.W.mg_of X G a58)
  cases e
  have F3 := fun_mk (st := sWhole) l3 c3 k3
  have F4 := fun_mk (st := sWholeIn) l4 c4 k4
  have F5 := fun_mk (st := sTupOf) l5 c5 k5
  have F6 := fun_mk (st := sPlaces) l6 c6 k6
  have F13 := fun_mk (st := sWords) l13 c13 k13
  have F21 := fun_mk (st := sFault) l21 c21 k21
  have F22 := fun_mk (st := sBolt) l22 c22 k22
  have F23 := fun_mk (st := sGap) l23 c23 k23
  have F24 := fun_mk (st := sWays) l24 c24 k24
  have F25 := fun_mk (st := sManys) l25 c25 k25
  have F26 := fun_mk (st := sNeedL) l26 c26 k26
  have F41 := fun_mk (st := sPen) l41 c41 k41
  have F42 := fun_mk (st := sDraw) l42 c42 k42
  have F43 := fun_mk (st := sLStand) l43 c43 k43
  have F44 := fun_mk (st := sLPrice) l44 c44 k44
  have F45 := fun_mk (st := sLBolt) l45 c45 k45
  have F46 := fun_mk (st := sLLock) l46 c46 k46
  have F47 := fun_mk (st := sGrt) l47 c47 k47
  have F48 := fun_mk (st := sLAny) l48 c48 k48
  have F49 := fun_mk (st := sLBoth) l49 c49 k49
  have F50 := fun_mk (st := sLesser) l50 c50 k50
  have F51 := fun_mk (st := sWat) l51 c51 k51
  have F52 := fun_mk (st := sGro) l52 c52 k52
  have F53 := fun_mk (st := sBtw) l53 c53 k53
  have F54 := fun_mk (st := sTls) l54 c54 k54
  have F55 := fun_mk (st := sOvr) l55 c55 k55
  have F56 := fun_mk (st := sTbl) l56 c56 k56
  have F57 := fun_mk (st := sTbs) l57 c57 k57
  have F7 := fun_mk (st := sWishedR) l7 c7 k7
  have F27 := fun_mk (st := sNeedRow) l27 c27 k27
  have F37 := fun_mk (st := sEntryOf) l37 c37 k37
  have F39 := fun_mk (st := sLeast) l39 c39 k39
  have F34 := fun_mk (st := sLayers) l34 c34 k34
  have F35 := fun_mk (st := sAreOne) l35 c35 k35
  have F33 := fun_mk (st := sTableOf) l33 c33 k33
  have F36 := fun_mk (st := sGround) l36 c36 k36
  have F58 := fun_mk (st := sLaw) l58 c58 k58
  have b3 := F3.binds (ps := ["thing"]) fun _ _ _ _ _ _ us hl => match us, hl with | [_], _ => rfl
  have b4 := F4.binds (ps := ["thing", "low", "high"]) fun _ _ _ _ _ _ us hl => match us, hl with | [_, _, _], _ => rfl
  have b5 := F5.binds (ps := ["thing", "low", "high"]) fun _ _ _ _ _ _ us hl => match us, hl with | [_, _, _], _ => rfl
  have b6 := F6.binds (ps := ["thing", "manys"]) fun _ _ _ _ _ _ us hl => match us, hl with | [_, _], _ => rfl
  have b13 := F13.binds (ps := ["lock"]) fun _ _ _ _ _ _ us hl => match us, hl with | [_], _ => rfl
  have b21 := F21.binds (ps := ["thing"]) fun _ _ _ _ _ _ us hl => match us, hl with | [_], _ => rfl
  have b22 := F22.binds (ps := ["thing", "below"]) fun _ _ _ _ _ _ us hl => match us, hl with | [_, _], _ => rfl
  have b23 := F23.binds (ps := ["thing", "many", "below"]) fun _ _ _ _ _ _ us hl => match us, hl with | [_, _, _], _ => rfl
  have b24 := F24.binds (ps := ["thing", "below"]) fun _ _ _ _ _ _ us hl => match us, hl with | [_, _], _ => rfl
  have b25 := F25.binds (ps := ["lock"]) fun _ _ _ _ _ _ us hl => match us, hl with | [_], _ => rfl
  have b26 := F26.binds (ps := ["lock"]) fun _ _ _ _ _ _ us hl => match us, hl with | [_], _ => rfl
  have b41 := F41.binds (ps := ["_law_script"]) fun _ _ _ _ _ _ us hl => match us, hl with | [_], _ => rfl
  have b42 := F42.binds (ps := ["_law_pen_here", "_law_many"]) fun _ _ _ _ _ _ us hl => match us, hl with | [_, _], _ => rfl
  have b43 := F43.binds (ps := ["_law_pen_here", "_law_counts"]) fun _ _ _ _ _ _ us hl => match us, hl with | [_, _], _ => rfl
  have b44 := F44.binds (ps := ["_law_pen_here"]) fun _ _ _ _ _ _ us hl => match us, hl with | [_], _ => rfl
  have b45 := F45.binds (ps := ["_law_pen_here", "_law_many", "_law_words", "_law_rich"]) fun _ _ _ _ _ _ us hl => match us, hl with | [_, _, _, _], _ => rfl
  have b46 := F46.binds (ps := ["_law_pen_here", "_law_counts", "_law_rich"]) fun _ _ _ _ _ _ us hl => match us, hl with | [_, _, _], _ => rfl
  have b47 := F47.binds (ps := ["_law_pen_here"]) fun _ _ _ _ _ _ us hl => match us, hl with | [_], _ => rfl
  have b48 := F48.binds (ps := ["_law_pen_here", "_law_lock_here"]) fun _ _ _ _ _ _ us hl => match us, hl with | [_, _], _ => rfl
  have b49 := F49.binds (ps := ["_law_one", "_law_other"]) fun _ _ _ _ _ _ us hl => match us, hl with | [_, _], _ => rfl
  have b50 := F50.binds (ps := ["_law_some"]) fun _ _ _ _ _ _ us hl => match us, hl with | [_], _ => rfl
  have b51 := F51.binds (ps := ["_law_lock_here", "_law_ends", "_law_m"]) fun _ _ _ _ _ _ us hl => match us, hl with | [_, _, _], _ => rfl
  have b52 := F52.binds (ps := ["_law_bolt_here"]) fun _ _ _ _ _ _ us hl => match us, hl with | [_], _ => rfl
  have b53 := F53.binds (ps := ["_law_rows", "_law_under"]) fun _ _ _ _ _ _ us hl => match us, hl with | [_, _], _ => rfl
  have b54 := F54.binds (ps := ["_law_rows", "_law_between_here", "_law_under", "_law_word"]) fun _ _ _ _ _ _ us hl => match us, hl with | [_, _, _, _], _ => rfl
  have b55 := F55.binds (ps := ["_law_rows", "_law_under", "_law_tails_here", "_law_one", "_law_word"]) fun _ _ _ _ _ _ us hl => match us, hl with | [_, _, _, _, _], _ => rfl
  have b56 := F56.binds (ps := ["_law_bolt_here", "_law_words", "_law_under"]) fun _ _ _ _ _ _ us hl => match us, hl with | [_, _, _], _ => rfl
  have b57 := F57.binds (ps := ["_law_lock_here", "_law_ends"]) fun _ _ _ _ _ _ us hl => match us, hl with | [_, _], _ => rfl
  have b7 := F7.binds (ps := ["thing", "manys"]) fun _ _ _ _ _ _ us hl => match us, hl with | [_, _], _ => rfl
  have b27 := F27.binds (ps := ["lock", "thing"]) fun _ _ _ _ _ _ us hl => match us, hl with | [_, _], _ => rfl
  have b37 := F37.binds (ps := ["lock", "row", "notes"]) fun _ _ _ _ _ _ us hl => match us, hl with | [_, _, _], _ => rfl
  have b39 := F39.binds (ps := ["lock", "row"]) fun _ _ _ _ _ _ us hl => match us, hl with | [_, _], _ => rfl
  have b34 := F34.binds (ps := ["asked", "place", "layer"]) fun _ _ _ _ _ _ us hl => match us, hl with | [_, _, _], _ => rfl
  have b35 := F35.binds (ps := ["places"]) fun _ _ _ _ _ _ us hl => match us, hl with | [_], _ => rfl
  have b33 := F33.binds (ps := ["level", "stops"]) fun _ _ _ _ _ _ us hl => match us, hl with | [_, _], _ => rfl
  have b36 := F36.binds (ps := ["many", "layer", "layers", "notes"]) fun _ _ _ _ _ _ us hl => match us, hl with | [_, _, _, _], _ => rfl
  have B : Bi mg := ⟨PySem.W.mg_none_of X G z0, PySem.W.mg_none_of X G z1, PySem.W.mg_none_of X G z2, PySem.W.mg_none_of X G z3, PySem.W.mg_none_of X G z4, PySem.W.mg_none_of X G z5, PySem.W.mg_none_of X G z6, PySem.W.mg_none_of X G z7, PySem.W.mg_none_of X G z8, PySem.W.mg_none_of X G z9, PySem.W.mg_none_of X G z10, PySem.W.mg_none_of X G z11, PySem.W.mg_none_of X G z12, PySem.W.mg_none_of X G z13, PySem.W.mg_none_of X G z14⟩
  have Nm : Nu mg := ⟨⟨_, PySem.W.mg_of X G n0⟩, ⟨_, PySem.W.mg_of X G n1⟩, ⟨_, PySem.W.mg_of X G n2⟩, ⟨_, PySem.W.mg_of X G n3⟩, ⟨_, PySem.W.mg_of X G n4⟩, ⟨_, PySem.W.mg_of X G n5⟩⟩
  have D : Pr K mg := ⟨_, _, F3, b3, PySem.W.mg_of X G a3, _, _, F4, b4, PySem.W.mg_of X G a4, _, _, F5, b5, PySem.W.mg_of X G a5, _, _, F6, b6, PySem.W.mg_of X G a6, _, _, F13, b13, PySem.W.mg_of X G a13, _, _, F21, b21, PySem.W.mg_of X G a21, _, _, F22, b22, PySem.W.mg_of X G a22, _, _, F23, b23, PySem.W.mg_of X G a23, _, _, F24, b24, PySem.W.mg_of X G a24, _, _, F25, b25, PySem.W.mg_of X G a25, _, _, F26, b26, PySem.W.mg_of X G a26, B, Nm⟩
  have zn0 := PySem.W.mg_none_of X G z15
  let L : Ld K mg := ⟨_, _, F41, b41, PySem.W.mg_of X G a41, _, _, F42, b42, PySem.W.mg_of X G a42, _, _, F43, b43, PySem.W.mg_of X G a43, _, _, F44, b44, PySem.W.mg_of X G a44, _, _, F45, b45, PySem.W.mg_of X G a45, _, _, F46, b46, PySem.W.mg_of X G a46, _, _, F47, b47, PySem.W.mg_of X G a47, _, _, F48, b48, PySem.W.mg_of X G a48, _, _, F49, b49, PySem.W.mg_of X G a49, _, _, F50, b50, PySem.W.mg_of X G a50, _, _, F51, b51, PySem.W.mg_of X G a51, _, _, F52, b52, PySem.W.mg_of X G a52, _, _, F53, b53, PySem.W.mg_of X G a53, _, _, F54, b54, PySem.W.mg_of X G a54, _, _, F55, b55, PySem.W.mg_of X G a55, _, _, F56, b56, PySem.W.mg_of X G a56, _, _, F57, b57, PySem.W.mg_of X G a57, zn0⟩
  let Z : LeK K mg := ⟨_, _, F7, b7, PySem.W.mg_of X G a7, _, _, F27, b27, PySem.W.mg_of X G a27, _, _, F37, b37, PySem.W.mg_of X G a37, _, _, F39, b39, PySem.W.mg_of X G a39⟩
  let TB : TbK K mg := ⟨_, _, F34, b34, PySem.W.mg_of X G a34, _, _, F35, b35, PySem.W.mg_of X G a35, ⟨PySem.W.mg_of X G hqa, PySem.W.mg_of X G hqb⟩⟩
  have GV0 := fun_mk (st := sLvInit) lV0 cV0 kpV0
  have eV0 := GV0.binds (ps := ["self", "below", "many", "moves", "asked", "ends", "notes"]) fun _ _ _ _ _ _ us hl => match us, hl with | [_, _, _, _, _, _, _], _ => rfl
  have GV2 := fun_mk (st := sHopsF) lV2 cV2 kpV2
  have eV2 := GV2.binds (ps := ["self", "place", "layer"]) fun _ _ _ _ _ _ us hl => match us, hl with | [_, _, _], _ => rfl
  have GV3 := fun_mk (st := sHopsT) lV3 cV3 kpV3
  have eV3 := GV3.binds (ps := ["self", "end"]) fun _ _ _ _ _ _ us hl => match us, hl with | [_, _], _ => rfl
  have GV4 := fun_mk (st := sEntries) lV4 cV4 kpV4
  have eV4 := GV4.binds (ps := ["self", "start"]) fun _ _ _ _ _ _ us hl => match us, hl with | [_, _], _ => rfl
  have GV5 := fun_mk (st := sEntry) lV5 cV5 kpV5
  have eV5 := GV5.binds (ps := ["self", "start", "number", "known"]) fun _ _ _ _ _ _ us hl => match us, hl with | [_, _, _, _], _ => rfl
  have GV6 := fun_mk (st := sBehind) lV6 cV6 kpV6
  have eV6 := GV6.binds (ps := ["self", "number"]) fun _ _ _ _ _ _ us hl => match us, hl with | [_, _], _ => rfl
  have GV7 := fun_mk (st := sMoved') lV7 cV7 kpV7
  have eV7 := GV7.binds (ps := ["self", "start"]) fun _ _ _ _ _ _ us hl => match us, hl with | [_, _], _ => rfl
  have GV8 := fun_mk (st := sMoveOn) lV8 cV8 kpV8
  have eV8 := GV8.binds (ps := ["self", "best", "queue", "entry", "start"]) fun _ _ _ _ _ _ us hl => match us, hl with | [_, _, _, _, _], _ => rfl
  have GV12 := fun_mk (st := sJoined) lV12 cV12 kpV12
  have eV12 := GV12.binds (ps := ["self", "entry", "other"]) fun _ _ _ _ _ _ us hl => match us, hl with | [_, _, _], _ => rfl
  have GV13 := fun_mk (st := sBetter) lV13 cV13 kpV13
  have eV13 := GV13.binds (ps := ["self", "entry", "other"]) fun _ _ _ _ _ _ us hl => match us, hl with | [_, _, _], _ => rfl
  have GW0 := fun_mk (st := sTwInit) lW0 cW0 kpW0
  have eW0 := GW0.binds (ps := ["self", "lock", "wishes", "notes"]) fun _ _ _ _ _ _ us hl => match us, hl with | [_, _, _, _], _ => rfl
  have GW1 := fun_mk (st := sTwPut) lW1 cW1 kpW1
  have eW1 := GW1.binds (ps := ["self", "below", "k", "bolt"]) fun _ _ _ _ _ _ us hl => match us, hl with | [_, _, _, _], _ => rfl
  have GW2 := fun_mk (st := sTwRows) lW2 cW2 kpW2
  have eW2 := GW2.binds (ps := ["self", "wish"]) fun _ _ _ _ _ _ us hl => match us, hl with | [_, _], _ => rfl
  have GW3 := fun_mk (st := sTwEntry) lW3 cW3 kpW3
  have eW3 := GW3.binds (ps := ["self", "wish"]) fun _ _ _ _ _ _ us hl => match us, hl with | [_, _], _ => rfl
  have GU1 := fun_mk (st := (nnS 0)) lU1 cU1 kpU1
  have eU1 := GU1.binds (ps := ["self"]) fun _ _ _ _ _ _ us hl => match us, hl with | [_], _ => rfl
  have GU2 := fun_mk (st := (nnS 1)) lU2 cU2 kpU2
  have eU2 := GU2.binds (ps := ["self", "k", "here", "there", "way"]) fun _ _ _ _ _ _ us hl => match us, hl with | [_, _, _, _, _], _ => rfl
  have GU3 := fun_mk (st := (nnS 2)) lU3 cU3 kpU3
  have eU3 := GU3.binds (ps := ["self", "first", "second"]) fun _ _ _ _ _ _ us hl => match us, hl with | [_, _, _], _ => rfl
  have GU4 := fun_mk (st := (nnS 3)) lU4 cU4 kpU4
  have eU4 := GU4.binds (ps := ["self", "first", "second"]) fun _ _ _ _ _ _ us hl => match us, hl with | [_, _, _], _ => rfl
  let LV : LvC K mg := ⟨CV, ⟨qVp, qVh, qVo, qVs⟩, qVn0, qVn1, qVn2, qVn3, qVn4, qVn5, qVn6, qVn7, qVn8, qVn9, qVn10, PySem.W.mg_of X G qVa, vV0, _, GV0, eV0, ⟨qVm, iV0, jV0, qVk⟩, vV2, _, GV2, eV2, ⟨iV2, jV2, kpV2⟩, vV3, _, GV3, eV3, ⟨iV3, jV3, kpV3⟩, vV4, _, GV4, eV4, ⟨iV4, jV4, kpV4⟩, vV5, _, GV5, eV5, ⟨iV5, jV5, kpV5⟩, vV6, _, GV6, eV6, ⟨iV6, jV6, kpV6⟩, vV7, _, GV7, eV7, ⟨iV7, jV7, kpV7⟩, vV8, _, GV8, eV8, ⟨iV8, jV8, kpV8⟩, vV12, _, GV12, eV12, ⟨iV12, jV12, kpV12⟩, vV13, _, GV13, eV13, ⟨iV13, jV13, kpV13⟩⟩
  let TW : TwC K mg := ⟨CW, ⟨qWp, qWh, qWo, qWs⟩, qWn0, qWn1, qWn2, qWn3, qWn4, qWn5, qWn6, PySem.W.mg_of X G qWa, vW0, _, GW0, eW0, ⟨qWm, iW0, jW0, qWk⟩, vW1, _, GW1, eW1, ⟨iW1, jW1, kpW1⟩, vW2, _, GW2, eW2, ⟨iW2, jW2, kpW2⟩, vW3, _, GW3, eW3, ⟨iW3, jW3, kpW3⟩, _, _, F33, b33, PySem.W.mg_of X G a33, _, _, F36, b36, PySem.W.mg_of X G a36, _, _, F13, b13, PySem.W.mg_of X G a13⟩
  let NO : NoC K mg := ⟨CU, ⟨qUp, qUh, qUo, qUs⟩, ⟨qUm, qUi, qUk⟩, PySem.W.mg_of X G qUa, vU1, _, GU1, eU1, ⟨iU1, jU1, kpU1⟩, vU2, _, GU2, eU2, ⟨iU2, jU2, kpU2⟩, vU3, _, GU3, eU3, ⟨iU3, jU3, kpU3⟩, vU4, _, GU4, eU4, ⟨iU4, jU4, kpU4⟩⟩
  exact ⟨_, fun t u => .of_eq rfl, fun bs _ _ => ok_law F58 D L Z LV TB TW NO⟩
end Wb

set_option Elab.async false
set_option linter.all false
set_option maxRecDepth 100000
open PySem PySem.W PyProof.Rows
set_option maxHeartbeats 0 in
theorem PySem.Challenge.cw_waitbolts_k10_whole_great_locks_holds : PySem.Challenge.rw_waitbolts_k10_whole_great_locks.Holds := by
  w_on; o_law; k_head; (case hw => w_witness2)
  k_fill
  refine Wb.walk_top (l := PySem.Challenge.rw_waitbolts_k10_whole_great_locks) (n := 63) (k := 12) (x := "_law_script") (sp := fun w => Wb.spLaw _) rfl (by decide) rfl ⟨rfl, by decide, by decide⟩ rfl (fun w h Y => PySem.W.kIn_of Y) ?F (fun w I a ns hS => ⟨a, ns, rfl, hS, fun _ => rfl⟩)
  case F =>
    intro w mg fa h KX G hmg
    refine' Wb.all_facts KX G hmg ?a3 ?l3 ?c3 ?k3 ?a4 ?l4 ?c4 ?k4 ?a5 ?l5 ?c5 ?k5 ?a6 ?l6 ?c6 ?k6 ?a13 ?l13 ?c13 ?k13 ?a21 ?l21 ?c21 ?k21 ?a22 ?l22 ?c22 ?k22 ?a23 ?l23 ?c23 ?k23 ?a24 ?l24 ?c24 ?k24 ?a25 ?l25 ?c25 ?k25 ?a26 ?l26 ?c26 ?k26 ?a41 ?l41 ?c41 ?k41 ?a42 ?l42 ?c42 ?k42 ?a43 ?l43 ?c43 ?k43 ?a44 ?l44 ?c44 ?k44 ?a45 ?l45 ?c45 ?k45 ?a46 ?l46 ?c46 ?k46 ?a47 ?l47 ?c47 ?k47 ?a48 ?l48 ?c48 ?k48 ?a49 ?l49 ?c49 ?k49 ?a50 ?l50 ?c50 ?k50 ?a51 ?l51 ?c51 ?k51 ?a52 ?l52 ?c52 ?k52 ?a53 ?l53 ?c53 ?k53 ?a54 ?l54 ?c54 ?k54 ?a55 ?l55 ?c55 ?k55 ?a56 ?l56 ?c56 ?k56 ?a57 ?l57 ?c57 ?k57 ?a7 ?l7 ?c7 ?k7 ?a27 ?l27 ?c27 ?k27 ?a37 ?l37 ?c37 ?k37 ?a39 ?l39 ?c39 ?k39 ?a34 ?l34 ?c34 ?k34 ?a35 ?l35 ?c35 ?k35 ?a33 ?l33 ?c33 ?k33 ?a36 ?l36 ?c36 ?k36 ?a58 ?l58 ?c58 ?k58 ?n0 ?n1 ?n2 ?n3 ?n4 ?n5 ?z0 ?z1 ?z2 ?z3 ?z4 ?z5 ?z6 ?z7 ?z8 ?z9 ?z10 ?z11 ?z12 ?z13 ?z14 ?z15 ?qVa ?qVp ?qVh ?qVo ?qVs ?qVm ?qVk ?qVn0 ?qVn1 ?qVn2 ?qVn3 ?qVn4 ?qVn5 ?qVn6 ?qVn7 ?qVn8 ?qVn9 ?qVn10 ?iV0 ?jV0 ?lV0 ?cV0 ?kpV0 ?iV2 ?jV2 ?lV2 ?cV2 ?kpV2 ?iV3 ?jV3 ?lV3 ?cV3 ?kpV3 ?iV4 ?jV4 ?lV4 ?cV4 ?kpV4 ?iV5 ?jV5 ?lV5 ?cV5 ?kpV5 ?iV6 ?jV6 ?lV6 ?cV6 ?kpV6 ?iV7 ?jV7 ?lV7 ?cV7 ?kpV7 ?iV8 ?jV8 ?lV8 ?cV8 ?kpV8 ?iV12 ?jV12 ?lV12 ?cV12 ?kpV12 ?iV13 ?jV13 ?lV13 ?cV13 ?kpV13 ?qWa ?qWp ?qWh ?qWo ?qWs ?qWm ?qWk ?qWn0 ?qWn1 ?qWn2 ?qWn3 ?qWn4 ?qWn5 ?qWn6 ?iW0 ?jW0 ?lW0 ?cW0 ?kpW0 ?iW1 ?jW1 ?lW1 ?cW1 ?kpW1 ?iW2 ?jW2 ?lW2 ?cW2 ?kpW2 ?iW3 ?jW3 ?lW3 ?cW3 ?kpW3 ?qUa ?qUp ?qUh ?qUo ?qUs ?qUm ?qUk ?iU1 ?jU1 ?lU1 ?cU1 ?kpU1 ?iU2 ?jU2 ?lU2 ?cU2 ?kpU2 ?iU3 ?jU3 ?lU3 ?cU3 ?kpU3 ?iU4 ?jU4 ?lU4 ?cU4 ?kpU4 ?hqa ?hqb ?qUi
    (case a3 => first | k_is | rfl | kernel_rfl)
    (case l3 => first | k_is | rfl | kernel_rfl)
    (case c3 => first | k_is | rfl | kernel_rfl)
    (case k3 => first | k_is | rfl | kernel_rfl)
    (case a4 => first | k_is | rfl | kernel_rfl)
    (case l4 => first | k_is | rfl | kernel_rfl)
    (case c4 => first | k_is | rfl | kernel_rfl)
    (case k4 => first | k_is | rfl | kernel_rfl)
    (case a5 => first | k_is | rfl | kernel_rfl)
    (case l5 => first | k_is | rfl | kernel_rfl)
    (case c5 => first | k_is | rfl | kernel_rfl)
    (case k5 => first | k_is | rfl | kernel_rfl)
    (case a6 => first | k_is | rfl | kernel_rfl)
    (case l6 => first | k_is | rfl | kernel_rfl)
    (case c6 => first | k_is | rfl | kernel_rfl)
    (case k6 => first | k_is | rfl | kernel_rfl)
    (case a13 => first | k_is | rfl | kernel_rfl)
    (case l13 => first | k_is | rfl | kernel_rfl)
    (case c13 => first | k_is | rfl | kernel_rfl)
    (case k13 => first | k_is | rfl | kernel_rfl)
    (case a21 => first | k_is | rfl | kernel_rfl)
    (case l21 => first | k_is | rfl | kernel_rfl)
    (case c21 => first | k_is | rfl | kernel_rfl)
    (case k21 => first | k_is | rfl | kernel_rfl)
    (case a22 => first | k_is | rfl | kernel_rfl)
    (case l22 => first | k_is | rfl | kernel_rfl)
    (case c22 => first | k_is | rfl | kernel_rfl)
    (case k22 => first | k_is | rfl | kernel_rfl)
    (case a23 => first | k_is | rfl | kernel_rfl)
    (case l23 => first | k_is | rfl | kernel_rfl)
    (case c23 => first | k_is | rfl | kernel_rfl)
    (case k23 => first | k_is | rfl | kernel_rfl)
    (case a24 => first | k_is | rfl | kernel_rfl)
    (case l24 => first | k_is | rfl | kernel_rfl)
    (case c24 => first | k_is | rfl | kernel_rfl)
    (case k24 => first | k_is | rfl | kernel_rfl)
    (case a25 => first | k_is | rfl | kernel_rfl)
    (case l25 => first | k_is | rfl | kernel_rfl)
    (case c25 => first | k_is | rfl | kernel_rfl)
    (case k25 => first | k_is | rfl | kernel_rfl)
    (case a26 => first | k_is | rfl | kernel_rfl)
    (case l26 => first | k_is | rfl | kernel_rfl)
    (case c26 => first | k_is | rfl | kernel_rfl)
    (case k26 => first | k_is | rfl | kernel_rfl)
    (case a41 => first | k_is | rfl | kernel_rfl)
    (case l41 => first | k_is | rfl | kernel_rfl)
    (case c41 => first | k_is | rfl | kernel_rfl)
    (case k41 => first | k_is | rfl | kernel_rfl)
    (case a42 => first | k_is | rfl | kernel_rfl)
    (case l42 => first | k_is | rfl | kernel_rfl)
    (case c42 => first | k_is | rfl | kernel_rfl)
    (case k42 => first | k_is | rfl | kernel_rfl)
    (case a43 => first | k_is | rfl | kernel_rfl)
    (case l43 => first | k_is | rfl | kernel_rfl)
    (case c43 => first | k_is | rfl | kernel_rfl)
    (case k43 => first | k_is | rfl | kernel_rfl)
    (case a44 => first | k_is | rfl | kernel_rfl)
    (case l44 => first | k_is | rfl | kernel_rfl)
    (case c44 => first | k_is | rfl | kernel_rfl)
    (case k44 => first | k_is | rfl | kernel_rfl)
    (case a45 => first | k_is | rfl | kernel_rfl)
    (case l45 => first | k_is | rfl | kernel_rfl)
    (case c45 => first | k_is | rfl | kernel_rfl)
    (case k45 => first | k_is | rfl | kernel_rfl)
    (case a46 => first | k_is | rfl | kernel_rfl)
    (case l46 => first | k_is | rfl | kernel_rfl)
    (case c46 => first | k_is | rfl | kernel_rfl)
    (case k46 => first | k_is | rfl | kernel_rfl)
    (case a47 => first | k_is | rfl | kernel_rfl)
    (case l47 => first | k_is | rfl | kernel_rfl)
    (case c47 => first | k_is | rfl | kernel_rfl)
    (case k47 => first | k_is | rfl | kernel_rfl)
    (case a48 => first | k_is | rfl | kernel_rfl)
    (case l48 => first | k_is | rfl | kernel_rfl)
    (case c48 => first | k_is | rfl | kernel_rfl)
    (case k48 => first | k_is | rfl | kernel_rfl)
    (case a49 => first | k_is | rfl | kernel_rfl)
    (case l49 => first | k_is | rfl | kernel_rfl)
    (case c49 => first | k_is | rfl | kernel_rfl)
    (case k49 => first | k_is | rfl | kernel_rfl)
    (case a50 => first | k_is | rfl | kernel_rfl)
    (case l50 => first | k_is | rfl | kernel_rfl)
    (case c50 => first | k_is | rfl | kernel_rfl)
    (case k50 => first | k_is | rfl | kernel_rfl)
    (case a51 => first | k_is | rfl | kernel_rfl)
    (case l51 => first | k_is | rfl | kernel_rfl)
    (case c51 => first | k_is | rfl | kernel_rfl)
    (case k51 => first | k_is | rfl | kernel_rfl)
    (case a52 => first | k_is | rfl | kernel_rfl)
    (case l52 => first | k_is | rfl | kernel_rfl)
    (case c52 => first | k_is | rfl | kernel_rfl)
    (case k52 => first | k_is | rfl | kernel_rfl)
    (case a53 => first | k_is | rfl | kernel_rfl)
    (case l53 => first | k_is | rfl | kernel_rfl)
    (case c53 => first | k_is | rfl | kernel_rfl)
    (case k53 => first | k_is | rfl | kernel_rfl)
    (case a54 => first | k_is | rfl | kernel_rfl)
    (case l54 => first | k_is | rfl | kernel_rfl)
    (case c54 => first | k_is | rfl | kernel_rfl)
    (case k54 => first | k_is | rfl | kernel_rfl)
    (case a55 => first | k_is | rfl | kernel_rfl)
    (case l55 => first | k_is | rfl | kernel_rfl)
    (case c55 => first | k_is | rfl | kernel_rfl)
    (case k55 => first | k_is | rfl | kernel_rfl)
    (case a56 => first | k_is | rfl | kernel_rfl)
    (case l56 => first | k_is | rfl | kernel_rfl)
    (case c56 => first | k_is | rfl | kernel_rfl)
    (case k56 => first | k_is | rfl | kernel_rfl)
    (case a57 => first | k_is | rfl | kernel_rfl)
    (case l57 => first | k_is | rfl | kernel_rfl)
    (case c57 => first | k_is | rfl | kernel_rfl)
    (case k57 => first | k_is | rfl | kernel_rfl)
    (case a7 => first | k_is | rfl | kernel_rfl)
    (case l7 => first | k_is | rfl | kernel_rfl)
    (case c7 => first | k_is | rfl | kernel_rfl)
    (case k7 => first | k_is | rfl | kernel_rfl)
    (case a27 => first | k_is | rfl | kernel_rfl)
    (case l27 => first | k_is | rfl | kernel_rfl)
    (case c27 => first | k_is | rfl | kernel_rfl)
    (case k27 => first | k_is | rfl | kernel_rfl)
    (case a37 => first | k_is | rfl | kernel_rfl)
    (case l37 => first | k_is | rfl | kernel_rfl)
    (case c37 => first | k_is | rfl | kernel_rfl)
    (case k37 => first | k_is | rfl | kernel_rfl)
    (case a39 => first | k_is | rfl | kernel_rfl)
    (case l39 => first | k_is | rfl | kernel_rfl)
    (case c39 => first | k_is | rfl | kernel_rfl)
    (case k39 => first | k_is | rfl | kernel_rfl)
    (case a34 => first | k_is | rfl | kernel_rfl)
    (case l34 => first | k_is | rfl | kernel_rfl)
    (case c34 => first | k_is | rfl | kernel_rfl)
    (case k34 => first | k_is | rfl | kernel_rfl)
    (case a35 => first | k_is | rfl | kernel_rfl)
    (case l35 => first | k_is | rfl | kernel_rfl)
    (case c35 => first | k_is | rfl | kernel_rfl)
    (case k35 => first | k_is | rfl | kernel_rfl)
    (case a33 => first | k_is | rfl | kernel_rfl)
    (case l33 => first | k_is | rfl | kernel_rfl)
    (case c33 => first | k_is | rfl | kernel_rfl)
    (case k33 => first | k_is | rfl | kernel_rfl)
    (case a36 => first | k_is | rfl | kernel_rfl)
    (case l36 => first | k_is | rfl | kernel_rfl)
    (case c36 => first | k_is | rfl | kernel_rfl)
    (case k36 => first | k_is | rfl | kernel_rfl)
    (case a58 => first | k_is | rfl | kernel_rfl)
    (case l58 => first | k_is | rfl | kernel_rfl)
    (case c58 => first | k_is | rfl | kernel_rfl)
    (case k58 => first | k_is | rfl | kernel_rfl)
    (case n0 => first | k_is | rfl | kernel_rfl)
    (case n1 => first | k_is | rfl | kernel_rfl)
    (case n2 => first | k_is | rfl | kernel_rfl)
    (case n3 => first | k_is | rfl | kernel_rfl)
    (case n4 => first | k_is | rfl | kernel_rfl)
    (case n5 => first | k_is | rfl | kernel_rfl)
    (case z0 => first | k_is | rfl | kernel_rfl)
    (case z1 => first | k_is | rfl | kernel_rfl)
    (case z2 => first | k_is | rfl | kernel_rfl)
    (case z3 => first | k_is | rfl | kernel_rfl)
    (case z4 => first | k_is | rfl | kernel_rfl)
    (case z5 => first | k_is | rfl | kernel_rfl)
    (case z6 => first | k_is | rfl | kernel_rfl)
    (case z7 => first | k_is | rfl | kernel_rfl)
    (case z8 => first | k_is | rfl | kernel_rfl)
    (case z9 => first | k_is | rfl | kernel_rfl)
    (case z10 => first | k_is | rfl | kernel_rfl)
    (case z11 => first | k_is | rfl | kernel_rfl)
    (case z12 => first | k_is | rfl | kernel_rfl)
    (case z13 => first | k_is | rfl | kernel_rfl)
    (case z14 => first | k_is | rfl | kernel_rfl)
    (case z15 => first | k_is | rfl | kernel_rfl)
    (case qVa => first | k_is | rfl | kernel_rfl)
    (case qVp => first | k_is | rfl | kernel_rfl)
    (case qVh => first | k_is | rfl | kernel_rfl)
    (case qVo => first | k_is | rfl | kernel_rfl)
    (case qVs => first | k_is | rfl | kernel_rfl)
    (case qVm => first | k_is | rfl | kernel_rfl)
    (case qVk => first | k_is | rfl | kernel_rfl)
    (case qVn0 => first | k_is | rfl | kernel_rfl)
    (case qVn1 => first | k_is | rfl | kernel_rfl)
    (case qVn2 => first | k_is | rfl | kernel_rfl)
    (case qVn3 => first | k_is | rfl | kernel_rfl)
    (case qVn4 => first | k_is | rfl | kernel_rfl)
    (case qVn5 => first | k_is | rfl | kernel_rfl)
    (case qVn6 => first | k_is | rfl | kernel_rfl)
    (case qVn7 => first | k_is | rfl | kernel_rfl)
    (case qVn8 => first | k_is | rfl | kernel_rfl)
    (case qVn9 => first | k_is | rfl | kernel_rfl)
    (case qVn10 => first | k_is | rfl | kernel_rfl)
    (case iV0 => first | k_is | rfl | kernel_rfl)
    (case jV0 => first | k_is | rfl | kernel_rfl)
    (case lV0 => first | k_is | rfl | kernel_rfl)
    (case cV0 => first | k_is | rfl | kernel_rfl)
    (case kpV0 => first | k_is | rfl | kernel_rfl)
    (case iV2 => first | k_is | rfl | kernel_rfl)
    (case jV2 => first | k_is | rfl | kernel_rfl)
    (case lV2 => first | k_is | rfl | kernel_rfl)
    (case cV2 => first | k_is | rfl | kernel_rfl)
    (case kpV2 => first | k_is | rfl | kernel_rfl)
    (case iV3 => first | k_is | rfl | kernel_rfl)
    (case jV3 => first | k_is | rfl | kernel_rfl)
    (case lV3 => first | k_is | rfl | kernel_rfl)
    (case cV3 => first | k_is | rfl | kernel_rfl)
    (case kpV3 => first | k_is | rfl | kernel_rfl)
    (case iV4 => first | k_is | rfl | kernel_rfl)
    (case jV4 => first | k_is | rfl | kernel_rfl)
    (case lV4 => first | k_is | rfl | kernel_rfl)
    (case cV4 => first | k_is | rfl | kernel_rfl)
    (case kpV4 => first | k_is | rfl | kernel_rfl)
    (case iV5 => first | k_is | rfl | kernel_rfl)
    (case jV5 => first | k_is | rfl | kernel_rfl)
    (case lV5 => first | k_is | rfl | kernel_rfl)
    (case cV5 => first | k_is | rfl | kernel_rfl)
    (case kpV5 => first | k_is | rfl | kernel_rfl)
    (case iV6 => first | k_is | rfl | kernel_rfl)
    (case jV6 => first | k_is | rfl | kernel_rfl)
    (case lV6 => first | k_is | rfl | kernel_rfl)
    (case cV6 => first | k_is | rfl | kernel_rfl)
    (case kpV6 => first | k_is | rfl | kernel_rfl)
    (case iV7 => first | k_is | rfl | kernel_rfl)
    (case jV7 => first | k_is | rfl | kernel_rfl)
    (case lV7 => first | k_is | rfl | kernel_rfl)
    (case cV7 => first | k_is | rfl | kernel_rfl)
    (case kpV7 => first | k_is | rfl | kernel_rfl)
    (case iV8 => first | k_is | rfl | kernel_rfl)
    (case jV8 => first | k_is | rfl | kernel_rfl)
    (case lV8 => first | k_is | rfl | kernel_rfl)
    (case cV8 => first | k_is | rfl | kernel_rfl)
    (case kpV8 => first | k_is | rfl | kernel_rfl)
    (case iV12 => first | k_is | rfl | kernel_rfl)
    (case jV12 => first | k_is | rfl | kernel_rfl)
    (case lV12 => first | k_is | rfl | kernel_rfl)
    (case cV12 => first | k_is | rfl | kernel_rfl)
    (case kpV12 => first | k_is | rfl | kernel_rfl)
    (case iV13 => first | k_is | rfl | kernel_rfl)
    (case jV13 => first | k_is | rfl | kernel_rfl)
    (case lV13 => first | k_is | rfl | kernel_rfl)
    (case cV13 => first | k_is | rfl | kernel_rfl)
    (case kpV13 => first | k_is | rfl | kernel_rfl)
    (case qWa => first | k_is | rfl | kernel_rfl)
    (case qWp => first | k_is | rfl | kernel_rfl)
    (case qWh => first | k_is | rfl | kernel_rfl)
    (case qWo => first | k_is | rfl | kernel_rfl)
    (case qWs => first | k_is | rfl | kernel_rfl)
    (case qWm => first | k_is | rfl | kernel_rfl)
    (case qWk => first | k_is | rfl | kernel_rfl)
    (case qWn0 => first | k_is | rfl | kernel_rfl)
    (case qWn1 => first | k_is | rfl | kernel_rfl)
    (case qWn2 => first | k_is | rfl | kernel_rfl)
    (case qWn3 => first | k_is | rfl | kernel_rfl)
    (case qWn4 => first | k_is | rfl | kernel_rfl)
    (case qWn5 => first | k_is | rfl | kernel_rfl)
    (case qWn6 => first | k_is | rfl | kernel_rfl)
    (case iW0 => first | k_is | rfl | kernel_rfl)
    (case jW0 => first | k_is | rfl | kernel_rfl)
    (case lW0 => first | k_is | rfl | kernel_rfl)
    (case cW0 => first | k_is | rfl | kernel_rfl)
    (case kpW0 => first | k_is | rfl | kernel_rfl)
    (case iW1 => first | k_is | rfl | kernel_rfl)
    (case jW1 => first | k_is | rfl | kernel_rfl)
    (case lW1 => first | k_is | rfl | kernel_rfl)
    (case cW1 => first | k_is | rfl | kernel_rfl)
    (case kpW1 => first | k_is | rfl | kernel_rfl)
    (case iW2 => first | k_is | rfl | kernel_rfl)
    (case jW2 => first | k_is | rfl | kernel_rfl)
    (case lW2 => first | k_is | rfl | kernel_rfl)
    (case cW2 => first | k_is | rfl | kernel_rfl)
    (case kpW2 => first | k_is | rfl | kernel_rfl)
    (case iW3 => first | k_is | rfl | kernel_rfl)
    (case jW3 => first | k_is | rfl | kernel_rfl)
    (case lW3 => first | k_is | rfl | kernel_rfl)
    (case cW3 => first | k_is | rfl | kernel_rfl)
    (case kpW3 => first | k_is | rfl | kernel_rfl)
    (case qUa => first | k_is | rfl | kernel_rfl)
    (case qUp => first | k_is | rfl | kernel_rfl)
    (case qUh => first | k_is | rfl | kernel_rfl)
    (case qUo => first | k_is | rfl | kernel_rfl)
    (case qUs => first | k_is | rfl | kernel_rfl)
    (case qUm => first | k_is | rfl | kernel_rfl)
    (case qUk => first | k_is | rfl | kernel_rfl)
    (case iU1 => first | k_is | rfl | kernel_rfl)
    (case jU1 => first | k_is | rfl | kernel_rfl)
    (case lU1 => first | k_is | rfl | kernel_rfl)
    (case cU1 => first | k_is | rfl | kernel_rfl)
    (case kpU1 => first | k_is | rfl | kernel_rfl)
    (case iU2 => first | k_is | rfl | kernel_rfl)
    (case jU2 => first | k_is | rfl | kernel_rfl)
    (case lU2 => first | k_is | rfl | kernel_rfl)
    (case cU2 => first | k_is | rfl | kernel_rfl)
    (case kpU2 => first | k_is | rfl | kernel_rfl)
    (case iU3 => first | k_is | rfl | kernel_rfl)
    (case jU3 => first | k_is | rfl | kernel_rfl)
    (case lU3 => first | k_is | rfl | kernel_rfl)
    (case cU3 => first | k_is | rfl | kernel_rfl)
    (case kpU3 => first | k_is | rfl | kernel_rfl)
    (case iU4 => first | k_is | rfl | kernel_rfl)
    (case jU4 => first | k_is | rfl | kernel_rfl)
    (case lU4 => first | k_is | rfl | kernel_rfl)
    (case cU4 => first | k_is | rfl | kernel_rfl)
    (case kpU4 => first | k_is | rfl | kernel_rfl)
    (case hqa => first | k_is | rfl | kernel_rfl)
    (case hqb => first | k_is | rfl | kernel_rfl)
    (case qUi => first | k_is | rfl | kernel_rfl)

