import PyProof.Rows.All
import Wide.All
import OpenK.AllK
import Wide.FinOn
import PySem.Challenge.RW_waitbolts_k01_what_is_a_lock
import HandS.Evl
import HandS.Ends
import HandS.Words
import HandS.TupSets
import PyProof.ReprRoads
import PyProof.P3In
import KE.GoesEnum
import HandS.Walk
import HandS.Zip
import KE.GoesMore
import PyProof.EnumMake
import HandS.TupLe
import HandS.TupAny
import HandS.Deep
import HandS.DictComp
import HandS.IsInst
import HandS.RevRange
import HandS.Conv
import HandS.Style
import HandS.Wide
import HandS.WideMore
import HandS.Dict
import HandS.Comp
import HandS.Flow
import HandS.WordsList
import HandS.WordsDict
import HandS.Exc
import HandS.ExcOwn
import HandS.Sort
import HandS.Keys
import PyProof.StrLawsRepr
import KE.KRevSl
import PyProof.Rows.ReprOcc
import PyProof.Rows.IntBool
import HandS.Codes
import HandS.TupMul
set_option Elab.async false
set_option linter.all false
set_option maxRecDepth 100000
set_option maxHeartbeats 2000000
namespace Wb
open PySem PySem.Spec PyProof.Rows L2

/-! ### promises that know that no repr runs around them -/
structure FnG (P : Program) (w : World) (K : PySem.W.Frag) (mg : Str → Option Value) (base : Heap) (k : Nat) (f : Addr) (fd : FuncData) (ps : List Str) (sp : Sp) : Prop where
  len : ∀ vs H Q E, sp vs H Q E → vs.length = ps.length
  go : ∀ (A : Around) (outer : List Env) (s : Shared) (H : Hp) (args : Args) (us : List Value) (vs : List V) (Q : VK) (E : XK),
    A.guards = some [] → Room k A → Env0 P w K mg base A outer s H → BindsTo s fd args (ps.zip us) → Vals vs us → sp vs H Q E →
    codeAny (model P w) A (.call (.ref f) args) (CR CX0 outer P w H s Q E) s

section
variable {P : Program} {w : World} {K : PySem.W.Frag} {mg : Str → Option Value} {base : Heap}
theorem fnG_ok {x qual : Str} {st : Stmt} {f : Addr} {fd : FuncData} {N ps : List Str} {k : Nat} {sp : Sp} (F : Fun K x qual st f fd)
    (S : FnScope N ps (defScope st)) (len : ∀ vs H Q E, sp vs H Q E → vs.length = ps.length)
    (hbody : ∀ (cdv : Value) (A : Around) (outer : List Env) (s : Shared) (H : Hp) (vs : List V) (Q : VK) (E : XK), A.guards = some [] →
      Room k (A.deeper (envOfC qual (defScope st) s.heap.objs.size f cdv)) → sp vs H Q E →
      ∃ t, PSs (cxOf CX0 P w K mg base N qual (defScope st) f cdv A outer s H E).nox (defBody st) t ∧
        t { nx := fun _ H' => Q .non H', rt := Q } (start N vs) H) : FnG P w K mg base (k + 1) f fd ps sp := by
  obtain ⟨oc, od, kV, doc, pm, an, cdv, ct, osl, rfl, lk, hcd⟩ := F.ex
  refine ⟨len, ?_⟩
  intro A outer s H args us vs Q E hgd hr e0 hb r hsp
  have e1 : K.In s.heap := e0.mod.kin.keeps (fun b o e => (e0.bs b o e).1)
  have e2 : s.heap.NoLimit := e0.mod.nolimit.keeps (fun b o e => (e0.bs b o e).1)
  have kinds : ∀ y ∈ ps.zip us, (defScope st).names.lookup y.1 = some .local ∨
      ((defScope st).names.lookup y.1 = some .cell ∧ ((cellsFrom (s.heap.objs.size + 1) (defScope st).names []).lookup y.1).isSome = true) := by
    rintro ⟨n, v⟩ hy
    cases S.par n (List.of_mem_zip hy).1 with
    | inl q => exact .inl q
    | inr q => exact .inr ⟨q, PySem.W.cellsFrom_some _ _ _ (.inl q)⟩
  apply codeAny_call_function hr.depth (e1 _ _ lk) rfl S.co S.gen rfl (PySem.W.codeRec_of e1 hcd)
  apply hb
  apply wpAny_newFunctionEnv_cells S.kind kinds
  intro env he s1 x
  subst he
  refine ⟨e2.keeps x.toInCall.keep, codeAny_func ?_⟩
  obtain ⟨t, ht, hq⟩ := hbody cdv A outer s H vs Q E hgd (hr.deeper _) hsp
  have I := inv_start (CX := CX0) (P := P) (w := w) (qual := qual) (E := E) S hr.hd e0 (len _ _ _ _ hsp) r x
  apply wpAny_mono (ht.nox.run [] s1 (start N vs) H _ I hq)
  · intro fl s' hs
    cases fl
    case next =>
      obtain ⟨σ', H', J, q⟩ := hs
      exact ⟨V.non, H', J.os, J.bare, J.base, J.hok, rfl, q⟩
    case brk => obtain ⟨_, _, _, q⟩ := hs; exact q.elim
    case cont => obtain ⟨_, _, _, q⟩ := hs; exact q.elim
    case ret u =>
      obtain ⟨v, σ', H', J, rv, q⟩ := hs
      exact ⟨v, H', J.os, J.bare, J.base, J.hok, rv, q⟩
  · intro e s' hs
    exact hs
end

section
variable {X : Cx}
/-! ### repr of data -/
def rRepr (K : PySem.W.Frag) : List V → Hp → VK → Prop := fun xs H Q => ∃ (a : Addr) (d : PyData), xs = [.ref a] ∧ Dp K H (.ref a) d ∧ d.showable = true ∧ d.hasDict = false ∧ d.depth ≤ 20 ∧ d.shown.length ≤ sizeLine ∧ Q (.str d.shown) H
theorem call_repr_data (hu : X.A.units + 64 < cLine) (hg : X.A.guards = some []) : CallR X (.builtin "repr") (rRepr X.K) := by
  intro pins s σ H xs us Q I r h
  obtain ⟨a, d, rfl, hd, h1, h2, h3, h4, q⟩ := h
  cases r with
  | cons r1 r2 =>
    cases r2
    obtain ⟨as, rd⟩ := Dp.reads I d _ _ hd r1
    cases r1
    refine repr_of_reads' rd h1 (fun z => by rw [h2] at z; cases z) hg (by omega) (fun _ _ e => e) (fun h' u tk hk => ?_) h4
    exact ⟨.str d.shown, H, I.kept (t' := tk) hk, ⟨u, rfl⟩, q⟩
/-! ### x in a tuple of data -/
def rInTD (K : PySem.W.Frag) : R2 := fun x y H Q => ∃ d ds, Dp K H x d ∧ Dp K H y (.tuple ds) ∧ SeqAt.shaped d = true ∧ SeqAt.shaped (.tuple ds) = true ∧ Q (.bl (ds.any fun z => PyData.eqv z d)) H
theorem op_inTD (hu : X.A.units + 65 < cLine) : OpR X (compareOp .In) (rInTD X.K) := by
  intro pins s σ H x y v u Q I rx ry h
  obtain ⟨d, ds, hd, he, sd, se, q⟩ := h
  obtain ⟨as, r1⟩ := Dp.reads I d x v hd rx
  obtain ⟨bs, r2⟩ := Dp.reads I (.tuple ds) y u he ry
  have hdp := SeqAt.depth_of_shaped sd
  have hcl : PyData.canLayAll0 ds = true := by
    have z := SeqAt.canLay_of_shaped se
    simpa [PyData.canLay0] using z
  refine SeqAt.in_tuple_reads r2 r1 hcl (SeqAt.canLay_of_shaped sd) (by show X.A.units + 1 + min _ _ < cLine; omega) ⟨.bl _, H, I, rfl, q⟩
end
end Wb

set_option Elab.async false
set_option linter.all false
set_option maxRecDepth 100000
set_option maxHeartbeats 2000000
namespace Wb
open PySem PySem.Spec PyProof.Rows L2

/-! ### a list or a tuple that is read: l tells which -/
def SqX (K : PySem.W.Frag) (l : Bool) (H : Hp) (a : Addr) (xs : List V) : Prop := if l = true then SqL K H a xs else SqT K H a xs
def ItAt (l : Bool) (h : Heap) (it a : Addr) (i : Nat) : Prop := if l = true then h.IsListIter it a i else h.IsTupleIter it a i
def SqAt (l : Bool) (h : Heap) (a : Addr) (us : Array Value) : Prop := if l = true then h.IsList a us else h.IsTuple a us
def itObj (l : Bool) (a : Addr) : Obj := if l = true then { cls := .type "list_iterator", data := .fields #[.ref a, .int 0 0] } else { cls := .type "tuple_iterator", data := .fields #[.ref a, .int 0 0] }

theorem itObj_at (l : Bool) {h : Heap} {it a : Addr} (e : h.get? it = some (itObj l a)) : ItAt l h it a 0 := by
  cases l
  · exact ⟨_, e, rfl, rfl⟩
  · exact ⟨_, e, rfl, rfl⟩
theorem ItAt.obj {l : Bool} {h : Heap} {it a : Addr} {i : Nat} (x : ItAt l h it a i) : ∃ o, h.get? it = some o ∧ ∀ v, o.data ≠ .cell v := by
  cases l
  · obtain ⟨o, e, _, d⟩ := x
    exact ⟨o, e, fun v q => by rw [d] at q; cases q⟩
  · obtain ⟨o, e, _, d⟩ := x
    exact ⟨o, e, fun v q => by rw [d] at q; cases q⟩
theorem ItAt.keep {l : Bool} {h h' : Heap} {it a : Addr} {i : Nat} (x : ItAt l h it a i) (k : ∀ o, h.get? it = some o → h'.get? it = some o) : ItAt l h' it a i := by
  cases l
  · exact Heap.IsTupleIter.at x k
  · exact Heap.IsListIter.at x k
theorem draws_at {prog : Program} {w : World} {A : Around} (hh : A.handled = none) (l : Bool) (it a : Addr) (hne : a ≠ it) (us : Array Value) :
    Draws prog w A it [it, a] us.size (fun i v => us[i]? = some v) (fun i h => ItAt l h it a i ∧ SqAt l h a us) := by
  cases l
  · exact Draws.tuple hh it a hne us
  · exact Draws.list hh it a hne us
theorem begins_at (l : Bool) (a : Addr) (us : Array Value) : Begins (.ref a) (itObj l a) (fun h => SqAt l h a us) := by
  cases l
  · exact begins_tuple a us
  · exact begins_list a us
section
variable {X : Cx} {pins : List (Addr × Obj)} {σ : L2.St} {H : Hp} {s : Shared}
theorem sqx_vals (I : Inv X pins σ H s) {l : Bool} {a : Addr} {xs : List V} (h : SqX X.K l H a xs) : ∃ us : List Value, Vals xs us ∧ SqAt l s.heap a us.toArray ∧ a < s.heap.objs.size := by
  cases l
  · obtain ⟨us, r, p, _⟩ := I.tuple (a := a) (xs := xs) h
    have p' : s.heap.IsTuple a us.toArray := p
    obtain ⟨o, e, _⟩ := p
    exact ⟨us, r, p', Heap.lt_size e⟩
  · obtain ⟨us, r, p, _⟩ := I.list (a := a) (xs := xs) h
    exact ⟨us, r, p.isList, p.lt⟩
theorem sqx_one (I : Inv X pins σ H s) {l : Bool} {a : Addr} {xs ys : List V} (h : SqX X.K l H a xs) (h' : SqX X.K l H a ys) : xs = ys := by
  cases l
  · exact I.tuple_inj (a := a) h h'
  · exact I.list_inj (a := a) h h'
end

/-! ### zip over any two of them -/
def Itzx (K : PySem.W.Frag) (l m : Bool) (a b : Addr) : It :=
  ⟨fun i H => ∃ (xs ys : List V) (x y : V), SqX K l H a xs ∧ SqX K m H b ys ∧ xs[i]? = some x ∧ ys[i]? = some y,
   fun i H v H' => ∃ T x y, v = .ref T ∧ H T = none ∧ H' = upd H T (.tup [x, y]) ∧ (∀ xs, SqX K l H a xs → xs[i]? = some x) ∧ ∀ ys, SqX K m H b ys → ys[i]? = some y,
   fun i H => ∃ xs ys : List V, SqX K l H a xs ∧ SqX K m H b ys ∧ (i = xs.length ∧ i ≤ ys.length ∨ i = ys.length ∧ i ≤ xs.length)⟩
structure Apart5 (z TI TO i1 i2 a b : Addr) : Prop where
  sep : ZipSep2 z TI TO i1 i2 [i1, a] [i2, b]
  n1 : a ≠ i1
  n2 : b ≠ i2
theorem turn_zx {P : Program} {w : World} {K : PySem.W.Frag} {elts : List Expr} {kk : Nat} {tpos : Pos} {a b z TI TO i1 i2 : Addr} {l m : Bool} (D : Apart5 z TI TO i1 i2 a b) :
    Turn P w K (.Tuple elts kk tpos) (Itzx K l m a b) [z, TI, TO, i1, i2] z
      (fun i h => IsZip h z TI TO .none ∧ IsTupOf2 h TI (.ref i1) (.ref i2) ∧ (∃ x y, IsTupOf2 h TO x y) ∧ ItAt l h i1 a i ∧ ItAt m h i2 b i) where
  mem := by simp
  obj := by
    rintro i h ⟨q1, q2, ⟨x, y, q3⟩, q4, q5⟩ c hc
    simp only [List.mem_cons, List.not_mem_nil, or_false] at hc
    rcases hc with rfl | rfl | rfl | rfl | rfl
    · exact ⟨_, q1, fun v q => nomatch q⟩
    · exact ⟨_, q2, fun v q => nomatch q⟩
    · exact ⟨_, q3, fun v q => nomatch q⟩
    · exact q4.obj
    · exact q5.obj
  keep := by
    rintro i h h' ⟨q1, q2, ⟨x, y, q3⟩, q4, q5⟩ k
    exact ⟨k _ (by simp) _ q1, k _ (by simp) _ q2, ⟨x, y, k _ (by simp) _ q3⟩, q4.keep (k i1 (by simp)), q5.keep (k i2 (by simp))⟩
  item := by
    intro X hP hw hK hc i pins s σ H E I hf st hg
    subst hP hw hK
    obtain ⟨q1, q2, ⟨x0, y0, q3⟩, q4, q5⟩ := st
    obtain ⟨xs, ys, x, y, hx, hy, ex, ey⟩ := hg
    obtain ⟨us, r1, p1, lt1⟩ := sqx_vals I hx
    obtain ⟨vs, r2, p2, lt2⟩ := sqx_vals I hy
    obtain ⟨u, hu, ru⟩ := r1.get ex
    obtain ⟨v, hv, rv⟩ := r2.get ey
    have hh : X.A.in1.handled = none := I.ok.hd hc
    have g1 := draws_at (prog := X.prog) (w := X.w) hh l i1 a D.n1 us.toArray
    have g2 := draws_at (prog := X.prog) (w := X.w) hh m i2 b D.n2 vs.toArray
    have b1 : i < us.toArray.size := by
      have := (List.getElem?_eq_some_iff.mp hu).1
      simpa using this
    have b2 : i < vs.toArray.size := by
      have := (List.getElem?_eq_some_iff.mp hv).1
      simpa using this
    have zl : z < s.heap.objs.size := Heap.lt_size q1
    refine wpAny_pyNext_zipD2_item D.sep g1 g2 q1 q2 q3 ⟨q4, p1⟩ ⟨q5, p2⟩ b1 b2 ?_
    intro u' v' h' tk eu ev z' TO' t1 t2 hT hsz hk
    have eu' : u' = u := by
      have e : us[i]? = some u' := by simpa using eu
      exact Option.some.inj (e.symm.trans hu)
    have ev' : v' = v := by
      have e : vs[i]? = some v' := by simpa using ev
      exact Option.some.inj (e.symm.trans hv)
    subst eu'
    subst ev'
    refine ⟨_, rfl, wpAny_letOwnedTupleGo_zip (s := { s with heap := h', toks := tk }) z' ?_⟩
    intro h2 z2 sb
    have keepT : h2.get? s.heap.objs.size = some { cls := .type "tuple", data := .seq #[u', v'] } := (sb.2 _ (Nat.ne_of_gt zl)).trans hT
    have all : ∀ c o, c ∉ [z, TI, TO, i1, i2] → s.heap.get? c = some o → h2.get? c = some o := by
      intro c o hc e
      simp only [List.mem_cons, List.not_mem_nil, or_false, not_or] at hc
      exact (sb.2 c hc.1).trans (hk c o hc.1 hc.2.2.1 hc.2.2.2.1 hc.2.2.2.2 e)
    have new : ObjOk X.prog X.w (upd H s.heap.objs.size (.tup [x, y])) h2 s.heap.objs.size (.tup [x, y]) :=
      ⟨(by decide : 2 ≤ sizeLine), [u', v'], Paired.cons ru (Paired.cons rv Paired.nil), ⟨_, keepT, rfl, _, rfl⟩⟩
    have J := I.turnedNew (t' := tk) all hf (Nat.le_refl _) new
    refine ⟨.ref s.heap.objs.size, _, J, rfl, ⟨_, x, y, rfl, I.hok.fresh (Nat.le_refl _), rfl, fun xs' h1 => ?_, fun ys' h1 => ?_⟩, ⟨z2, ?_, ⟨u', v', ?_⟩, ?_, ?_⟩, fun c hc => ?_⟩
    · rw [sqx_one I h1 hx]; exact ex
    · rw [sqx_one I h1 hy]; exact ey
    · exact (sb.2 _ D.sep.TIz).trans (hk _ _ D.sep.TIz D.sep.TITO D.sep.TIi1 D.sep.TIi2 q2)
    · exact (sb.2 _ D.sep.TOz).trans TO'
    · exact t1.1.keep fun o e => (sb.2 _ (Ne.symm D.sep.zi1)).trans e
    · exact t2.1.keep fun o e => (sb.2 _ (Ne.symm D.sep.zi2)).trans e
    · have hlt : c < s.heap.objs.size := by
        simp only [List.mem_cons, List.not_mem_nil, or_false] at hc
        rcases hc with rfl | rfl | rfl | rfl | rfl
        · exact zl
        · exact Heap.lt_size q2
        · exact Heap.lt_size q3
        · obtain ⟨o, e, _⟩ := q4.obj; exact Heap.lt_size e
        · obtain ⟨o, e, _⟩ := q5.obj; exact Heap.lt_size e
      rw [upd_ne (Nat.ne_of_lt hlt)]
      exact (hf c hc).1
  done := by
    intro X hP hw hK hc i pins s σ H E I hf st hg
    subst hP hw hK
    obtain ⟨q1, q2, ⟨x0, y0, q3⟩, q4, q5⟩ := st
    obtain ⟨xs, ys, hx, hy, he⟩ := hg
    obtain ⟨us, r1, p1, lt1⟩ := sqx_vals I hx
    obtain ⟨vs, r2, p2, lt2⟩ := sqx_vals I hy
    have hh : X.A.in1.handled = none := I.ok.hd hc
    have g1 := draws_at (prog := X.prog) (w := X.w) hh l i1 a D.n1 us.toArray
    have g2 := draws_at (prog := X.prog) (w := X.w) hh m i2 b D.n2 vs.toArray
    have e1 : us.toArray.size = xs.length := by rw [List.size_toArray, r1.length]
    have e2 : vs.toArray.size = ys.length := by rw [List.size_toArray, r2.length]
    refine wpAny_pyNext_zipD2_end D.sep g1 g2 q1 q2 q3 ⟨q4, p1⟩ ⟨q5, p2⟩ (by omega) (by omega) (by omega) ?_
    intro h' tk hk
    refine ⟨rfl, I.turnedL (t' := tk) (ch := [z, TI, TO, i1, i2]) (fun c o hc e => ?_) hf⟩
    simp only [List.mem_cons, List.not_mem_nil, or_false, not_or] at hc
    exact hk c o hc.1 hc.2.2.1 hc.2.2.2.1 hc.2.2.2.2 e
  self := fun A i s Q E st h => wpAny_pyIter_zip st.1 h

def iZipX (K : PySem.W.Frag) (ta : TA) : TI := fun σ H R => ta σ H fun vs H1 => ∃ l m a b xs ys, vs = [.ref a, .ref b] ∧ SqX K l H1 a xs ∧ SqX K m H1 b ys ∧ R (Itzx K l m a b) H1
theorem pi_zipX {X : Cx} {e e2 : Expr} {ta : TA} {p pos tpos : Pos} {elts : List Expr} {kk : Nat} (hg : Gl X "zip") (hm : X.mg "zip" = none) (ha : PA X [e, e2] ta)
    (hs : starEach [e, e2] X.env = (false, eval e X.env) :: starEach [e2] X.env := by rfl) (hpl : (backTo pos (starEach [e2] X.env)).any (·.1) = false := by rfl) :
    PI X (.Tuple elts kk tpos) (.Call (.Name "zip" p) [e, e2] [] pos) (iZipX X.K ta) := by
  constructor
  intro pins s σ H R I h
  refine Call_ (ld_blt I hg hm PyProof.Rows.boot_zip (PyProof.Rows.callWith_type1 (thn (ha.run pos pins s σ H _ I h) ?_) hs hpl))
  rintro us s1 ⟨vs, H1, I1, r1, l, m, a, b, xs, ys, rfl, hx, hy, q⟩
  obtain ⟨us1, w1, p1, lt1⟩ := sqx_vals I1 hx
  obtain ⟨us2, w2, p2, lt2⟩ := sqx_vals I1 hy
  rcases r1 with _ | ⟨ra, r1⟩
  rcases r1 with _ | ⟨rb, r1⟩
  cases r1
  cases ra
  cases rb
  refine zip_begins2 (begins_at l a us1.toArray) (begins_at m b us2.toArray) p1 p2 ?_
  intro h' hz hTI hTO h1 h2 hsz hk
  refine wpAny_pyIter_zip hz ?_
  have I2 : Inv X pins σ H1 { s1 with heap := h' } := I1.kept (t' := s1.toks) hk
  have D : Apart5 (s1.heap.objs.size + 4) (s1.heap.objs.size + 2) (s1.heap.objs.size + 3) s1.heap.objs.size (s1.heap.objs.size + 1) a b :=
    ⟨zip_sep2 (N := s1.heap.objs.size) (fp1 := [a]) (fp2 := [b]) (by simpa using lt1) (by simpa using lt2), Nat.ne_of_lt lt1, Nat.ne_of_lt (Nat.lt_succ_of_lt lt2)⟩
  refine ⟨s1.heap.objs.size + 4, [s1.heap.objs.size + 4, s1.heap.objs.size + 2, s1.heap.objs.size + 3, s1.heap.objs.size, s1.heap.objs.size + 1], _, _, H1, rfl, I2, turn_zx D, ⟨hz, hTI, ⟨_, _, hTO⟩, itObj_at l h1, itObj_at m h2⟩, ?_, q⟩
  intro c hc
  have hle : s1.heap.objs.size ≤ c := by
    simp only [List.mem_cons, List.not_mem_nil, or_false] at hc
    rcases hc with rfl | rfl | rfl | rfl | rfl
    · exact Nat.le_add_right _ _
    · exact Nat.le_add_right _ _
    · exact Nat.le_add_right _ _
    · exact Nat.le_refl _
    · exact Nat.le_add_right _ _
  exact I1.fpOk hle (I1.hok.fresh hle)
theorem walk_zx {K : PySem.W.Frag} {l m : Bool} {a b : Addr} {xs ys : List V} (hl : xs.length = ys.length) :
    Walk (Itzx K l m a b) xs.length (fun H => SqX K l H a xs ∧ SqX K m H b ys) (YPair (fun i => xs[i]?) (fun i => ys[i]?)) := by
  refine ⟨fun i H hi q => ?_, fun H q => ⟨xs, ys, q.1, q.2, .inl ⟨rfl, by omega⟩⟩, fun i H v H' hi q y => ?_⟩
  · have h2 : i < ys.length := by omega
    exact ⟨xs, ys, xs[i], ys[i], q.1, q.2, by simp [hi], by simp [h2]⟩
  · obtain ⟨T, x, z, h1, h2, h3, h4, h5⟩ := y
    exact ⟨T, x, z, h1, h2, h3, h4 xs q.1, h5 ys q.2⟩

/-! ### enumerate over either -/
def Itex (K : PySem.W.Frag) (l : Bool) (a : Addr) : It :=
  ⟨fun i H => ∃ (xs : List V) (x : V), SqX K l H a xs ∧ xs[i]? = some x,
   fun i H v H' => ∃ T x, v = .ref T ∧ H T = none ∧ H' = upd H T (.tup [.int (i : Nat), x]) ∧ ∀ xs, SqX K l H a xs → xs[i]? = some x,
   fun i H => ∃ xs : List V, SqX K l H a xs ∧ i = xs.length⟩
end Wb

set_option Elab.async false
set_option linter.all false
set_option maxRecDepth 100000
set_option maxHeartbeats 2000000
namespace Wb
open PySem PySem.Spec PyProof.Rows L2
open AutoSeq1 (wpAny_loadPart')

theorem meets_enumT (a : Addr) (us : Array Value) (n : Nat) (dct : Option Addr) (sl : Array (Option Value)) :
    Meets (Builtin.«enumerate.__new__» ⟨[.type "enumerate", .ref a], []⟩) (fun _ R s => s.heap.get? a = some { cls := .type "tuple", dict := dct, data := .seq us n, slots := sl } ∧
      R (.ok (.ret (.ref (s.heap.push (itObj false a)).objs.size)))
        { s with heap := (s.heap.push (itObj false a)).push { cls := .type "enumerate", data := .fields #[.none, .bool false, .ref s.heap.objs.size, rawInt 0, .none, .none] } }) := by
  apply Meets.of_wp
  intro prog w A R s h
  obtain ⟨hp, g, d, tk, os⟩ := s
  obtain ⟨hl, h⟩ := h
  have hsub := sub_enumerate
  have hT : Heap.IsTuple (Shared.heap ⟨hp, g, d, tk, os⟩) a us := ⟨_, hl, rfl, n, rfl⟩
  wp_walk using wpAny_loadPart' hl
  apply wpAny_stack_any
  intro st
  apply wpAny_pure
  split
  · rename_i c _ _ _ _ _
    cases (c == Value.type "enumerate") <;> wp_walk using wpAny_loadPart' hl, wpAny_pyIter_tuple hT
    · exact ⟨_, rfl, h⟩
    · exact ⟨_, rfl, h⟩
  · wp_walk using wpAny_loadPart' hl, wpAny_pyIter_tuple hT
    exact ⟨_, rfl, h⟩
theorem call_enumT {prog : Program} {w : World} {A : Around} {E : Value → Shared → Prop} {s : Shared} {a : Addr} {us : Array Value} {Q : Value → Shared → Prop} (hT : s.heap.IsTuple a us)
    (h : ∀ h', IsEnum h' (s.heap.objs.size + 1) s.heap.objs.size 0 .none → ItAt false h' s.heap.objs.size a 0 → (∀ b o, s.heap.get? b = some o → h'.get? b = some o) → Q (.ref (s.heap.objs.size + 1)) { s with heap := h' }) :
    wpAny (model prog w) A (call (.type "enumerate") [.ref a]) Q E s := by
  obtain ⟨⟨c, dct, dt, sl⟩, hl, hc, n, hd⟩ := hT
  have hc' : c = .type "tuple" := hc
  have hd' : dt = .seq us n := hd
  subst hc' hd'
  refine callType_new F.called_enumerate (by decide) (F.typeCall_enumerate_1 _) (F.newCall_enumerate_1 _) (fun obj => F.args_object_init_2 obj _) F.entry_enumerate_new (meets_enumT a us n dct sl) ⟨hl, ?_⟩
  have sz : (s.heap.push (itObj false a)).objs.size = s.heap.objs.size + 1 := Heap.size_push ..
  have e0 := Heap.get?_push_size (s.heap.push (itObj false a)) (o := { cls := .type "enumerate", data := .fields #[.none, .bool false, .ref s.heap.objs.size, rawInt 0, .none, .none] }) rfl
  rw [sz] at e0
  show _ ∧ _
  rw [sz]
  exact ⟨⟨_, e0, rfl⟩, h _ e0 (itObj_at false (Heap.get?_push_of_some _ (Heap.get?_push_size _ rfl))) fun b o x => Heap.get?_push_of_some _ (Heap.get?_push_of_some _ x)⟩

/-- the tuple at a, item by item, each in a new pair with its number -/
def Itet (K : PySem.W.Frag) (a : Addr) : It :=
  ⟨fun i H => ∃ (xs : List V) (x : V), SqT K H a xs ∧ xs[i]? = some x,
   fun i H v H' => ∃ T x, v = .ref T ∧ H T = none ∧ H' = upd H T (.tup [.int (i : Nat), x]) ∧ ∀ xs, SqT K H a xs → xs[i]? = some x,
   fun i H => ∃ xs : List V, SqT K H a xs ∧ i = xs.length⟩
theorem turn_et {P : Program} {w : World} {K : PySem.W.Frag} {elts : List Expr} {kk : Nat} {tpos : Pos} (a e it : Addr) (hne : e ≠ it) (hea : e ≠ a) (hia : a ≠ it) :
    Turn P w K (.Tuple elts kk tpos) (Itet K a) [e, it] e (fun i h => (∃ old, IsEnum h e it ((i : Nat) : Int) old) ∧ ItAt false h it a i) where
  mem := by simp
  obj := by
    rintro i h ⟨⟨old, q1⟩, q2⟩ b hb
    simp only [List.mem_cons, List.not_mem_nil, or_false] at hb
    rcases hb with rfl | rfl
    · exact ⟨_, q1, fun v q => nomatch q⟩
    · exact q2.obj
  keep := by
    rintro i h h' ⟨⟨old, q1⟩, q2⟩ k
    exact ⟨⟨old, k _ (by simp) _ q1⟩, q2.keep (k it (by simp))⟩
  item := by
    intro X hP hw hK hc i pins s σ H E I hf st hg
    subst hP hw hK
    obtain ⟨⟨old, q1⟩, q2⟩ := st
    obtain ⟨xs, x, hx, ex⟩ := hg
    obtain ⟨us, r1, p1, lt1⟩ := sqx_vals (l := false) I hx
    obtain ⟨u, hu, ru⟩ := r1.get ex
    have hh : X.A.in1.handled = none := I.ok.hd hc
    have g1 := draws_at (prog := X.prog) (w := X.w) hh false it a hia us.toArray
    have b1 : i < us.toArray.size := by
      have := (List.getElem?_eq_some_iff.mp hu).1
      simpa using this
    have el : e < s.heap.objs.size := Heap.lt_size q1
    have il : it < s.heap.objs.size := by obtain ⟨o, z, _⟩ := q2.obj; exact Heap.lt_size z
    refine wpAny_pyNext_enum_itemC g1 q1 ⟨q2, p1⟩ b1 hne (by simp [hne, hea]) ?_
    intro u' h' tk eu ho t1 hT hsz hk
    have eu' : u' = u := by
      have z : us[i]? = some u' := by simpa using eu
      exact Option.some.inj (z.symm.trans hu)
    subst eu'
    refine ⟨_, rfl, wpAny_letOwnedTupleGo_enum (s := { s with heap := h', toks := tk + 1 }) ho ?_⟩
    intro h2 he' sb
    have keepT := (sb.2 _ (Nat.ne_of_gt el)).trans hT
    have all : ∀ c o, c ∉ [e, it] → s.heap.get? c = some o → h2.get? c = some o := by
      intro c o hc z
      simp only [List.mem_cons, List.not_mem_nil, or_false, not_or] at hc
      exact (sb.2 c hc.1).trans (hk c o hc.1 hc.2 z)
    have new : ObjOk X.prog X.w (upd H s.heap.objs.size (.tup [.int (i : Nat), x])) h2 s.heap.objs.size (.tup [.int (i : Nat), x]) :=
      ⟨(by decide : 2 ≤ sizeLine), [.int i tk, u'], Paired.cons ⟨_, rfl⟩ (Paired.cons ru Paired.nil), ⟨_, keepT, rfl, _, rfl⟩⟩
    have J := I.turnedNew (t' := tk + 1) all hf (Nat.le_refl _) new
    refine ⟨.ref s.heap.objs.size, _, J, rfl, ⟨_, x, rfl, I.hok.fresh (Nat.le_refl _), rfl, fun xs' h1 => ?_⟩, ⟨⟨u', ?_⟩, ?_⟩, fun c hc => ?_⟩
    · rw [sqx_one (l := false) I h1 hx]; exact ex
    · have z : ((i + 1 : Nat) : Int) = (i : Int) + 1 := by omega
      rw [z]
      exact he'
    · exact t1.1.keep fun o z => (sb.2 _ (Ne.symm hne)).trans z
    · have hlt : c < s.heap.objs.size := by
        simp only [List.mem_cons, List.not_mem_nil, or_false] at hc
        rcases hc with rfl | rfl
        · exact el
        · exact il
      rw [upd_ne (Nat.ne_of_lt hlt)]
      exact (hf c hc).1
  done := by
    intro X hP hw hK hc i pins s σ H E I hf st hg
    subst hP hw hK
    obtain ⟨⟨old, q1⟩, q2⟩ := st
    obtain ⟨xs, hx, he⟩ := hg
    obtain ⟨us, r1, p1, lt1⟩ := sqx_vals (l := false) I hx
    have hh : X.A.in1.handled = none := I.ok.hd hc
    have g1 := draws_at (prog := X.prog) (w := X.w) hh false it a hia us.toArray
    have e1 : us.toArray.size = i := by rw [List.size_toArray, ← r1.length, he]
    refine wpAny_pyNext_enum_endD g1 q1 (by rw [e1]; exact ⟨q2, p1⟩) ?_
    intro h' eb
    obtain ⟨f0, f1, f2, f3, f4, f5⟩ := hf it (by simp)
    exact ⟨rfl, I.turned (t' := s.toks) (fun b o hb q => eb b o hb q) f0 f1 f3 f4 f5⟩
  self := by
    rintro A i s Q E ⟨⟨old, q1⟩, _⟩ h
    exact wpAny_pyIter_enum q1 h
def iEnumT (K : PySem.W.Frag) (ta : TA) : TI := fun σ H R => ta σ H fun vs H1 => ∃ a xs, vs = [.ref a] ∧ SqT K H1 a xs ∧ R (Itet K a) H1
theorem pi_enumT {X : Cx} {e : Expr} {ta : TA} {p pos tpos : Pos} {elts : List Expr} {kk : Nat} (hg : Gl X "enumerate") (hm : X.mg "enumerate" = none) (ha : PA X [e] ta)
    (hs : starEach [e] X.env = [(false, eval e X.env)] := by rfl) : PI X (.Tuple elts kk tpos) (.Call (.Name "enumerate" p) [e] [] pos) (iEnumT X.K ta) := by
  constructor
  intro pins s σ H R I h
  refine Call_ (ld_blt I hg hm boot_enumerate (PyProof.Rows.callWith_type1 (thn (ha.run pos pins s σ H _ I h) ?_) hs rfl))
  rintro us s1 ⟨vs, H1, I1, r1, a, xs, rfl, hx, q⟩
  obtain ⟨us1, w1, p1, lt1⟩ := sqx_vals (l := false) I1 hx
  rcases r1 with _ | ⟨ra, r1⟩
  cases r1
  cases ra
  refine call_enumT p1 ?_
  intro h' he hit hk
  refine wpAny_pyIter_enum he ?_
  have I2 : Inv X pins σ H1 { s1 with heap := h' } := I1.kept (t' := s1.toks) hk
  refine ⟨s1.heap.objs.size + 1, [s1.heap.objs.size + 1, s1.heap.objs.size], _, _, H1, rfl, I2, turn_et a _ _ (Nat.succ_ne_self _) (Nat.ne_of_gt (Nat.lt_succ_of_lt lt1)) (Nat.ne_of_lt lt1), ⟨⟨.none, he⟩, hit⟩, ?_, q⟩
  intro c hc
  have hle : s1.heap.objs.size ≤ c := by
    simp only [List.mem_cons, List.not_mem_nil, or_false] at hc
    rcases hc with rfl | rfl
    · exact Nat.le_add_right _ _
    · exact Nat.le_refl _
  exact I1.fpOk hle (I1.hok.fresh hle)
theorem walk_et {K : PySem.W.Frag} {a : Addr} {xs : List V} : Walk (Itet K a) xs.length (fun H => SqT K H a xs) (YPair (fun i => some (.int (i : Nat))) (fun i => xs[i]?)) := by
  refine ⟨fun i H hi q => ⟨xs, xs[i], q, by simp [hi]⟩, fun H q => ⟨xs, q, rfl⟩, fun i H v H' hi q y => ?_⟩
  obtain ⟨T, x, h1, h2, h3, h4⟩ := y
  exact ⟨T, .int (i : Nat), x, h1, h2, h3, rfl, h4 xs q⟩
end Wb

set_option Elab.async false
set_option linter.all false
set_option maxRecDepth 100000
set_option maxHeartbeats 2000000
namespace L2
open PySem PySem.Spec PyProof.Rows
section
variable {P : Program} {w : World} {A : Around} {E : Value → Shared → Prop} {s : Shared}
/-- sorted of a set of one tuple, whatever its length -/
theorem sorted_lone {a : Addr} {q : Addr × List Int} {es : Array (Int × Value)} {ep : Nat} {t : SetTable} {Q : Value → Shared → Prop} (R : SetTR P w s.heap a [q] es ep t) (hh : A.handled = none)
    (hQ : ∀ (s' : Shared) (p : Addr) (c : Nat), (∀ b o, s.heap.get? b = some o → s'.heap.get? b = some o) → s'.gens = s.gens → s'.os = s.os → s.heap.objs.size ≤ p →
      s'.heap.get? p = some (seqObj "list" #[.ref q.1] c) → Q (.ref p) s') : wpAny (model P w) A (call (.builtin "sorted") [.ref a]) Q E s := by
  obtain ⟨o, ho, hex, hd⟩ := R.ob
  have sz1 := R.size
  apply Calls.call_function_entry kind_sorted plain_sorted entry_sorted (args_sorted1 _)
  unfold Builtin.«sorted»
  apply wpAny_bind (m := checkCount "sorted" 1 1 _)
  apply wpAny_pure
  apply wpAny_bind
  apply collect_set (A := A.in1) hh ⟨o, ho, hex.1, hd⟩ R.fits (by unfold scanBound; simp at sz1; omega) R.tab.ris R.led
  intro s1 vs k1 hz g1 o1 pm
  have rows1 : es.toList.map (·.2) = [Value.ref q.1] := by
    rw [R.rows]
    rfl
  rw [rows1] at pm
  have evs : vs = [Value.ref q.1] := List.perm_singleton.mp pm
  subst evs
  apply wpAny_bind
  refine wpAny_newList ?_ (show 1 ≤ sizeLine by decide)
  have hoL : (s1.heap.push (seqObj "list" #[Value.ref q.1] 0)).get? s1.heap.objs.size = some (seqObj "list" [Value.ref q.1].toArray 0) := Heap.get?_push_size _ rfl
  apply wpAny_bind
  apply wpAny_holding
  refine wpAny_call_entry (s := { s1 with heap := s1.heap.push (seqObj "list" #[Value.ref q.1] 0) }) slot_list_sort (self := .ref s1.heap.objs.size) ⟨_, hoL, rfl⟩ entry_list_sort ?_ (args_list_sort _)
  refine SK.plain_sort (r := fun _ => 0) hoL (show 1 < 64 by decide) (fun h2 => absurd (show 2 ≤ 1 from h2) (by decide)) ?_
  intro ps out h1 h2 h3
  have eout : out.toList = [Value.ref q.1] := by
    rw [h1]
    have z := h2.map Prod.snd
    exact List.perm_singleton.mp z
  obtain ⟨c, hc⟩ := sortedHeap_at (vs := [Value.ref q.1]) (out := out) hoL
  have eo2 : out = #[Value.ref q.1] := by
    have z := congrArg List.toArray eout
    simpa using z
  subst eo2
  refine ⟨_, rfl, wpAny_pure ⟨_, rfl, hQ _ s1.heap.objs.size c (fun b u e => ?_) g1 o1 hz hc⟩⟩
  have e1 := k1 b u e
  have lt1 := Heap.lt_size e1
  show (sortedHeap (s1.heap.push (seqObj "list" #[Value.ref q.1] 0)) s1.heap.objs.size [Value.ref q.1] #[Value.ref q.1]).get? b = some u
  rw [sortedHeap_old (Nat.ne_of_lt lt1) (by rw [size_push']; exact Nat.lt_succ_of_lt lt1)]
  exact Heap.get?_push_of_some _ e1
end
section
variable {X : Cx}
/-- sorted(set) of tuples of as many ints each -/
def rSortedW (K : PySem.W.Frag) (P : Program) (w : World) : List V → Hp → VK → Prop := fun vs H Q => ∃ (a : Addr) (L : List (Addr × List Int)) (d : Nat) (B : Int), vs = [V.ref a] ∧ H a = some (SetTO P w a L) ∧
  (∀ p ∈ L, SqT K H p.1 (p.2.map V.int)) ∧ (∀ p ∈ L, p.2.length = d ∧ TS.Bd B p.2) ∧ L ≠ [] ∧
  ∀ (L' : List (Addr × List Int)) (p : Addr), L'.Perm L → (L'.map (·.2)).Nodup → L'.length < 64 → L'.Pairwise (fun q r => TS.code B q.2 ≤ TS.code B r.2) → H p = none → Q (.ref p) (upd H p (.lst (L'.map fun q => V.ref q.1)))
theorem cr_sortedW (hc : X.calm = true) : CallR X (.builtin "sorted") (rSortedW X.K X.prog X.w) := by
  intro pins s σ H vs us Q I r h
  obtain ⟨a, L, d, B, e1, ha, hk, hB, hne, q⟩ := h
  by_cases hd : 1 ≤ d
  · exact cr_sortedT hc pins s σ H vs us Q I r ⟨a, L, d, B, e1, ha, hk, hd, hB, q⟩
  · subst e1
    have R0 : SetT0 X.prog X.w s.heap a L := (I.hok a _ ha).1
    obtain ⟨es, ep, t, R⟩ := R0.full fun p hp => I.isT (hk p hp)
    have emp : ∀ p ∈ L, p.2 = [] := fun p hp => List.eq_nil_of_length_eq_zero (by have := (hB p hp).1; omega)
    obtain ⟨p0, rfl⟩ : ∃ p0, L = [p0] := by
      cases L with
      | nil => exact absurd rfl hne
      | cons p0 L1 =>
        cases L1 with
        | nil => exact ⟨p0, rfl⟩
        | cons p1 L2 =>
          exfalso
          have nd := R.nd
          have z0 := emp p0 (by simp)
          have z1 := emp p1 (by simp)
          simp [z0, z1] at nd
    rw [Vals.ref1 r]
    refine sorted_lone R (I.ok.hd hc) ?_
    intro s' p c k g o hp hg
    have hn : H p = none := I.hok.fresh hp
    have J : Inv X pins σ (upd H p (.lst [V.ref p0.1])) { s with heap := s'.heap, gens := s'.gens, drawn := s'.drawn, toks := s'.toks } :=
      I.call (ch := []) (Un.laid k hp hn) (I.hok.laid k hp ⟨(by show 1 ≤ sizeLine; decide), [Value.ref p0.1], c, Paired.cons rfl Paired.nil, hg⟩) (by rw [g]; exact I.bare) (fun _ z => nomatch z)
    have e : s' = { s with heap := s'.heap, gens := s'.gens, drawn := s'.drawn, toks := s'.toks } := by
      cases s'; cases s; cases o; rfl
    rw [e]
    exact ⟨.ref p, _, J, rfl, q [p0] p (List.Perm.refl _) (by simp) (show 1 < 64 by decide) (by simp) hn⟩
end
end L2

set_option Elab.async false
set_option linter.all false
set_option maxRecDepth 100000
set_option maxHeartbeats 2000000
namespace Wb
open PySem PySem.Spec PyProof.Rows L2

/-! ### data -/
abbrev Word := List Int
structure Gap where
  frm : Int
  to_ : Int
  price : Int
  ways : List Word
structure Bolt where
  many : Int
  gaps : List Gap
abbrev Lock := List Bolt

/-- tuples that are read stay -/
def TX (K : PySem.W.Frag) (H H' : Hp) : Prop := (∀ a xs, SqT K H a xs → SqT K H' a xs) ∧ ∀ a xs, H a = some (.tup xs) → H' a = some (.tup xs)
theorem TX.refl (K : PySem.W.Frag) (H : Hp) : TX K H H := ⟨fun _ _ h => h, fun _ _ h => h⟩
theorem TX.trans {K : PySem.W.Frag} {H H1 H2 : Hp} (a : TX K H H1) (b : TX K H1 H2) : TX K H H2 := ⟨fun x o h => b.1 x o (a.1 x o h), fun x o h => b.2 x o (a.2 x o h)⟩
theorem TX.ex {K : PySem.W.Frag} {H H' : Hp} (e : Evl.Ex H H') : TX K H H' := ⟨fun _ _ h => Evl.ex_t e h, fun _ _ h => e _ _ h⟩
/-- all but what stands at p is kept -/
def Exx (p : Addr) (H H' : Hp) : Prop := ∀ a o, a ≠ p → H a = some o → H' a = some o
theorem Exx.refl (p : Addr) (H : Hp) : Exx p H H := fun _ _ _ h => h
theorem Exx.trans {p : Addr} {H H1 H2 : Hp} (a : Exx p H H1) (b : Exx p H1 H2) : Exx p H H2 := fun x o n h => b x o n (a x o n h)
theorem Exx.ex {p : Addr} {H H' : Hp} (e : Evl.Ex H H') : Exx p H H' := fun a o _ h => e a o h
theorem Exx.put {p : Addr} {H : Hp} {o : HO} : Exx p H (upd H p o) := fun a u n h => by rw [upd_ne n]; exact h
theorem Exx.new {p q : Addr} {H : Hp} {o : HO} (h : H q = none) : Exx p H (upd H q o) := Exx.ex (Evl.Ex.new h)
/-- .. where p is no tuple -/
theorem Exx.tx {K : PySem.W.Frag} {p : Addr} {H H' : Hp} (e : Exx p H H') (np : ∀ xs, ¬ Rd H p (.tup xs)) : TX K H H' := by
  refine ⟨fun a xs h => ?_, fun a xs h => e a _ (fun z => np xs (.inl (z ▸ h))) h⟩
  rcases h with h | h
  · have na : a ≠ p := fun z => np xs (z ▸ h)
    rcases h with h | ⟨o, h⟩
    · exact .inl (.inl (e a _ na h))
    · exact .inl (.inr ⟨o, e a _ na h⟩)
  · exact .inr h
theorem Exx.l {K : PySem.W.Frag} {p a : Addr} {H H' : Hp} {xs : List V} (e : Exx p H H') (na : a ≠ p) (h : SqL K H a xs) : SqL K H' a xs := by
  rcases h with (h | ⟨o, h⟩) | h
  · exact .inl (.inl (e a _ na h))
  · exact .inl (.inr ⟨o, e a _ na h⟩)
  · exact .inr h

def Wd (K : PySem.W.Frag) (H : Hp) (v : V) (ns : Word) : Prop := ∃ a, v = .ref a ∧ H a = some (.tup (ns.map V.int))
def GapAt (K : PySem.W.Frag) (H : Hp) (v : V) (g : Gap) : Prop :=
  ∃ a b ws, v = .ref a ∧ SqT K H a [.int g.frm, .int g.to_, .int g.price, .ref b] ∧ SqT K H b ws ∧ Paired (Wd K H) ws g.ways
def BoltAt (K : PySem.W.Frag) (H : Hp) (v : V) (b : Bolt) : Prop := ∃ a c gs, v = .ref a ∧ SqT K H a [.int b.many, .ref c] ∧ SqT K H c gs ∧ Paired (GapAt K H) gs b.gaps
def LockAt (K : PySem.W.Frag) (H : Hp) (v : V) (l : Lock) : Prop := ∃ a bs, v = .ref a ∧ SqT K H a bs ∧ Paired (BoltAt K H) bs l

theorem Paired.imp {α β : Type} {F G : α → β → Prop} (f : ∀ a b, F a b → G a b) : ∀ {l₁ : List α} {l₂ : List β}, Paired F l₁ l₂ → Paired G l₁ l₂
  | _, _, .nil => .nil
  | _, _, .cons r t => .cons (f _ _ r) (Paired.imp f t)
section
variable {K : PySem.W.Frag} {H H' : Hp} {v : V}
theorem Wd.mono (e : TX K H H') {ns : Word} (h : Wd K H v ns) : Wd K H' v ns := by
  obtain ⟨a, r, q⟩ := h
  exact ⟨a, r, e.2 _ _ q⟩
theorem GapAt.mono (e : TX K H H') {g : Gap} (h : GapAt K H v g) : GapAt K H' v g := by
  obtain ⟨a, b, ws, r, q1, q2, q3⟩ := h
  exact ⟨a, b, ws, r, e.1 _ _ q1, e.1 _ _ q2, Paired.imp (fun _ _ => Wd.mono e) q3⟩
theorem BoltAt.mono (e : TX K H H') {b : Bolt} (h : BoltAt K H v b) : BoltAt K H' v b := by
  obtain ⟨a, c, gs, r, q1, q2, q3⟩ := h
  exact ⟨a, c, gs, r, e.1 _ _ q1, e.1 _ _ q2, Paired.imp (fun _ _ => GapAt.mono e) q3⟩
theorem LockAt.mono (e : TX K H H') {l : Lock} (h : LockAt K H v l) : LockAt K H' v l := by
  obtain ⟨a, bs, r, q1, q2⟩ := h
  exact ⟨a, bs, r, e.1 _ _ q1, Paired.imp (fun _ _ => BoltAt.mono e) q2⟩
end
section
variable {α β : Type} {R : α → β → Prop}
theorem Paired.get1 : ∀ {xs : List α} {ys : List β} {i : Nat} {x : α}, Paired R xs ys → xs[i]? = some x → ∃ y, ys[i]? = some y ∧ R x y
  | _, _, _, _, .nil, e => by simp at e
  | _, _, 0, _, .cons r _, e => by simp at e; subst e; exact ⟨_, rfl, r⟩
  | _, _, i + 1, x, .cons _ t, e => by
    obtain ⟨u, h1, h2⟩ := Paired.get1 (i := i) (x := x) t (by simpa using e)
    exact ⟨u, by simpa using h1, h2⟩
theorem Paired.get2 : ∀ {xs : List α} {ys : List β} {i : Nat} {y : β}, Paired R xs ys → ys[i]? = some y → ∃ x, xs[i]? = some x ∧ R x y
  | _, _, _, _, .nil, e => by simp at e
  | _, _, 0, _, .cons r _, e => by simp at e; subst e; exact ⟨_, rfl, r⟩
  | _, _, i + 1, y, .cons _ t, e => by
    obtain ⟨u, h1, h2⟩ := Paired.get2 (i := i) (y := y) t (by simpa using e)
    exact ⟨u, by simpa using h1, h2⟩
theorem Paired.len {xs : List α} {ys : List β} (h : Paired R xs ys) : xs.length = ys.length := Paired.length h
theorem Paired.app : ∀ {xs : List α} {ys : List β} {xs' : List α} {ys' : List β}, Paired R xs ys → Paired R xs' ys' → Paired R (xs ++ xs') (ys ++ ys')
  | _, _, _, _, .nil, s => s
  | _, _, _, _, .cons r t, s => .cons r (Paired.app t s)
theorem Paired.takeN : ∀ {xs : List α} {ys : List β} (n : Nat), Paired R xs ys → Paired R (xs.take n) (ys.take n)
  | _, _, 0, _ => .nil
  | _, _, _ + 1, .nil => .nil
  | _, _, n + 1, .cons r t => .cons r (Paired.takeN n t)
end
theorem take_succ_get {α : Type} {xs : List α} {i : Nat} {x : α} (h : xs[i]? = some x) : xs.take (i + 1) = xs.take i ++ [x] := by
  rw [List.take_add_one, h]
  rfl
theorem get_map_int {ns : List Int} {i : Nat} {x : V} (h : (ns.map V.int)[i]? = some x) : ∃ n, ns[i]? = some n ∧ x = .int n := by
  rw [List.getElem?_map] at h
  cases e : ns[i]? with
  | none => rw [e] at h; cases h
  | some n => rw [e] at h; exact ⟨n, rfl, (Option.some.inj h).symm⟩
theorem map_int_get {ns : List Int} {i : Nat} {n : Int} (h : ns[i]? = some n) : (ns.map V.int)[i]? = some (.int n) := by
  rw [List.getElem?_map, h]
  rfl

/-! ### what a lock must be -/
def lexLt2 (a b c d : Int) : Prop := a < c ∨ (a = c ∧ b < d)
structure GapOk (manys : List Int) (many : Int) (g : Gap) : Prop where
  f0 : 0 ≤ g.frm
  f1 : g.frm < many
  t0 : 0 ≤ g.to_
  t1 : g.to_ < many
  ne : g.frm ≠ g.to_
  p0 : 1 ≤ g.price
  p1 : g.price ≤ 1000000
  few : g.ways.length ≤ 8
  words : ∀ w ∈ g.ways, w.length = manys.length ∧ ∀ (i : Nat) (x m : Int), w[i]? = some x → manys[i]? = some m → 0 ≤ x ∧ x < m
  rise : g.ways.Pairwise (fun u w => HT.lexLt u w = true)
structure BoltOk (manys : List Int) (b : Bolt) : Prop where
  m0 : 2 ≤ b.many
  m1 : b.many ≤ 4
  gaps : ∀ g ∈ b.gaps, GapOk manys b.many g
  rise : b.gaps.Pairwise (fun g h => lexLt2 g.frm g.to_ h.frm h.to_)
  few : (b.gaps.map (fun g => g.ways.length)).sum ≤ 8
def manysOf (l : Lock) : List Int := l.map (·.many)
/-- the ways of the bolts numbered k and more, cut to k places -/
def cutsFrom (l : Lock) (k : Nat) (w : Word) : Prop := ∃ (j : Nat) (b : Bolt) (g : Gap) (u : Word), k ≤ j ∧ l[j]? = some b ∧ g ∈ b.gaps ∧ u ∈ g.ways ∧ w = u.take k
structure LockOk (l : Lock) : Prop where
  n0 : 1 ≤ l.length
  n1 : l.length ≤ 60
  bolts : ∀ (k : Nat) (b : Bolt), l[k]? = some b → BoltOk (manysOf (l.take k)) b
  words : ∀ (k : Nat) (ws : List Word), k < l.length → ws.Nodup → (∀ w ∈ ws, cutsFrom l k w) → ws.length ≤ 8
end Wb

set_option Elab.async false
set_option linter.all false
set_option maxRecDepth 100000
set_option maxHeartbeats 4000000
set_option pp.maxSteps 600
set_option pp.deepTerms false
namespace Wb
open PySem PySem.Spec PyProof.Rows L2
def topS (i : Nat) : Stmt := PySem.Challenge.pw_waitbolts_k01_what_is_a_lock.main.body.getD i (.Pass ⟨0, 0, 0, 0⟩)
abbrev sWhole : Stmt := topS 1
abbrev sWholeIn : Stmt := topS 2
abbrev sTupOf : Stmt := topS 3
abbrev sPlaces : Stmt := topS 4
theorem scWhole : FnScope ["thing"] ["thing"] (defScope sWhole) := ⟨rfl, rfl, rfl, by decide +kernel, rfl, by decide +kernel, by decide +kernel⟩
theorem scWholeIn : FnScope ["thing", "low", "high"] ["thing", "low", "high"] (defScope sWholeIn) := ⟨rfl, rfl, rfl, by decide +kernel, rfl, by decide +kernel, by decide +kernel⟩
theorem scTupOf : FnScope ["thing", "low", "high"] ["thing", "low", "high"] (defScope sTupOf) := ⟨rfl, rfl, rfl, by decide +kernel, rfl, by decide +kernel, by decide +kernel⟩
theorem scPlaces : FnScope ["thing", "manys", "place", "many"] ["thing", "manys"] (defScope sPlaces) := ⟨rfl, rfl, rfl, by decide +kernel, rfl, by decide +kernel, by decide +kernel⟩

/-- the built-in names are the built-in ones -/
structure Bi (mg : Str → Option Value) : Prop where
  isi : mg "isinstance" = none
  int : mg "int" = none
  bool : mg "bool" = none
  tuple : mg "tuple" = none
  list : mg "list" = none
  len : mg "len" = none
  zip : mg "zip" = none
  all : mg "all" = none
  range : mg "range" = none
  rev : mg "reversed" = none
  enum : mg "enumerate" = none
  sorted : mg "sorted" = none
  set : mg "set" = none
  abs : mg "abs" = none
  repr : mg "repr" = none

theorem tyx_tup {K : PySem.W.Frag} {H : Hp} {a : Addr} {xs : List V} (h : SqT K H a xs) : TyX K H (.ref a) (.type "tuple") := by
  rcases h with (h | ⟨o, h⟩) | ⟨o, its, n, h, c, _⟩
  · exact .base (.tup h)
  · exact .fTuple h
  · exact .kTuple h c
theorem tyx_int {K : PySem.W.Frag} {H : Hp} (i : Int) : TyX K H (.int i) (.type "int") := .base (.int i)

/-! ### promises -/
def spWhole : Sp := fun vs H Q _ => ∃ i : Int, vs = [.int i] ∧ Q (.bl true) H
def spWholeIn : Sp := fun vs H Q _ => ∃ i l h : Int, vs = [.int i, .int l, .int h] ∧ Q (.bl (decide (l ≤ i) && decide (i ≤ h))) H
def spTupOf (K : PySem.W.Frag) : Sp := fun vs H Q _ => ∃ (a : Addr) (xs : List V) (l h : Int), vs = [.ref a, .int l, .int h] ∧ SqT K H a xs ∧ Q (.bl (decide (l ≤ (xs.length : Int)) && decide ((xs.length : Int) ≤ h))) H
/-- as many places as bolts, each of them one of its bolt's -/
def InAll (ns ms : List Int) : Prop := ns.length = ms.length ∧ ∀ (i : Nat) (n m : Int), ns[i]? = some n → ms[i]? = some m → 0 ≤ n ∧ n < m
def spPlaces (K : PySem.W.Frag) : Sp := fun vs H Q _ => ∃ (a b : Addr) (m : Bool) (ns ms : List Int), vs = [.ref a, .ref b] ∧ SqT K H a (ns.map V.int) ∧ SqX K m H b (ms.map V.int) ∧ InAll ns ms ∧ ∀ H', Evl.Ex H H' → Q (.bl true) H'

section
variable {P : Program} {w : World} {K : PySem.W.Frag} {mg : Str → Option Value} {base : Heap}
theorem ok_whole {f : Addr} {fd : FuncData} (F : Fun K "is_whole" "is_whole" sWhole f fd) (B : Bi mg) : FnOk P w K mg base CX0 1 f fd ["thing"] spWhole := by
  refine F.ok scWhole (fun vs H Q E h => ?_) (fun cdv A outer s H vs Q E hr h => ?_)
  · obtain ⟨i, rfl, _⟩ := h; rfl
  · obtain ⟨i, rfl, q⟩ := h
    refine ⟨_, pss_one (ps_ret (pe_and (pe_callB call_isi (by rfl) B.isi boot_isinstance (pa_cons (pv 0) (pa_cons (pe_bltn (v := .ty "int") (by rfl) B.int (by decide +kernel) rfl) pa_nil)))
      (pe_one (pe_not (pe_callB call_isi (by rfl) B.isi boot_isinstance (pa_cons (pv 0) (pa_cons (pe_bltn (v := .ty "bool") (by rfl) B.bool (by decide +kernel) rfl) pa_nil))))))), ?_⟩
    refine ⟨.int i, rfl, .int i, .ty "int", .type "int", .type "int", true, rfl, .ty _, tyx_int i, kit_ty (by decide +kernel), true, rfl, ?_⟩
    rw [if_pos rfl]
    refine ⟨.int i, rfl, .int i, .ty "bool", .type "int", .type "bool", false, rfl, .ty _, tyx_int i, kit_ty (by decide +kernel), false, rfl, q⟩
theorem ok_wholeIn {f f1 : Addr} {fd fd1 : FuncData} (F : Fun K "is_whole_in" "is_whole_in" sWholeIn f fd) (F1 : Fun K "is_whole" "is_whole" sWhole f1 fd1) (b1 : Binds K fd1 ["thing"] []) (g1 : mg "is_whole" = some (.ref f1)) (B : Bi mg) :
    FnOk P w K mg base CX0 2 f fd ["thing", "low", "high"] spWholeIn := by
  have G1 : FnOk P w K mg base CX0 1 f1 fd1 ["thing"] spWhole := ok_whole F1 B
  refine F.ok scWholeIn (fun vs H Q E h => ?_) (fun cdv A outer s H vs Q E hr h => ?_)
  · obtain ⟨i, l, m, rfl, _⟩ := h; rfl
  · obtain ⟨i, l, m, rfl, q⟩ := h
    refine ⟨_, pss_one (ps_ret (pe_and (pe_call G1 hr (by rfl) g1 F1.kp b1 .nil pass0 (pa_cons (pv 0) pa_nil)) (pe_one (pe_chain op_le op_le (pv 1) (pv 0) (pv 2))))), ?_⟩
    refine ⟨.int i, rfl, i, rfl, true, rfl, ?_⟩
    rw [if_pos rfl]
    refine ⟨.int l, rfl, .int i, rfl, l, i, rfl, rfl, decide (l ≤ i), rfl, ?_⟩
    by_cases h1 : l ≤ i
    · rw [if_pos (decide_eq_true h1)]
      refine ⟨.int m, rfl, i, m, rfl, rfl, ?_⟩
      rw [decide_eq_true h1] at q
      exact q
    · rw [if_neg (by rw [decide_eq_false h1]; exact Bool.false_ne_true)]
      rw [decide_eq_false h1] at q
      exact q
theorem ok_tupOf {f : Addr} {fd : FuncData} (F : Fun K "is_tuple_of" "is_tuple_of" sTupOf f fd) (B : Bi mg) : FnOk P w K mg base CX0 1 f fd ["thing", "low", "high"] (spTupOf K) := by
  refine F.ok scTupOf (fun vs H Q E h => ?_) (fun cdv A outer s H vs Q E hr h => ?_)
  · obtain ⟨a, xs, l, m, rfl, _⟩ := h; rfl
  · obtain ⟨a, xs, l, m, rfl, hx, q⟩ := h
    refine ⟨_, pss_one (ps_ret (pe_and (pe_callB call_isi (by rfl) B.isi boot_isinstance (pa_cons (pv 0) (pa_cons (pe_bltn (v := .ty "tuple") (by rfl) B.tuple (by decide +kernel) rfl) pa_nil)))
      (pe_one (pe_chain op_le op_le (pv 1) (pe_callB call_len_seq (by rfl) B.len PySem.boot_len (pa_cons (pv 0) pa_nil)) (pv 2))))), ?_⟩
    refine ⟨.ref a, rfl, .ref a, .ty "tuple", .type "tuple", .type "tuple", true, rfl, .ty _, tyx_tup hx, kit_ty (by decide +kernel), true, rfl, ?_⟩
    rw [if_pos rfl]
    refine ⟨.int l, rfl, .ref a, rfl, a, xs, rfl, .inr hx, l, xs.length, rfl, rfl, decide (l ≤ (xs.length : Int)), rfl, ?_⟩
    by_cases h1 : l ≤ (xs.length : Int)
    · rw [if_pos (decide_eq_true h1)]
      refine ⟨.int m, rfl, xs.length, m, rfl, rfl, ?_⟩
      rw [decide_eq_true h1] at q
      exact q
    · rw [if_neg (by rw [decide_eq_false h1]; exact Bool.false_ne_true)]
      rw [decide_eq_false h1] at q
      exact q
theorem sqx_ex {l : Bool} {H H' : Hp} {a : Addr} {xs : List V} (e : Evl.Ex H H') (h : SqX K l H a xs) : SqX K l H' a xs := by
  cases l
  · exact Evl.ex_t e h
  · exact Evl.ex_l e h
theorem sqx_seq {l : Bool} {H : Hp} {a : Addr} {xs : List V} (h : SqX K l H a xs) : SqL K H a xs ∨ SqT K H a xs := by
  cases l
  · exact .inr h
  · exact .inl h
theorem ok_places {f f1 : Addr} {fd fd1 : FuncData} (F : Fun K "are_places" "are_places" sPlaces f fd) (F1 : Fun K "is_tuple_of" "is_tuple_of" sTupOf f1 fd1) (b1 : Binds K fd1 ["thing", "low", "high"] []) (g1 : mg "is_tuple_of" = some (.ref f1)) (B : Bi mg) :
    FnOk P w K mg base CX0 2 f fd ["thing", "manys"] (spPlaces K) := by
  have G1 : FnOk P w K mg base CX0 1 f1 fd1 ["thing", "low", "high"] (spTupOf K) := ok_tupOf F1 B
  refine F.ok scPlaces (fun vs H Q E h => ?_) (fun cdv A outer s H vs Q E hr h => ?_)
  · obtain ⟨a, b, m, ns, ms, rfl, _⟩ := h; rfl
  · obtain ⟨a, b, m, ns, ms, rfl, hx, hy, ⟨hl, hin⟩, q⟩ := h
    have isI : ∀ (X : Cx) (T : String) (hT : X.mg T = none) (i : Nat), True := fun _ _ _ _ => trivial
    refine ⟨_, pss_cons (ps_if (pt_not (pt_val (pe_call G1 hr (by rfl) g1 F1.kp b1 .nil pass0 (pa_cons (pv 0) (pa_cons (pe_callB call_len_seq (by rfl) B.len PySem.boot_len (pa_cons (pv 1) pa_nil)) (pa_cons (pe_callB call_len_seq (by rfl) B.len PySem.boot_len (pa_cons (pv 1) pa_nil)) pa_nil))))))
        (pss_one (ps_ret pe_bl)) pss_nil)
      (pss_cons (ps_for PassesOwn.never rfl (pi_zipX (by rfl) B.zip (pa_cons (pv 0) (pa_cons (pv 1) pa_nil))) (pg_tup rfl (pgs_cons (pg_name (i := 2) scPlaces.nd rfl (.inl rfl)) (pgs_cons (pg_name (i := 3) scPlaces.nd rfl (.inl rfl)) pgs_nil)))
        (pss_one (ps_if (PW.pt (pw_or (pt_val (pe_callB call_isi (by rfl) B.isi boot_isinstance (pa_cons (pv 2) (pa_cons (pe_bltn (v := .ty "bool") (by rfl) B.bool (by decide +kernel) rfl) pa_nil))))
            (pw_or (pt_not (pt_val (pe_callB call_isi (by rfl) B.isi boot_isinstance (pa_cons (pv 2) (pa_cons (pe_bltn (v := .ty "int") (by rfl) B.int (by decide +kernel) rfl) pa_nil)))))
              (pw_or1 (pt_not (pt_chain op_le op_lt pe_int (pv 2) (pv 3)))))))
          (pss_one (ps_ret pe_bl)) pss_nil)))
      (pss_one (ps_ret pe_bl))), ?_⟩
    refine ⟨.ref a, rfl, .ref b, rfl, b, _, rfl, sqx_seq hy, .ref b, rfl, b, _, rfl, sqx_seq hy, a, _, _, _, rfl, hx, _, rfl, ?_⟩
    have e1 : (decide (((ms.map V.int).length : Int) ≤ ((ns.map V.int).length : Int)) && decide (((ns.map V.int).length : Int) ≤ ((ms.map V.int).length : Int))) = true := by
      rw [List.length_map, List.length_map, hl]
      simp
    rw [e1]
    refine iteF ?_
    refine ⟨.ref a, rfl, .ref b, rfl, false, m, a, b, ns.map V.int, ms.map V.int, rfl, hx, hy, ?_⟩
    refine for_it (walk_zx (l := false) (m := m) (xs := ns.map V.int) (ys := ms.map V.int) (by rw [List.length_map, List.length_map, hl])) (fun i σ H' => ∃ y2 y3, σ = [some (.ref a), some (.ref b), y2, y3] ∧ Evl.Ex H H') ⟨none, none, rfl, Evl.Ex.refl H⟩ ?_ ?_ ?_
    · rintro i σ H' _ ⟨_, _, _, e⟩
      exact ⟨Evl.ex_t e hx, sqx_ex e hy⟩
    · rintro i v σ H1 H2 hi ⟨y2, y3, rfl, e⟩ ⟨T, x, y, rfl, nT, rfl, ex, ey⟩
      obtain ⟨n, hn, rfl⟩ := get_map_int ex
      obtain ⟨k, hk, rfl⟩ := get_map_int ey
      obtain ⟨h0, h1⟩ := hin i n k hn hk
      refine ⟨T, [.int n, .int k], rfl, .inl (.inl upd_same), rfl, .int n, [.int k], rfl, .int k, [], rfl, rfl, ?_⟩
      refine ⟨.int n, rfl, .int n, .ty "bool", .type "int", .type "bool", false, rfl, .ty _, tyx_int n, kit_ty (by decide +kernel), false, rfl, ?_⟩
      refine iteF ?_
      refine ⟨.int n, rfl, .int n, .ty "int", .type "int", .type "int", true, rfl, .ty _, tyx_int n, kit_ty (by decide +kernel), true, rfl, ?_⟩
      refine iteF ?_
      refine ⟨.int n, rfl, 0, n, rfl, rfl, decide ((0:Int) ≤ n), rfl, ?_⟩
      rw [if_pos (decide_eq_true h0)]
      refine ⟨.int k, rfl, n, k, rfl, rfl, decide (n < k), rfl, ?_⟩
      rw [decide_eq_true h1]
      refine iteF ?_
      exact ⟨_, _, rfl, e.trans (Evl.Ex.new nT)⟩
    · rintro σ H' ⟨y2, y3, rfl, e⟩
      exact q H' e
end
end Wb

set_option Elab.async false
set_option linter.all false
set_option maxRecDepth 100000
set_option maxHeartbeats 4000000
set_option pp.maxSteps 600
set_option pp.deepTerms false
namespace Wb
open PySem PySem.Spec PyProof.Rows L2
abbrev sWays : Stmt := topS 18
abbrev sGap : Stmt := topS 17
abbrev sBolt : Stmt := topS 16
theorem scWays : FnScope ["thing", "below", "way", "n"] ["thing", "below"] (defScope sWays) := ⟨rfl, rfl, rfl, by decide +kernel, rfl, by decide +kernel, by decide +kernel⟩
theorem scGap : FnScope ["thing", "many", "below", "here", "there", "price", "ways"] ["thing", "many", "below"] (defScope sGap) := ⟨rfl, rfl, rfl, by decide +kernel, rfl, by decide +kernel, by decide +kernel⟩
theorem scBolt : FnScope ["thing", "below", "many", "gaps", "count", "last", "gap"] ["thing", "below"] (defScope sBolt) := ⟨rfl, rfl, rfl, by decide +kernel, rfl, by decide +kernel, by decide +kernel⟩

/-- the module's numbers -/
structure Nu (mg : Str → Option Value) : Prop where
  bolts : ∃ t, mg "MOST_BOLTS" = some (.int 60 t)
  fewest : ∃ t, mg "FEWEST_PLACES" = some (.int 2 t)
  places : ∃ t, mg "MOST_PLACES" = some (.int 4 t)
  ways : ∃ t, mg "MOST_WAYS" = some (.int 8 t)
  words : ∃ t, mg "MOST_WORDS" = some (.int 8 t)
  price : ∃ t, mg "MOST_PRICE" = some (.int 1000000 t)

/-- ways of a gap: words below, rising -/
structure WaysOk (ms : List Int) (ws : List Word) : Prop where
  few : ws.length ≤ 8
  words : ∀ w ∈ ws, InAll w ms
  rise : ws.Pairwise (fun u w => HT.lexLt u w = true)
def spWays (K : PySem.W.Frag) : Sp := fun vs H Q _ => ∃ (a b : Addr) (us : List V) (ws : List Word) (ms : List Int), vs = [.ref a, .ref b] ∧ SqT K H a us ∧ Paired (Wd K H) us ws ∧ SqL K H b (ms.map V.int) ∧ WaysOk ms ws ∧ ∀ H', Evl.Ex H H' → Q (.bl true) H'

theorem wd_ex {K : PySem.W.Frag} {H H' : Hp} (e : Evl.Ex H H') {v : V} {ns : Word} (h : Wd K H v ns) : Wd K H' v ns := h.mono (TX.ex e)
theorem all_true (n : Nat) : ((List.replicate n true).all id) = true := by simp

section
variable {P : Program} {w : World} {K : PySem.W.Frag} {mg : Str → Option Value} {base : Heap}
theorem ok_ways {f f1 f2 : Addr} {fd fd1 fd2 : FuncData} (F : Fun K "are_ways" "are_ways" sWays f fd) (F1 : Fun K "is_tuple_of" "is_tuple_of" sTupOf f1 fd1) (b1 : Binds K fd1 ["thing", "low", "high"] []) (g1 : mg "is_tuple_of" = some (.ref f1))
    (F2 : Fun K "are_places" "are_places" sPlaces f2 fd2) (b2 : Binds K fd2 ["thing", "manys"] []) (g2 : mg "are_places" = some (.ref f2)) (B : Bi mg) (N : Nu mg) :
    FnOk P w K mg base CX0 3 f fd ["thing", "below"] (spWays K) := by
  have G1 : FnOk P w K mg base CX0 1 f1 fd1 ["thing", "low", "high"] (spTupOf K) := ok_tupOf F1 B
  have G2 : FnOk P w K mg base CX0 2 f2 fd2 ["thing", "manys"] (spPlaces K) := ok_places F2 F1 b1 g1 B
  obtain ⟨tw, ew⟩ := N.ways
  refine F.ok scWays (fun vs H Q E h => ?_) (fun cdv A outer s H vs Q E hr h => ?_)
  · obtain ⟨a, b, us, ws, ms, rfl, _⟩ := h; rfl
  · obtain ⟨a, b, us, ws, ms, rfl, hx, hp, hy, ok, q⟩ := h
    have hr1 : Room 1 _ := hr.mono (by decide)
    refine ⟨_, pss_cons (ps_if (pt_not (pt_val (pe_call G1 hr1 (by rfl) g1 F1.kp b1 .nil pass0 (pa_cons (pv 0) (pa_cons pe_int (pa_cons (pe_glob (v := .int 8) (by rfl) ew ⟨_, rfl⟩) pa_nil)))))) (pss_one (ps_ret pe_bl)) pss_nil)
      (pss_cons (ps_if (pt_not (pt_val (pe_callB (cr_all rfl) (by rfl) B.all boot_all (pa_cons
          (pe_lc (own := [("way", 2)]) (g := gName 2) rfl scWays.nd (pi_tup (pv 0)) (blkOk_by (own := [("way", 2)]) (N := ["thing", "below", "way", "n"]) (sc := defScope sWays) (by decide +kernel))
            (fun _ _ _ _ _ => pg_name (i := 2) scWays.nd rfl (Or.inl rfl)) (fun _ _ _ _ _ => pts_nil)
            (fun _ _ _ _ _ => pe_call G2 hr (by rfl) g2 F2.kp b2 .nil pass0 (pa_cons (pv 2) (pa_cons (pv 1) pa_nil)))) pa_nil)))) (pss_one (ps_ret pe_bl)) pss_nil)
      (pss_one (ps_ret (pe_callB (cr_all rfl) (by rfl) B.all boot_all (pa_cons
          (pe_lc (own := [("n", 3)]) (g := gName 3) rfl scWays.nd (pi_range1 rfl B.range (pa_cons (pe_op op_sub (pe_callB call_len_seq (by rfl) B.len PySem.boot_len (pa_cons (pv 0) pa_nil)) pe_int) pa_nil)) (blkOk_by (own := [("n", 3)]) (N := ["thing", "below", "way", "n"]) (sc := defScope sWays) (by decide +kernel))
            (fun _ _ _ _ _ => pg_name (i := 3) scWays.nd rfl (Or.inl rfl)) (fun _ _ _ _ _ => pts_nil)
            (fun _ _ _ _ _ => pe_cmpR (r := rLtT K) (op_ltT hr.units0) (pe_ix (r := rIxT K) ix_tup (pv 0) (pv 3) (fun _ _ => rfl)) (pe_ix (r := rIxT K) ix_tup (pv 0) (pe_op op_add (pv 3) pe_int) (fun _ _ => rfl)) (nomark _))) pa_nil))))), ?_⟩
    have ul : us.length = ws.length := Paired.len hp
    have few := ok.few
    refine ⟨.ref a, rfl, a, us, 0, 8, rfl, hx, _, rfl, ?_⟩
    have e1 : (decide ((0 : Int) ≤ (us.length : Int)) && decide ((us.length : Int) ≤ 8)) = true := by
      rw [ul]
      simp
      omega
    rw [e1]
    refine iteF ?_
    refine ⟨.ref a, rfl, a, rfl, ⟨_, hx⟩, fun D hD => lc_tup (K := K) (a := a) (xs := us) (fun i H' => Evl.Ex H H' ∧ H' D = some (.lst ((List.replicate i true).map V.bl))) ⟨Evl.Ex.new hD, upd_same⟩ ?_ ?_ ?_⟩
    · rintro i H' _ ⟨e, _⟩
      exact Evl.ex_t e hx
    · rintro i x H' hi ⟨e, eD⟩
      obtain ⟨wd, hw, ⟨ax, rfl, hax⟩⟩ := Paired.get1 hp hi
      have hin := ok.words wd (List.mem_of_getElem? hw)
      refine ⟨rfl, .ref ax, rfl, .ref b, rfl, ax, b, true, wd, ms, rfl, Evl.ex_t e (SqT.of hax), Evl.ex_l e hy, hin, ?_⟩
      intro H2 e2
      have l9 : i < 9 := by
        have := (List.getElem?_eq_some_iff.mp hi).1
        omega
      refine ⟨_, e2 _ _ eD, ?_, (e.trans e2).mut hD, ?_⟩
      · rw [List.length_map, List.length_replicate]
        exact Nat.lt_of_lt_of_le l9 (by decide)
      · rw [upd_same, List.replicate_succ', List.map_append]
        rfl
    · rintro H1 ⟨e, eD⟩
      refine ⟨D, _, rfl, .inl (.inl eD), true, ?_, ?_⟩
      · rw [all_true]
      · refine iteF ?_
        refine ⟨.ref a, rfl, a, us, rfl, .inr (Evl.ex_t e hx), _, _, rfl, rfl, (us.length : Int) - 1, rfl, by omega, by omega, fun D2 hD2 =>
          lc_range (lo := 0) (n := ((us.length : Int) - 1).toNat) (fun i H' => Evl.Ex H1 H' ∧ H' D2 = some (.lst ((List.replicate i true).map V.bl))) ⟨Evl.Ex.new hD2, upd_same⟩ ?_ ?_⟩
        · rintro i H' hi ⟨e2, eD2⟩
          have h1 : i < us.length := by omega
          have h2 : i + 1 < us.length := by omega
          obtain ⟨u1, hu1, ⟨a1, ea1, ha1⟩⟩ := Paired.get1 hp (List.getElem?_eq_getElem h1)
          obtain ⟨u2, hu2, ⟨a2, ea2, ha2⟩⟩ := Paired.get1 hp (List.getElem?_eq_getElem h2)
          have rise : HT.lexLt u1 u2 = true := by
            obtain ⟨l1, q1⟩ := List.getElem?_eq_some_iff.mp hu1
            obtain ⟨l2, q2⟩ := List.getElem?_eq_some_iff.mp hu2
            have := List.pairwise_iff_getElem.mp ok.rise i (i + 1) l1 l2 (Nat.lt_succ_self i)
            rw [q1, q2] at this
            exact this
          refine ⟨rfl, ?_⟩
          have e3 := e.trans e2
          refine ⟨.ref a, rfl, .int ((0 : Int) + (i : Nat)), rfl, a, us, (0 : Int) + (i : Nat), .ref a1, rfl, rfl, Evl.ex_t e3 hx, ?_, .ref a, rfl, .int ((0 : Int) + (i : Nat)), rfl, _, _, rfl, rfl, a, us, (0 : Int) + (i : Nat) + 1, .ref a2, rfl, rfl, Evl.ex_t e3 hx, ?_, a1, a2, u1, u2, rfl, rfl, Evl.ex_t e3 (SqT.of ha1), Evl.ex_t e3 (SqT.of ha2), ?_⟩
          · have z : (0 : Int) + (i : Nat) = ((i : Nat) : Int) := by omega
            rw [z, ← ea1]
            exact atI_nat (List.getElem?_eq_getElem h1)
          · have z : (0 : Int) + (i : Nat) + 1 = ((i + 1 : Nat) : Int) := by omega
            rw [z, ← ea2]
            exact atI_nat (List.getElem?_eq_getElem h2)
          · refine ⟨_, eD2, ?_, e2.mut hD2, ?_⟩
            · rw [List.length_map, List.length_replicate]
              exact Nat.lt_of_lt_of_le (show i < 9 by omega) (by decide)
            · rw [upd_same, List.replicate_succ', List.map_append, rise]
              rfl
        · rintro H2 ⟨e2, eD2⟩
          refine ⟨D2, _, rfl, .inl (.inl eD2), ?_⟩
          rw [all_true]
          exact q H2 (e.trans e2)
end
end Wb

set_option Elab.async false
set_option linter.all false
set_option maxRecDepth 100000
set_option maxHeartbeats 4000000
set_option pp.maxSteps 600
set_option pp.deepTerms false
namespace Wb
open PySem PySem.Spec PyProof.Rows L2
def spGap (K : PySem.W.Frag) : Sp := fun vs H Q _ => ∃ (v : V) (b : Addr) (g : Gap) (many : Int) (ms : List Int), vs = [v, .int many, .ref b] ∧ GapAt K H v g ∧ SqL K H b (ms.map V.int) ∧ GapOk ms many g ∧ ∀ H', Evl.Ex H H' → Q (.bl true) H'
def spBolt (K : PySem.W.Frag) : Sp := fun vs H Q _ => ∃ (v : V) (b : Addr) (bo : Bolt) (ms : List Int), vs = [v, .ref b] ∧ BoltAt K H v bo ∧ SqL K H b (ms.map V.int) ∧ BoltOk ms bo ∧ ∀ H', Evl.Ex H H' → Q (.bl true) H'

theorem inAll_two {a b m : Int} (h1 : 0 ≤ a) (h2 : a < m) (h3 : 0 ≤ b) (h4 : b < m) : InAll [a, b] [m, m] := by
  refine ⟨rfl, fun i n k hn hk => ?_⟩
  match i, hn, hk with
  | 0, hn, hk =>
    cases hn; cases hk; exact ⟨h1, h2⟩
  | 1, hn, hk =>
    cases hn; cases hk; exact ⟨h3, h4⟩
  | i + 2, hn, hk => simp at hn
theorem GapOk.ways_ok {ms : List Int} {many : Int} {g : Gap} (h : GapOk ms many g) : WaysOk ms g.ways :=
  ⟨h.few, fun w hw => ⟨(h.words w hw).1, (h.words w hw).2⟩, h.rise⟩
theorem lex2 {a b c d : Int} (h : lexLt2 c d a b) : Ob.lexAt (fun j => decide (([a, b] : List Int).getD j 0 = ([c, d] : List Int).getD j 0)) (fun j => decide (([a, b] : List Int).getD j 0 ≤ ([c, d] : List Int).getD j 0)) (decide (([a, b] : List Int).length ≤ ([c, d] : List Int).length)) 0 (min ([a, b] : List Int).length ([c, d] : List Int).length) = false := by
  show (if decide (a = c) = true then (if decide (b = d) = true then (decide (2 ≤ 2)) else decide (b ≤ d)) else decide (a ≤ c)) = false
  rcases h with h | ⟨h, h'⟩
  · rw [if_neg (by simp; omega)]
    simp; omega
  · rw [if_pos (by simp; omega), if_neg (by simp; omega)]
    simp; omega
theorem cut2 {a b c d : V} : cutV [a, b, c, d] none (some 2) = [a, b] := by
  unfold cutV
  rw [HT.sIx_none]
  rw [show HT.sIx [a, b, c, d].length [a, b, c, d].length (some 2) = 2 from HT.sIx_nat 4 4 2]
  rfl

section
variable {P : Program} {w : World} {K : PySem.W.Frag} {mg : Str → Option Value} {base : Heap}
theorem ok_gap {f f1 f2 f3 f4 f5 : Addr} {fd fd1 fd2 fd3 fd4 fd5 : FuncData} (F : Fun K "is_gap" "is_gap" sGap f fd) (F1 : Fun K "is_tuple_of" "is_tuple_of" sTupOf f1 fd1) (b1 : Binds K fd1 ["thing", "low", "high"] []) (g1 : mg "is_tuple_of" = some (.ref f1))
    (F2 : Fun K "are_places" "are_places" sPlaces f2 fd2) (b2 : Binds K fd2 ["thing", "manys"] []) (g2 : mg "are_places" = some (.ref f2))
    (F3 : Fun K "is_whole_in" "is_whole_in" sWholeIn f3 fd3) (b3 : Binds K fd3 ["thing", "low", "high"] []) (g3 : mg "is_whole_in" = some (.ref f3))
    (F4 : Fun K "are_ways" "are_ways" sWays f4 fd4) (b4 : Binds K fd4 ["thing", "below"] []) (g4 : mg "are_ways" = some (.ref f4))
    (F5 : Fun K "is_whole" "is_whole" sWhole f5 fd5) (b5 : Binds K fd5 ["thing"] []) (g5 : mg "is_whole" = some (.ref f5)) (B : Bi mg) (N : Nu mg) :
    FnOk P w K mg base CX0 4 f fd ["thing", "many", "below"] (spGap K) := by
  have G1 : FnOk P w K mg base CX0 1 f1 fd1 ["thing", "low", "high"] (spTupOf K) := ok_tupOf F1 B
  have G2 : FnOk P w K mg base CX0 2 f2 fd2 ["thing", "manys"] (spPlaces K) := ok_places F2 F1 b1 g1 B
  have G3 : FnOk P w K mg base CX0 2 f3 fd3 ["thing", "low", "high"] spWholeIn := ok_wholeIn F3 F5 b5 g5 B
  have G4 : FnOk P w K mg base CX0 3 f4 fd4 ["thing", "below"] (spWays K) := ok_ways F4 F1 b1 g1 F2 b2 g2 B N
  obtain ⟨tp, ep⟩ := N.price
  refine F.ok scGap (fun vs H Q E h => ?_) (fun cdv A outer s H vs Q E hr h => ?_)
  · obtain ⟨v, b, g, m, ms, rfl, _⟩ := h; rfl
  · obtain ⟨v, b, g, m, ms, rfl, ⟨a, c, ws, rfl, hx, hw, hp⟩, hy, ok, q⟩ := h
    have hr1 : Room 1 _ := hr.mono (by decide)
    have hr2 : Room 2 _ := hr.mono (by decide)
    refine ⟨_, pss_cons (ps_if (pt_not (pt_val (pe_call G1 hr1 (by rfl) g1 F1.kp b1 .nil pass0 (pa_cons (pv 0) (pa_cons pe_int (pa_cons pe_int pa_nil)))))) (pss_one (ps_ret pe_bl)) pss_nil)
      (pss_cons (ps_asg (pv 0) (pg_tup rfl (pgs_cons (pg_name (i := 3) scGap.nd rfl (.inl rfl)) (pgs_cons (pg_name (i := 4) scGap.nd rfl (.inl rfl)) (pgs_cons (pg_name (i := 5) scGap.nd rfl (.inl rfl)) (pgs_cons (pg_name (i := 6) scGap.nd rfl (.inl rfl)) pgs_nil))))))
      (pss_cons (ps_if (PW.pt (pw_or (pt_not (pt_val (pe_call G2 hr2 (by rfl) g2 F2.kp b2 .nil pass0 (pa_cons (pe_tup (pa_cons (pv 3) (pa_cons (pv 4) pa_nil))) (pa_cons (pe_tup (pa_cons (pv 1) (pa_cons (pv 1) pa_nil))) pa_nil)))))
          (pw_or1 (pt_cmpR op_eq (pv 3) (pv 4) (nomark _))))) (pss_one (ps_ret pe_bl)) pss_nil)
      (pss_one (ps_ret (pe_and (pe_call G3 hr2 (by rfl) g3 F3.kp b3 .nil pass0 (pa_cons (pv 5) (pa_cons pe_int (pa_cons (pe_glob (v := .int 1000000) (by rfl) ep ⟨_, rfl⟩) pa_nil))))
        (pe_one (pe_call G4 hr (by rfl) g4 F4.kp b4 .nil pass0 (pa_cons (pv 6) (pa_cons (pv 2) pa_nil))))))))), ?_⟩
    refine ⟨.ref a, rfl, a, _, 4, 4, rfl, hx, true, rfl, ?_⟩
    refine iteF ?_
    refine ⟨.ref a, rfl, a, _, rfl, hx, rfl, _, _, rfl, _, _, rfl, _, _, rfl, _, _, rfl, rfl, ?_⟩
    refine ⟨.int g.frm, rfl, .int g.to_, rfl, (by show 2 ≤ sizeLine; decide), fun p1 n1 => ?_⟩
    refine ⟨.int m, rfl, .int m, rfl, (by show 2 ≤ sizeLine; decide), fun p2 n2 => ?_⟩
    have x1 : Evl.Ex H (upd H p1 (.tup [.int g.frm, .int g.to_])) := Evl.Ex.new n1
    have x2 := Evl.Ex.new (o := .tup [.int m, .int m]) n2
    refine ⟨p1, p2, false, [g.frm, g.to_], [m, m], rfl, .inl (.inl (x2 _ _ upd_same)), (Or.inl (Or.inl upd_same)), inAll_two ok.f0 ok.f1 ok.t0 ok.t1, fun H' x3 => ?_⟩
    refine ⟨true, rfl, ?_⟩
    refine iteF ?_
    refine ⟨.int g.frm, rfl, .int g.to_, rfl, rfl, decide (V.int g.frm = V.int g.to_), rfl, ?_⟩
    have ne : decide (V.int g.frm = V.int g.to_) = false := decide_eq_false fun z => ok.ne (V.int.inj z)
    rw [ne]
    refine iteF ?_
    refine ⟨.int g.price, rfl, g.price, 1, 1000000, rfl, true, ?_, ?_⟩
    · have z1 := ok.p0
      have z2 := ok.p1
      rw [decide_eq_true z1, decide_eq_true z2]
      rfl
    · refine iteT ?_
      have x : Evl.Ex H H' := (x1.trans x2).trans x3
      refine ⟨.ref c, rfl, .ref b, rfl, c, b, ws, g.ways, ms, rfl, Evl.ex_t x hw, Paired.imp (fun _ _ => wd_ex x) hp, Evl.ex_l x hy, ok.ways_ok, fun H2 y => q H2 (x.trans y)⟩
theorem ok_bolt {f f1 f2 f3 f4 f5 f6 : Addr} {fd fd1 fd2 fd3 fd4 fd5 fd6 : FuncData} (F : Fun K "is_bolt" "is_bolt" sBolt f fd) (F1 : Fun K "is_tuple_of" "is_tuple_of" sTupOf f1 fd1) (b1 : Binds K fd1 ["thing", "low", "high"] []) (g1 : mg "is_tuple_of" = some (.ref f1))
    (F2 : Fun K "are_places" "are_places" sPlaces f2 fd2) (b2 : Binds K fd2 ["thing", "manys"] []) (g2 : mg "are_places" = some (.ref f2))
    (F3 : Fun K "is_whole_in" "is_whole_in" sWholeIn f3 fd3) (b3 : Binds K fd3 ["thing", "low", "high"] []) (g3 : mg "is_whole_in" = some (.ref f3))
    (F4 : Fun K "are_ways" "are_ways" sWays f4 fd4) (b4 : Binds K fd4 ["thing", "below"] []) (g4 : mg "are_ways" = some (.ref f4))
    (F5 : Fun K "is_whole" "is_whole" sWhole f5 fd5) (b5 : Binds K fd5 ["thing"] []) (g5 : mg "is_whole" = some (.ref f5))
    (F6 : Fun K "is_gap" "is_gap" sGap f6 fd6) (b6 : Binds K fd6 ["thing", "many", "below"] []) (g6 : mg "is_gap" = some (.ref f6)) (B : Bi mg) (N : Nu mg) :
    FnOk P w K mg base CX0 5 f fd ["thing", "below"] (spBolt K) := by
  have G1 : FnOk P w K mg base CX0 1 f1 fd1 ["thing", "low", "high"] (spTupOf K) := ok_tupOf F1 B
  have G3 : FnOk P w K mg base CX0 2 f3 fd3 ["thing", "low", "high"] spWholeIn := ok_wholeIn F3 F5 b5 g5 B
  have G6 : FnOk P w K mg base CX0 4 f6 fd6 ["thing", "many", "below"] (spGap K) := ok_gap F6 F1 b1 g1 F2 b2 g2 F3 b3 g3 F4 b4 g4 F5 b5 g5 B N
  obtain ⟨tf, ef⟩ := N.fewest
  obtain ⟨tl, el⟩ := N.places
  obtain ⟨tw, ew⟩ := N.ways
  refine F.ok scBolt (fun vs H Q E h => ?_) (fun cdv A outer s H vs Q E hr h => ?_)
  · obtain ⟨v, b, bo, ms, rfl, _⟩ := h; rfl
  · obtain ⟨v, b, bo, ms, rfl, ⟨a, c, gs, rfl, hx, hg, hp⟩, hy, ok, q⟩ := h
    have hr1 : Room 1 _ := hr.mono (by decide)
    have hr2 : Room 2 _ := hr.mono (by decide)
    refine ⟨_, pss_cons (ps_if (pt_not (pt_val (pe_call G1 hr1 (by rfl) g1 F1.kp b1 .nil pass0 (pa_cons (pv 0) (pa_cons pe_int (pa_cons pe_int pa_nil)))))) (pss_one (ps_ret pe_bl)) pss_nil)
      (pss_cons (ps_asg (pv 0) (pg_tup rfl (pgs_cons (pg_name (i := 2) scBolt.nd rfl (.inl rfl)) (pgs_cons (pg_name (i := 3) scBolt.nd rfl (.inl rfl)) pgs_nil))))
      (pss_cons (ps_if (PW.pt (pw_or (pt_not (pt_val (pe_call G3 hr2 (by rfl) g3 F3.kp b3 .nil pass0 (pa_cons (pv 2) (pa_cons (pe_glob (v := .int 2) (by rfl) ef ⟨_, rfl⟩) (pa_cons (pe_glob (v := .int 4) (by rfl) el ⟨_, rfl⟩) pa_nil))))))
          (pw_or1 (pt_not (pt_val (pe_callB call_isi (by rfl) B.isi boot_isinstance (pa_cons (pv 3) (pa_cons (pe_bltn (v := .ty "tuple") (by rfl) B.tuple (by decide +kernel) rfl) pa_nil)))))))) (pss_one (ps_ret pe_bl)) pss_nil)
      (pss_cons (ps_set (i := 4) scBolt.nd rfl (.inl rfl) pe_int)
      (pss_cons (ps_set (i := 5) scBolt.nd rfl (.inl rfl) (pe_tup (pa_cons (pe_un un_neg pe_int) (pa_cons (pe_un un_neg pe_int) pa_nil))))
      (pss_cons (ps_for PassesOwn.never rfl (pi_tup (pv 3)) (pg_name (i := 6) scBolt.nd rfl (.inl rfl))
        (pss_cons (ps_if (PW.pt (pw_or (pt_not (pt_val (pe_call G6 hr (by rfl) g6 F6.kp b6 .nil pass0 (pa_cons (pv 6) (pa_cons (pv 2) (pa_cons (pv 1) pa_nil))))))
            (pw_or1 (pt_cmpR (op_leT hr.units0) (pe_slice sl_tupA (pv 6) po_none (po_some pe_int)) (pv 5) (nomark _))))) (pss_one (ps_ret pe_bl)) pss_nil)
        (pss_cons (ps_set (i := 5) scBolt.nd rfl (.inl rfl) (pe_slice sl_tupA (pv 6) po_none (po_some pe_int)))
        (pss_one (ps_aug (i := 4) scBolt.nd rfl (.inl rfl) (pe_callB call_len_seq (by rfl) B.len PySem.boot_len (pa_cons (pe_ix ix_tup (pv 6) pe_int (fun _ _ => rfl)) pa_nil)) ip_add)))))
      (pss_one (ps_ret (pe_cmpR op_le (pv 4) (pe_glob (v := .int 8) (by rfl) ew ⟨_, rfl⟩) (nomark _))))))))), ?_⟩
    refine ⟨.ref a, rfl, a, _, 2, 2, rfl, hx, true, rfl, ?_⟩
    refine iteF ?_
    refine ⟨.ref a, rfl, a, _, rfl, hx, rfl, _, _, rfl, _, _, rfl, rfl, ?_⟩
    refine ⟨.int bo.many, rfl, bo.many, 2, 4, rfl, true, ?_, ?_⟩
    · rw [decide_eq_true ok.m0, decide_eq_true ok.m1]
      rfl
    refine iteF ?_
    refine ⟨.ref c, rfl, .ref c, .ty "tuple", .type "tuple", .type "tuple", true, rfl, .ty _, tyx_tup hg, kit_ty (by decide +kernel), true, rfl, ?_⟩
    refine iteF ?_
    refine ⟨1, rfl, 1, rfl, (by show 2 ≤ sizeLine; decide), fun p0 n0 => ?_⟩
    have gl : gs.length = bo.gaps.length := Paired.len hp
    refine ⟨.ref c, rfl, c, rfl, ⟨_, (Evl.ex_t (Evl.Ex.new n0) hg)⟩, for_tup (K := K) (a := c) (xs := gs)
      (fun i σ H' => ∃ (pl : Addr) (lf lt : Int) (y6 : Option V), σ = [some (.ref a), some (.ref b), some (.int bo.many), some (.ref c), some (.int (((bo.gaps.take i).map (fun g => ((g.ways.length : Nat) : Int))).sum)), some (.ref pl), y6] ∧
        Evl.Ex H H' ∧ SqT K H' pl ([lf, lt].map V.int) ∧ (∀ g, bo.gaps[i]? = some g → lexLt2 lf lt g.frm g.to_)) ⟨p0, -1, -1, none, rfl, Evl.Ex.new n0, .inl (.inl upd_same), ?_⟩ ?_ ?_ ?_⟩
    · intro g hgi
      have := (ok.gaps g (List.mem_of_getElem? hgi)).f0
      exact .inl (by omega)
    · rintro i σ H' _ ⟨_, _, _, _, _, e, _⟩
      exact Evl.ex_t e hg
    · rintro i x σ H' hi ⟨pl, lf, lt, y6, rfl, e, hpl, hlex⟩
      obtain ⟨g, hgi, hga⟩ := Paired.get1 hp hi
      have hga' : GapAt K H' x g := hga.mono (TX.ex e)
      obtain ⟨ag, bg, ws, rfl, h1, h2, h3⟩ := hga'
      have gok := ok.gaps g (List.mem_of_getElem? hgi)
      refine ⟨.ref ag, rfl, .int bo.many, rfl, .ref b, rfl, .ref ag, b, g, bo.many, ms, rfl, ⟨ag, bg, ws, rfl, h1, h2, h3⟩, Evl.ex_l e hy, gok, fun H2 e2 => ?_⟩
      refine ⟨true, rfl, iteF ?_⟩
      have ex2 := e.trans e2
      refine ⟨.ref ag, rfl, 2, rfl, ag, _, rfl, Evl.ex_t e2 h1, fun z => absurd (show HT.sIx 4 4 (some 2) = 4 from z.2) (by decide), fun _ p np => ?_⟩
      rw [cut2]
      have e3 := Evl.Ex.new (o := .tup [V.int g.frm, V.int g.to_]) np
      refine ⟨.ref pl, rfl, p, pl, [g.frm, g.to_], [lf, lt], rfl, rfl, .inl (.inl upd_same), Evl.ex_t (e2.trans e3) hpl, _, rfl, ?_⟩
      rw [lex2 (hlex g hgi)]
      refine iteF ?_
      refine ⟨.ref ag, rfl, 2, rfl, ag, _, rfl, Evl.ex_t (e2.trans e3) h1, fun z => absurd (show HT.sIx 4 4 (some 2) = 4 from z.2) (by decide), fun _ p' np' => ?_⟩
      rw [cut2]
      have e4 := Evl.Ex.new (o := .tup [V.int g.frm, V.int g.to_]) np'
      refine ⟨_, rfl, .ref ag, rfl, ag, _, 3, .ref bg, rfl, rfl, Evl.ex_t ((e2.trans e3).trans e4) h1, atI_nat (j := 3) rfl, bg, ws, rfl, .inr (Evl.ex_t ((e2.trans e3).trans e4) h2), _, _, rfl, rfl, ?_⟩
      refine ⟨p', g.frm, g.to_, some (.ref ag), ?_, (ex2.trans e3).trans e4, .inl (.inl upd_same), fun g' hg' => ?_⟩
      · have wl : ws.length = g.ways.length := Paired.len h3
        rw [take_succ_get hgi, List.map_append, List.sum_append, wl]
        simp
      · obtain ⟨l1, q1⟩ := List.getElem?_eq_some_iff.mp hgi
        obtain ⟨l2, q2⟩ := List.getElem?_eq_some_iff.mp hg'
        have := List.pairwise_iff_getElem.mp ok.rise i (i + 1) l1 l2 (Nat.lt_succ_self i)
        rw [q1, q2] at this
        exact this
    · rintro σ H' ⟨pl, lf, lt, y6, rfl, e, hpl, hlex⟩
      refine ⟨_, rfl, _, 8, rfl, rfl, ?_⟩
      have s8 : decide ((((bo.gaps.take gs.length).map (fun g => ((g.ways.length : Nat) : Int))).sum) ≤ 8) = true := by
        have h := ok.few
        rw [gl, List.take_length]
        have z : ∀ l : List Gap, (l.map (fun g => ((g.ways.length : Nat) : Int))).sum = (((l.map (fun g => g.ways.length)).sum : Nat) : Int) := by
          intro l
          induction l with
          | nil => rfl
          | cons g l ih => simp [ih]
        rw [z]
        simp
        omega
      show Q (.bl (decide (_ ≤ 8))) H'
      rw [s8]
      exact q H' e
end
end Wb

set_option Elab.async false
set_option linter.all false
set_option maxRecDepth 100000
set_option maxHeartbeats 4000000
set_option pp.maxSteps 600
set_option pp.deepTerms false
namespace Wb
open PySem PySem.Spec PyProof.Rows L2
abbrev sWords : Stmt := topS 6
theorem scWords : FnScope ["lock", "rows", "above", "k", "found", "word", "gap", "way"] ["lock"] (defScope sWords) := ⟨rfl, rfl, rfl, by decide +kernel, rfl, by decide +kernel, by decide +kernel⟩

/-! ### words as keys -/
def keyW (w : Word) : List Key := w.map Sum.inl
theorem keyW_kV (w : Word) : (keyW w).map kV = w.map V.int := by
  unfold keyW
  rw [List.map_map]
  rfl
theorem keyW_inj {u w : Word} (h : keyW u = keyW w) : u = w := by
  unfold keyW at h
  exact (List.map_inj_right (fun _ _ e => Sum.inl.inj e)).mp h
def kws (ws : List Word) (v : Word → V) : List (List Key × V) := ws.map fun w => (keyW w, v w)
def addW (ws : List Word) (w : Word) : List Word := if w ∈ ws then ws else ws ++ [w]
theorem kws_any (ws : List Word) (v : Word → V) (w : Word) : ((kws ws v).any fun kv => decide (kv.1 = keyW w)) = decide (w ∈ ws) := by
  unfold kws
  rw [List.any_map]
  rw [Bool.eq_iff_iff]
  simp only [List.any_eq_true, Function.comp, decide_eq_true_eq]
  constructor
  · rintro ⟨u, hu, e⟩
    rw [← keyW_inj e]
    exact hu
  · intro h
    exact ⟨w, h, rfl⟩
theorem put_kws (ws : List Word) (w : Word) : putK (kws ws fun _ => .bl true) (keyW w) (.bl true) = kws (addW ws w) fun _ => .bl true := by
  unfold putK addW
  rw [kws_any]
  by_cases h : w ∈ ws
  · rw [if_pos (decide_eq_true h), if_pos h]
    unfold kws
    rw [List.map_map]
    apply List.map_congr_left
    intro u _
    show (if keyW u = keyW w then (keyW u, V.bl true) else (keyW u, V.bl true)) = (keyW u, V.bl true)
    split <;> rfl
  · rw [if_neg (by rw [decide_eq_false h]; exact Bool.false_ne_true), if_neg h]
    unfold kws
    rw [List.map_append]
    rfl
theorem mem_addW {ws : List Word} {w u : Word} : u ∈ addW ws w ↔ u ∈ ws ∨ u = w := by
  unfold addW
  split
  · rename_i h
    exact ⟨.inl, fun z => z.elim id fun e => e ▸ h⟩
  · simp
theorem nodup_addW {ws : List Word} {w : Word} (h : ws.Nodup) : (addW ws w).Nodup := by
  unfold addW
  split
  · exact h
  · rename_i hn
    rw [List.nodup_append]
    refine ⟨h, by simp, ?_⟩
    intro a ha b hb
    simp at hb
    subst hb
    intro e
    exact hn (e ▸ ha)
theorem valV_kws (ws : List Word) (v : Word → V) (w : Word) : valV (kws ws v) (keyW w) = if w ∈ ws then some (v w) else none := by
  induction ws with
  | nil => rfl
  | cons u ws ih =>
    by_cases e : u = w
    · subst e
      rw [if_pos (by simp)]
      exact valV_pos rfl
    · have z : valV (kws (u :: ws) v) (keyW w) = valV (kws ws v) (keyW w) := valV_neg (fun q => e (keyW_inj q))
      rw [z, ih]
      have m : w ∈ u :: ws ↔ w ∈ ws := by
        simp only [List.mem_cons]
        exact ⟨fun q => q.elim (fun q => absurd q.symm e) id, .inr⟩
      by_cases h : w ∈ ws
      · rw [if_pos h, if_pos (m.mpr h)]
      · rw [if_neg h, if_neg (fun q => h (m.mp q))]

/-! ### the words at a bolt -/
def WordsAt (l : Lock) (k : Nat) (ws : List Word) : Prop := ws.Nodup ∧ ∀ w, w ∈ ws ↔ cutsFrom l k w
/-- a list of words at r -/
def RowAt (K : PySem.W.Frag) (H : Hp) (r : Addr) (ws : List Word) : Prop := ∃ us, H r = some (.lst us) ∧ Paired (Wd K H) us ws
theorem RowAt.ex {K : PySem.W.Frag} {H H' : Hp} (e : Evl.Ex H H') {r : Addr} {ws : List Word} (h : RowAt K H r ws) : RowAt K H' r ws := by
  obtain ⟨us, a, b⟩ := h
  exact ⟨us, e _ _ a, Paired.imp (fun _ _ => wd_ex e) b⟩
theorem cutsFrom_len {l : Lock} (ok : LockOk l) {k : Nat} {w : Word} (hk : k ≤ l.length) (h : cutsFrom l k w) : w.length = k := by
  obtain ⟨j, b, g, u, hj, hb, hg, hu, rfl⟩ := h
  have lu := (((ok.bolts j b hb).gaps g hg).words u hu).1
  have lj : j < l.length := (List.getElem?_eq_some_iff.mp hb).1
  unfold manysOf at lu
  rw [List.length_map, List.length_take] at lu
  rw [List.length_take]
  omega
/-- the words at k: those at k + 1 cut, and the bolt's own -/
theorem cuts_step {l : Lock} (ok : LockOk l) {k : Nat} {b : Bolt} (hb : l[k]? = some b) (w : Word) :
    cutsFrom l k w ↔ (∃ u, cutsFrom l (k + 1) u ∧ w = u.take k) ∨ ∃ g ∈ b.gaps, w ∈ g.ways := by
  constructor
  · rintro ⟨j, b', g, u, hj, hb', hg, hu, rfl⟩
    by_cases e : j = k
    · subst e
      rw [hb] at hb'
      cases hb'
      have lu := (((ok.bolts j b hb).gaps g hg).words u hu).1
      have lj : j < l.length := (List.getElem?_eq_some_iff.mp hb).1
      unfold manysOf at lu
      rw [List.length_map, List.length_take] at lu
      refine .inr ⟨g, hg, ?_⟩
      rw [List.take_of_length_le (by omega)]
      exact hu
    · refine .inl ⟨u.take (k + 1), ⟨j, b', g, u, by omega, hb', hg, hu, rfl⟩, ?_⟩
      rw [List.take_take, Nat.min_eq_left (Nat.le_succ k)]
  · rintro (⟨u, ⟨j, b', g, u', hj, hb', hg, hu, rfl⟩, rfl⟩ | ⟨g, hg, hw⟩)
    · refine ⟨j, b', g, u', by omega, hb', hg, hu, ?_⟩
      rw [List.take_take, Nat.min_eq_left (Nat.le_succ k)]
    · have lu := (((ok.bolts k b hb).gaps g hg).words w hw).1
      have lj : k < l.length := (List.getElem?_eq_some_iff.mp hb).1
      unfold manysOf at lu
      rw [List.length_map, List.length_take] at lu
      refine ⟨k, b, g, w, Nat.le_refl _, hb, hg, hw, ?_⟩
      rw [List.take_of_length_le (by omega)]
theorem isKeys_rows {K : PySem.W.Frag} {H : Hp} : ∀ {ws : List Word} {bs : List Addr}, IsKeys H (kws ws fun _ => V.bl true) bs → Paired (Wd K H) (bs.map V.ref) ws
  | [], _, h => by
    cases h
    exact .nil
  | w :: ws, _, h => by
    cases h with
    | cons r t =>
      refine .cons ⟨_, rfl, ?_⟩ (isKeys_rows t)
      have r' : _ = some (HO.tup ((keyW w).map kV)) := r
      rw [keyW_kV] at r'
      exact r'
def spWords (K : PySem.W.Frag) : Sp := fun vs H Q _ => ∃ (v : V) (l : Lock), vs = [v] ∧ LockAt K H v l ∧ LockOk l ∧
  ∀ H' p (rs : List Addr), Evl.Ex H H' → H p = none → H' p = some (.lst (rs.map V.ref)) → rs.length = l.length →
    (∀ k r, rs[k]? = some r → H r = none ∧ ∃ ws, RowAt K H' r ws ∧ WordsAt l k ws) → Q (.ref p) H'

/-- a word of a tuple of words, cut -/
theorem cut_take (xs : List V) (k : Nat) : cutV xs none (some (k : Int)) = xs.take k := by
  unfold cutV
  rw [HT.sIx_none, HT.sIx_nat]
  rw [List.drop_zero, Nat.sub_zero]
  by_cases h : k ≤ xs.length
  · rw [Nat.min_eq_left h]
  · rw [Nat.min_eq_right (by omega), List.take_length, List.take_of_length_le (by omega)]
theorem slice_whole {n k : Nat} (h : HT.sIx n n (some (k : Int)) = n) : n ≤ k := by
  rw [HT.sIx_nat] at h
  omega
end Wb

set_option Elab.async false
set_option linter.all false
set_option maxRecDepth 100000
set_option maxHeartbeats 4000000
set_option pp.maxSteps 600
set_option pp.deepTerms false
namespace Wb
open PySem PySem.Spec PyProof.Rows L2
/-! ### things of whatever kind: data, with dicts {} and {0: 1} within -/
def one0 : List (Key × V) := [(.inl 0, .int 1)]
mutual
inductive Th (K : PySem.W.Frag) (H : Hp) : V → PyData → Prop where
  | non : Th K H .non .none
  | bl (b : Bool) : Th K H (.bl b) (.bool b)
  | int (i : Int) : Th K H (.int i) (.int i)
  | str (x : Str) : Th K H (.str x) (.str x)
  | d0 {a : Addr} : H a = some (.dK []) → Th K H (.ref a) (.dict [])
  | d1 {a : Addr} : H a = some (.dK one0) → Th K H (.ref a) (.dict [(.int 0, .int 1)])
  | lst {a : Addr} {xs : List V} {ds : List PyData} : H a = some (.lst xs) → ThAll K H xs ds → Th K H (.ref a) (.list ds)
  | tup {a : Addr} {xs : List V} {ds : List PyData} : H a = some (.tup xs) → ThAll K H xs ds → Th K H (.ref a) (.tuple ds)
inductive ThAll (K : PySem.W.Frag) (H : Hp) : List V → List PyData → Prop where
  | nil : ThAll K H [] []
  | cons {v : V} {d : PyData} {vs : List V} {ds : List PyData} : Th K H v d → ThAll K H vs ds → ThAll K H (v :: vs) (d :: ds)
end
/-- what such things lean on stays -/
structure TK (K : PySem.W.Frag) (H H' : Hp) : Prop where
  t : ∀ a xs, H a = some (.tup xs) → H' a = some (.tup xs)
  l : ∀ a xs, H a = some (.lst xs) → H' a = some (.lst xs)
  d0 : ∀ a, H a = some (.dK []) → H' a = some (.dK [])
  d1 : ∀ a, H a = some (.dK one0) → H' a = some (.dK one0)
section
variable {K : PySem.W.Frag} {H H' : Hp} {p c : Addr} {T : Int}
theorem TK.ex (e : Evl.Ex H H') : TK K H H' := ⟨fun _ _ h => e _ _ h, fun _ _ h => e _ _ h, fun _ h => e _ _ h, fun _ h => e _ _ h⟩
theorem TK.refl (K : PySem.W.Frag) (H : Hp) : TK K H H := TK.ex (Evl.Ex.refl H)
theorem TK.trans {H1 : Hp} (a : TK K H H1) (b : TK K H1 H') : TK K H H' := ⟨fun x o h => b.t x o (a.t x o h), fun x o h => b.l x o (a.l x o h), fun x h => b.d0 x (a.d0 x h), fun x h => b.d1 x (a.d1 x h)⟩
mutual
theorem Th.keep (e : TK K H H') : ∀ {v : V} {d : PyData}, Th K H v d → Th K H' v d
  | _, _, .non => .non
  | _, _, .bl b => .bl b
  | _, _, .int i => .int i
  | _, _, .str x => .str x
  | _, _, .d0 h => .d0 (e.d0 _ h)
  | _, _, .d1 h => .d1 (e.d1 _ h)
  | _, _, .lst h a => .lst (e.l _ _ h) (ThAll.keep e a)
  | _, _, .tup h a => .tup (e.t _ _ h) (ThAll.keep e a)
theorem ThAll.keep (e : TK K H H') : ∀ {vs : List V} {ds : List PyData}, ThAll K H vs ds → ThAll K H' vs ds
  | _, _, .nil => .nil
  | _, _, .cons h a => .cons (Th.keep e h) (ThAll.keep e a)
end
theorem Th.ex (e : Evl.Ex H H') {v : V} {d : PyData} (h : Th K H v d) : Th K H' v d := h.keep (TK.ex e)
theorem ThAll.paired : ∀ {vs : List V} {ds : List PyData}, ThAll K H vs ds → Paired (Th K H) vs ds
  | _, _, .nil => .nil
  | _, _, .cons h t => .cons h (ThAll.paired t)
theorem thAll : ∀ {vs : List V} {ds : List PyData}, Paired (Th K H) vs ds → ThAll K H vs ds
  | _, _, .nil => .nil
  | _, _, .cons h t => .cons h (thAll t)
def tyS : PyData → String
  | .none => "NoneType"
  | .bool _ => "bool"
  | .int _ => "int"
  | .str _ => "str"
  | .list _ => "list"
  | .tuple _ => "tuple"
  | .dict _ => "dict"
theorem tyx_lst {a : Addr} {xs : List V} (h : SqL K H a xs) : TyX K H (.ref a) (.type "list") := by
  rcases h with (h | ⟨o, h⟩) | ⟨o, its, n, h, c, _⟩
  · exact .base (.lst h)
  · exact .base (.frz h)
  · exact .kList h c
theorem Th.ty {v : V} {d : PyData} (h : Th K H v d) : TyX K H v (.type (tyS d)) := by
  cases h with
  | non => exact .base .non
  | bl b => exact .base (.bl b)
  | int i => exact .base (.int i)
  | str x => exact .base (.str x)
  | d0 h => exact .base (.dK h)
  | d1 h => exact .base (.dK h)
  | lst h _ => exact tyx_lst (.inl (.inl h))
  | tup h _ => exact tyx_tup (.inl (.inl h))
def isInt : PyData → Bool
  | .int _ => true
  | .bool _ => true
  | _ => false
def isBool : PyData → Bool
  | .bool _ => true
  | _ => false
def isTup : PyData → Bool
  | .tuple _ => true
  | _ => false
def isLst : PyData → Bool
  | .list _ => true
  | _ => false
def isStr : PyData → Bool
  | .str _ => true
  | _ => false
theorem kit_int (d : PyData) : kitB (tyS d) "int" = some (isInt d) := by cases d <;> (simp only [tyS, isInt]; decide +kernel)
theorem kit_bool (d : PyData) : kitB (tyS d) "bool" = some (isBool d) := by cases d <;> (simp only [tyS, isBool]; decide +kernel)
theorem kit_tup (d : PyData) : kitB (tyS d) "tuple" = some (isTup d) := by cases d <;> (simp only [tyS, isTup]; decide +kernel)
theorem kit_lst (d : PyData) : kitB (tyS d) "list" = some (isLst d) := by cases d <;> (simp only [tyS, isLst]; decide +kernel)
theorem kit_str (d : PyData) : kitB (tyS d) "str" = some (isStr d) := by cases d <;> (simp only [tyS, isStr]; decide +kernel)
theorem Th.itemsS {v : V} {ds : List PyData} (h : Th K H v (.tuple ds)) : ∃ a xs, v = .ref a ∧ H a = some (.tup xs) ∧ Paired (Th K H) xs ds := by
  cases h with
  | tup h a => exact ⟨_, _, rfl, h, a.paired⟩
theorem Th.items {v : V} {ds : List PyData} (h : Th K H v (.tuple ds)) : ∃ a xs, v = .ref a ∧ SqT K H a xs ∧ Paired (Th K H) xs ds := by
  obtain ⟨a, xs, e, h, t⟩ := h.itemsS
  exact ⟨a, xs, e, .inl (.inl h), t⟩
theorem Th.tupI {a : Addr} {xs : List V} {ds : List PyData} (h : H a = some (.tup xs)) (hi : Paired (Th K H) xs ds) : Th K H (.ref a) (.tuple ds) := .tup h (thAll hi)
end
end Wb

set_option Elab.async false
set_option linter.all false
set_option maxRecDepth 100000
set_option maxHeartbeats 4000000
set_option pp.maxSteps 600
set_option pp.deepTerms false
namespace Wb
open PySem PySem.Spec PyProof.Rows L2
def itemsD : PyData → List PyData
  | .tuple ds => ds
  | _ => []
def placeB : PyData → Int → Bool
  | .int i, m => decide (0 ≤ i) && decide (i < m)
  | _, _ => false
def allP : List PyData → List Int → Bool
  | d :: ds, m :: ms => placeB d m && allP ds ms
  | _, _ => true
def placesB (d : PyData) (ms : List Int) : Bool := isTup d && (decide ((itemsD d).length = ms.length) && allP (itemsD d) ms)
theorem allP_bad : ∀ {ds : List PyData} {ms : List Int} {i : Nat} {d : PyData} {m : Int}, ds[i]? = some d → ms[i]? = some m → placeB d m = false → allP ds ms = false
  | _ :: _, _ :: _, 0, d, m, h1, h2, h => by
    simp at h1 h2
    subst h1 h2
    simp [allP, h]
  | _ :: _, _ :: _, i + 1, d, m, h1, h2, h => by
    have := allP_bad (i := i) (by simpa using h1) (by simpa using h2) h
    simp [allP, this]
  | [], _, _, _, _, h1, _, _ => by simp at h1
  | _ :: _, [], _, _, _, _, h2, _ => by simp at h2
theorem allP_all : ∀ {ds : List PyData} {ms : List Int}, (∀ (i : Nat) (d : PyData) (m : Int), ds[i]? = some d → ms[i]? = some m → placeB d m = true) → allP ds ms = true
  | d :: ds, m :: ms, h => by
    have h0 := h 0 d m rfl rfl
    have := allP_all (ds := ds) (ms := ms) fun i d' m' a b => h (i + 1) d' m' (by simpa using a) (by simpa using b)
    simp [allP, h0, this]
  | [], _, _ => by simp [allP]
  | _ :: _, [], _ => by simp [allP]
def isNon : PyData → Bool
  | .none => true
  | _ => false
section
variable {K : PySem.W.Frag} {H : Hp}
theorem tup_of {d : PyData} (h : isTup d = true) : ∃ ds, d = .tuple ds := by
  cases d <;> first
    | exact ⟨_, rfl⟩
    | cases h
/-- the value of a thing is no int or bool that its data isn't -/
theorem Th.int_of {v : V} {d : PyData} (h : Th K H v d) (hi : isInt d = true) (hb : isBool d = false) : ∃ i, d = .int i ∧ v = .int i := by
  cases d <;> first
    | (cases hi; done)
    | (cases hb; done)
    | skip
  rename_i i
  refine ⟨i, rfl, ?_⟩
  cases h
  rfl
theorem Th.non_iff {v : V} {d : PyData} (h : Th K H v d) : decide (v = .non) = isNon d := by
  cases h <;> simp [isNon]
end
def spTupG (K : PySem.W.Frag) : Sp := fun vs H Q _ => ∃ (v : V) (d : PyData) (l h : Int), vs = [v, .int l, .int h] ∧ Th K H v d ∧ Q (.bl (isTup d && (decide (l ≤ ((itemsD d).length : Int)) && decide (((itemsD d).length : Int) ≤ h)))) H
section
variable {P : Program} {w : World} {K : PySem.W.Frag} {mg : Str → Option Value} {base : Heap}
theorem ok_tupG {f : Addr} {fd : FuncData} (F : Fun K "is_tuple_of" "is_tuple_of" sTupOf f fd) (B : Bi mg) : FnOk P w K mg base CX0 1 f fd ["thing", "low", "high"] (spTupG K) := by
  refine F.ok scTupOf (fun vs H Q E h => ?_) (fun cdv A outer s H vs Q E hr h => ?_)
  · obtain ⟨v, d, l, m, rfl, _⟩ := h; rfl
  · obtain ⟨v, d, l, m, rfl, hv, q⟩ := h
    refine ⟨_, pss_one (ps_ret (pe_and (pe_callB call_isi (by rfl) B.isi boot_isinstance (pa_cons (pv 0) (pa_cons (pe_bltn (v := .ty "tuple") (by rfl) B.tuple (by decide +kernel) rfl) pa_nil)))
      (pe_one (pe_chain op_le op_le (pv 1) (pe_callB call_len_seq (by rfl) B.len PySem.boot_len (pa_cons (pv 0) pa_nil)) (pv 2))))), ?_⟩
    refine ⟨v, rfl, v, .ty "tuple", .type (tyS d), .type "tuple", isTup d, rfl, .ty _, hv.ty, kit_ty (kit_tup d), isTup d, rfl, ?_⟩
    cases ht : isTup d with
    | false =>
      rw [ht] at q
      rw [if_neg Bool.false_ne_true]
      exact q
    | true =>
      rw [ht] at q
      rw [if_pos rfl]
      obtain ⟨ds, rfl⟩ := tup_of ht
      obtain ⟨a, xs, rfl, hx, hi⟩ := hv.items
      have e : ((itemsD (.tuple ds)).length : Int) = xs.length := by rw [(Paired.len hi)]; rfl
      rw [e] at q
      refine ⟨.int l, rfl, .ref a, rfl, a, xs, rfl, .inr hx, l, xs.length, rfl, rfl, decide (l ≤ (xs.length : Int)), rfl, ?_⟩
      by_cases h1 : l ≤ (xs.length : Int)
      · rw [if_pos (decide_eq_true h1)]
        refine ⟨.int m, rfl, xs.length, m, rfl, rfl, ?_⟩
        rw [decide_eq_true h1] at q
        exact q
      · rw [if_neg (by rw [decide_eq_false h1]; exact Bool.false_ne_true)]
        rw [decide_eq_false h1] at q
        exact q
end
def wholeB : PyData → Int → Int → Bool
  | .int i, l, m => decide (l ≤ i) && decide (i ≤ m)
  | _, _, _ => false
def plainInt : PyData → Bool
  | .int _ => true
  | _ => false
theorem plain_eq (d : PyData) : (isInt d && !isBool d) = plainInt d := by cases d <;> rfl
def spWholeG (K : PySem.W.Frag) : Sp := fun vs H Q _ => ∃ (v : V) (d : PyData), vs = [v] ∧ Th K H v d ∧ Q (.bl (plainInt d)) H
def spWholeInG (K : PySem.W.Frag) : Sp := fun vs H Q _ => ∃ (v : V) (d : PyData) (l m : Int), vs = [v, .int l, .int m] ∧ Th K H v d ∧ Q (.bl (wholeB d l m)) H
section
variable {P : Program} {w : World} {K : PySem.W.Frag} {mg : Str → Option Value} {base : Heap}
theorem ok_wholeG {f : Addr} {fd : FuncData} (F : Fun K "is_whole" "is_whole" sWhole f fd) (B : Bi mg) : FnOk P w K mg base CX0 1 f fd ["thing"] (spWholeG K) := by
  refine F.ok scWhole (fun vs H Q E h => ?_) (fun cdv A outer s H vs Q E hr h => ?_)
  · obtain ⟨v, d, rfl, _⟩ := h; rfl
  · obtain ⟨v, d, rfl, hv, q⟩ := h
    refine ⟨_, pss_one (ps_ret (pe_and (pe_callB call_isi (by rfl) B.isi boot_isinstance (pa_cons (pv 0) (pa_cons (pe_bltn (v := .ty "int") (by rfl) B.int (by decide +kernel) rfl) pa_nil)))
      (pe_one (pe_not (pe_callB call_isi (by rfl) B.isi boot_isinstance (pa_cons (pv 0) (pa_cons (pe_bltn (v := .ty "bool") (by rfl) B.bool (by decide +kernel) rfl) pa_nil))))))), ?_⟩
    refine ⟨v, rfl, v, .ty "int", .type (tyS d), .type "int", isInt d, rfl, .ty _, hv.ty, kit_ty (kit_int d), isInt d, rfl, ?_⟩
    rw [← plain_eq] at q
    cases hi : isInt d with
    | false =>
      rw [hi] at q
      rw [if_neg Bool.false_ne_true]
      exact q
    | true =>
      rw [hi] at q
      rw [if_pos rfl]
      exact ⟨v, rfl, v, .ty "bool", .type (tyS d), .type "bool", isBool d, rfl, .ty _, hv.ty, kit_ty (kit_bool d), isBool d, rfl, q⟩
theorem plain_of {v : V} {d : PyData} {H : Hp} (h : Th K H v d) (hp : plainInt d = true) : ∃ i, d = .int i ∧ v = .int i := by
  cases d <;> first
    | (cases hp; done)
    | skip
  rename_i i
  refine ⟨i, rfl, ?_⟩
  cases h
  rfl
theorem ok_wholeInG {f f1 : Addr} {fd fd1 : FuncData} (F : Fun K "is_whole_in" "is_whole_in" sWholeIn f fd) (F1 : Fun K "is_whole" "is_whole" sWhole f1 fd1) (b1 : Binds K fd1 ["thing"] []) (g1 : mg "is_whole" = some (.ref f1)) (B : Bi mg) :
    FnOk P w K mg base CX0 2 f fd ["thing", "low", "high"] (spWholeInG K) := by
  have G1 : FnOk P w K mg base CX0 1 f1 fd1 ["thing"] (spWholeG K) := ok_wholeG F1 B
  refine F.ok scWholeIn (fun vs H Q E h => ?_) (fun cdv A outer s H vs Q E hr h => ?_)
  · obtain ⟨v, d, l, m, rfl, _⟩ := h; rfl
  · obtain ⟨v, d, l, m, rfl, hv, q⟩ := h
    refine ⟨_, pss_one (ps_ret (pe_and (pe_call G1 hr (by rfl) g1 F1.kp b1 .nil pass0 (pa_cons (pv 0) pa_nil)) (pe_one (pe_chain op_le op_le (pv 1) (pv 0) (pv 2))))), ?_⟩
    refine ⟨v, rfl, v, d, rfl, hv, plainInt d, rfl, ?_⟩
    cases hp : plainInt d with
    | false =>
      rw [if_neg Bool.false_ne_true]
      have z : wholeB d l m = false := by
        cases d <;> first
          | rfl
          | cases hp
      rw [z] at q
      exact q
    | true =>
      rw [if_pos rfl]
      obtain ⟨i, rfl, rfl⟩ := plain_of hv hp
      have z : wholeB (.int i) l m = (decide (l ≤ i) && decide (i ≤ m)) := rfl
      rw [z] at q
      refine ⟨.int l, rfl, .int i, rfl, l, i, rfl, rfl, decide (l ≤ i), rfl, ?_⟩
      by_cases h1 : l ≤ i
      · rw [if_pos (decide_eq_true h1)]
        refine ⟨.int m, rfl, i, m, rfl, rfl, ?_⟩
        rw [decide_eq_true h1] at q
        exact q
      · rw [if_neg (by rw [decide_eq_false h1]; exact Bool.false_ne_true)]
        rw [decide_eq_false h1] at q
        exact q
def spPlacesG (K : PySem.W.Frag) : Sp := fun vs H Q _ => ∃ (v : V) (d : PyData) (b : Addr) (m : Bool) (ms : List Int), vs = [v, .ref b] ∧ Th K H v d ∧ SqX K m H b (ms.map V.int) ∧ ∀ H', Evl.Ex H H' → Q (.bl (placesB d ms)) H'
theorem ok_placesG {f f1 : Addr} {fd fd1 : FuncData} (F : Fun K "are_places" "are_places" sPlaces f fd) (F1 : Fun K "is_tuple_of" "is_tuple_of" sTupOf f1 fd1) (b1 : Binds K fd1 ["thing", "low", "high"] []) (g1 : mg "is_tuple_of" = some (.ref f1)) (B : Bi mg) :
    FnOk P w K mg base CX0 2 f fd ["thing", "manys"] (spPlacesG K) := by
  have G1 : FnOk P w K mg base CX0 1 f1 fd1 ["thing", "low", "high"] (spTupG K) := ok_tupG F1 B
  refine F.ok scPlaces (fun vs H Q E h => ?_) (fun cdv A outer s H vs Q E hr h => ?_)
  · obtain ⟨v, d, b, m, ms, rfl, _⟩ := h; rfl
  · obtain ⟨v, d, b, mm, ms, rfl, hv, hy, q⟩ := h
    refine ⟨_, pss_cons (ps_if (pt_not (pt_val (pe_call G1 hr (by rfl) g1 F1.kp b1 .nil pass0 (pa_cons (pv 0) (pa_cons (pe_callB call_len_seq (by rfl) B.len PySem.boot_len (pa_cons (pv 1) pa_nil)) (pa_cons (pe_callB call_len_seq (by rfl) B.len PySem.boot_len (pa_cons (pv 1) pa_nil)) pa_nil))))))
        (pss_one (ps_ret pe_bl)) pss_nil)
      (pss_cons (ps_for PassesOwn.never rfl (pi_zipX (by rfl) B.zip (pa_cons (pv 0) (pa_cons (pv 1) pa_nil))) (pg_tup rfl (pgs_cons (pg_name (i := 2) scPlaces.nd rfl (.inl rfl)) (pgs_cons (pg_name (i := 3) scPlaces.nd rfl (.inl rfl)) pgs_nil)))
        (pss_one (ps_if (PW.pt (pw_or (pt_val (pe_callB call_isi (by rfl) B.isi boot_isinstance (pa_cons (pv 2) (pa_cons (pe_bltn (v := .ty "bool") (by rfl) B.bool (by decide +kernel) rfl) pa_nil))))
            (pw_or (pt_not (pt_val (pe_callB call_isi (by rfl) B.isi boot_isinstance (pa_cons (pv 2) (pa_cons (pe_bltn (v := .ty "int") (by rfl) B.int (by decide +kernel) rfl) pa_nil)))))
              (pw_or1 (pt_not (pt_chain op_le op_lt pe_int (pv 2) (pv 3)))))))
          (pss_one (ps_ret pe_bl)) pss_nil)))
      (pss_one (ps_ret pe_bl))), ?_⟩
    refine ⟨v, rfl, .ref b, rfl, b, _, rfl, sqx_seq hy, .ref b, rfl, b, _, rfl, sqx_seq hy, v, d, _, _, rfl, hv, _, rfl, ?_⟩
    have lm : ((ms.map V.int).length) = ms.length := List.length_map ..
    cases ht : isTup d with
    | false =>
      have z : placesB d ms = false := by unfold placesB; rw [ht]; rfl
      rw [z] at q
      refine iteT ?_
      exact q H (Evl.Ex.refl H)
    | true =>
      obtain ⟨ds, rfl⟩ := tup_of ht
      obtain ⟨a, xs, rfl, hx, hi⟩ := hv.items
      have xl := (Paired.len hi)
      by_cases hl : ds.length = ms.length
      · have z : (decide (((ms.map V.int).length : Int) ≤ ((itemsD (.tuple ds)).length : Int)) && decide (((itemsD (.tuple ds)).length : Int) ≤ ((ms.map V.int).length : Int))) = true := by
          rw [lm]
          show (decide ((ms.length : Int) ≤ (ds.length : Int)) && decide ((ds.length : Int) ≤ (ms.length : Int))) = true
          rw [hl]
          simp
        rw [z]
        refine iteF ?_
        have pB : placesB (.tuple ds) ms = allP ds ms := by
          show (true && (decide (ds.length = ms.length) && allP ds ms)) = _
          rw [decide_eq_true hl]
          simp
        rw [pB] at q
        refine ⟨.ref a, rfl, .ref b, rfl, false, mm, a, b, xs, ms.map V.int, rfl, hx, hy, ?_⟩
        refine for_it (walk_zx (l := false) (m := mm) (xs := xs) (ys := ms.map V.int) (by rw [lm, xl, hl])) (fun i σ H' => ∃ y2 y3, σ = [some (.ref a), some (.ref b), y2, y3] ∧ Evl.Ex H H' ∧ ∀ j d m, j < i → ds[j]? = some d → ms[j]? = some m → placeB d m = true) ⟨none, none, rfl, Evl.Ex.refl H, fun j _ _ z => absurd z (Nat.not_lt_zero j)⟩ ?_ ?_ ?_
        · rintro i σ H' _ ⟨_, _, _, e, _⟩
          exact ⟨Evl.ex_t e hx, sqx_ex e hy⟩
        · rintro i v σ H1 H2 hii ⟨y2, y3, rfl, e, hall⟩ ⟨T, x, y, rfl, nT, rfl, ex, ey⟩
          obtain ⟨k, hk, rfl⟩ := get_map_int ey
          obtain ⟨dx, hdx, hth⟩ := Paired.get1 hi ex
          have e2 : Evl.Ex H (upd H1 T (.tup [x, .int k])) := e.trans (Evl.Ex.new nT)
          have hth2 := hth.keep (TK.ex e2)
          refine ⟨T, [x, .int k], rfl, .inl (.inl upd_same), rfl, x, [.int k], rfl, .int k, [], rfl, rfl, ?_⟩
          refine ⟨x, rfl, x, .ty "bool", .type (tyS dx), .type "bool", isBool dx, rfl, .ty _, hth2.ty, kit_ty (kit_bool dx), isBool dx, rfl, ?_⟩
          have bad : placeB dx k = false → Q (.bl false) (upd H1 T (.tup [x, .int k])) := fun z => by
            have := q _ e2
            rw [allP_bad hdx hk z] at this
            exact this
          cases hb : isBool dx with
          | true =>
            refine iteT (iteT ?_)
            refine bad ?_
            cases dx <;> first
              | rfl
              | cases hb
          | false =>
            refine iteF ?_
            refine ⟨x, rfl, x, .ty "int", .type (tyS dx), .type "int", isInt dx, rfl, .ty _, hth2.ty, kit_ty (kit_int dx), isInt dx, rfl, ?_⟩
            cases hn : isInt dx with
            | false =>
              refine iteT (iteT ?_)
              refine bad ?_
              cases dx <;> first
                | rfl
                | cases hn
            | true =>
              refine iteF ?_
              obtain ⟨n, rfl, rfl⟩ := hth.int_of hn hb
              refine ⟨.int n, rfl, 0, n, rfl, rfl, decide ((0:Int) ≤ n), rfl, ?_⟩
              by_cases h0 : (0 : Int) ≤ n
              · rw [if_pos (decide_eq_true h0)]
                refine ⟨.int k, rfl, n, k, rfl, rfl, decide (n < k), rfl, ?_⟩
                by_cases h1 : n < k
                · rw [decide_eq_true h1]
                  refine iteF ?_
                  refine ⟨_, _, rfl, e2, fun j d m hj hd hm => ?_⟩
                  by_cases hji : j = i
                  · subst hji
                    rw [hdx] at hd
                    rw [hk] at hm
                    cases hd
                    cases hm
                    show (decide (0 ≤ n) && decide (n < k)) = true
                    rw [decide_eq_true h0, decide_eq_true h1]
                    rfl
                  · exact hall j d m (by omega) hd hm
                · rw [decide_eq_false h1]
                  refine iteT ?_
                  refine bad ?_
                  show (decide (0 ≤ n) && decide (n < k)) = false
                  rw [decide_eq_false h1]
                  simp
              · rw [if_neg (by rw [decide_eq_false h0]; exact Bool.false_ne_true)]
                refine ⟨false, rfl, ?_⟩
                refine iteT ?_
                refine bad ?_
                show (decide (0 ≤ n) && decide (n < k)) = false
                rw [decide_eq_false h0]
                rfl
        · rintro σ H' ⟨y2, y3, rfl, e, hall⟩
          have z2 : allP ds ms = true := allP_all fun i d m hd hm => hall i d m (by
            have := (List.getElem?_eq_some_iff.mp hd).1
            omega) hd hm
          have := q H' e
          rw [z2] at this
          exact this
      · have z : (decide (((ms.map V.int).length : Int) ≤ ((itemsD (.tuple ds)).length : Int)) && decide (((itemsD (.tuple ds)).length : Int) ≤ ((ms.map V.int).length : Int))) = false := by
          rw [lm]
          show (decide ((ms.length : Int) ≤ (ds.length : Int)) && decide ((ds.length : Int) ≤ (ms.length : Int))) = false
          rw [Bool.and_eq_false_iff]
          by_cases h : (ms.length : Int) ≤ ds.length
          · exact .inr (decide_eq_false (by omega))
          · exact .inl (decide_eq_false h)
        rw [z]
        have pB : placesB (.tuple ds) ms = false := by
          show (true && (decide (ds.length = ms.length) && allP ds ms)) = false
          rw [decide_eq_false hl]
          rfl
        rw [pB] at q
        refine iteT ?_
        exact q H (Evl.Ex.refl H)
end
end Wb

set_option Elab.async false
set_option linter.all false
set_option maxRecDepth 100000
set_option maxHeartbeats 4000000
set_option pp.maxSteps 600
set_option pp.deepTerms false
namespace Wb
open PySem PySem.Spec PyProof.Rows L2
/-! ### ways, of anything -/
def intD : PyData → Int
  | .int i => i
  | _ => 0
/-- a tuple's whole numbers -/
def wdG (d : PyData) : Word := (itemsD d).map intD
def riseAt (ds : List PyData) (n : Nat) : Bool := HT.lexLt (wdG (ds.getD n .none)) (wdG (ds.getD (n + 1) .none))
def riseB (ds : List PyData) : Bool := (List.range (ds.length - 1)).all (riseAt ds)
def waysB (d : PyData) (ms : List Int) : Bool := isTup d && (decide ((itemsD d).length ≤ 8) && ((itemsD d).all (fun e => placesB e ms) && riseB (itemsD d)))
theorem ints_back (ns : List Int) : (ns.map PyData.int).map intD = ns := by
  rw [List.map_map]
  have : (intD ∘ PyData.int) = id := rfl
  rw [this, List.map_id]
theorem place_int {d : PyData} {m : Int} (h : placeB d m = true) : ∃ i, d = .int i ∧ 0 ≤ i ∧ i < m := by
  cases d <;> first
    | (cases h; done)
    | skip
  rename_i i
  have h' : (decide (0 ≤ i) && decide (i < m)) = true := h
  rw [Bool.and_eq_true, decide_eq_true_eq, decide_eq_true_eq] at h'
  exact ⟨i, rfl, h'.1, h'.2⟩
theorem allP_ints : ∀ {ds : List PyData} {ms : List Int}, ds.length = ms.length → allP ds ms = true → ∃ ns, ds = ns.map PyData.int ∧ InAll ns ms
  | [], [], _, _ => ⟨[], rfl, rfl, fun i n m h => by simp at h⟩
  | d :: ds, m :: ms, hl, h => by
    have h' : (placeB d m && allP ds ms) = true := h
    rw [Bool.and_eq_true] at h'
    obtain ⟨i, rfl, h0, h1⟩ := place_int h'.1
    obtain ⟨ns, rfl, h2, h3⟩ := allP_ints (by simpa using hl) h'.2
    refine ⟨i :: ns, rfl, by rw [List.length_cons, List.length_cons, h2], fun j n m' hn hm => ?_⟩
    match j, hn, hm with
    | 0, hn, hm => cases hn; cases hm; exact ⟨h0, h1⟩
    | j + 1, hn, hm => exact h3 j n m' (by simpa using hn) (by simpa using hm)
  | [], _ :: _, h, _ => by simp at h
  | _ :: _, [], h, _ => by simp at h
theorem places_ints {d : PyData} {ms : List Int} (h : placesB d ms = true) : ∃ ns, d = .tuple (ns.map PyData.int) ∧ InAll ns ms := by
  unfold placesB at h
  rw [Bool.and_eq_true, Bool.and_eq_true, decide_eq_true_eq] at h
  obtain ⟨ht, hl, ha⟩ := h
  obtain ⟨ds, rfl⟩ := tup_of ht
  obtain ⟨ns, h1, h2⟩ := allP_ints hl ha
  have h1' : ds = _ := h1
  exact ⟨ns, by rw [h1'], h2⟩
theorem ints_places {ns ms : List Int} (h : InAll ns ms) : placesB (.tuple (ns.map PyData.int)) ms = true := by
  have l : (ns.map PyData.int).length = ms.length := by rw [List.length_map]; exact h.1
  show (true && (decide ((ns.map PyData.int).length = ms.length) && allP (ns.map PyData.int) ms)) = true
  rw [decide_eq_true l, Bool.true_and, Bool.true_and]
  refine allP_all fun i d m hd hm => ?_
  rw [List.getElem?_map] at hd
  obtain ⟨n, hn, rfl⟩ := Option.map_eq_some_iff.mp hd
  obtain ⟨h0, h1⟩ := h.2 i n m hn hm
  show (decide (0 ≤ n) && decide (n < m)) = true
  rw [decide_eq_true h0, decide_eq_true h1]
  rfl
section
variable {K : PySem.W.Frag} {H : Hp}
theorem th_ints : ∀ {xs : List V} {ns : List Int}, Paired (Th K H) xs (ns.map PyData.int) → xs = ns.map V.int
  | [], [], _ => rfl
  | _, n :: ns, .cons h t => by
    cases h
    rw [th_ints t]
    rfl
theorem ints_th {v : V} {ns : List Int} (h : Th K H v (.tuple (ns.map PyData.int))) : ∃ a, v = .ref a ∧ SqT K H a (ns.map V.int) := by
  obtain ⟨a, xs, rfl, h1, h2⟩ := h.items
  exact ⟨a, rfl, by rw [← th_ints h2]; exact h1⟩
end
theorem ints_thS {K : PySem.W.Frag} {H : Hp} {v : V} {ns : List Int} (h : Th K H v (.tuple (ns.map PyData.int))) : ∃ a, v = .ref a ∧ H a = some (.tup (ns.map V.int)) := by
  obtain ⟨a, xs, rfl, h1, h2⟩ := h.itemsS
  exact ⟨a, rfl, by rw [← th_ints h2]; exact h1⟩
theorem getD_of {ds : List PyData} {i : Nat} {d : PyData} (h : ds[i]? = some d) : ds.getD i .none = d := by
  rw [List.getD_eq_getElem?_getD, h]
  rfl
def spWaysG (K : PySem.W.Frag) : Sp := fun vs H Q _ => ∃ (v : V) (d : PyData) (b : Addr) (ms : List Int), vs = [v, .ref b] ∧ Th K H v d ∧ SqL K H b (ms.map V.int) ∧ ∀ H', Evl.Ex H H' → Q (.bl (waysB d ms)) H'
theorem all_id (bs : List Bool) : bs.all id = bs.all fun b => b := rfl
section
variable {P : Program} {w : World} {K : PySem.W.Frag} {mg : Str → Option Value} {base : Heap}
theorem ok_waysG {f f1 f2 : Addr} {fd fd1 fd2 : FuncData} (F : Fun K "are_ways" "are_ways" sWays f fd) (F1 : Fun K "is_tuple_of" "is_tuple_of" sTupOf f1 fd1) (b1 : Binds K fd1 ["thing", "low", "high"] []) (g1 : mg "is_tuple_of" = some (.ref f1))
    (F2 : Fun K "are_places" "are_places" sPlaces f2 fd2) (b2 : Binds K fd2 ["thing", "manys"] []) (g2 : mg "are_places" = some (.ref f2)) (B : Bi mg) (N : Nu mg) :
    FnOk P w K mg base CX0 3 f fd ["thing", "below"] (spWaysG K) := by
  have G1 : FnOk P w K mg base CX0 1 f1 fd1 ["thing", "low", "high"] (spTupG K) := ok_tupG F1 B
  have G2 : FnOk P w K mg base CX0 2 f2 fd2 ["thing", "manys"] (spPlacesG K) := ok_placesG F2 F1 b1 g1 B
  obtain ⟨tw, ew⟩ := N.ways
  refine F.ok scWays (fun vs H Q E h => ?_) (fun cdv A outer s H vs Q E hr h => ?_)
  · obtain ⟨v, d, b, ms, rfl, _⟩ := h; rfl
  · obtain ⟨v, d, b, ms, rfl, hv, hy, q⟩ := h
    have hr1 : Room 1 _ := hr.mono (by decide)
    refine ⟨_, pss_cons (ps_if (pt_not (pt_val (pe_call G1 hr1 (by rfl) g1 F1.kp b1 .nil pass0 (pa_cons (pv 0) (pa_cons pe_int (pa_cons (pe_glob (v := .int 8) (by rfl) ew ⟨_, rfl⟩) pa_nil)))))) (pss_one (ps_ret pe_bl)) pss_nil)
      (pss_cons (ps_if (pt_not (pt_val (pe_callB (cr_all rfl) (by rfl) B.all boot_all (pa_cons
          (pe_lc (own := [("way", 2)]) (g := gName 2) rfl scWays.nd (pi_tup (pv 0)) (blkOk_by (own := [("way", 2)]) (N := ["thing", "below", "way", "n"]) (sc := defScope sWays) (by decide +kernel))
            (fun _ _ _ _ _ => pg_name (i := 2) scWays.nd rfl (Or.inl rfl)) (fun _ _ _ _ _ => pts_nil)
            (fun _ _ _ _ _ => pe_call G2 hr (by rfl) g2 F2.kp b2 .nil pass0 (pa_cons (pv 2) (pa_cons (pv 1) pa_nil)))) pa_nil)))) (pss_one (ps_ret pe_bl)) pss_nil)
      (pss_one (ps_ret (pe_callB (cr_all rfl) (by rfl) B.all boot_all (pa_cons
          (pe_lc (own := [("n", 3)]) (g := gName 3) rfl scWays.nd (pi_range1 rfl B.range (pa_cons (pe_op op_sub (pe_callB call_len_seq (by rfl) B.len PySem.boot_len (pa_cons (pv 0) pa_nil)) pe_int) pa_nil)) (blkOk_by (own := [("n", 3)]) (N := ["thing", "below", "way", "n"]) (sc := defScope sWays) (by decide +kernel))
            (fun _ _ _ _ _ => pg_name (i := 3) scWays.nd rfl (Or.inl rfl)) (fun _ _ _ _ _ => pts_nil)
            (fun _ _ _ _ _ => pe_cmpR (r := rLtT K) (op_ltT hr.units0) (pe_ix (r := rIxT K) ix_tup (pv 0) (pv 3) (fun _ _ => rfl)) (pe_ix (r := rIxT K) ix_tup (pv 0) (pe_op op_add (pv 3) pe_int) (fun _ _ => rfl)) (nomark _))) pa_nil))))), ?_⟩
    refine ⟨v, rfl, v, d, 0, 8, rfl, hv, _, rfl, ?_⟩
    cases ht : isTup d with
    | false =>
      have z : waysB d ms = false := by unfold waysB; rw [ht]; rfl
      rw [z] at q
      exact iteT (q H (Evl.Ex.refl H))
    | true =>
    obtain ⟨ds, rfl⟩ := tup_of ht
    obtain ⟨a, us, rfl, hx, hp⟩ := hv.items
    have ul : us.length = ds.length := Paired.len hp
    have wB : waysB (.tuple ds) ms = (decide (ds.length ≤ 8) && (ds.all (fun e => placesB e ms) && riseB ds)) := rfl
    have e1 : (decide ((0 : Int) ≤ ((itemsD (.tuple ds)).length : Int)) && decide (((itemsD (.tuple ds)).length : Int) ≤ 8)) = decide (ds.length ≤ 8) := by
      show (decide ((0 : Int) ≤ (ds.length : Int)) && decide ((ds.length : Int) ≤ 8)) = _
      rw [decide_eq_true (by omega : (0 : Int) ≤ (ds.length : Int)), Bool.true_and]
      exact decide_eq_decide.mpr (by omega)
    rw [e1, Bool.true_and]
    rw [wB] at q
    by_cases few : ds.length ≤ 8
    rotate_left
    · rw [decide_eq_false few] at q ⊢
      exact iteT (q H (Evl.Ex.refl H))
    rw [decide_eq_true few] at q ⊢
    rw [Bool.true_and] at q
    refine iteF ?_
    refine ⟨.ref a, rfl, a, rfl, ⟨_, hx⟩, fun D hD => lc_tup (K := K) (a := a) (xs := us) (fun i H' => Evl.Ex H H' ∧ H' D = some (.lst (((ds.take i).map (fun e => placesB e ms)).map V.bl))) ⟨Evl.Ex.new hD, upd_same⟩ ?_ ?_ ?_⟩
    · rintro i H' _ ⟨e, _⟩
      exact Evl.ex_t e hx
    · rintro i x H' hi ⟨e, eD⟩
      obtain ⟨dw, hw, hth⟩ := Paired.get1 hp hi
      have l9 : i < 9 := by
        have := (List.getElem?_eq_some_iff.mp hi).1
        omega
      refine ⟨rfl, x, rfl, .ref b, rfl, x, dw, b, true, ms, rfl, hth.ex e, Evl.ex_l e hy, fun H2 e2 => ?_⟩
      refine ⟨_, e2 _ _ eD, ?_, (e.trans e2).mut hD, ?_⟩
      · rw [List.length_map, List.length_map, List.length_take]
        exact Nat.lt_of_le_of_lt (show min i ds.length ≤ 8 by omega) (by decide)
      · rw [upd_same, take_succ_get hw, List.map_append, List.map_append]
        rfl
    · rintro H1 ⟨e, eD⟩
      rw [ul, List.take_length] at eD
      refine ⟨D, _, rfl, .inl (.inl eD), _, rfl, ?_⟩
      have eA : ((ds.map (fun e => placesB e ms)).all id) = ds.all (fun e => placesB e ms) := by
        rw [List.all_map]
        rfl
      rw [eA]
      cases hA : ds.all (fun e => placesB e ms) with
      | false =>
        rw [hA] at q
        exact iteT (q H1 e)
      | true =>
      rw [hA, Bool.true_and] at q
      refine iteF ?_
      have each : ∀ (i : Nat) (x : V), us[i]? = some x → ∃ (ax : Addr) (dx : PyData), ds[i]? = some dx ∧ x = .ref ax ∧ SqT K H ax ((wdG dx).map V.int) := by
        intro i x hi
        obtain ⟨dw, hw, hth⟩ := Paired.get1 hp hi
        have pb := List.all_eq_true.mp hA dw (List.mem_of_getElem? hw)
        obtain ⟨ns, rfl, _⟩ := places_ints pb
        obtain ⟨ax, rfl, hax⟩ := ints_th hth
        refine ⟨ax, _, hw, rfl, ?_⟩
        show SqT K H ax (((ns.map PyData.int).map intD).map V.int)
        rw [ints_back]
        exact hax
      refine ⟨.ref a, rfl, a, us, rfl, .inr (Evl.ex_t e hx), _, _, rfl, rfl, (us.length : Int) - 1, rfl, by omega, by omega, fun D2 hD2 =>
        lc_range (lo := 0) (n := ((us.length : Int) - 1).toNat) (fun i H' => Evl.Ex H1 H' ∧ H' D2 = some (.lst (((List.range i).map (riseAt ds)).map V.bl))) ⟨Evl.Ex.new hD2, upd_same⟩ ?_ ?_⟩
      · rintro i H' hi ⟨e2, eD2⟩
        have h1 : i < us.length := by omega
        have h2 : i + 1 < us.length := by omega
        obtain ⟨a1, d1, hd1, ea1, ha1⟩ := each i _ (List.getElem?_eq_getElem h1)
        obtain ⟨a2, d2, hd2, ea2, ha2⟩ := each (i + 1) _ (List.getElem?_eq_getElem h2)
        refine ⟨rfl, ?_⟩
        have e3 := e.trans e2
        refine ⟨.ref a, rfl, .int ((0 : Int) + (i : Nat)), rfl, a, us, (0 : Int) + (i : Nat), .ref a1, rfl, rfl, Evl.ex_t e3 hx, ?_, .ref a, rfl, .int ((0 : Int) + (i : Nat)), rfl, _, _, rfl, rfl, a, us, (0 : Int) + (i : Nat) + 1, .ref a2, rfl, rfl, Evl.ex_t e3 hx, ?_, a1, a2, wdG d1, wdG d2, rfl, rfl, Evl.ex_t e3 ha1, Evl.ex_t e3 ha2, ?_⟩
        · have z : (0 : Int) + (i : Nat) = ((i : Nat) : Int) := by omega
          rw [z, ← ea1]
          exact atI_nat (List.getElem?_eq_getElem h1)
        · have z : (0 : Int) + (i : Nat) + 1 = ((i + 1 : Nat) : Int) := by omega
          rw [z, ← ea2]
          exact atI_nat (List.getElem?_eq_getElem h2)
        · refine ⟨_, eD2, ?_, e2.mut hD2, ?_⟩
          · rw [List.length_map, List.length_map, List.length_range]
            exact Nat.lt_of_lt_of_le (show i < 9 by omega) (by decide)
          · rw [upd_same, List.range_succ, List.map_append, List.map_append]
            have z : riseAt ds i = HT.lexLt (wdG d1) (wdG d2) := by
              unfold riseAt
              rw [getD_of hd1, getD_of hd2]
            show _ = some (HO.lst (_ ++ [V.bl (riseAt ds i)]))
            rw [z]
      · rintro H2 ⟨e2, eD2⟩
        refine ⟨D2, _, rfl, .inl (.inl eD2), ?_⟩
        have z : (((List.range ((us.length : Int) - 1).toNat).map (riseAt ds)).all id) = riseB ds := by
          rw [List.all_map, show ((us.length : Int) - 1).toNat = ds.length - 1 by omega]
          rfl
        rw [z]
        exact q H2 (e.trans e2)
end
end Wb

set_option Elab.async false
set_option linter.all false
set_option maxRecDepth 100000
set_option maxHeartbeats 4000000
set_option pp.maxSteps 600
set_option pp.deepTerms false
namespace Wb
open PySem PySem.Spec PyProof.Rows L2
/-! ### a gap, of anything -/
def gapB (d : PyData) (many : Int) (ms : List Int) : Bool :=
  match itemsD d with
  | [h, t, p, y] => placesB (.tuple [h, t]) [many, many] && (!decide (intD h = intD t) && (wholeB p 1 1000000 && waysB y ms))
  | _ => false
theorem gapB_tup {d : PyData} {many : Int} {ms : List Int} (h : isTup d = false) : gapB d many ms = false := by
  cases d <;> first
    | rfl
    | cases h
theorem gapB_len {ds : List PyData} {many : Int} {ms : List Int} (h : ds.length ≠ 4) : gapB (.tuple ds) many ms = false := by
  match ds, h with
  | [], _ => rfl
  | [_], _ => rfl
  | [_, _], _ => rfl
  | [_, _, _], _ => rfl
  | [_, _, _, _], h => exact absurd rfl h
  | _ :: _ :: _ :: _ :: _ :: _, _ => rfl
theorem four {α β : Type} {R : α → β → Prop} {xs : List α} {ds : List β} (h : Paired R xs ds) (l : ds.length = 4) : ∃ x1 x2 x3 x4 d1 d2 d3 d4, xs = [x1, x2, x3, x4] ∧ ds = [d1, d2, d3, d4] ∧ R x1 d1 ∧ R x2 d2 ∧ R x3 d3 ∧ R x4 d4 := by
  cases h with
  | nil => cases l
  | cons a h =>
    cases h with
    | nil => cases l
    | cons b h =>
      cases h with
      | nil => cases l
      | cons c h =>
        cases h with
        | nil => cases l
        | cons d h =>
          cases h with
          | nil => exact ⟨_, _, _, _, _, _, _, _, rfl, rfl, a, b, c, d⟩
          | cons _ _ => simp at l
theorem dec4 {n : Nat} {l h : Int} : (decide (l ≤ (n : Int)) && decide ((n : Int) ≤ h)) = decide (l ≤ (n : Int) ∧ (n : Int) ≤ h) := by
  rw [Bool.decide_and]
def spGapG (K : PySem.W.Frag) : Sp := fun vs H Q _ => ∃ (v : V) (d : PyData) (b : Addr) (many : Int) (ms : List Int), vs = [v, .int many, .ref b] ∧ Th K H v d ∧ SqL K H b (ms.map V.int) ∧ ∀ H', Evl.Ex H H' → Q (.bl (gapB d many ms)) H'
section
variable {P : Program} {w : World} {K : PySem.W.Frag} {mg : Str → Option Value} {base : Heap}
theorem ok_gapG {f f1 f2 f3 f4 f5 : Addr} {fd fd1 fd2 fd3 fd4 fd5 : FuncData} (F : Fun K "is_gap" "is_gap" sGap f fd) (F1 : Fun K "is_tuple_of" "is_tuple_of" sTupOf f1 fd1) (b1 : Binds K fd1 ["thing", "low", "high"] []) (g1 : mg "is_tuple_of" = some (.ref f1))
    (F2 : Fun K "are_places" "are_places" sPlaces f2 fd2) (b2 : Binds K fd2 ["thing", "manys"] []) (g2 : mg "are_places" = some (.ref f2))
    (F3 : Fun K "is_whole_in" "is_whole_in" sWholeIn f3 fd3) (b3 : Binds K fd3 ["thing", "low", "high"] []) (g3 : mg "is_whole_in" = some (.ref f3))
    (F4 : Fun K "are_ways" "are_ways" sWays f4 fd4) (b4 : Binds K fd4 ["thing", "below"] []) (g4 : mg "are_ways" = some (.ref f4))
    (F5 : Fun K "is_whole" "is_whole" sWhole f5 fd5) (b5 : Binds K fd5 ["thing"] []) (g5 : mg "is_whole" = some (.ref f5)) (B : Bi mg) (N : Nu mg) :
    FnOk P w K mg base CX0 4 f fd ["thing", "many", "below"] (spGapG K) := by
  have G1 : FnOk P w K mg base CX0 1 f1 fd1 ["thing", "low", "high"] (spTupG K) := ok_tupG F1 B
  have G2 : FnOk P w K mg base CX0 2 f2 fd2 ["thing", "manys"] (spPlacesG K) := ok_placesG F2 F1 b1 g1 B
  have G3 : FnOk P w K mg base CX0 2 f3 fd3 ["thing", "low", "high"] (spWholeInG K) := ok_wholeInG F3 F5 b5 g5 B
  have G4 : FnOk P w K mg base CX0 3 f4 fd4 ["thing", "below"] (spWaysG K) := ok_waysG F4 F1 b1 g1 F2 b2 g2 B N
  obtain ⟨tp, ep⟩ := N.price
  refine F.ok scGap (fun vs H Q E h => ?_) (fun cdv A outer s H vs Q E hr h => ?_)
  · obtain ⟨v, d, b, m, ms, rfl, _⟩ := h; rfl
  · obtain ⟨v, d, b, m, ms, rfl, hv, hy, q⟩ := h
    have hr1 : Room 1 _ := hr.mono (by decide)
    have hr2 : Room 2 _ := hr.mono (by decide)
    refine ⟨_, pss_cons (ps_if (pt_not (pt_val (pe_call G1 hr1 (by rfl) g1 F1.kp b1 .nil pass0 (pa_cons (pv 0) (pa_cons pe_int (pa_cons pe_int pa_nil)))))) (pss_one (ps_ret pe_bl)) pss_nil)
      (pss_cons (ps_asg (pv 0) (pg_tup rfl (pgs_cons (pg_name (i := 3) scGap.nd rfl (.inl rfl)) (pgs_cons (pg_name (i := 4) scGap.nd rfl (.inl rfl)) (pgs_cons (pg_name (i := 5) scGap.nd rfl (.inl rfl)) (pgs_cons (pg_name (i := 6) scGap.nd rfl (.inl rfl)) pgs_nil))))))
      (pss_cons (ps_if (PW.pt (pw_or (pt_not (pt_val (pe_call G2 hr2 (by rfl) g2 F2.kp b2 .nil pass0 (pa_cons (pe_tup (pa_cons (pv 3) (pa_cons (pv 4) pa_nil))) (pa_cons (pe_tup (pa_cons (pv 1) (pa_cons (pv 1) pa_nil))) pa_nil)))))
          (pw_or1 (pt_cmpR op_eq (pv 3) (pv 4) (nomark _))))) (pss_one (ps_ret pe_bl)) pss_nil)
      (pss_one (ps_ret (pe_and (pe_call G3 hr2 (by rfl) g3 F3.kp b3 .nil pass0 (pa_cons (pv 5) (pa_cons pe_int (pa_cons (pe_glob (v := .int 1000000) (by rfl) ep ⟨_, rfl⟩) pa_nil))))
        (pe_one (pe_call G4 hr (by rfl) g4 F4.kp b4 .nil pass0 (pa_cons (pv 6) (pa_cons (pv 2) pa_nil))))))))), ?_⟩
    refine ⟨v, rfl, v, d, 4, 4, rfl, hv, _, rfl, ?_⟩
    cases ht : isTup d with
    | false =>
      rw [gapB_tup ht] at q
      exact iteT (q H (Evl.Ex.refl H))
    | true =>
    obtain ⟨ds, rfl⟩ := tup_of ht
    obtain ⟨a, xs, rfl, hx, hp⟩ := hv.items
    by_cases l4 : ds.length = 4
    rotate_left
    · have z : (decide ((4 : Int) ≤ ((itemsD (.tuple ds)).length : Int)) && decide (((itemsD (.tuple ds)).length : Int) ≤ 4)) = false := by
        show (decide ((4 : Int) ≤ (ds.length : Int)) && decide ((ds.length : Int) ≤ 4)) = false
        rw [dec4]
        exact decide_eq_false (by omega)
      rw [z]
      rw [gapB_len l4] at q
      exact iteT (q H (Evl.Ex.refl H))
    obtain ⟨x1, x2, x3, x4, d1, d2, d3, d4, rfl, rfl, r1, r2, r3, r4⟩ := four hp l4
    have gB : gapB (.tuple [d1, d2, d3, d4]) m ms = (placesB (.tuple [d1, d2]) [m, m] && (!decide (intD d1 = intD d2) && (wholeB d3 1 1000000 && waysB d4 ms))) := rfl
    rw [gB] at q
    refine iteF ?_
    refine ⟨.ref a, rfl, a, _, rfl, hx, rfl, _, _, rfl, _, _, rfl, _, _, rfl, _, _, rfl, rfl, ?_⟩
    refine ⟨x1, rfl, x2, rfl, (by show 2 ≤ sizeLine; decide), fun p1 np1 => ?_⟩
    refine ⟨.int m, rfl, .int m, rfl, (by show 2 ≤ sizeLine; decide), fun p2 np2 => ?_⟩
    have e1 : Evl.Ex H (upd H p1 (.tup [x1, x2])) := Evl.Ex.new np1
    have e2 := Evl.Ex.new (o := .tup [V.int m, V.int m]) np2
    have e12 := e1.trans e2
    have hpr : Th K (upd (upd H p1 (.tup [x1, x2])) p2 (.tup [V.int m, V.int m])) (.ref p1) (.tuple [d1, d2]) := .tup (e2 _ _ upd_same) (.cons (r1.ex e12) (.cons (r2.ex e12) .nil))
    refine ⟨.ref p1, .tuple [d1, d2], p2, false, [m, m], rfl, hpr, (Or.inl (Or.inl upd_same)), fun H' e3 => ?_⟩
    refine ⟨_, rfl, ?_⟩
    have x : Evl.Ex H H' := e12.trans e3
    cases hP : placesB (.tuple [d1, d2]) [m, m] with
    | false =>
      rw [hP] at q
      exact iteT (iteT (q H' x))
    | true =>
    rw [hP, Bool.true_and] at q
    refine iteF ?_
    obtain ⟨ns, en, _⟩ := places_ints hP
    have en' := PyData.tuple.inj en
    match ns, en' with
    | [n1, n2], en' =>
      simp only [List.map_cons, List.map_nil, List.cons.injEq, and_true] at en'
      obtain ⟨rfl, rfl⟩ := en'
      cases r1
      cases r2
      refine ⟨.int n1, rfl, .int n2, rfl, rfl, decide (V.int n1 = V.int n2), rfl, ?_⟩
      have ei : decide (V.int n1 = V.int n2) = decide (intD (.int n1) = intD (.int n2)) := decide_eq_decide.mpr ⟨fun z => V.int.inj z, fun z => by
        have z' : n1 = n2 := z
        rw [z']⟩
      rw [ei]
      cases hE : decide (intD (.int n1) = intD (.int n2)) with
      | true =>
        rw [hE] at q
        exact iteT (q H' x)
      | false =>
      rw [hE] at q
      refine iteF ?_
      refine ⟨x3, rfl, x3, d3, 1, 1000000, rfl, r3.ex x, _, rfl, ?_⟩
      cases hW : wholeB d3 1 1000000 with
      | false =>
        rw [hW] at q
        rw [if_neg Bool.false_ne_true]
        exact q H' x
      | true =>
      rw [hW] at q
      rw [if_pos rfl]
      refine ⟨x4, rfl, .ref b, rfl, x4, d4, b, ms, rfl, r4.ex x, Evl.ex_l x hy, fun H2 y => q H2 (x.trans y)⟩
end
end Wb

set_option Elab.async false
set_option linter.all false
set_option maxRecDepth 100000
set_option maxHeartbeats 4000000
set_option pp.maxSteps 600
set_option pp.deepTerms false
namespace Wb
open PySem PySem.Spec PyProof.Rows L2
/-! ### a bolt, of anything -/
theorem wholeB_true {d : PyData} {l m : Int} (h : wholeB d l m = true) : ∃ i, d = .int i ∧ l ≤ i ∧ i ≤ m := by
  cases d <;> first
    | (cases h; done)
    | skip
  rename_i i
  have h' : (decide (l ≤ i) && decide (i ≤ m)) = true := h
  rw [Bool.and_eq_true, decide_eq_true_eq, decide_eq_true_eq] at h'
  exact ⟨i, rfl, h'.1, h'.2⟩
theorem waysB_tup {d : PyData} {ms : List Int} (h : waysB d ms = true) : ∃ ys, d = .tuple ys := by
  unfold waysB at h
  rw [Bool.and_eq_true] at h
  exact tup_of h.1
theorem gapB_true {d : PyData} {many : Int} {ms : List Int} (h : gapB d many ms = true) : ∃ f t p ys, d = .tuple [.int f, .int t, .int p, .tuple ys] ∧ (0 ≤ f ∧ f < many) ∧ (0 ≤ t ∧ t < many) ∧ f ≠ t ∧ (1 ≤ p ∧ p ≤ 1000000) ∧ waysB (.tuple ys) ms = true := by
  have ht : isTup d = true := by
    cases z : isTup d with
    | true => rfl
    | false => rw [gapB_tup z] at h; cases h
  obtain ⟨ds, rfl⟩ := tup_of ht
  have hl : ds.length = 4 := by
    refine Classical.byContradiction fun n => ?_
    rw [gapB_len n] at h
    cases h
  match ds, hl with
  | [d1, d2, d3, d4], _ =>
    have h' : (placesB (.tuple [d1, d2]) [many, many] && (!decide (intD d1 = intD d2) && (wholeB d3 1 1000000 && waysB d4 ms))) = true := h
    simp only [Bool.and_eq_true, Bool.not_eq_true', decide_eq_false_iff_not] at h'
    obtain ⟨h1, h2, h3, h4⟩ := h'
    obtain ⟨ns, en, hin⟩ := places_ints h1
    have en' := PyData.tuple.inj en
    match ns, en', hin with
    | [n1, n2], en', hin =>
      simp only [List.map_cons, List.map_nil, List.cons.injEq, and_true] at en'
      obtain ⟨rfl, rfl⟩ := en'
      obtain ⟨p, rfl, p0, p1⟩ := wholeB_true h3
      obtain ⟨ys, rfl⟩ := waysB_tup h4
      exact ⟨n1, n2, p, ys, rfl, hin.2 0 n1 many rfl rfl, hin.2 1 n2 many rfl rfl, h2, ⟨p0, p1⟩, h4⟩
def keyG (d : PyData) : Int × Int := (intD ((itemsD d).getD 0 .none), intD ((itemsD d).getD 1 .none))
def nwG (d : PyData) : Nat := (itemsD ((itemsD d).getD 3 .none)).length
def keyLt (a b : Int × Int) : Bool := decide (a.1 < b.1 ∨ a.1 = b.1 ∧ a.2 < b.2)
def riseK (gs : List PyData) (n : Nat) : Bool := keyLt (keyG (gs.getD n .none)) (keyG (gs.getD (n + 1) .none))
def gapsB (gs : List PyData) (many : Int) (ms : List Int) : Bool := gs.all (fun g => gapB g many ms) && ((List.range (gs.length - 1)).all (riseK gs) && decide ((gs.map nwG).sum ≤ 8))
def boltB (d : PyData) (ms : List Int) : Bool :=
  match itemsD d with
  | [m, g] => wholeB m 2 4 && (isTup g && gapsB (itemsD g) (intD m) ms)
  | _ => false
theorem boltB_tup {d : PyData} {ms : List Int} (h : isTup d = false) : boltB d ms = false := by
  cases d <;> first
    | rfl
    | cases h
theorem boltB_len {ds : List PyData} {ms : List Int} (h : ds.length ≠ 2) : boltB (.tuple ds) ms = false := by
  match ds, h with
  | [], _ => rfl
  | [_], _ => rfl
  | [_, _], h => exact absurd rfl h
  | _ :: _ :: _ :: _, _ => rfl
theorem two {α β : Type} {R : α → β → Prop} {xs : List α} {ds : List β} (h : Paired R xs ds) (l : ds.length = 2) : ∃ x1 x2 d1 d2, xs = [x1, x2] ∧ ds = [d1, d2] ∧ R x1 d1 ∧ R x2 d2 := by
  cases h with
  | nil => cases l
  | cons a h =>
    cases h with
    | nil => cases l
    | cons b h =>
      cases h with
      | nil => exact ⟨_, _, _, _, rfl, rfl, a, b⟩
      | cons _ _ => simp at l
theorem lexle2 {a b c d : Int} : Ob.lexAt (fun j => decide (([a, b] : List Int).getD j 0 = ([c, d] : List Int).getD j 0)) (fun j => decide (([a, b] : List Int).getD j 0 ≤ ([c, d] : List Int).getD j 0)) (decide (([a, b] : List Int).length ≤ ([c, d] : List Int).length)) 0 (min ([a, b] : List Int).length ([c, d] : List Int).length) = !keyLt (c, d) (a, b) := by
  show (if decide (a = c) = true then (if decide (b = d) = true then (decide (2 ≤ 2)) else decide (b ≤ d)) else decide (a ≤ c)) = !decide (c < a ∨ c = a ∧ d < b)
  by_cases h1 : a = c
  · rw [if_pos (decide_eq_true h1)]
    by_cases h2 : b = d
    · rw [if_pos (decide_eq_true h2), decide_eq_false (by omega : ¬ (c < a ∨ c = a ∧ d < b))]
      rfl
    · rw [if_neg (by simp; omega), ← decide_not]
      exact decide_eq_decide.mpr (by omega)
  · rw [if_neg (by simp; omega), ← decide_not]
    exact decide_eq_decide.mpr (by omega)
theorem th_gap {K : PySem.W.Frag} {H : Hp} {v : V} {f t p : Int} {ys : List PyData} (h : Th K H v (.tuple [.int f, .int t, .int p, .tuple ys])) : ∃ ag bg ws, v = .ref ag ∧ SqT K H ag [.int f, .int t, .int p, .ref bg] ∧ SqT K H bg ws ∧ Paired (Th K H) ws ys := by
  obtain ⟨ag, xs, rfl, h1, h2⟩ := h.items
  cases h2 with
  | cons a h2 =>
    cases h2 with
    | cons b h2 =>
      cases h2 with
      | cons c h2 =>
        cases h2 with
        | cons d h2 =>
          cases h2
          cases a
          cases b
          cases c
          obtain ⟨bg, ws, rfl, h3, h4⟩ := d.items
          exact ⟨ag, bg, ws, rfl, h1, h3, h4⟩
def spBoltG (K : PySem.W.Frag) : Sp := fun vs H Q _ => ∃ (v : V) (d : PyData) (b : Addr) (ms : List Int), vs = [v, .ref b] ∧ Th K H v d ∧ SqL K H b (ms.map V.int) ∧ ∀ H', Evl.Ex H H' → Q (.bl (boltB d ms)) H'
section
variable {P : Program} {w : World} {K : PySem.W.Frag} {mg : Str → Option Value} {base : Heap}
theorem ok_boltG {f f1 f2 f3 f4 f5 f6 : Addr} {fd fd1 fd2 fd3 fd4 fd5 fd6 : FuncData} (F : Fun K "is_bolt" "is_bolt" sBolt f fd) (F1 : Fun K "is_tuple_of" "is_tuple_of" sTupOf f1 fd1) (b1 : Binds K fd1 ["thing", "low", "high"] []) (g1 : mg "is_tuple_of" = some (.ref f1))
    (F2 : Fun K "are_places" "are_places" sPlaces f2 fd2) (b2 : Binds K fd2 ["thing", "manys"] []) (g2 : mg "are_places" = some (.ref f2))
    (F3 : Fun K "is_whole_in" "is_whole_in" sWholeIn f3 fd3) (b3 : Binds K fd3 ["thing", "low", "high"] []) (g3 : mg "is_whole_in" = some (.ref f3))
    (F4 : Fun K "are_ways" "are_ways" sWays f4 fd4) (b4 : Binds K fd4 ["thing", "below"] []) (g4 : mg "are_ways" = some (.ref f4))
    (F5 : Fun K "is_whole" "is_whole" sWhole f5 fd5) (b5 : Binds K fd5 ["thing"] []) (g5 : mg "is_whole" = some (.ref f5))
    (F6 : Fun K "is_gap" "is_gap" sGap f6 fd6) (b6 : Binds K fd6 ["thing", "many", "below"] []) (g6 : mg "is_gap" = some (.ref f6)) (B : Bi mg) (N : Nu mg) :
    FnOk P w K mg base CX0 5 f fd ["thing", "below"] (spBoltG K) := by
  have G1 : FnOk P w K mg base CX0 1 f1 fd1 ["thing", "low", "high"] (spTupG K) := ok_tupG F1 B
  have G3 : FnOk P w K mg base CX0 2 f3 fd3 ["thing", "low", "high"] (spWholeInG K) := ok_wholeInG F3 F5 b5 g5 B
  have G6 : FnOk P w K mg base CX0 4 f6 fd6 ["thing", "many", "below"] (spGapG K) := ok_gapG F6 F1 b1 g1 F2 b2 g2 F3 b3 g3 F4 b4 g4 F5 b5 g5 B N
  obtain ⟨tf, ef⟩ := N.fewest
  obtain ⟨tl, el⟩ := N.places
  obtain ⟨tw, ew⟩ := N.ways
  refine F.ok scBolt (fun vs H Q E h => ?_) (fun cdv A outer s H vs Q E hr h => ?_)
  · obtain ⟨v, d, b, ms, rfl, _⟩ := h; rfl
  · obtain ⟨v, d, b, ms, rfl, hv, hy, q⟩ := h
    have hr1 : Room 1 _ := hr.mono (by decide)
    have hr2 : Room 2 _ := hr.mono (by decide)
    refine ⟨_, pss_cons (ps_if (pt_not (pt_val (pe_call G1 hr1 (by rfl) g1 F1.kp b1 .nil pass0 (pa_cons (pv 0) (pa_cons pe_int (pa_cons pe_int pa_nil)))))) (pss_one (ps_ret pe_bl)) pss_nil)
      (pss_cons (ps_asg (pv 0) (pg_tup rfl (pgs_cons (pg_name (i := 2) scBolt.nd rfl (.inl rfl)) (pgs_cons (pg_name (i := 3) scBolt.nd rfl (.inl rfl)) pgs_nil))))
      (pss_cons (ps_if (PW.pt (pw_or (pt_not (pt_val (pe_call G3 hr2 (by rfl) g3 F3.kp b3 .nil pass0 (pa_cons (pv 2) (pa_cons (pe_glob (v := .int 2) (by rfl) ef ⟨_, rfl⟩) (pa_cons (pe_glob (v := .int 4) (by rfl) el ⟨_, rfl⟩) pa_nil))))))
          (pw_or1 (pt_not (pt_val (pe_callB call_isi (by rfl) B.isi boot_isinstance (pa_cons (pv 3) (pa_cons (pe_bltn (v := .ty "tuple") (by rfl) B.tuple (by decide +kernel) rfl) pa_nil)))))))) (pss_one (ps_ret pe_bl)) pss_nil)
      (pss_cons (ps_set (i := 4) scBolt.nd rfl (.inl rfl) pe_int)
      (pss_cons (ps_set (i := 5) scBolt.nd rfl (.inl rfl) (pe_tup (pa_cons (pe_un un_neg pe_int) (pa_cons (pe_un un_neg pe_int) pa_nil))))
      (pss_cons (ps_for PassesOwn.never rfl (pi_tup (pv 3)) (pg_name (i := 6) scBolt.nd rfl (.inl rfl))
        (pss_cons (ps_if (PW.pt (pw_or (pt_not (pt_val (pe_call G6 hr (by rfl) g6 F6.kp b6 .nil pass0 (pa_cons (pv 6) (pa_cons (pv 2) (pa_cons (pv 1) pa_nil))))))
            (pw_or1 (pt_cmpR (op_leT hr.units0) (pe_slice sl_tupA (pv 6) po_none (po_some pe_int)) (pv 5) (nomark _))))) (pss_one (ps_ret pe_bl)) pss_nil)
        (pss_cons (ps_set (i := 5) scBolt.nd rfl (.inl rfl) (pe_slice sl_tupA (pv 6) po_none (po_some pe_int)))
        (pss_one (ps_aug (i := 4) scBolt.nd rfl (.inl rfl) (pe_callB call_len_seq (by rfl) B.len PySem.boot_len (pa_cons (pe_ix ix_tup (pv 6) pe_int (fun _ _ => rfl)) pa_nil)) ip_add)))))
      (pss_one (ps_ret (pe_cmpR op_le (pv 4) (pe_glob (v := .int 8) (by rfl) ew ⟨_, rfl⟩) (nomark _))))))))), ?_⟩
    refine ⟨v, rfl, v, d, 2, 2, rfl, hv, _, rfl, ?_⟩
    cases ht : isTup d with
    | false =>
      rw [boltB_tup ht] at q
      exact iteT (q H (Evl.Ex.refl H))
    | true =>
    obtain ⟨ds, rfl⟩ := tup_of ht
    obtain ⟨a, xs, rfl, hx, hp⟩ := hv.items
    by_cases l2 : ds.length = 2
    rotate_left
    · have z : (decide ((2 : Int) ≤ ((itemsD (.tuple ds)).length : Int)) && decide (((itemsD (.tuple ds)).length : Int) ≤ 2)) = false := by
        show (decide ((2 : Int) ≤ (ds.length : Int)) && decide ((ds.length : Int) ≤ 2)) = false
        rw [dec4]
        exact decide_eq_false (by omega)
      rw [z]
      rw [boltB_len l2] at q
      exact iteT (q H (Evl.Ex.refl H))
    obtain ⟨x1, x2, d1, d2, rfl, rfl, r1, r2⟩ := two hp l2
    have bB : boltB (.tuple [d1, d2]) ms = (wholeB d1 2 4 && (isTup d2 && gapsB (itemsD d2) (intD d1) ms)) := rfl
    rw [bB] at q
    refine iteF ?_
    refine ⟨.ref a, rfl, a, _, rfl, hx, rfl, _, _, rfl, _, _, rfl, rfl, ?_⟩
    refine ⟨x1, rfl, x1, d1, 2, 4, rfl, r1, _, rfl, ?_⟩
    cases hW : wholeB d1 2 4 with
    | false =>
      rw [hW] at q
      exact iteT (iteT (q H (Evl.Ex.refl H)))
    | true =>
    rw [hW, Bool.true_and] at q
    refine iteF ?_
    obtain ⟨m, rfl, m0, m1⟩ := wholeB_true hW
    cases r1
    refine ⟨x2, rfl, x2, .ty "tuple", .type (tyS d2), .type "tuple", isTup d2, rfl, .ty _, r2.ty, kit_ty (kit_tup d2), isTup d2, rfl, ?_⟩
    cases hT : isTup d2 with
    | false =>
      rw [hT] at q
      exact iteT (q H (Evl.Ex.refl H))
    | true =>
    rw [hT, Bool.true_and] at q
    refine iteF ?_
    obtain ⟨ds2, rfl⟩ := tup_of hT
    obtain ⟨c, gs, rfl, hg, hgp⟩ := r2.items
    have q' : ∀ H', Evl.Ex H H' → Q (.bl (gapsB ds2 m ms)) H' := q
    clear q
    refine ⟨1, rfl, 1, rfl, (by show 2 ≤ sizeLine; decide), fun p0 n0 => ?_⟩
    have gl : gs.length = ds2.length := Paired.len hgp
    refine ⟨.ref c, rfl, c, rfl, ⟨_, (Evl.ex_t (Evl.Ex.new n0) hg)⟩, for_tup (K := K) (a := c) (xs := gs)
      (fun i σ H' => ∃ (pl : Addr) (lf lt : Int) (y6 : Option V), σ = [some (.ref a), some (.ref b), some (.int m), some (.ref c), some (.int ((((ds2.take i).map nwG).sum : Nat) : Int)), some (.ref pl), y6] ∧
        Evl.Ex H H' ∧ SqT K H' pl ([lf, lt].map V.int) ∧ (∀ j < i, gapB (ds2.getD j .none) m ms = true) ∧ (∀ j, j + 1 < i → riseK ds2 j = true) ∧ (i = 0 → lf = -1) ∧ (∀ j, i = j + 1 → keyG (ds2.getD j .none) = (lf, lt))) ⟨p0, -1, -1, none, rfl, Evl.Ex.new n0, .inl (.inl upd_same), fun j z => absurd z (Nat.not_lt_zero j), fun j z => absurd z (Nat.not_lt_zero _), fun _ => rfl, fun j z => by cases z⟩ ?_ ?_ ?_⟩
    · rintro i σ H' _ ⟨_, _, _, _, _, e, _⟩
      exact Evl.ex_t e hg
    · rintro i x σ H' hi ⟨pl, lf, lt, y6, rfl, e, hpl, hgb, hri, hl0, hl1⟩
      obtain ⟨dg, hdg, hth⟩ := Paired.get1 hgp hi
      have il : i < ds2.length := (List.getElem?_eq_some_iff.mp hdg).1
      have gD := getD_of hdg
      refine ⟨x, rfl, .int m, rfl, .ref b, rfl, x, dg, b, m, ms, rfl, hth.ex e, Evl.ex_l e hy, fun H2 e2 => ?_⟩
      have ex2 := e.trans e2
      refine ⟨_, rfl, ?_⟩
      cases hG : gapB dg m ms with
      | false =>
        refine iteT (iteT ?_)
        have := q' H2 ex2
        have z : gapsB ds2 m ms = false := by
          unfold gapsB
          have : ds2.all (fun g => gapB g m ms) = false := by
            rw [← Bool.not_eq_true, List.all_eq_true]
            intro h
            have := h dg (List.mem_of_getElem? hdg)
            rw [hG] at this
            cases this
          rw [this]
          rfl
        rw [z] at this
        exact this
      | true =>
      refine iteF ?_
      obtain ⟨gf, gt, gp, ys, rfl, ⟨f0, f1⟩, _, _, _, hw⟩ := gapB_true hG
      obtain ⟨ag, bg, ws, rfl, h1, h2, h3⟩ := th_gap (hth.ex ex2)
      refine ⟨.ref ag, rfl, 2, rfl, ag, _, rfl, h1, fun z => absurd (show HT.sIx 4 4 (some 2) = 4 from z.2) (by decide), fun _ p np => ?_⟩
      rw [cut2]
      have e3 := Evl.Ex.new (o := .tup [V.int gf, V.int gt]) np
      refine ⟨.ref pl, rfl, p, pl, [gf, gt], [lf, lt], rfl, rfl, .inl (.inl upd_same), Evl.ex_t (e2.trans e3) hpl, _, rfl, ?_⟩
      rw [lexle2]
      have kd : keyG (ds2.getD i .none) = (gf, gt) := by rw [gD]; rfl
      cases hK : keyLt (lf, lt) (gf, gt) with
      | false =>
        refine iteT ?_
        have z : gapsB ds2 m ms = false := by
          cases i with
          | zero =>
            have := hl0 rfl
            unfold keyLt at hK
            rw [decide_eq_false_iff_not] at hK
            exact absurd (.inl (by show lf < gf; omega)) hK
          | succ j =>
            have k1 := hl1 j rfl
            have rj : riseK ds2 j = false := by
              unfold riseK
              rw [k1, kd]
              exact hK
            have : (List.range (ds2.length - 1)).all (riseK ds2) = false := by
              rw [← Bool.not_eq_true, List.all_eq_true]
              intro h
              have := h j (List.mem_range.mpr (by omega))
              rw [rj] at this
              cases this
            unfold gapsB
            rw [this]
            simp
        have := q' _ (ex2.trans e3)
        rw [z] at this
        exact this
      | true =>
      refine iteF ?_
      refine ⟨.ref ag, rfl, 2, rfl, ag, _, rfl, Evl.ex_t e3 h1, fun z => absurd (show HT.sIx 4 4 (some 2) = 4 from z.2) (by decide), fun _ p' np' => ?_⟩
      rw [cut2]
      have e4 := Evl.Ex.new (o := .tup [V.int gf, V.int gt]) np'
      refine ⟨_, rfl, .ref ag, rfl, ag, _, 3, .ref bg, rfl, rfl, Evl.ex_t (e3.trans e4) h1, atI_nat (j := 3) rfl, bg, ws, rfl, .inr (Evl.ex_t (e3.trans e4) h2), _, _, rfl, rfl, ?_⟩
      refine ⟨p', gf, gt, some (.ref ag), ?_, (ex2.trans e3).trans e4, .inl (.inl upd_same), fun j hj => ?_, fun j hj => ?_, fun z => by omega, fun j hj => ?_⟩
      · have wl : ws.length = ys.length := Paired.len h3
        have nw : nwG (.tuple [.int gf, .int gt, .int gp, .tuple ys]) = ys.length := rfl
        rw [take_succ_get hdg, List.map_append, List.sum_append, wl]
        simp only [List.map_cons, List.map_nil, List.sum_cons, List.sum_nil, nw, Nat.add_zero]
        rw [Int.natCast_add]
        rfl
      · by_cases e : j = i
        · rw [e, gD]; exact hG
        · exact hgb j (by omega)
      · by_cases e : j + 1 = i
        · subst e
          unfold riseK
          rw [hl1 j rfl, kd]
          exact hK
        · exact hri j (by omega)
      · have e : j = i := by omega
        rw [e]
        exact kd
    · rintro σ H' ⟨pl, lf, lt, y6, rfl, e, hpl, hgb, hri, _⟩
      refine ⟨_, rfl, _, 8, rfl, rfl, ?_⟩
      rw [gl, List.take_length]
      have z1 : ds2.all (fun g => gapB g m ms) = true := List.all_eq_true.mpr fun g hm => by
        obtain ⟨j, hj⟩ := List.mem_iff_getElem?.mp hm
        have := hgb j (by rw [gl]; exact (List.getElem?_eq_some_iff.mp hj).1)
        rw [getD_of hj] at this
        exact this
      have z2 : (List.range (ds2.length - 1)).all (riseK ds2) = true := List.all_eq_true.mpr fun j hm => hri j (by
        have := List.mem_range.mp hm
        omega)
      have := q' H' e
      unfold gapsB at this
      rw [z1, z2, Bool.true_and, Bool.true_and] at this
      have s8 : decide ((((ds2.map nwG).sum : Nat) : Int) ≤ 8) = decide ((ds2.map nwG).sum ≤ 8) := decide_eq_decide.mpr (by omega)
      show Q (.bl (decide (_ ≤ 8))) H'
      rw [s8]
      exact this
end
end Wb

set_option Elab.async false
set_option linter.all false
set_option maxRecDepth 100000
set_option maxHeartbeats 4000000
set_option pp.maxSteps 600
set_option pp.deepTerms false
namespace Wb
open PySem PySem.Spec PyProof.Rows L2
/-! ### bolts that are right one by one -/
structure SemiOk (l : Lock) : Prop where
  n1 : l.length ≤ 60
  bolts : ∀ (k : Nat) (b : Bolt), l[k]? = some b → BoltOk (manysOf (l.take k)) b
theorem cutsFrom_lenS {l : Lock} (ok : SemiOk l) {k : Nat} {w : Word} (hk : k ≤ l.length) (h : cutsFrom l k w) : w.length = k := by
  obtain ⟨j, b, g, u, hj, hb, hg, hu, rfl⟩ := h
  have lu := (((ok.bolts j b hb).gaps g hg).words u hu).1
  have lj : j < l.length := (List.getElem?_eq_some_iff.mp hb).1
  unfold manysOf at lu
  rw [List.length_map, List.length_take] at lu
  rw [List.length_take]
  omega
/-- the words at k: those at k + 1 cut, and the bolt's own -/
theorem cuts_stepS {l : Lock} (ok : SemiOk l) {k : Nat} {b : Bolt} (hb : l[k]? = some b) (w : Word) :
    cutsFrom l k w ↔ (∃ u, cutsFrom l (k + 1) u ∧ w = u.take k) ∨ ∃ g ∈ b.gaps, w ∈ g.ways := by
  constructor
  · rintro ⟨j, b', g, u, hj, hb', hg, hu, rfl⟩
    by_cases e : j = k
    · subst e
      rw [hb] at hb'
      cases hb'
      have lu := (((ok.bolts j b hb).gaps g hg).words u hu).1
      have lj : j < l.length := (List.getElem?_eq_some_iff.mp hb).1
      unfold manysOf at lu
      rw [List.length_map, List.length_take] at lu
      refine .inr ⟨g, hg, ?_⟩
      rw [List.take_of_length_le (by omega)]
      exact hu
    · refine .inl ⟨u.take (k + 1), ⟨j, b', g, u, by omega, hb', hg, hu, rfl⟩, ?_⟩
      rw [List.take_take, Nat.min_eq_left (Nat.le_succ k)]
  · rintro (⟨u, ⟨j, b', g, u', hj, hb', hg, hu, rfl⟩, rfl⟩ | ⟨g, hg, hw⟩)
    · refine ⟨j, b', g, u', by omega, hb', hg, hu, ?_⟩
      rw [List.take_take, Nat.min_eq_left (Nat.le_succ k)]
    · have lu := (((ok.bolts k b hb).gaps g hg).words w hw).1
      have lj : k < l.length := (List.getElem?_eq_some_iff.mp hb).1
      unfold manysOf at lu
      rw [List.length_map, List.length_take] at lu
      refine ⟨k, b, g, w, Nat.le_refl _, hb, hg, hw, ?_⟩
      rw [List.take_of_length_le (by omega)]
theorem nodup_le {α : Type} [DecidableEq α] : ∀ {xs ys : List α}, xs.Nodup → (∀ x ∈ xs, x ∈ ys) → xs.length ≤ ys.length
  | [], _, _, _ => Nat.zero_le _
  | x :: xs, ys, hn, h => by
    rw [List.nodup_cons] at hn
    have hx : x ∈ ys := h x List.mem_cons_self
    have ih := nodup_le (xs := xs) (ys := ys.erase x) hn.2 (fun y hy => (List.mem_erase_of_ne (fun (e : y = x) => hn.1 (by rw [← e]; exact hy))).mpr (h y (List.mem_cons_of_mem _ hy)))
    rw [List.length_erase_of_mem hx] at ih
    have := List.length_pos_of_mem hx
    rw [List.length_cons]
    omega
/-- all ways of the bolts numbered k and more, cut -/
def cutList (l : Lock) (k : Nat) : List Word := (l.drop k).flatMap fun b => b.gaps.flatMap fun g => g.ways.map fun u => u.take k
theorem mem_cutList {l : Lock} {k : Nat} {w : Word} : w ∈ cutList l k ↔ cutsFrom l k w := by
  unfold cutList cutsFrom
  rw [List.mem_flatMap]
  constructor
  · rintro ⟨b, hb, h⟩
    obtain ⟨g, hg, h⟩ := List.mem_flatMap.mp h
    obtain ⟨u, hu, rfl⟩ := List.mem_map.mp h
    obtain ⟨i, hi⟩ := List.mem_iff_getElem?.mp hb
    rw [List.getElem?_drop] at hi
    exact ⟨k + i, b, g, u, Nat.le_add_right _ _, hi, hg, hu, rfl⟩
  · rintro ⟨j, b, g, u, hj, hb, hg, hu, rfl⟩
    refine ⟨b, List.mem_iff_getElem?.mpr ⟨j - k, ?_⟩, List.mem_flatMap.mpr ⟨g, hg, List.mem_map.mpr ⟨u, hu, rfl⟩⟩⟩
    rw [List.getElem?_drop, show k + (j - k) = j by omega]
    exact hb
theorem flat_len {α : Type} {f : α → List Word} {c : Nat} : ∀ {xs : List α}, (∀ x ∈ xs, (f x).length ≤ c) → (xs.flatMap f).length ≤ c * xs.length
  | [], _ => Nat.zero_le _
  | x :: xs, h => by
    have h1 := h x List.mem_cons_self
    have h2 := flat_len (xs := xs) fun y hy => h y (List.mem_cons_of_mem _ hy)
    rw [List.flatMap_cons, List.length_append, List.length_cons, Nat.mul_succ]
    omega
theorem bolt_len {b : Bolt} {k : Nat} : (b.gaps.flatMap fun g => g.ways.map fun u => u.take k).length = (b.gaps.map fun g => g.ways.length).sum := by
  generalize b.gaps = gs
  induction gs with
  | nil => rfl
  | cons g gs ih =>
    rw [List.flatMap_cons, List.length_append, List.length_map, ih]
    rfl
theorem cutList_len {l : Lock} (ok : SemiOk l) (k : Nat) : (cutList l k).length ≤ 480 := by
  have h : (cutList l k).length ≤ 8 * (l.drop k).length := flat_len fun b hb => by
    rw [bolt_len]
    obtain ⟨i, hi⟩ := List.mem_iff_getElem?.mp hb
    rw [List.getElem?_drop] at hi
    exact (ok.bolts _ b hi).few
  rw [List.length_drop] at h
  have := ok.n1
  omega
theorem few_cutsS {l : Lock} (ok : SemiOk l) {k : Nat} {cur : List Word} (h1 : cur.Nodup) (h2 : ∀ u ∈ cur, cutsFrom l k u) : cur.length < sizeLine :=
  Nat.lt_of_le_of_lt (Nat.le_trans (nodup_le h1 fun u hu => mem_cutList.mpr (h2 u hu)) (cutList_len ok k)) (by decide)
def spWordsS (K : PySem.W.Frag) : Sp := fun vs H Q _ => ∃ (v : V) (l : Lock), vs = [v] ∧ LockAt K H v l ∧ SemiOk l ∧
  ∀ H' p (rs : List Addr), Evl.Ex H H' → H p = none → H' p = some (.lst (rs.map V.ref)) → rs.length = l.length →
    (∀ k r, rs[k]? = some r → H r = none ∧ ∃ ws, RowAt K H' r ws ∧ WordsAt l k ws) → Q (.ref p) H'
section
variable {P : Program} {w : World} {K : PySem.W.Frag} {mg : Str → Option Value} {base : Heap}
theorem kws_len (ws : List Word) (v : Word → V) : (kws ws v).length = ws.length := List.length_map ..
theorem ok_wordsS {f : Addr} {fd : FuncData} (F : Fun K "words_of" "words_of" sWords f fd) (B : Bi mg) : FnOk P w K mg base CX0 1 f fd ["lock"] (spWordsS K) := by
  refine F.ok scWords (fun vs H Q E h => ?_) (fun cdv A outer s H vs Q E hr h => ?_)
  · obtain ⟨v, l, rfl, _⟩ := h; rfl
  · obtain ⟨v, l, rfl, ⟨a, bs, rfl, hx, hp⟩, ok, q⟩ := h
    have hu := hu_of hr
    refine ⟨_, pss_cons (ps_set (i := 1) scWords.nd rfl (.inl rfl) (pe_lst pa_nil))
      (pss_cons (ps_set (i := 2) scWords.nd rfl (.inl rfl) (pe_lst pa_nil))
      (pss_cons (ps_for PassesOwn.never rfl (pi_revR (by rfl) B.rev (prg_1 (by rfl) B.range (pe_callB call_len_seq (by rfl) B.len PySem.boot_len (pa_cons (pv 0) pa_nil)))) (pg_name (i := 3) scWords.nd rfl (.inl rfl))
        (pss_cons (ps_set (i := 4) scWords.nd rfl (.inl rfl) pe_dnewT)
        (pss_cons (ps_for PassesOwn.never rfl (pi_list (pv 2)) (pg_name (i := 5) scWords.nd rfl (.inl rfl))
          (pss_one (ps_dput hu (pv 4) (pe_slice sl_tupA (pv 5) po_none (po_some (pv 3))) pe_bl rfl)))
        (pss_cons (ps_for PassesOwn.never rfl (pi_tup (pe_ix ix_tup (pe_ix ix_tup (pv 0) (pv 3) (fun _ _ => rfl)) pe_int (fun _ _ => rfl))) (pg_name (i := 6) scWords.nd rfl (.inl rfl))
          (pss_one (ps_for PassesOwn.never rfl (pi_tup (pe_ix ix_tup (pv 6) pe_int (fun _ _ => rfl))) (pg_name (i := 7) scWords.nd rfl (.inl rfl))
            (pss_one (ps_dput hu (pv 4) (pv 7) pe_bl rfl)))))
        (pss_cons (ps_set (i := 2) scWords.nd rfl (.inl rfl) (pe_callTy (call_list_dT rfl) (by rfl) B.list (PyProof.Rows.boot_list) (pa_cons (pv 4) pa_nil)))
        (pss_one (ps_expr (pe_bm PySem.F.plainAttrs_list PySem.F.slot_list_append PySem.F.type_list_append mt_append (pv 1) (pa_cons (pv 2) pa_nil)))))))))
      (pss_one (ps_ret (pe_revL (pv 1)))))), ?_⟩
    have bl : bs.length = l.length := Paired.len hp
    have n60 := ok.n1
    refine ⟨Nat.zero_le _, fun r0 nr0 => ?_⟩
    refine ⟨Nat.zero_le _, fun a0 na0 => ?_⟩
    have x1 : Evl.Ex H (upd H r0 (.lst [])) := Evl.Ex.new nr0
    have na0' : H a0 = none := Evl.fresh_back x1 na0
    have nar : r0 ≠ a0 := fun z => by rw [← z, upd_same] at na0; cases na0
    refine ⟨.ref a, rfl, a, bs, rfl, .inr (Evl.ex_t (x1.trans (Evl.Ex.new na0)) hx), _, rfl, by omega, by omega, by omega, by omega, ?_⟩
    refine for_rangeC (lo := _) (c := -1) (n := _) (fun i σ H' => ∃ (aA : Addr) (rs : List Addr) (ws : List Word) (y3 y4 y5 y6 y7 : Option V), σ = [some (.ref a), some (.ref r0), some (.ref aA), y3, y4, y5, y6, y7] ∧
        Evl.Ex H H' ∧ RowAt K H' aA ws ∧ WordsAt l (l.length - i) ws ∧ H' r0 = some (.lst (rs.map V.ref)) ∧ rs.length = i ∧
        ∀ j r, rs[j]? = some r → r ≠ r0 ∧ H r = none ∧ ∃ ws', RowAt K H' r ws' ∧ WordsAt l (l.length - 1 - j) ws')
      ⟨a0, [], [], none, none, none, none, none, rfl, x1.trans (Evl.Ex.new na0), ⟨[], upd_same, .nil⟩, ⟨List.nodup_nil, fun w => ?_⟩, by rw [upd_ne nar, upd_same]; rfl, rfl, fun j r e => by simp at e⟩ ?_ ?_
    · constructor
      · intro z; cases z
      · rintro ⟨j, b, g, u, hj, hb, _⟩
        have := (List.getElem?_eq_some_iff.mp hb).1
        omega
    · rintro i σ H1 hi ⟨aA, rs, ws, y3, y4, y5, y6, y7, rfl, e1, hA, hW, hR, hl, hrs⟩
      have hi' : i < l.length := by omega
      -- the bolt's number
      have ek : (0 : Int) + (((((bs.length : Nat) : Int) - 0).toNat : Nat) : Int) - 1 + (i : Nat) * (-1) = ((l.length - 1 - i : Nat) : Int) := by rw [bl]; omega
      rw [ek]
      generalize hk : l.length - 1 - i = k at *
      have hkl : k < l.length := by omega
      have hk1 : l.length - i = k + 1 := by omega
      rw [hk1] at hW
      obtain ⟨b, hb⟩ : ∃ b, l[k]? = some b := ⟨l[k], List.getElem?_eq_getElem hkl⟩
      obtain ⟨vb, hvb, hba⟩ := Paired.get2 hp hb
      obtain ⟨us, hAu, hAp⟩ := hA
      have ul : us.length = ws.length := Paired.len hAp
      intro d nd
      have nd0 : H d = none := Evl.fresh_back e1 nd
      have ndr : d ≠ r0 := fun z => by rw [z, hR] at nd; cases nd
      have e2 : Evl.Ex H1 (upd H1 d (.dT [])) := Evl.Ex.new nd
      -- the words above, cut
      refine ⟨.ref aA, rfl, aA, rfl, ⟨us, .inl (.inl (e2 _ _ hAu))⟩, for_list (K := K) (a := aA) (xs := us) (fun j σ H' => ∃ (cur : List Word) (y5 : Option V), σ = [some (.ref a), some (.ref r0), some (.ref aA), some (.int (k : Nat)), some (.ref d), y5, y6, y7] ∧
          Evl.Ex H1 H' ∧ H' d = some (.dT (kws cur fun _ => .bl true)) ∧ cur.Nodup ∧ ∀ u, u ∈ cur ↔ ∃ t ∈ ws.take j, u = t.take k) ⟨[], y5, rfl, e2, upd_same, List.nodup_nil, fun u => by simp⟩ ?_ ?_ ?_⟩
      · rintro j σ H' _ ⟨cur, z5, _, e, _⟩
        exact .inl (.inl (e _ _ hAu))
      · rintro j x σ H' hj ⟨cur, z5, rfl, e3, hd, nc, hc⟩
        obtain ⟨t, ht, ⟨ax, rfl, hax⟩⟩ := Paired.get1 hAp hj
        have htw : t ∈ ws := List.mem_of_getElem? ht
        have hcut : cutsFrom l (k + 1) t := (hW.2 t).mp htw
        have lt1 : t.length = k + 1 := cutsFrom_lenS ok (by omega) hcut
        have hcur : ∀ u ∈ cur, cutsFrom l k u := by
          intro u hu
          obtain ⟨t', ht', rfl⟩ := (hc u).mp hu
          exact (cuts_stepS ok hb _).mpr (.inl ⟨t', (hW.2 t').mp (List.mem_of_mem_take ht'), rfl⟩)
        have lc := few_cutsS ok nc hcur
        refine ⟨.ref d, rfl, .ref ax, rfl, .int (k : Nat), rfl, (k : Nat), rfl, ax, _, rfl, .inl (.inl (e3 _ _ hax)), fun z => absurd (slice_whole z.2) (by rw [List.length_map]; omega), fun _ p np => ?_⟩
        rw [cut_take, ← List.map_take]
        have npd : p ≠ d := fun z => by rw [z, hd] at np; cases np
        have e4 := Evl.Ex.new (o := .tup ((t.take k).map V.int)) np
        refine ⟨d, _, rfl, DPut.t (k := keyW (t.take k)) (e4 _ _ hd) (by rw [keyW_kV]; exact upd_same) (by rw [kws_len]; exact lc), ?_⟩
        refine ⟨addW cur (t.take k), _, rfl, (e3.trans e4).mut nd, by rw [upd_same, put_kws], nodup_addW nc, fun u => ?_⟩
        rw [mem_addW, hc u, take_succ_get ht]
        constructor
        · rintro (⟨t', h1, h2⟩ | rfl)
          · exact ⟨t', List.mem_append_left _ h1, h2⟩
          · exact ⟨t, by simp, rfl⟩
        · rintro ⟨t', h1, h2⟩
          rcases List.mem_append.mp h1 with h1 | h1
          · exact .inl ⟨t', h1, h2⟩
          · have : t' = t := by simpa using h1
            subst this
            exact .inr h2
      · rintro σ H2 ⟨cur0, z5, rfl, e3, hd, nc0, hc0⟩
        rw [ul, List.take_length] at hc0
        obtain ⟨ab, cg, gs, rfl, hb1, hb2, hb3⟩ := hba
        have e13 := e1.trans e3
        have gl : gs.length = b.gaps.length := Paired.len hb3
        -- the bolt's own ways
        refine ⟨.ref a, rfl, .int (k : Nat), rfl, a, bs, (k : Nat), .ref ab, rfl, rfl, Evl.ex_t e13 hx, atI_nat hvb, ab, _, 1, .ref cg, rfl, rfl, Evl.ex_t e13 hb1, atI_nat (j := 1) rfl, cg, rfl, ⟨gs, Evl.ex_t e13 hb2⟩,
          for_tup (K := K) (a := cg) (xs := gs) (fun j σ H' => ∃ (cur : List Word) (y6 y7 : Option V), σ = [some (.ref a), some (.ref r0), some (.ref aA), some (.int (k : Nat)), some (.ref d), z5, y6, y7] ∧
            Evl.Ex H1 H' ∧ H' d = some (.dT (kws cur fun _ => .bl true)) ∧ cur.Nodup ∧ ∀ u, u ∈ cur ↔ (∃ t ∈ ws, u = t.take k) ∨ ∃ g ∈ b.gaps.take j, u ∈ g.ways) ⟨cur0, y6, y7, rfl, e3, hd, nc0, fun u => by rw [hc0]; simp⟩ ?_ ?_ ?_⟩
        · rintro j σ H' _ ⟨cur, _, _, _, e, _⟩
          exact Evl.ex_t (e1.trans e) hb2
        · rintro j x σ H' hj ⟨cur, z6, z7, rfl, e4, hd4, nc, hc⟩
          obtain ⟨g, hgj, ⟨ag, bg, wv, rfl, hg1, hg2, hg3⟩⟩ := Paired.get1 hb3 hj
          have hgm : g ∈ b.gaps := List.mem_of_getElem? hgj
          have e14 := e1.trans e4
          have wl : wv.length = g.ways.length := Paired.len hg3
          refine ⟨.ref ag, rfl, ag, _, 3, .ref bg, rfl, rfl, Evl.ex_t e14 hg1, atI_nat (j := 3) rfl, bg, rfl, ⟨wv, Evl.ex_t e14 hg2⟩,
            for_tup (K := K) (a := bg) (xs := wv) (fun m σ H' => ∃ (cur : List Word) (y7 : Option V), σ = [some (.ref a), some (.ref r0), some (.ref aA), some (.int (k : Nat)), some (.ref d), z5, some (.ref ag), y7] ∧
              Evl.Ex H1 H' ∧ H' d = some (.dT (kws cur fun _ => .bl true)) ∧ cur.Nodup ∧ ∀ u, u ∈ cur ↔ ((∃ t ∈ ws, u = t.take k) ∨ ∃ g ∈ b.gaps.take j, u ∈ g.ways) ∨ u ∈ g.ways.take m) ⟨cur, z7, rfl, e4, hd4, nc, fun u => by rw [hc]; simp⟩ ?_ ?_ ?_⟩
          · rintro m σ H' _ ⟨_, _, _, e, _⟩
            exact Evl.ex_t (e1.trans e) hg2
          · rintro m x σ H3 hm ⟨cur, z7, rfl, e5, hd5, nc, hc⟩
            obtain ⟨t, ht, ⟨ax, rfl, hax⟩⟩ := Paired.get1 hg3 hm
            have hcur : ∀ u ∈ cur, cutsFrom l k u := by
              intro u hu
              rcases (hc u).mp hu with (⟨t', ht', rfl⟩ | ⟨g', hg', hu'⟩) | hu'
              · exact (cuts_stepS ok hb _).mpr (.inl ⟨t', (hW.2 t').mp ht', rfl⟩)
              · exact (cuts_stepS ok hb _).mpr (.inr ⟨g', List.mem_of_mem_take hg', hu'⟩)
              · exact (cuts_stepS ok hb _).mpr (.inr ⟨g, hgm, List.mem_of_mem_take hu'⟩)
            have lc := few_cutsS ok nc hcur
            refine ⟨.ref d, rfl, .ref ax, rfl, d, _, rfl, DPut.t (k := keyW t) hd5 (by rw [keyW_kV]; exact (e1.trans e5) _ _ hax) (by rw [kws_len]; exact lc), ?_⟩
            refine ⟨addW cur t, _, rfl, e5.mut nd, by rw [upd_same, put_kws], nodup_addW nc, fun u => ?_⟩
            rw [mem_addW, hc u, take_succ_get ht, List.mem_append, or_assoc]
            simp
          · rintro σ H3 ⟨cur, z7, rfl, e5, hd5, nc, hc⟩
            refine ⟨cur, _, _, rfl, e5, hd5, nc, fun u => ?_⟩
            rw [hc u, wl, List.take_length, take_succ_get hgj, or_assoc]
            simp only [List.mem_append, List.mem_singleton]
            constructor
            · rintro (h | ⟨g', h1, h2⟩ | h)
              · exact .inl h
              · exact .inr ⟨g', .inl h1, h2⟩
              · exact .inr ⟨g, .inr rfl, h⟩
            · rintro (h | ⟨g', h1 | h1, h2⟩)
              · exact .inl h
              · exact .inr (.inl ⟨g', h1, h2⟩)
              · exact .inr (.inr (h1 ▸ h2))
        · rintro σ H2 ⟨cur, z6, z7, rfl, e4, hd4, nc, hc⟩
          rw [gl, List.take_length] at hc
          have hcur : ∀ u, u ∈ cur ↔ cutsFrom l k u := by
            intro u
            rw [hc u, cuts_stepS ok hb u]
            constructor
            · rintro (⟨t, h1, h2⟩ | h)
              · exact .inl ⟨t, (hW.2 t).mp h1, h2⟩
              · exact .inr h
            · rintro (⟨t, h1, h2⟩ | h)
              · exact .inl ⟨t, (hW.2 t).mpr h1, h2⟩
              · exact .inr h
          refine ⟨.ref d, rfl, d, _, rfl, .inl hd4, fun p qs np hk' => ?_⟩
          have hrows := isKeys_rows (K := K) hk'
          have e5 := Evl.Ex.new (o := .lst (qs.map V.ref)) np
          have npr : p ≠ r0 := fun z => by rw [z, e4 _ _ hR] at np; cases np
          have hR5 : (upd H2 p (.lst (qs.map V.ref))) r0 = some (.lst (rs.map V.ref)) := e5 _ _ (e4 _ _ hR)
          refine ⟨.ref r0, rfl, .inl ⟨rfl, _, SqL.of hR5⟩, .ref p, rfl, r0, _, _, rfl, rfl, hR5, ?_, ?_⟩
          · rw [List.length_map, hl]
            exact Nat.lt_of_lt_of_le (show i < 61 by omega) (by decide)
          · have e15 : Evl.Ex H1 (upd H2 p (.lst (qs.map V.ref))) := e4.trans e5
            have keep : ∀ {r : Addr} {ws' : List Word} {Hx : Hp}, r ≠ r0 → RowAt K Hx r ws' → Hx r0 ≠ none → (∀ xs, Hx r0 ≠ some (.tup xs)) → ∀ o, RowAt K (upd Hx r0 o) r ws' := by
              rintro r ws' Hx hne ⟨us', h1, h2⟩ _ ht o
              refine ⟨us', by rw [upd_ne hne]; exact h1, Paired.imp (fun v w' h => ?_) h2⟩
              obtain ⟨ax, rfl, hax⟩ := h
              exact ⟨ax, rfl, by rw [upd_ne (fun z => ht _ (z ▸ hax))]; exact hax⟩
            have nn : (upd H2 p (.lst (qs.map V.ref))) r0 ≠ none := by rw [hR5]; exact fun z => nomatch z
            have nt : ∀ xs, (upd H2 p (.lst (qs.map V.ref))) r0 ≠ some (.tup xs) := fun xs z => by rw [hR5] at z; cases z
            have hP : RowAt K (upd H2 p (.lst (qs.map V.ref))) p cur := ⟨qs.map V.ref, upd_same, Paired.imp (fun _ _ => wd_ex e5) hrows⟩
            have hWk : WordsAt l k cur := ⟨nc, hcur⟩
            refine ⟨p, rs ++ [p], cur, _, _, _, _, _, rfl, (e1.trans e15).mut nr0, keep npr hP nn nt _, ?_, by rw [upd_same, List.map_append]; rfl, by simp [hl], ?_⟩
            · rw [show l.length - (i + 1) = k by omega]
              exact hWk
            · intro j r hj
              by_cases hjl : j < rs.length
              · rw [List.getElem?_append_left hjl] at hj
                obtain ⟨h1, h0, ws', h2, h3⟩ := hrs j r hj
                exact ⟨h1, h0, ws', keep h1 (h2.ex e15) nn nt _, h3⟩
              · rw [List.getElem?_append_right (by omega)] at hj
                have : j = rs.length := by
                  by_cases e : j - rs.length = 0
                  · omega
                  · rw [List.getElem?_eq_none (by simp; omega)] at hj; cases hj
                subst this
                rw [Nat.sub_self] at hj
                have er : r = p := (Option.some.inj hj).symm
                subst er
                exact ⟨npr, Evl.fresh_back (e1.trans e4) np, cur, keep npr hP nn nt _, by rw [hl, hk]; exact hWk⟩
    · rintro σ H1 ⟨aA, rs, ws, y3, y4, y5, y6, y7, rfl, e1, hA, hW, hR, hl, hrs⟩
      have hl' : rs.length = l.length := by rw [hl, bl]; omega
      refine ⟨.ref r0, rfl, r0, _, rfl, .inl (.inl hR), fun p np => ?_⟩
      rw [← List.map_reverse]
      have e2 := Evl.Ex.new (o := .lst (rs.reverse.map V.ref)) np
      refine q _ p rs.reverse (e1.trans e2) (Evl.fresh_back e1 np) upd_same (by rw [List.length_reverse, hl']) ?_
      intro k r hk
      have hk2 : k < rs.reverse.length := (List.getElem?_eq_some_iff.mp hk).1
      rw [List.length_reverse] at hk2
      rw [List.getElem?_reverse hk2] at hk
      obtain ⟨_, h0, ws', h2, h3⟩ := hrs _ r hk
      refine ⟨h0, ws', h2.ex e2, ?_⟩
      rw [show l.length - 1 - (rs.length - 1 - k) = k by omega] at h3
      exact h3
end
end Wb

set_option Elab.async false
set_option linter.all false
set_option maxRecDepth 100000
set_option maxHeartbeats 4000000
set_option pp.maxSteps 600
set_option pp.deepTerms false
namespace Wb
open PySem PySem.Spec PyProof.Rows L2
/-! ### data that are bolts -/
theorem lexLt_trans : ∀ {a b c : List Int}, HT.lexLt a b = true → HT.lexLt b c = true → HT.lexLt a c = true
  | [], [], _, h, _ => by cases h
  | [], _ :: _, [], _, h => by cases h
  | [], _ :: _, _ :: _, _, _ => rfl
  | _ :: _, [], _, h, _ => by cases h
  | _ :: _, _ :: _, [], _, h => by cases h
  | x :: a, y :: b, z :: c, h1, h2 => by
    rw [HT.lexLt_cons] at h1 h2 ⊢
    by_cases e1 : x = y
    · rw [if_pos e1] at h1
      by_cases e2 : y = z
      · rw [if_pos e2] at h2
        rw [if_pos (e1.trans e2)]
        exact lexLt_trans h1 h2
      · rw [if_neg e2, decide_eq_true_eq] at h2
        rw [if_neg (by omega), decide_eq_true_eq]
        omega
    · rw [if_neg e1, decide_eq_true_eq] at h1
      by_cases e2 : y = z
      · rw [if_neg (by omega), decide_eq_true_eq]
        omega
      · rw [if_neg e2, decide_eq_true_eq] at h2
        rw [if_neg (by omega), decide_eq_true_eq]
        omega
theorem adj_pairwise {α : Type} {R : α → α → Prop} (tr : ∀ a b c, R a b → R b c → R a c) : ∀ {xs : List α}, (∀ (i : Nat) (a b : α), xs[i]? = some a → xs[i + 1]? = some b → R a b) → xs.Pairwise R
  | [], _ => .nil
  | [x], _ => by simp
  | x :: y :: t, h => by
    have ih := adj_pairwise tr (xs := y :: t) fun i a b ha hb => h (i + 1) a b (by simpa using ha) (by simpa using hb)
    have hxy := h 0 x y rfl rfl
    refine List.Pairwise.cons (fun z hz => ?_) ih
    rcases List.mem_cons.mp hz with rfl | hz
    · exact hxy
    · exact tr _ _ _ hxy ((List.pairwise_cons.mp ih).1 z hz)
def itD (d : PyData) (i : Nat) : PyData := (itemsD d).getD i .none
def gapD (d : PyData) : Gap := ⟨intD (itD d 0), intD (itD d 1), intD (itD d 2), (itemsD (itD d 3)).map wdG⟩
def boltD (d : PyData) : Bolt := ⟨intD (itD d 0), (itemsD (itD d 1)).map gapD⟩
def lockD (ds : List PyData) : Lock := ds.map boltD
theorem ways_parts {ys : List PyData} {ms : List Int} (h : waysB (.tuple ys) ms = true) : ys.length ≤ 8 ∧ (∀ y ∈ ys, placesB y ms = true) ∧ ∀ (i : Nat) (a b : PyData), ys[i]? = some a → ys[i + 1]? = some b → HT.lexLt (wdG a) (wdG b) = true := by
  have h' : (true && (decide (ys.length ≤ 8) && (ys.all (fun e => placesB e ms) && riseB ys))) = true := h
  simp only [Bool.true_and, Bool.and_eq_true, decide_eq_true_eq, List.all_eq_true] at h'
  obtain ⟨h1, h2, h3⟩ := h'
  refine ⟨h1, h2, fun i a b ha hb => ?_⟩
  unfold riseB at h3
  rw [List.all_eq_true] at h3
  have il := (List.getElem?_eq_some_iff.mp hb).1
  have := h3 i (List.mem_range.mpr (by omega))
  unfold riseAt at this
  rw [getD_of ha, getD_of hb] at this
  exact this
theorem ways_pair {K : PySem.W.Frag} {H : Hp} {ms : List Int} : ∀ {ws : List V} {ys : List PyData}, Paired (Th K H) ws ys → (∀ y ∈ ys, placesB y ms = true) → Paired (Wd K H) ws (ys.map wdG)
  | _, _, .nil, _ => .nil
  | _, _, .cons r t, h => by
    refine .cons ?_ (ways_pair t fun y hy => h y (List.mem_cons_of_mem _ hy))
    obtain ⟨ns, rfl, _⟩ := places_ints (h _ List.mem_cons_self)
    obtain ⟨a, rfl, ha⟩ := ints_thS r
    refine ⟨a, rfl, ?_⟩
    show H a = some (.tup (((ns.map PyData.int).map intD).map V.int))
    rw [ints_back]
    exact ha
theorem gap_ok {d : PyData} {many : Int} {ms : List Int} (h : gapB d many ms = true) : GapOk ms many (gapD d) := by
  obtain ⟨f, t, p, ys, rfl, ⟨f0, f1⟩, ⟨t0, t1⟩, ne, ⟨p0, p1⟩, hw⟩ := gapB_true h
  obtain ⟨w1, w2, w3⟩ := ways_parts hw
  have e : gapD (.tuple [.int f, .int t, .int p, .tuple ys]) = ⟨f, t, p, ys.map wdG⟩ := rfl
  rw [e]
  refine ⟨f0, f1, t0, t1, ne, p0, p1, by show (ys.map wdG).length ≤ 8; rw [List.length_map]; exact w1, fun w hw' => ?_, ?_⟩
  · obtain ⟨y, hy, rfl⟩ := List.mem_map.mp hw'
    obtain ⟨ns, rfl, h1, h2⟩ := places_ints (w2 y hy)
    have e2 : wdG (.tuple (ns.map PyData.int)) = ns := ints_back ns
    rw [e2]
    exact ⟨h1, h2⟩
  · refine adj_pairwise (R := fun u w => HT.lexLt u w = true) (fun a b c => lexLt_trans) fun i a b ha hb => ?_
    have ha' : (ys.map wdG)[i]? = some a := ha
    have hb' : (ys.map wdG)[i + 1]? = some b := hb
    rw [List.getElem?_map] at ha' hb'
    obtain ⟨x, hx, rfl⟩ := Option.map_eq_some_iff.mp ha'
    obtain ⟨y, hy, rfl⟩ := Option.map_eq_some_iff.mp hb'
    exact w3 i x y hx hy
theorem gap_at {K : PySem.W.Frag} {H : Hp} {v : V} {d : PyData} {many : Int} {ms : List Int} (h : gapB d many ms = true) (hv : Th K H v d) : GapAt K H v (gapD d) := by
  obtain ⟨f, t, p, ys, rfl, _, _, _, _, hw⟩ := gapB_true h
  obtain ⟨ag, bg, ws, rfl, h1, h2, h3⟩ := th_gap hv
  exact ⟨ag, bg, ws, rfl, h1, h2, ways_pair h3 (ways_parts hw).2.1⟩
theorem boltB_true {d : PyData} {ms : List Int} (h : boltB d ms = true) : ∃ m gs, d = .tuple [.int m, .tuple gs] ∧ 2 ≤ m ∧ m ≤ 4 ∧ (∀ g ∈ gs, gapB g m ms = true) ∧ (∀ (i : Nat) (a b : PyData), gs[i]? = some a → gs[i + 1]? = some b → keyLt (keyG a) (keyG b) = true) ∧ (gs.map nwG).sum ≤ 8 := by
  have ht : isTup d = true := by
    cases z : isTup d with
    | true => rfl
    | false => rw [boltB_tup z] at h; cases h
  obtain ⟨ds, rfl⟩ := tup_of ht
  have hl : ds.length = 2 := by
    refine Classical.byContradiction fun n => ?_
    rw [boltB_len n] at h
    cases h
  match ds, hl with
  | [d1, d2], _ =>
    have h' : (wholeB d1 2 4 && (isTup d2 && gapsB (itemsD d2) (intD d1) ms)) = true := h
    rw [Bool.and_eq_true, Bool.and_eq_true] at h'
    obtain ⟨h1, h2, h3⟩ := h'
    obtain ⟨m, rfl, m0, m1⟩ := wholeB_true h1
    obtain ⟨gs, rfl⟩ := tup_of h2
    have h3' : (gs.all (fun g => gapB g m ms) && ((List.range (gs.length - 1)).all (riseK gs) && decide ((gs.map nwG).sum ≤ 8))) = true := h3
    simp only [Bool.and_eq_true, decide_eq_true_eq, List.all_eq_true] at h3'
    obtain ⟨k1, k2, k3⟩ := h3'
    refine ⟨m, gs, rfl, m0, m1, k1, fun i a b ha hb => ?_, k3⟩
    have il := (List.getElem?_eq_some_iff.mp hb).1
    have := k2 i (List.mem_range.mpr (by omega))
    unfold riseK at this
    rw [getD_of ha, getD_of hb] at this
    exact this
theorem bolt_ok {d : PyData} {ms : List Int} (h : boltB d ms = true) : BoltOk ms (boltD d) := by
  obtain ⟨m, gs, rfl, m0, m1, k1, k2, k3⟩ := boltB_true h
  have e : boltD (.tuple [.int m, .tuple gs]) = ⟨m, gs.map gapD⟩ := rfl
  rw [e]
  refine ⟨m0, m1, fun g hg => ?_, ?_, ?_⟩
  · obtain ⟨x, hx, rfl⟩ := List.mem_map.mp hg
    exact gap_ok (k1 x hx)
  · refine adj_pairwise (R := fun (g h : Gap) => lexLt2 g.frm g.to_ h.frm h.to_) (fun a b c h1 h2 => by unfold lexLt2 at *; omega) fun i a b ha hb => ?_
    have ha' : (gs.map gapD)[i]? = some a := ha
    have hb' : (gs.map gapD)[i + 1]? = some b := hb
    rw [List.getElem?_map] at ha' hb'
    obtain ⟨x, hx, rfl⟩ := Option.map_eq_some_iff.mp ha'
    obtain ⟨y, hy, rfl⟩ := Option.map_eq_some_iff.mp hb'
    have := k2 i x y hx hy
    unfold keyLt at this
    rw [decide_eq_true_eq] at this
    exact this
  · show (((gs.map gapD)).map (fun g : Gap => g.ways.length)).sum ≤ 8
    rw [List.map_map]
    have z : ((fun g : Gap => g.ways.length) ∘ gapD) = nwG := by
      funext x
      show ((itemsD (itD x 3)).map wdG).length = nwG x
      rw [List.length_map]
      rfl
    rw [z]
    exact k3
theorem bolt_at {K : PySem.W.Frag} {H : Hp} {v : V} {d : PyData} {ms : List Int} (h : boltB d ms = true) (hv : Th K H v d) : BoltAt K H v (boltD d) := by
  obtain ⟨m, gs, rfl, m0, m1, k1, k2, k3⟩ := boltB_true h
  obtain ⟨a, xs, rfl, h1, h2⟩ := hv.items
  cases h2 with
  | cons r1 h2 =>
    cases h2 with
    | cons r2 h2 =>
      cases h2
      cases r1
      obtain ⟨c, gvs, rfl, h3, h4⟩ := r2.items
      refine ⟨a, c, gvs, rfl, h1, h3, ?_⟩
      show Paired (GapAt K H) gvs (gs.map gapD)
      have aux : ∀ {gvs : List V} {gs : List PyData}, Paired (Th K H) gvs gs → (∀ g ∈ gs, gapB g m ms = true) → Paired (GapAt K H) gvs (gs.map gapD) := by
        intro gvs gs p
        induction p with
        | nil => intro _; exact .nil
        | cons r _ ih =>
          intro k
          exact .cons (gap_at (k _ List.mem_cons_self) r) (ih fun g hg => k g (List.mem_cons_of_mem _ hg))
      exact aux h4 k1
/-! ### what is wrong first -/
def boltsAt (ds : List PyData) (k : Nat) : Bool := boltB (ds.getD k .none) (manysOf (lockD (ds.take k)))
def dedW (ws : List Word) : List Word := ws.foldl addW []
def wordsN (l : Lock) (k : Nat) : Nat := (dedW (cutList l k)).length
def faultD (d : PyData) : PyData :=
  if (isTup d && (decide (1 ≤ (itemsD d).length) && decide ((itemsD d).length ≤ 60))) = true then
    match (List.range (itemsD d).length).find? (fun k => !boltsAt (itemsD d) k) with
    | some k => .tuple [.str "bolt", .int (k : Nat)]
    | none => match (List.range (itemsD d).length).find? (fun k => decide (8 < wordsN (lockD (itemsD d)) k)) with
      | some k => .tuple [.str "words", .int (k : Nat)]
      | none => .none
  else .tuple [.str "lock"]
theorem find_first {n k : Nat} {p : Nat → Bool} (hk : k < n) (hp : p k = true) (hb : ∀ j < k, p j = false) : (List.range n).find? p = some k := by
  rw [List.find?_range_eq_some]
  exact ⟨hp, List.mem_range.mpr hk, fun j hj => by rw [hb j hj]; rfl⟩
theorem find_none {n : Nat} {p : Nat → Bool} (h : ∀ j < n, p j = false) : (List.range n).find? p = none := by
  rw [List.find?_range_eq_none]
  intro j hj
  rw [h j hj]
  rfl
theorem ded_mem : ∀ (ws acc : List Word) (u : Word), u ∈ ws.foldl addW acc ↔ u ∈ acc ∨ u ∈ ws
  | [], acc, u => by simp
  | w :: ws, acc, u => by
    rw [List.foldl_cons, ded_mem ws, mem_addW, List.mem_cons, or_assoc]
theorem ded_nodup : ∀ (ws acc : List Word), acc.Nodup → (ws.foldl addW acc).Nodup
  | [], _, h => h
  | w :: ws, acc, h => ded_nodup ws _ (nodup_addW h)
/-- how many unlike words -/
theorem words_len {l : Lock} {k : Nat} {ws : List Word} (h : WordsAt l k ws) : ws.length = wordsN l k := by
  have m : ∀ u, u ∈ dedW (cutList l k) ↔ u ∈ ws := fun u => by
    unfold dedW
    rw [ded_mem, h.2, mem_cutList]
    simp
  have n : (dedW (cutList l k)).Nodup := ded_nodup _ _ List.nodup_nil
  have a := nodup_le h.1 fun u hu => (m u).mpr hu
  have b := nodup_le n fun u hu => (m u).mp hu
  unfold wordsN
  omega
end Wb

set_option Elab.async false
set_option linter.all false
set_option maxRecDepth 100000
set_option maxHeartbeats 4000000
set_option pp.maxSteps 600
set_option pp.deepTerms false
namespace Wb
open PySem PySem.Spec PyProof.Rows L2
abbrev sIsLock : Stmt := topS 14
abbrev sFault : Stmt := topS 15
theorem scIsLock : FnScope ["thing"] ["thing"] (defScope sIsLock) := ⟨rfl, rfl, rfl, by decide +kernel, rfl, by decide +kernel, by decide +kernel⟩
theorem scFault : FnScope ["thing", "manys", "k", "bolt", "words"] ["thing"] (defScope sFault) := ⟨rfl, rfl, rfl, by decide +kernel, rfl, by decide +kernel, by decide +kernel⟩
structure Pr (K : PySem.W.Frag) (mg : Str → Option Value) where
  f1 : Addr
  d1 : FuncData
  F1 : Fun K "is_whole" "is_whole" sWhole f1 d1
  b1 : Binds K d1 ["thing"] []
  g1 : mg "is_whole" = some (.ref f1)
  f2 : Addr
  d2 : FuncData
  F2 : Fun K "is_whole_in" "is_whole_in" sWholeIn f2 d2
  b2 : Binds K d2 ["thing", "low", "high"] []
  g2 : mg "is_whole_in" = some (.ref f2)
  f3 : Addr
  d3 : FuncData
  F3 : Fun K "is_tuple_of" "is_tuple_of" sTupOf f3 d3
  b3 : Binds K d3 ["thing", "low", "high"] []
  g3 : mg "is_tuple_of" = some (.ref f3)
  f4 : Addr
  d4 : FuncData
  F4 : Fun K "are_places" "are_places" sPlaces f4 d4
  b4 : Binds K d4 ["thing", "manys"] []
  g4 : mg "are_places" = some (.ref f4)
  f6 : Addr
  d6 : FuncData
  F6 : Fun K "words_of" "words_of" sWords f6 d6
  b6 : Binds K d6 ["lock"] []
  g6 : mg "words_of" = some (.ref f6)
  f14 : Addr
  d14 : FuncData
  F14 : Fun K "is_lock" "is_lock" sIsLock f14 d14
  b14 : Binds K d14 ["thing"] []
  g14 : mg "is_lock" = some (.ref f14)
  f15 : Addr
  d15 : FuncData
  F15 : Fun K "fault_of" "fault_of" sFault f15 d15
  b15 : Binds K d15 ["thing"] []
  g15 : mg "fault_of" = some (.ref f15)
  f16 : Addr
  d16 : FuncData
  F16 : Fun K "is_bolt" "is_bolt" sBolt f16 d16
  b16 : Binds K d16 ["thing", "below"] []
  g16 : mg "is_bolt" = some (.ref f16)
  f17 : Addr
  d17 : FuncData
  F17 : Fun K "is_gap" "is_gap" sGap f17 d17
  b17 : Binds K d17 ["thing", "many", "below"] []
  g17 : mg "is_gap" = some (.ref f17)
  f18 : Addr
  d18 : FuncData
  F18 : Fun K "are_ways" "are_ways" sWays f18 d18
  b18 : Binds K d18 ["thing", "below"] []
  g18 : mg "are_ways" = some (.ref f18)
  B : Bi mg
  N : Nu mg
def spFaultG (K : PySem.W.Frag) : Sp := fun vs H Q _ => ∃ (v : V) (d : PyData), vs = [v] ∧ Th K H v d ∧ ∀ H' u, Evl.Ex H H' → Th K H' u (faultD d) → Q u H'
def spIsLockG (K : PySem.W.Frag) : Sp := fun vs H Q _ => ∃ (v : V) (d : PyData), vs = [v] ∧ Th K H v d ∧ ∀ H', Evl.Ex H H' → Q (.bl (isNon (faultD d))) H'
theorem manys_snoc {ds : List PyData} {i : Nat} {d : PyData} (h : ds[i]? = some d) : manysOf (lockD (ds.take (i + 1))) = manysOf (lockD (ds.take i)) ++ [intD (itD d 0)] := by
  unfold lockD manysOf
  rw [take_succ_get h, List.map_append, List.map_append]
  rfl
theorem lock_take (ds : List PyData) (i : Nat) : lockD (ds.take i) = (lockD ds).take i := by
  unfold lockD
  rw [List.map_take]
theorem fault_bolt {ds : List PyData} (h1 : 1 ≤ ds.length) (h2 : ds.length ≤ 60) {k : Nat} (hk : k < ds.length) (hb : boltsAt ds k = false) (ho : ∀ j < k, boltsAt ds j = true) : faultD (.tuple ds) = .tuple [.str "bolt", .int (k : Nat)] := by
  show (if (true && (decide (1 ≤ ds.length) && decide (ds.length ≤ 60))) = true then (match (List.range ds.length).find? (fun k => !boltsAt ds k) with | some k => PyData.tuple [.str "bolt", .int (k : Nat)] | none => _) else _) = _
  rw [decide_eq_true h1, decide_eq_true h2, Bool.true_and, Bool.true_and, if_pos rfl, find_first hk (by show (!boltsAt ds k) = true; rw [hb]; rfl) (fun j hj => by show (!boltsAt ds j) = false; rw [ho j hj]; rfl)]
theorem fault_words {ds : List PyData} (h1 : 1 ≤ ds.length) (h2 : ds.length ≤ 60) (ho : ∀ j < ds.length, boltsAt ds j = true) {k : Nat} (hk : k < ds.length) (hw : 8 < wordsN (lockD ds) k) (hn : ∀ j < k, ¬ 8 < wordsN (lockD ds) j) : faultD (.tuple ds) = .tuple [.str "words", .int (k : Nat)] := by
  show (if (true && (decide (1 ≤ ds.length) && decide (ds.length ≤ 60))) = true then (match (List.range ds.length).find? (fun k => !boltsAt ds k) with | some k => PyData.tuple [.str "bolt", .int (k : Nat)] | none => (match (List.range ds.length).find? (fun k => decide (8 < wordsN (lockD ds) k)) with | some k => PyData.tuple [.str "words", .int (k : Nat)] | none => PyData.none)) else _) = _
  rw [decide_eq_true h1, decide_eq_true h2, Bool.true_and, Bool.true_and, if_pos rfl, find_none (p := fun k => !boltsAt ds k) (fun j hj => by show (!boltsAt ds j) = false; rw [ho j hj]; rfl), find_first (p := fun k => decide (8 < wordsN (lockD ds) k)) hk (decide_eq_true hw) (fun j hj => decide_eq_false (hn j hj))]
theorem fault_no {ds : List PyData} (h1 : 1 ≤ ds.length) (h2 : ds.length ≤ 60) (ho : ∀ j < ds.length, boltsAt ds j = true) (hn : ∀ j < ds.length, ¬ 8 < wordsN (lockD ds) j) : faultD (.tuple ds) = .none := by
  show (if (true && (decide (1 ≤ ds.length) && decide (ds.length ≤ 60))) = true then (match (List.range ds.length).find? (fun k => !boltsAt ds k) with | some k => PyData.tuple [.str "bolt", .int (k : Nat)] | none => (match (List.range ds.length).find? (fun k => decide (8 < wordsN (lockD ds) k)) with | some k => PyData.tuple [.str "words", .int (k : Nat)] | none => PyData.none)) else _) = _
  rw [decide_eq_true h1, decide_eq_true h2, Bool.true_and, Bool.true_and, if_pos rfl, find_none (p := fun k => !boltsAt ds k) (fun j hj => by show (!boltsAt ds j) = false; rw [ho j hj]; rfl), find_none (p := fun k => decide (8 < wordsN (lockD ds) k)) (fun j hj => decide_eq_false (hn j hj))]
theorem fault_lock {d : PyData} (h : (isTup d && (decide (1 ≤ (itemsD d).length) && decide ((itemsD d).length ≤ 60))) = false) : faultD d = .tuple [.str "lock"] := by
  unfold faultD
  rw [h, if_neg Bool.false_ne_true]
/-- bolts that are right one by one make a lock but for its words -/
theorem semi_of {ds : List PyData} (h2 : ds.length ≤ 60) (ho : ∀ j < ds.length, boltsAt ds j = true) : SemiOk (lockD ds) := by
  refine ⟨by unfold lockD; rw [List.length_map]; exact h2, fun k b hb => ?_⟩
  unfold lockD at hb
  rw [List.getElem?_map] at hb
  obtain ⟨d, hd, rfl⟩ := Option.map_eq_some_iff.mp hb
  have := ho k (List.getElem?_eq_some_iff.mp hd).1
  unfold boltsAt at this
  rw [getD_of hd, lock_take] at this
  exact bolt_ok this
theorem semi_at {K : PySem.W.Frag} {H : Hp} {a : Addr} {xs : List V} {ds : List PyData} (hx : SqT K H a xs) (hp : Paired (Th K H) xs ds) (ho : ∀ j < ds.length, boltsAt ds j = true) : LockAt K H (.ref a) (lockD ds) := by
  refine ⟨a, xs, rfl, hx, ?_⟩
  have aux : ∀ {xs : List V} {es : List PyData}, Paired (Th K H) xs es → (∀ e ∈ es, ∃ ms, boltB e ms = true) → Paired (BoltAt K H) xs (es.map boltD) := by
    intro xs es p
    induction p with
    | nil => intro _; exact .nil
    | cons r _ ih =>
      intro k
      obtain ⟨ms, hb⟩ := k _ List.mem_cons_self
      exact .cons (bolt_at hb r) (ih fun g hg => k g (List.mem_cons_of_mem _ hg))
  refine aux hp fun e he => ?_
  obtain ⟨j, hj⟩ := List.mem_iff_getElem?.mp he
  have := ho j (List.getElem?_eq_some_iff.mp hj).1
  unfold boltsAt at this
  rw [getD_of hj] at this
  exact ⟨_, this⟩
section
variable {P : Program} {w : World} {K : PySem.W.Frag} {mg : Str → Option Value} {base : Heap}
theorem ok_faultG (D : Pr K mg) : FnOk P w K mg base CX0 6 D.f15 D.d15 ["thing"] (spFaultG K) := by
  have G3 : FnOk P w K mg base CX0 1 D.f3 D.d3 ["thing", "low", "high"] (spTupG K) := ok_tupG D.F3 D.B
  have G16 : FnOk P w K mg base CX0 5 D.f16 D.d16 ["thing", "below"] (spBoltG K) := ok_boltG D.F16 D.F3 D.b3 D.g3 D.F4 D.b4 D.g4 D.F2 D.b2 D.g2 D.F18 D.b18 D.g18 D.F1 D.b1 D.g1 D.F17 D.b17 D.g17 D.B D.N
  have G6 : FnOk P w K mg base CX0 1 D.f6 D.d6 ["lock"] (spWordsS K) := ok_wordsS D.F6 D.B
  obtain ⟨tb, eb⟩ := D.N.bolts
  obtain ⟨tw, ew⟩ := D.N.words
  refine D.F15.ok scFault (fun vs H Q E h => ?_) (fun cdv A outer s H vs Q E hr h => ?_)
  · obtain ⟨v, d, rfl, _⟩ := h; rfl
  · obtain ⟨v, d, rfl, hv, q⟩ := h
    have hr1 : Room 1 _ := hr.mono (by decide)
    refine ⟨_, pss_cons (ps_if (pt_not (pt_val (pe_call G3 hr1 (by rfl) D.g3 D.F3.kp D.b3 .nil pass0 (pa_cons (pv 0) (pa_cons pe_int (pa_cons (pe_glob (v := .int 60) (by rfl) eb ⟨_, rfl⟩) pa_nil)))))) (pss_one (ps_ret (pe_tup (pa_cons pe_str pa_nil)))) pss_nil)
      (pss_cons (ps_set (i := 1) scFault.nd rfl (.inl rfl) (pe_lst pa_nil))
      (pss_cons (ps_for PassesOwn.never rfl (pi_enumT (by rfl) D.B.enum (pa_cons (pv 0) pa_nil)) (pg_tup rfl (pgs_cons (pg_name (i := 2) scFault.nd rfl (.inl rfl)) (pgs_cons (pg_name (i := 3) scFault.nd rfl (.inl rfl)) pgs_nil)))
        (pss_cons (ps_if (pt_not (pt_val (pe_call G16 hr (by rfl) D.g16 D.F16.kp D.b16 .nil pass0 (pa_cons (pv 3) (pa_cons (pv 1) pa_nil))))) (pss_one (ps_ret (pe_tup (pa_cons pe_str (pa_cons (pv 2) pa_nil))))) pss_nil)
        (pss_one (ps_expr (pe_bm PySem.F.plainAttrs_list PySem.F.slot_list_append PySem.F.type_list_append mt_append (pv 1) (pa_cons (pe_ix ix_tup (pv 3) pe_int (fun _ _ => rfl)) pa_nil))))))
      (pss_cons (ps_for PassesOwn.never rfl (pi_enum (by rfl) D.B.enum (pa_cons (pe_call G6 hr1 (by rfl) D.g6 D.F6.kp D.b6 .nil pass0 (pa_cons (pv 0) pa_nil)) pa_nil)) (pg_tup rfl (pgs_cons (pg_name (i := 2) scFault.nd rfl (.inl rfl)) (pgs_cons (pg_name (i := 4) scFault.nd rfl (.inl rfl)) pgs_nil)))
        (pss_one (ps_if (pt_cmpR op_gt (pe_callB call_len_seq (by rfl) D.B.len PySem.boot_len (pa_cons (pv 4) pa_nil)) (pe_glob (v := .int 8) (by rfl) ew ⟨_, rfl⟩) (nomark _)) (pss_one (ps_ret (pe_tup (pa_cons pe_str (pa_cons (pv 2) pa_nil))))) pss_nil)))
      (pss_one (ps_ret pe_non))))), ?_⟩
    refine ⟨v, rfl, v, d, 1, 60, rfl, hv, _, rfl, ?_⟩
    have eC : (isTup d && (decide ((1 : Int) ≤ ((itemsD d).length : Int)) && decide (((itemsD d).length : Int) ≤ 60))) = (isTup d && (decide (1 ≤ (itemsD d).length) && decide ((itemsD d).length ≤ 60))) := by
      congr 1
      congr 1
      · exact decide_eq_decide.mpr (by omega)
      · exact decide_eq_decide.mpr (by omega)
    rw [eC]
    cases hC : (isTup d && (decide (1 ≤ (itemsD d).length) && decide ((itemsD d).length ≤ 60))) with
    | false =>
      refine iteT ?_
      refine ⟨(by show 1 ≤ sizeLine; decide), fun t nt => ?_⟩
      refine q _ _ (Evl.Ex.new nt) ?_
      rw [fault_lock hC]
      exact .tup upd_same (.cons (.str _) .nil)
    | true =>
    refine iteF ?_
    rw [Bool.and_eq_true, Bool.and_eq_true, decide_eq_true_eq, decide_eq_true_eq] at hC
    obtain ⟨ht, n0, n60⟩ := hC
    obtain ⟨ds, rfl⟩ := tup_of ht
    obtain ⟨a, bs, rfl, hx, hp⟩ := hv.items
    have n0 : 1 ≤ ds.length := n0
    have n60 : ds.length ≤ 60 := n60
    have bl : bs.length = ds.length := Paired.len hp
    refine ⟨Nat.zero_le _, fun r0 nr0 => ?_⟩
    have x1 : Evl.Ex H (upd H r0 (.lst [])) := Evl.Ex.new nr0
    refine ⟨.ref a, rfl, a, bs, rfl, Evl.ex_t x1 hx, ?_⟩
    refine for_it (walk_et (xs := bs)) (fun i σ H' => ∃ (y2 y3 y4 : Option V), σ = [some (.ref a), some (.ref r0), y2, y3, y4] ∧ Evl.Ex H H' ∧ H' r0 = some (.lst ((manysOf (lockD (ds.take i))).map V.int)) ∧ ∀ j < i, boltsAt ds j = true) ⟨none, none, none, rfl, x1, upd_same, fun j hj => absurd hj (Nat.not_lt_zero j)⟩ ?_ ?_ ?_
    · rintro i σ H' _ ⟨_, _, _, _, e, _⟩
      exact Evl.ex_t e hx
    · rintro i v σ H1 H2 hi ⟨y2, y3, y4, rfl, e1, hR, hall⟩ ⟨T, x, y, rfl, nT, rfl, ex, ey⟩
      cases ex
      have ey' : bs[i]? = some y := ey
      obtain ⟨dd, hdd, hth⟩ := Paired.get1 hp ey'
      have il : i < ds.length := (List.getElem?_eq_some_iff.mp hdd).1
      have e2 := Evl.Ex.new (o := .tup [.int (i : Nat), y]) nT
      generalize hH2 : upd H1 T (.tup [.int (i : Nat), y]) = H2 at e2
      have hT2 : H2 T = some (.tup [.int (i : Nat), y]) := by rw [← hH2]; exact upd_same
      have e12 := e1.trans e2
      have hR2 := e2 _ _ hR
      refine ⟨T, _, rfl, .inl (.inl hT2), rfl, _, _, rfl, _, _, rfl, rfl, ?_⟩
      refine ⟨y, rfl, .ref r0, rfl, y, dd, r0, manysOf (lockD (ds.take i)), rfl, hth.ex e12, .inl (.inl hR2), fun H3 e3 => ?_⟩
      refine ⟨_, rfl, ?_⟩
      have bA : boltsAt ds i = boltB dd (manysOf (lockD (ds.take i))) := by
        unfold boltsAt
        rw [getD_of hdd]
      rw [← bA]
      have e13 := e12.trans e3
      cases hB : boltsAt ds i with
      | false =>
        refine iteT ?_
        refine ⟨.int (i : Nat), rfl, (by show 2 ≤ sizeLine; decide), fun t nt => ?_⟩
        refine q _ _ (e13.trans (Evl.Ex.new nt)) ?_
        rw [fault_bolt n0 n60 il hB hall]
        exact .tup upd_same (.cons (.str _) (.cons (.int _) .nil))
      | true =>
      refine iteF ?_
      rw [bA] at hB
      obtain ⟨m, gs, rfl, _⟩ := boltB_true hB
      obtain ⟨ab, xs2, rfl, hb1, hb2⟩ := (hth.ex e13).items
      cases hb2 with
      | cons r1 hb2 =>
        cases hb2 with
        | cons r2 hb2 =>
          cases hb2
          cases r1
          have hR3 := e3 _ _ hR2
          refine ⟨.ref r0, rfl, .inl ⟨rfl, _, SqL.of hR3⟩, .ref ab, rfl, ab, _, 0, .int m, rfl, rfl, hb1, atI_nat (j := 0) rfl, r0, _, _, rfl, rfl, hR3, ?_, ?_⟩
          · rw [List.length_map]
            unfold manysOf lockD
            rw [List.length_map, List.length_map, List.length_take]
            exact Nat.lt_of_le_of_lt (show min i ds.length ≤ 60 by omega) (by decide)
          · refine ⟨_, _, _, rfl, e13.mut nr0, ?_, fun j hj => ?_⟩
            · rw [upd_same, manys_snoc hdd, List.map_append]
              rfl
            · by_cases e : j = i
              · rw [e, bA]
                exact hB
              · exact hall j (by omega)
    · rintro σ H1 ⟨y2, y3, y4, rfl, e1, hR, hall⟩
      rw [bl] at hall
      have semi := semi_of n60 hall
      have ll : (lockD ds).length = ds.length := List.length_map ..
      refine ⟨.ref a, rfl, .ref a, lockD ds, rfl, semi_at (Evl.ex_t e1 hx) (Paired.imp (fun _ _ h => h.ex e1) hp) hall, semi, fun H2 pw rs e2 npw hpw rl hrs => ?_⟩
      refine ⟨pw, rs.map V.ref, rfl, .inl (.inl hpw), ?_⟩
      refine for_it (walk_enum (xs := rs.map V.ref)) (fun i σ H' => ∃ (y2 y3 y4 : Option V), σ = [some (.ref a), some (.ref r0), y2, y3, y4] ∧ Evl.Ex H2 H' ∧ ∀ j < i, ¬ 8 < wordsN (lockD ds) j) ⟨_, _, _, rfl, Evl.Ex.refl _, fun j hj => absurd hj (Nat.not_lt_zero j)⟩ ?_ ?_ ?_
      · rintro i σ H' _ ⟨_, _, _, _, e, _⟩
        exact .inl (.inl (e _ _ hpw))
      · rintro i v σ H3 H4 hi ⟨z2, z3, z4, rfl, e3, hno⟩ ⟨T, x, y, rfl, nT, rfl, ex, ey⟩
        cases ex
        rw [List.length_map, rl] at hi
        obtain ⟨r, hr1', rfl⟩ : ∃ r, rs[i]? = some r ∧ y = .ref r := by
          have ey' : (rs.map V.ref)[i]? = some y := ey
          rw [List.getElem?_map] at ey'
          cases e : rs[i]? with
          | none => rw [e] at ey'; cases ey'
          | some r => rw [e] at ey'; exact ⟨r, rfl, (Option.some.inj ey').symm⟩
        obtain ⟨_, ws, ⟨us, hus, hup⟩, hW⟩ := hrs i r hr1'
        have ul : us.length = wordsN (lockD ds) i := by rw [Paired.len hup]; exact words_len hW
        have e4 := Evl.Ex.new (o := .tup [.int (i : Nat), .ref r]) nT
        refine ⟨T, _, rfl, .inl (.inl upd_same), rfl, _, _, rfl, _, _, rfl, rfl, ?_⟩
        refine ⟨.ref r, rfl, r, us, rfl, .inl (.inl (.inl ((e3.trans e4) _ _ hus))), _, 8, rfl, rfl, _, rfl, ?_⟩
        refine ite2 (fun hc => ?_) (fun hc => ?_)
        · have hc' : decide ((8 : Int) < (us.length : Int)) = true := hc
          rw [decide_eq_true_eq] at hc'
          refine ⟨.int (i : Nat), rfl, (by show 2 ≤ sizeLine; decide), fun t nt => ?_⟩
          refine q _ _ ((e1.trans e2).trans ((e3.trans e4).trans (Evl.Ex.new nt))) ?_
          rw [fault_words n0 n60 hall (by omega) (by omega) hno]
          exact .tup upd_same (.cons (.str _) (.cons (.int _) .nil))
        · refine ⟨_, _, _, rfl, e3.trans e4, fun j hj => ?_⟩
          by_cases e : j = i
          · rw [e]
            intro z
            exact hc (decide_eq_true (by omega : (8 : Int) < (us.length : Int)))
          · exact hno j (by omega)
      · rintro σ H3 ⟨z2, z3, z4, rfl, e3, hno⟩
        rw [List.length_map, rl, ll] at hno
        refine q H3 _ ((e1.trans e2).trans e3) ?_
        rw [fault_no n0 n60 hall hno]
        exact .non
theorem ok_isLock (D : Pr K mg) : FnOk P w K mg base CX0 7 D.f14 D.d14 ["thing"] (spIsLockG K) := by
  have G15 : FnOk P w K mg base CX0 6 D.f15 D.d15 ["thing"] (spFaultG K) := ok_faultG D
  refine D.F14.ok scIsLock (fun vs H Q E h => ?_) (fun cdv A outer s H vs Q E hr h => ?_)
  · obtain ⟨v, d, rfl, _⟩ := h; rfl
  · obtain ⟨v, d, rfl, hv, q⟩ := h
    refine ⟨_, pss_one (ps_ret (pe_cmpR op_isN (pe_call G15 hr (by rfl) D.g15 D.F15.kp D.b15 .nil pass0 (pa_cons (pv 0) pa_nil)) pe_non (nomark _))), ?_⟩
    refine ⟨v, rfl, v, d, rfl, hv, fun H' u e hu => ?_⟩
    refine ⟨rfl, ?_⟩
    rw [hu.non_iff]
    exact q H' e
end
end Wb

set_option Elab.async false
set_option linter.all false
set_option maxRecDepth 100000
set_option maxHeartbeats 4000000
set_option pp.maxSteps 600
set_option pp.deepTerms false
namespace Wb
open PySem PySem.Spec PyProof.Rows L2
abbrev sPen : Stmt := topS 20
abbrev sDraw : Stmt := topS 21
abbrev sPick : Stmt := topS 22
theorem scPen : FnScope ["_law_script"] ["_law_script"] (defScope sPen) := ⟨rfl, rfl, rfl, by decide +kernel, rfl, by decide +kernel, by decide +kernel⟩
theorem scDraw : FnScope ["_law_pen_here", "_law_many", "_law_found", "_law_taken", "_law_cell", "_law_mixed"] ["_law_pen_here", "_law_many"] (defScope sDraw) := ⟨rfl, rfl, rfl, by decide +kernel, rfl, by decide +kernel, by decide +kernel⟩
theorem scPick : FnScope ["_law_pen_here", "_law_some"] ["_law_pen_here", "_law_some"] (defScope sPick) := ⟨rfl, rfl, rfl, by decide +kernel, rfl, by decide +kernel, by decide +kernel⟩

/-! ### the pen -/
def kC : Key := .inr "cells"
def kT : Key := .inr "taken"
def kD : Key := .inr "digits"
def penD (c : Addr) (t d : Int) : List (Key × V) := [(kC, .ref c), (kT, .int t), (kD, .int d)]
theorem kTC : ¬ kC = kT := by decide +kernel
theorem kDC : ¬ kC = kD := by decide +kernel
theorem kDT : ¬ kT = kD := by decide +kernel
theorem pen_c (c : Addr) (t d : Int) : valV (penD c t d) kC = some (.ref c) := valV_pos rfl
theorem pen_t (c : Addr) (t d : Int) : valV (penD c t d) kT = some (.int t) := by
  have e : valV (penD c t d) kT = valV [(kT, V.int t), (kD, V.int d)] kT := valV_neg kTC
  rw [e]
  exact valV_pos rfl
theorem pen_d (c : Addr) (t d : Int) : valV (penD c t d) kD = some (.int d) := by
  have e : valV (penD c t d) kD = valV [(kT, V.int t), (kD, V.int d)] kD := valV_neg kDC
  have e2 : valV [(kT, V.int t), (kD, V.int d)] kD = valV [(kD, V.int d)] kD := valV_neg kDT
  rw [e, e2]
  exact valV_pos rfl
theorem put_pt (c : Addr) (t d x : Int) : putK (penD c t d) kT (.int x) = penD c x d := by
  have h1 : decide (kC = kT) = false := decide_eq_false kTC
  have h2 : decide (kD = kT) = false := decide_eq_false (fun e => kDT e.symm)
  unfold putK penD
  simp [List.any_cons, h1, h2, kTC, show ¬ kD = kT from fun e => kDT e.symm]
theorem put_pd (c : Addr) (t d x : Int) : putK (penD c t d) kD (.int x) = penD c t x := by
  unfold putK penD
  simp [List.any_cons, kDC, kDT]
def PenAt (H : Hp) (p c : Addr) (T : Int) : Prop :=
  ∃ (cells : List Int) (t d : Int), H p = some (.dK (penD c t d)) ∧ H c = some (.lst (cells.map V.int)) ∧ cells.length ≤ 63 ∧ 0 ≤ t ∧ t ≤ T ∧ 0 ≤ d
section
variable {H H' : Hp} {p c q : Addr} {T T' : Int}
theorem PenAt.ex (e : Evl.Ex H H') (h : PenAt H p c T) : PenAt H' p c T := by
  obtain ⟨cells, t, d, h1, h2, r⟩ := h
  exact ⟨cells, t, d, e _ _ h1, e _ _ h2, r⟩
/-- an object of ours that is neither the pen nor its cells has changed -/
theorem PenAt.put {o : HO} (h : PenAt H p c T) (h1 : q ≠ p) (h2 : q ≠ c) : PenAt (upd H q o) p c T := by
  obtain ⟨cells, t, d, a, b, r⟩ := h
  exact ⟨cells, t, d, by rw [upd_ne h1.symm]; exact a, by rw [upd_ne h2.symm]; exact b, r⟩
theorem PenAt.mono (h : PenAt H p c T) (l : T ≤ T') : PenAt H p c T' := by
  obtain ⟨cells, t, d, a, b, b2, t0, t1, d0⟩ := h
  exact ⟨cells, t, d, a, b, b2, t0, Int.le_trans t1 l, d0⟩
theorem PenAt.no (h : PenAt H p c T) : ∀ xs, ¬ Rd H p (.tup xs) := by
  obtain ⟨cells, t, d, a, _⟩ := h
  rintro xs (z | ⟨o, z⟩)
  · rw [a] at z; cases z
  · rw [a] at z; cases z
theorem PenAt.here (h : PenAt H p c T) : H p ≠ none := by
  obtain ⟨cells, t, d, a, _⟩ := h
  rw [a]
  exact fun z => nomatch z
theorem PenAt.new1 (h : PenAt H p c T) (n : H q = none) : q ≠ p := fun z => h.here (z ▸ n)
theorem PenAt.new2 (h : PenAt H p c T) (n : H q = none) : q ≠ c := fun z => by
  obtain ⟨cells, t, d, _, b, _⟩ := h
  rw [← z, n] at b
  cases b
theorem PenAt.tx {K : PySem.W.Frag} (h : PenAt H p c T) (e : Exx p H H') : TX K H H' := e.tx h.no
/-- a list of ours has changed -/
theorem TX.put {K : PySem.W.Frag} {l : Addr} {xs : List V} {o : HO} (h : H l = some (.lst xs)) : TX K H (upd H l o) := by
  refine ⟨fun a ys z => ?_, fun a ys z => ?_⟩
  · rcases z with (z | ⟨o', z⟩) | z
    · exact .inl (.inl (by rw [upd_ne (ne_of z h (fun q => nomatch q))]; exact z))
    · exact .inl (.inr ⟨o', by rw [upd_ne (ne_of z h (fun q => nomatch q))]; exact z⟩)
    · exact .inr z
  · rw [upd_ne (ne_of z h (fun q => nomatch q))]
    exact z
theorem Exx.mut {l : Addr} {o : HO} (e : Exx p H H') (n : H l = none) : Exx p H (upd H' l o) := fun a u na ha => by
  rw [upd_ne (ne_of_none ha n)]
  exact e a u na ha
end
theorem fresh_exx {p q : Addr} {H H' : Hp} (e : Exx p H H') (hp : H' p ≠ none) (h : H' q = none) : H q = none := by
  cases z : H q with
  | none => rfl
  | some o =>
    by_cases n : q = p
    · subst n; exact absurd h hp
    · rw [e q o n z] at h; cases h

def spPen (K : PySem.W.Frag) : Sp := fun vs H Q _ => ∃ (a : Addr) (ns : List Int), vs = [.ref a] ∧ SqL K H a (ns.map V.int) ∧ ∀ H' p, Evl.Ex H H' → H p = none → (∃ c, PenAt H' p c 0) → Q (.ref p) H'
def spDraw : Sp := fun vs H Q _ => ∃ (p c : Addr) (n T : Int), vs = [.ref p, .int n] ∧ PenAt H p c T ∧ 1 ≤ n ∧ n ≤ 1000000 ∧ T ≤ 10000000 ∧ ∀ i H', 0 ≤ i → i < n → Exx p H H' → PenAt H' p c (T + 1) → Q (.int i) H'
def spPick (K : PySem.W.Frag) : Sp := fun vs H Q _ => ∃ (p c a : Addr) (T : Int) (xs : List V), vs = [.ref p, .ref a] ∧ PenAt H p c T ∧ T ≤ 10000000 ∧ SqL K H a xs ∧ a ≠ p ∧ xs ≠ [] ∧ xs.length ≤ 1000000 ∧
  ∀ x H', x ∈ xs → Exx p H H' → PenAt H' p c (T + 1) → Q x H'

theorem ints_shaped (ns : List Int) : SeqAt.shaped (.list (ns.map PyData.int)) = true := by
  have h1 : ∀ ns : List Int, PyData.canLayAll0 (ns.map PyData.int) = true := by
    intro ns
    induction ns with
    | nil => rfl
    | cons n ns ih => simp [PyData.canLayAll0, PyData.canLay0, ih]
  have h2 : ∀ ns : List Int, PyData.depthAll (ns.map PyData.int) ≤ 1 := by
    intro ns
    induction ns with
    | nil => simp [PyData.depthAll]
    | cons n ns ih => simp [PyData.depthAll, PyData.depth]; omega
  unfold SeqAt.shaped
  simp only [PyData.canLay0, PyData.depth, h1, Bool.true_and]
  have := h2 ns
  exact decide_eq_true (by omega)
theorem dp_ints {K : PySem.W.Frag} {H : Hp} : ∀ ns : List Int, DpAll K H (ns.map V.int) (ns.map PyData.int)
  | [] => .nil
  | n :: ns => .cons (.int n) (dp_ints ns)
section
variable {P : Program} {w : World} {K : PySem.W.Frag} {mg : Str → Option Value} {base : Heap}
theorem cut63 (ns : List Int) : cutV (ns.map V.int) none (some 63) = (ns.take 63).map V.int := by
  rw [List.map_take]
  exact cut_take _ 63
theorem ok_pen {f : Addr} {fd : FuncData} (F : Fun K "_law_pen" "_law_pen" sPen f fd) (B : Bi mg) : FnOk P w K mg base CX0 1 f fd ["_law_script"] (spPen K) := by
  refine F.ok scPen (fun vs H Q E h => ?_) (fun cdv A outer s H vs Q E hr h => ?_)
  · obtain ⟨a, ns, rfl, _⟩ := h; rfl
  · obtain ⟨a, ns, rfl, hS, q⟩ := h
    refine ⟨_, pss_one (ps_ret (pe_disp (pps_cons pe_str (pe_callTy call_list_of (by rfl) B.list PyProof.Rows.boot_list (pa_cons (pe_slice sl_list (pv 0) po_none (po_some pe_int)) pa_nil)) (pps_cons pe_str pe_int (pps_cons pe_str pe_int pps_nil)))
      (by rfl) (by rfl) (fun z => by cases z) (by decide))), ?_⟩
    intro p np
    have x1 : Evl.Ex H (upd H p (.dK [])) := Evl.Ex.new np
    refine ⟨.ref a, rfl, 63, rfl, a, _, rfl, Evl.ex_l x1 hS, fun c1 n1 => ?_⟩
    rw [cut63]
    have x2 := Evl.Ex.new (o := .lst ((ns.take 63).map V.int)) n1
    refine ⟨c1, _, rfl, .inl (.inl (.inl upd_same)), fun c n2 => ?_⟩
    have x3 := Evl.Ex.new (o := .lst ((ns.take 63).map V.int)) n2
    have hp3 := x3 _ _ (x2 _ _ (upd_same (H := H) (a := p) (o := .dK [])))
    refine ⟨hp3, penD c 0 0, ?_, (by show 3 ≤ 15; decide), ?_⟩
    · rfl
    · have e : mergeK [] (penD c 0 0) = penD c 0 0 := by rfl
      rw [e]
      refine q _ p (((x1.trans x2).trans x3).mut np) np ⟨c, ns.take 63, 0, 0, upd_same, ?_, ?_, Int.le_refl _, Int.le_refl _, Int.le_refl _⟩
      · rw [upd_ne (fun z => by rw [z] at n2; rw [x2 _ _ (upd_same (H := H) (a := p) (o := .dK []))] at n2; cases n2), upd_same]
      · rw [List.length_take]
        exact Nat.min_le_left _ _
end
end Wb

set_option Elab.async false
set_option linter.all false
set_option maxRecDepth 100000
set_option maxHeartbeats 4000000
set_option pp.maxSteps 600
set_option pp.deepTerms false
namespace Wb
open PySem PySem.Spec PyProof.Rows L2
theorem bnd61 (x : Int) : -(2 ^ 64) < x % 2305843009213693951 ∧ x % 2305843009213693951 < 2 ^ 64 := by
  have a1 := Int.emod_nonneg x (show (2305843009213693951 : Int) ≠ 0 by decide)
  have a2 := Int.emod_lt_of_pos x (show (0 : Int) < 2305843009213693951 by decide)
  omega
section
variable {P : Program} {w : World} {K : PySem.W.Frag} {mg : Str → Option Value} {base : Heap}
theorem ok_draw {f : Addr} {fd : FuncData} (F : Fun K "_law_draw" "_law_draw" sDraw f fd) (B : Bi mg) : FnOk P w K mg base CX0 1 f fd ["_law_pen_here", "_law_many"] spDraw := by
  refine F.ok scDraw (fun vs H Q E h => ?_) (fun cdv A outer s H vs Q E hr h => ?_)
  · obtain ⟨p, c, n, T, rfl, _⟩ := h; rfl
  · obtain ⟨p, c, n, T, rfl, ⟨cells, t, d, hp, hc, c63, t0, t1, d0⟩, n1, n2, T7, q⟩ := h
    have hu := hu_of hr
    have ncp : c ≠ p := ne_of hc hp (fun z => nomatch z)
    refine ⟨_, pss_cons (ps_if (pt_cmpR op_gt (pe_dget hu (pv 0) pe_str (fun _ _ => rfl)) pe_int (nomark _))
        (pss_cons (ps_set (i := 2) scDraw.nd rfl (.inl rfl) (pe_op op_mod (pe_dget hu (pv 0) pe_str (fun _ _ => rfl)) (pv 1)))
        (pss_cons (ps_dput hu (pv 0) pe_str (pe_op op_fdiv (pe_dget hu (pv 0) pe_str (fun _ _ => rfl)) (pv 1)) rfl)
        (pss_one (ps_ret (pv 2))))) pss_nil)
      (pss_cons (ps_set (i := 3) scDraw.nd rfl (.inl rfl) (pe_dget hu (pv 0) pe_str (fun _ _ => rfl)))
      (pss_cons (ps_dput hu (pv 0) pe_str (pe_op op_add (pv 3) pe_int) rfl)
      (pss_cons (ps_set (i := 4) scDraw.nd rfl (.inl rfl) pe_int)
      (Evl.pss_cut (ps_if (pt_cmpR (op_neD hr.units) (pe_dget hu (pv 0) pe_str (fun _ _ => rfl)) (pe_lst pa_nil) (nomark _))
        (pss_one (ps_set (i := 4) scDraw.nd rfl (.inl rfl) (pe_callB call_abs (by rfl) B.abs boot_abs (pa_cons (pe_ix ix_list (pe_dget hu (pv 0) pe_str (fun _ _ => rfl)) (pe_op op_mod (pv 3) (pe_callB call_len_seq (by rfl) B.len PySem.boot_len (pa_cons (pe_dget hu (pv 0) pe_str (fun _ _ => rfl)) pa_nil))) (fun _ _ => rfl)) pa_nil)))) pss_nil)
      (Evl.pss_cut (ps_if (PW.pt (pw_and (pt_cmpR op_ge (pv 4) (pe_op op_pow pe_int pe_int) (nomark _)) (pw_and1 (pt_cmpR op_lt (pv 3) (pe_callB call_len_seq (by rfl) B.len PySem.boot_len (pa_cons (pe_dget hu (pv 0) pe_str (fun _ _ => rfl)) pa_nil)) (nomark _)))))
        (pss_cons (ps_dput hu (pv 0) pe_str (pe_op op_fdiv (pe_op op_sub (pv 4) (pe_op op_pow pe_int pe_int)) (pv 1)) rfl)
        (pss_one (ps_ret (pe_op op_mod (pe_op op_sub (pv 4) (pe_op op_pow pe_int pe_int)) (pv 1))))) pss_nil)
      (pss_cons (ps_set (i := 5) scDraw.nd rfl (.inl rfl) (pe_op op_mod (pe_op op_add (pe_op op_add (pe_op op_add (pe_op op_mul (pv 4) pe_int) (pe_op op_mul (pe_op op_mul pe_int (pv 3)) (pv 3))) (pe_op op_mul pe_int (pv 3))) pe_int) pe_int))
      (pss_cons (ps_set (i := 5) scDraw.nd rfl (.inl rfl) (pe_op op_mod (pe_op op_mul (pv 5) (pe_op op_add (pe_op op_mod (pv 5) pe_int) pe_int)) pe_int))
      (pss_cons (ps_set (i := 5) scDraw.nd rfl (.inl rfl) (pe_op op_mod (pe_op op_mul (pe_op op_add (pv 5) (pe_op op_mul pe_int (pv 3))) (pv 5)) pe_int))
      (pss_one (ps_ret (pe_op op_mod (pe_op op_fdiv (pv 5) pe_int) (pv 1)))))))))))), ?_⟩
    have gD : ∀ {H' : Hp} {t' d' : Int}, H' p = some (.dK (penD c t' d')) → DGet H' p (.str "digits") (some (.int d')) := fun {H' t' d'} e => by
      have := DGet.k (k := kD) e
      rw [pen_d] at this
      exact this
    have gT : ∀ {H' : Hp} {t' d' : Int}, H' p = some (.dK (penD c t' d')) → DGet H' p (.str "taken") (some (.int t')) := fun {H' t' d'} e => by
      have := DGet.k (k := kT) e
      rw [pen_t] at this
      exact this
    have gC : ∀ {H' : Hp} {t' d' : Int}, H' p = some (.dK (penD c t' d')) → DGet H' p (.str "cells") (some (.ref c)) := fun {H' t' d'} e => by
      have := DGet.k (k := kC) e
      rw [pen_c] at this
      exact this
    have len3 : ∀ t' d', (penD c t' d').length < sizeLine := fun _ _ => (by show 3 < sizeLine; decide)
    have pD : ∀ {H' : Hp} {t' d' x : Int}, H' p = some (.dK (penD c t' d')) → DPut H' p (.str "digits") (.int x) (upd H' p (.dK (penD c t' x))) := fun {H' t' d' x} e => by
      have := DPut.k (k := kD) (v := .int x) e (len3 _ _)
      rw [put_pd] at this
      exact this
    have pT : ∀ {H' : Hp} {t' d' x : Int}, H' p = some (.dK (penD c t' d')) → DPut H' p (.str "taken") (.int x) (upd H' p (.dK (penD c x d'))) := fun {H' t' d' x} e => by
      have := DPut.k (k := kT) (v := .int x) e (len3 _ _)
      rw [put_pt] at this
      exact this
    have n0 : 0 < n := by omega
    have nb : 0 < n ∧ n < 1073741824 := ⟨n0, by omega⟩
    -- the digits of a great cell
    refine ⟨.ref p, rfl, p, .int d, rfl, gD hp, d, 0, rfl, rfl, _, rfl, ?_⟩
    refine ite2 (fun _ => ?_) (fun _ => ?_)
    · refine ⟨.ref p, rfl, p, .int d, rfl, gD hp, .int n, rfl, d, n, rfl, rfl, n0, ?_⟩
      refine ⟨.ref p, rfl, p, .int d, rfl, gD hp, .int n, rfl, d, n, rfl, rfl, nb, .ref p, rfl, p, _, rfl, pD hp, .int (d % n), rfl, ?_⟩
      refine q _ _ (Int.emod_nonneg _ (by omega)) (Int.emod_lt_of_pos _ n0) Exx.put ⟨cells, t, d / n, upd_same, by rw [upd_ne ncp]; exact hc, c63, t0, by omega, Int.ediv_nonneg d0 (by omega)⟩
    · refine ⟨.ref p, rfl, p, .int t, rfl, gT hp, ?_⟩
      refine ⟨.int t, rfl, t, 1, rfl, rfl, .ref p, rfl, p, _, rfl, pT hp, ?_⟩
      generalize hH1 : upd H p (.dK (penD c (t + 1) d)) = H1
      have hp1 : H1 p = some (.dK (penD c (t + 1) d)) := by rw [← hH1]; exact upd_same
      have hc1 : H1 c = some (.lst (cells.map V.int)) := by rw [← hH1, upd_ne ncp]; exact hc
      have x1 : Exx p H H1 := by rw [← hH1]; exact Exx.put
      -- the cell
      refine ⟨fun σ H' => ∃ cell : Int, σ = [some (.ref p), some (.int n), none, some (.int t), some (.int cell), none] ∧ Evl.Ex H1 H', ?_, ?_⟩
      · refine ⟨.ref p, rfl, p, .ref c, rfl, gC hp1, Nat.zero_le _, fun e ne => ?_⟩
        have e1 := Evl.Ex.new (o := .lst []) ne
        have hp2 := e1 _ _ hp1
        have hc2 := e1 _ _ hc1
        refine ⟨.list (cells.map PyData.int), .list [], .lst (.inl (.inl hc2)) (dp_ints cells), .lst (.inl (.inl upd_same)) .nil, ints_shaped cells, (by decide), _, rfl, ?_⟩
        cases hcells : cells with
        | nil =>
          refine iteF ?_
          exact ⟨0, rfl, e1⟩
        | cons c0 cs =>
          refine iteT ?_
          have lp : 0 < cells.length := by rw [hcells]; exact Nat.succ_pos _
          have hlt : (t % (cells.length : Int)).toNat < cells.length := by
            have h1 := Int.emod_nonneg t (show (cells.length : Int) ≠ 0 by omega)
            have h2 := Int.emod_lt_of_pos t (show (0 : Int) < cells.length by omega)
            omega
          have hix : ((t % (cells.length : Int)).toNat : Int) = t % ((cells.map V.int).length : Nat) := by
            have h1 := Int.emod_nonneg t (show (cells.length : Int) ≠ 0 by omega)
            rw [List.length_map]
            omega
          refine ⟨.ref p, rfl, p, .ref c, rfl, gC hp2, .int t, rfl, .ref p, rfl, p, .ref c, rfl, gC hp2, c, _, rfl, .inl (.inl (.inl hc2)), t, _, rfl, rfl, (by rw [List.length_map]; omega), c, _, _, .int (cells[(t % (cells.length : Int)).toNat]), rfl, rfl, .inl (.inl hc2), ?_, _, rfl, ?_⟩
          · rw [← hix]
            exact atI_nat (map_int_get (List.getElem?_eq_getElem hlt))
          · exact ⟨_, rfl, e1⟩
      · rintro σ H2 ⟨cell, rfl, e2⟩
        have hp2 := e2 _ _ hp1
        have hc2 := e2 _ _ hc1
        have x2 := x1.trans (Exx.ex e2)
        have fin : ∀ i : Int, 0 ≤ i → i < n → Q (.int i) H2 := fun i h1 h2 => q i H2 h1 h2 x2 ⟨cells, t + 1, d, hp2, hc2, c63, by omega, by omega, d0⟩
        have p18 : (0 : Int) ≤ 18 ∧ (18 : Int) ≤ 1000000 ∧ (10 : Int).natAbs < 2 ^ 64 := by decide
        have hlen : ((cells.map V.int).length : Int) = (cells.length : Int) := by rw [List.length_map]
        refine ⟨fun σ H' => σ = [some (.ref p), some (.int n), none, some (.int t), some (.int cell), none] ∧ H' = H2, ?_, ?_⟩
        · refine ⟨.int cell, rfl, 10, 18, rfl, rfl, p18, cell, _, rfl, rfl, _, rfl, ?_⟩
          refine ite2 (fun hge => ?_) (fun _ => ?_)
          · refine ⟨.int t, rfl, .ref p, rfl, p, .ref c, rfl, gC hp2, c, _, rfl, .inl (.inl (.inl hc2)), t, _, rfl, rfl, _, rfl, ?_⟩
            refine ite2 (fun _ => ?_) (fun _ => ?_)
            · have hge' : (10 : Int) ^ (18 : Int).toNat ≤ cell := of_decide_eq_true hge
              refine ⟨.int cell, rfl, 10, 18, rfl, rfl, p18, cell, _, rfl, rfl, .int n, rfl, _, n, rfl, rfl, nb, .ref p, rfl, p, _, rfl, pD hp2, ?_⟩
              refine ⟨.int cell, rfl, 10, 18, rfl, rfl, p18, cell, _, rfl, rfl, .int n, rfl, _, n, rfl, rfl, n0, ?_⟩
              refine q _ _ (Int.emod_nonneg _ (by omega)) (Int.emod_lt_of_pos _ n0) (x2.trans Exx.put) ⟨cells, t + 1, _, upd_same, by rw [upd_ne ncp]; exact hc2, c63, by omega, by omega, Int.ediv_nonneg (by omega) (by omega)⟩
            · exact ⟨rfl, rfl⟩
          · exact ⟨rfl, rfl⟩
        · rintro σ H' ⟨rfl, rfl⟩
          have m0 : (0 : Int) < 2305843009213693951 := by decide
          have cm : ∀ x : Int, CMul x 48271 := fun x => .inr (by decide)
          have tb : -(2 ^ 64) < t ∧ t < 2 ^ 64 := ⟨by omega, by omega⟩
          refine ⟨.int cell, rfl, cell, 48271, rfl, rfl, cm _, .int t, rfl, 69621, t, rfl, rfl, .inl (by decide), .int t, rfl, _, t, rfl, rfl, .inr tb, _, _, rfl, rfl, .int t, rfl, 7919, t, rfl, rfl, .inl (by decide), _, _, rfl, rfl, _, 11, rfl, rfl, _, _, rfl, rfl, m0, ?_⟩
          have mm1 : (0 : Int) < 1000003 := by decide
          refine ⟨_, rfl, _, rfl, _, 1000003, rfl, rfl, mm1, _, 40692, rfl, rfl, _, _, rfl, rfl, .inl (bnd61 _), _, _, rfl, rfl, m0, ?_⟩
          refine ⟨_, rfl, .int t, rfl, 16807, t, rfl, rfl, .inl (by decide), _, _, rfl, rfl, _, rfl, _, _, rfl, rfl, .inr (bnd61 _), _, _, rfl, rfl, m0, ?_⟩
          refine ⟨_, rfl, _, 1024, rfl, rfl, (show (0 : Int) < 1024 ∧ (1024 : Int) < 1073741824 by decide), .int n, rfl, _, n, rfl, rfl, n0, ?_⟩
          exact fin _ (Int.emod_nonneg _ (by omega)) (Int.emod_lt_of_pos _ n0)
theorem ok_pick {f f1 : Addr} {fd fd1 : FuncData} (F : Fun K "_law_pick" "_law_pick" sPick f fd) (F1 : Fun K "_law_draw" "_law_draw" sDraw f1 fd1) (b1 : Binds K fd1 ["_law_pen_here", "_law_many"] []) (g1 : mg "_law_draw" = some (.ref f1)) (B : Bi mg) :
    FnOk P w K mg base CX0 2 f fd ["_law_pen_here", "_law_some"] (spPick K) := by
  have G1 : FnOk P w K mg base CX0 1 f1 fd1 ["_law_pen_here", "_law_many"] spDraw := ok_draw F1 B
  refine F.ok scPick (fun vs H Q E h => ?_) (fun cdv A outer s H vs Q E hr h => ?_)
  · obtain ⟨p, c, a, T, xs, rfl, _⟩ := h; rfl
  · obtain ⟨p, c, a, T, xs, rfl, hp, T7, hx, nap, ne, xl, q⟩ := h
    refine ⟨_, pss_one (ps_ret (pe_ix ix_list (pv 1) (pe_call G1 hr (by rfl) g1 F1.kp b1 .nil pass0 (pa_cons (pv 0) (pa_cons (pe_callB call_len_seq (by rfl) B.len PySem.boot_len (pa_cons (pv 1) pa_nil)) pa_nil))) (fun _ _ => rfl))), ?_⟩
    have lp : 0 < xs.length := List.length_pos_iff.mpr ne
    refine ⟨.ref a, rfl, .ref p, rfl, .ref a, rfl, a, xs, rfl, .inl hx, p, c, _, T, rfl, hp, by omega, by omega, T7, fun i H' h0 h1 e hp' => ?_⟩
    have hlt : i.toNat < xs.length := by omega
    obtain ⟨y, hy⟩ : ∃ y, xs[i.toNat]? = some y := ⟨_, List.getElem?_eq_getElem hlt⟩
    refine ⟨a, xs, i, y, rfl, rfl, e.l nap hx, ?_, ?_⟩
    · have z : ((i.toNat : Nat) : Int) = i := by omega
      rw [← z]
      exact atI_nat hy
    · exact q _ H' (List.mem_of_getElem? hy) e hp'
end
end Wb

set_option Elab.async false
set_option linter.all false
set_option maxRecDepth 100000
set_option maxHeartbeats 4000000
set_option pp.maxSteps 600
set_option pp.deepTerms false
namespace Wb
open PySem PySem.Spec PyProof.Rows L2
/-! ### texts of things: nothing tracked stands where sys.modules does -/
def One (K : PySem.W.Frag) (H : Hp) : Prop := K.lookup sysModules = none ∧ ∃ o u, H sysModules = some (.frz o (.own u))
theorem One.ex {K : PySem.W.Frag} {H H' : Hp} (e : Evl.Ex H H') (h : One K H) : One K H' := by
  obtain ⟨h1, o, u, h2⟩ := h
  exact ⟨h1, o, u, e _ _ h2⟩
theorem One.exx {K : PySem.W.Frag} {H H' : Hp} {p c : Addr} {T : Int} (hp : PenAt H p c T) (e : Exx p H H') (h : One K H) : One K H' := by
  obtain ⟨h1, o, u, h2⟩ := h
  refine ⟨h1, o, u, e _ _ (fun z => ?_) h2⟩
  obtain ⟨cells, t, d, a, _⟩ := hp
  rw [z, a] at h2
  cases h2
theorem One.lst {K : PySem.W.Frag} {H : Hp} (h : One K H) {a : Addr} {xs : List V} (ha : H a = some (.lst xs)) : a ≠ sysModules := by
  obtain ⟨h1, o, u, h2⟩ := h
  rintro rfl
  rw [h2] at ha
  cases ha
section
variable {X : Cx} {pins : List (Addr × Obj)} {σ : L2.St} {H : Hp} {s : Shared}
mutual
theorem th_reads (I : Inv X pins σ H s) (one : One X.K H) : ∀ {v : V} {d : PyData} {u : Value}, Th X.K H v d → RelV v u → ∃ as, Reads s.heap u d as ∧ sysModules ∉ as
  | _, _, _, .non, r => by
    cases r
    exact ⟨_, .none, List.not_mem_nil⟩
  | _, _, _, .bl b, r => by
    cases r
    exact ⟨_, .bool b, List.not_mem_nil⟩
  | _, _, _, .int i, r => by
    obtain ⟨t, rfl⟩ := r
    exact ⟨_, .int i t, List.not_mem_nil⟩
  | _, _, _, .str x, r => by
    obtain ⟨t, rfl⟩ := r
    exact ⟨_, .str x t, List.not_mem_nil⟩
  | _, _, _, .d0 h, r => by
    cases r
    obtain ⟨_, hs, vs, kv, o, es, ep, ho, ex, hd, _, pr, _⟩ := dk_of I.hok h
    cases kv
    generalize hes : es.toList = L at pr
    cases pr
    refine ⟨_, .dict (as := []) (bs := []) (kvs := []) ho ex.1 hd (by rw [hes]; exact .nil) (by rw [hes]; exact .nil), ?_⟩
    simp
    intro z
    rw [z] at hs
    simp at hs
  | _, _, _, .d1 h, r => by
    cases r
    obtain ⟨_, hs, vs, kv, o, es, ep, ho, ex, hd, _, pr, _⟩ := dk_of I.hok h
    cases kv with
    | @cons _ q _ _ k1 k2 =>
      cases k2
      obtain ⟨qk, qv⟩ := q
      obtain ⟨e1, t1, e2⟩ := k1
      have e1' : qk = .inl 0 := e1.symm
      have e2' : qv = .int 1 t1 := e2
      subst e1' e2'
      generalize hes : es.toList = L at pr
      cases pr with
      | @cons e _ es' _ hk hv hr =>
        cases hr
        obtain ⟨t0, ek⟩ := Value.isInt_shape (k := 0) (v := e.key) hk
        have ev : e.val = .int 1 t1 := hv
        refine ⟨_, .dict (as := []) (bs := []) (kvs := [(.int 0, .int 1)]) ho ex.1 hd (by rw [hes]; show ReadsAll _ [e.key] [.int 0] _; rw [ek]; exact .cons (.int 0 t0) .nil) (by rw [hes]; show ReadsAll _ [e.val] [.int 1] _; rw [ev]; exact .cons (.int 1 t1) .nil), ?_⟩
        simp
        intro z
        rw [z] at hs
        simp at hs
  | _, _, _, .lst h a, r => by
    cases r
    obtain ⟨its, rv, ⟨o, n, ho, hc, _, hd⟩, _⟩ := I.list (SqL.of h)
    obtain ⟨as, hr, hn⟩ := th_readsAll I one a rv
    exact ⟨_, Reads.list ho hc hd hr, fun z => (List.mem_cons.mp z).elim (fun z => one.lst h z.symm) hn⟩
  | _, _, _, .tup h a, r => by
    cases r
    obtain ⟨its, rv, ⟨o, ho, hc, n, hd⟩, _⟩ := I.tuple (show SqT X.K H _ _ from .inl (.inl h))
    obtain ⟨as, hr, hn⟩ := th_readsAll I one a rv
    exact ⟨_, Reads.tuple ho hc hd hr, hn⟩
theorem th_readsAll (I : Inv X pins σ H s) (one : One X.K H) : ∀ {vs : List V} {ds : List PyData} {us : List Value}, ThAll X.K H vs ds → Vals vs us → ∃ as, ReadsAll s.heap us ds as ∧ sysModules ∉ as
  | _, _, _, .nil, r => by
    cases r
    exact ⟨_, ReadsAll.nil, List.not_mem_nil⟩
  | _, _, _, .cons h t, r => by
    cases r with
    | cons r1 r2 =>
      obtain ⟨as, q1, n1⟩ := th_reads I one h r1
      obtain ⟨bs, q2, n2⟩ := th_readsAll I one t r2
      exact ⟨_, ReadsAll.cons q1 q2, fun z => (List.mem_append.mp z).elim n1 n2⟩
end
/-- repr of such a thing -/
def rReprT (K : PySem.W.Frag) : List V → Hp → VK → Prop := fun xs H Q => ∃ (v : V) (d : PyData), xs = [v] ∧ One K H ∧ Th K H v d ∧ d.showable = true ∧ d.depth ≤ 20 ∧ d.shown.length ≤ sizeLine ∧ Q (.str d.shown) H
theorem call_repr_th {X : Cx} (hu : X.A.units + 64 < cLine) (hg : X.A.guards = some []) : CallR X (.builtin "repr") (rReprT X.K) := by
  intro pins s σ H xs us Q I r h
  obtain ⟨v, d, rfl, one, hd, h1, h3, h4, q⟩ := h
  cases r with
  | cons r1 r2 =>
    cases r2
    obtain ⟨as, rd, hs⟩ := th_reads I one hd r1
    have fin : ∀ (tk : Nat) (u : Tok), EP X pins σ Q (.str d.shown u) { s with toks := tk } := fun tk u => ⟨.str d.shown, H, I.kept (t' := tk) (fun _ _ e => e), ⟨u, rfl⟩, q⟩
    cases rd with
    | none => exact P.repr_of_none (fin _ _)
    | bool b => exact P.repr_of_bool (by have := fin (s.toks + 1) s.toks; cases b <;> simpa [PyData.shown] using this)
    | int i t => exact P.repr_of_int (by simpa [PyData.showable] using h1) (fin _ _)
    | str x t => exact P.repr_of_str (fin _ _) (by simpa [PyData.shown] using h4)
    | list e1 e2 e3 e4 =>
      refine repr_of_reads' (.list e1 e2 e3 e4) h1 (fun _ => hs) hg (by omega) (fun _ _ e => e) (fun h' u tk hk => ?_) h4
      exact ⟨.str _, H, I.kept (t' := tk) hk, ⟨u, rfl⟩, q⟩
    | tuple e1 e2 e3 e4 =>
      refine repr_of_reads' (.tuple e1 e2 e3 e4) h1 (fun _ => hs) hg (by omega) (fun _ _ e => e) (fun h' u tk hk => ?_) h4
      exact ⟨.str _, H, I.kept (t' := tk) hk, ⟨u, rfl⟩, q⟩
    | dict e1 e2 e3 e4 e5 =>
      refine repr_of_reads' (.dict e1 e2 e3 e4 e5) h1 (fun _ => hs) hg (by omega) (fun _ _ e => e) (fun h' u tk hk => ?_) h4
      exact ⟨.str _, H, I.kept (t' := tk) hk, ⟨u, rfl⟩, q⟩
end
end Wb

set_option Elab.async false
set_option linter.all false
set_option maxRecDepth 100000
set_option maxHeartbeats 4000000
namespace TS
open PySem PyProof.Rows
section
variable {prog : Program} {w : World} {A : Around} {E : Value → Shared → Prop} {s : Shared}
/-- sorted of a list of tuples that are held against one another by a rank -/
theorem sorted_rank {l : Addr} {vs : List Value} {r : Value → Int} {Q : Value → Shared → Prop} (hl : s.heap.IsList l vs.toArray) (h64 : vs.length < 64)
    (hK : ∀ (h' : Heap), (∀ b o, s.heap.get? b = some o → o.cls = .type "tuple" → h'.get? b = some o) → 2 ≤ vs.length → ∀ (A' : Around) (E' : Value → Shared → Prop) (Q' : SortKind → Shared → Prop), (∀ κ, Cmp prog w A' { s with heap := h' } κ (pairsOf vs) r → Q' κ { s with heap := h' }) →
      wpAny (model prog w) A' (keyKind' vs.toArray) Q' E' { s with heap := h' })
    (h : ∀ out : Array Value, out.toList.Perm vs → out.toList.Pairwise (fun u v => r u ≤ r v) → Q (.ref (s.heap.objs.size + 1)) { s with heap := sortedAll s.heap vs out }) :
    wpAny (model prog w) A (call (.builtin "sorted") [.ref l]) Q E s := by
  refine Calls.call_function_entry kind_sorted plain_sorted entry_sorted (args_sorted1 _) ?_
  unfold Builtin.«sorted»
  refine wpAny_bind (m := checkCount "sorted" 1 1 _) (wpAny_pure ?_)
  refine wpAny_bind (collect_list hl ?_ (by rw [sizeLine_eq]; omega))
  refine wpAny_bind (wpAny_newList ?_ (by rw [sizeLine_eq]; omega))
  have hsz : ((s.heap.push (seqObj "list" #[] 0)).update s.heap.objs.size (Obj.mapSeq (· ++ vs.toArray))).objs.size = s.heap.objs.size + 1 := by
    rw [Heap.size_update, size_push']
  have hoL : (((s.heap.push (seqObj "list" #[] 0)).update s.heap.objs.size (Obj.mapSeq (· ++ vs.toArray))).push (seqObj "list" vs.toArray 0)).get? (s.heap.objs.size + 1) = some (seqObj "list" vs.toArray 0) := by
    rw [← hsz]; exact Heap.get?_push_size _ rfl
  have keep : ∀ b o, s.heap.get? b = some o → o.cls = .type "tuple" → (((s.heap.push (seqObj "list" #[] 0)).update s.heap.objs.size (Obj.mapSeq (· ++ vs.toArray))).push (seqObj "list" vs.toArray 0)).get? b = some o := fun b o q _ => by
    have hlt : b < s.heap.objs.size := Heap.lt_size q
    rw [Heap.get?_push_ne _ _ _ (by rw [hsz]; exact Nat.ne_of_lt (Nat.lt_succ_of_lt hlt)), Heap.get?_update_ne _ _ _ _ (Nat.ne_of_lt hlt), Heap.get?_push_ne _ _ _ (Nat.ne_of_lt hlt)]
    exact q
  show wpAny _ _ _ _ _ { s with heap := ((s.heap.push (seqObj "list" #[] 0)).update s.heap.objs.size (Obj.mapSeq (· ++ vs.toArray))).push (seqObj "list" vs.toArray 0) }
  rw [hsz]
  refine wpAny_bind (wpAny_holding (wpAny_call_entry slot_list_sort ⟨_, hoL, rfl⟩ entry_list_sort (SK.plain_sort (r := r) hoL h64 (fun h2 Q' hQ => ?_) fun ps out h1 h2 h3 => ⟨_, rfl, ?_⟩) (args_list_sort _)))
  · refine hK _ (fun b o e hc => ?_) h2 _ _ _ hQ
    have e1 := keep b o e hc
    refine midHeap_old ?_ e1
    rintro rfl
    rw [hoL] at e1
    have e' : seqObj "list" vs.toArray 0 = o := Option.some.inj e1
    rw [← e'] at hc
    have c' : Value.type "list" = Value.type "tuple" := hc
    injection c' with c''
    exact absurd c'' (by decide)
  · obtain ⟨p, o⟩ := out_rank h1 h2 h3
    exact wpAny_pure ⟨_, rfl, h out p o⟩
theorem eqBool_same {v : Value} {Q : Bool → Shared → Prop} (h : Q true s) : wpAny (model prog w) A (eqBool v v) Q E s := by
  unfold eqBool
  refine wpAny_holding ?_
  rw [if_pos (beq_self_eq_true v)]
  first
    | exact wpAny_bind (wpAny_rule (wpAny_pure h))
    | exact wpAny_pure h
    | exact wpAny_bind (wpAny_rule h)
/-- a gap's tuple, by the places it leads from and to -/
def G4 (h : Heap) (v : Value) (k : Int × Int) : Prop := ∃ (a : Addr) (o : Obj) (t u : Tok) (q : Int) (z : Tok) (x : Value) (n : Nat), v = .ref a ∧ h.get? a = some o ∧ o.cls = .type "tuple" ∧ o.data = .seq #[.int k.1 t, .int k.2 u, .int q z, x] n
theorem G4.keeps {h h' : Heap} {v : Value} {k : Int × Int} (x : G4 h v k) (kp : ∀ b o, h.get? b = some o → o.cls = .type "tuple" → h'.get? b = some o) : G4 h' v k := by
  obtain ⟨a, o, t, u, q, z, y, n, e, ho, hc, hd⟩ := x
  exact ⟨a, o, t, u, q, z, y, n, e, kp _ _ ho hc, hc, hd⟩
theorem g4_firsts {h : Heap} {k : Value → Int × Int} : ∀ vs : List Value, (∀ v ∈ vs, G4 h v (k v)) → ∃ fs, PySem.W.KatTups h vs fs ∧ fs.length = vs.length ∧ ∀ f, f ∈ fs → ∃ n t, f = Value.int n t
  | [], _ => ⟨[], PySem.W.KatTups.nil, rfl, fun f hf => by simp at hf⟩
  | v :: vs, x => by
    obtain ⟨fs, kt, hl, hi⟩ := g4_firsts vs fun u hu => x u (List.mem_cons_of_mem _ hu)
    obtain ⟨a, o, t, u, q, z, y, n, e, ho, hc, hd⟩ := x v (List.mem_cons_self ..)
    subst e
    refine ⟨.int (k (.ref a)).1 t :: fs, PySem.W.KatTups.cons ho hc hd rfl kt, by simp [hl], fun f hf => ?_⟩
    rcases List.mem_cons.mp hf with rfl | hf
    · exact ⟨_, _, rfl⟩
    · exact hi f hf
/-- a rank of pairs of places below 4 -/
def rk4 (k : Int × Int) : Int := 4 * k.1 + k.2
theorem g4_kind {vs : List Value} {k : Value → Int × Int} (h2 : 2 ≤ vs.length) (x : ∀ v ∈ vs, G4 s.heap v (k v)) (bd : ∀ v ∈ vs, 0 ≤ (k v).1 ∧ (k v).1 < 4 ∧ 0 ≤ (k v).2 ∧ (k v).2 < 4) (inj : ∀ v ∈ vs, ∀ u ∈ vs, k v = k u → v = u) (Q : SortKind → Shared → Prop)
    (h : ∀ κ, Cmp prog w A s κ (pairsOf vs) (fun v => rk4 (k v)) → Q κ s) : wpAny (model prog w) A (keyKind' vs.toArray) Q E s := by
  obtain ⟨fs, kt, hl, hi⟩ := g4_firsts vs x
  refine PySem.W.kat_kind (T := Value.type "int") kt (by omega) (fun f hf => ?_) rfl (h _ ?_)
  · obtain ⟨n, t, rfl⟩ := hi f hf
    exact PySem.W.Looks.of_pure rfl
  · intro p q hp hq Q' E' hQ
    rw [pairsOf_toList] at hp hq
    have mp := (mem_zip_self hp).2
    have mq := (mem_zip_self hq).2
    obtain ⟨p1, p2, p3, p4⟩ := bd _ mp
    obtain ⟨q1, q2, q3, q4⟩ := bd _ mq
    have ij := inj _ mp _ mq
    obtain ⟨a, o, t, u, c, z, y, n, e, ho, hc, hd⟩ := x _ mp
    obtain ⟨a', o', t', u', c', z', y', n', e', ho', hc', hd'⟩ := x _ mq
    have hQ' : Q' (decide (rk4 (k p.1) < rk4 (k q.1))) s := hQ
    unfold rk4 at hQ'
    generalize k p.1 = kp at p1 p2 p3 p4 hQ' hd ij
    generalize k q.1 = kq at q1 q2 q3 q4 hQ' hd' ij
    rw [e, e'] at ij
    rw [e, e']
    refine PySem.W.kat_lt ho hd ho' hd' ?_
    show PySem.W.KatLex prog w A _ (decide (4 < 4)) _ [(.int kp.1 t, .int kq.1 t'), (.int kp.2 u, .int kq.2 u'), (.int c z, .int c' z'), (y, y')] 0 s
    refine PySem.W.kat_cons (wpAny_eqBool_int ?_)
    refine PySem.W.kat_go (fun e1 => ?_) (fun e1 => ?_)
    · have ex : kp.1 = kq.1 := by simpa using e1
      refine PySem.W.kat_yes (PySem.W.kat_cons (wpAny_eqBool_int ?_))
      refine PySem.W.kat_go (fun e2 => ?_) (fun e2 => ?_)
      · have ey : kp.2 = kq.2 := by simpa using e2
        have same : Value.ref a = Value.ref a' := ij (Prod.ext ex ey)
        cases same
        rw [ho] at ho'
        cases ho'
        have E1 : Data.seq #[Value.int kp.1 t, .int kp.2 u, .int c z, y] n = Data.seq #[Value.int kq.1 t', .int kq.2 u', .int c' z', y'] n' := hd.symm.trans hd'
        injection E1 with E2 _
        have E3 := congrArg Array.toList E2
        simp only [List.cons.injEq, Value.int.injEq] at E3
        obtain ⟨_, _, ⟨rfl, rfl⟩, rfl, _⟩ := E3
        have d : decide (4 * kp.1 + kp.2 < 4 * kq.1 + kq.2) = false := decide_eq_false (by omega)
        rw [d] at hQ'
        refine PySem.W.kat_yes (PySem.W.kat_cons (eqBool_same ?_))
        refine PySem.W.kat_yes (PySem.W.kat_cons (eqBool_same ?_))
        exact PySem.W.kat_yes (PySem.W.kat_nil hQ')
      · have ey : ¬ kp.2 = kq.2 := by simpa using e2
        have d : decide (4 * kp.1 + kp.2 < 4 * kq.1 + kq.2) = decide (kp.2 < kq.2) := decide_eq_decide.mpr (by omega)
        rw [d] at hQ'
        exact PySem.W.kat_no (oneLt_ints _ hQ')
    · have ex : ¬ kp.1 = kq.1 := by simpa using e1
      have d : decide (4 * kp.1 + kp.2 < 4 * kq.1 + kq.2) = decide (kp.1 < kq.1) := decide_eq_decide.mpr (by omega)
      rw [d] at hQ'
      exact PySem.W.kat_no (oneLt_ints _ hQ')
end
end TS
namespace Wb
open PySem PySem.Spec PyProof.Rows L2
/-- sorted(xs), xs a list of gaps' tuples, no two of which lead from and to the same places -/
def rSortG (K : PySem.W.Frag) : List V → Hp → VK → Prop := fun vs H Q => ∃ (a : Addr) (xs : List V) (k : V → Int × Int), vs = [V.ref a] ∧ SqL K H a xs ∧ xs.length < 64 ∧
  (∀ x ∈ xs, ∃ (t : Addr) (q : Int) (y : V), x = .ref t ∧ SqT K H t [.int (k x).1, .int (k x).2, .int q, y] ∧ 0 ≤ (k x).1 ∧ (k x).1 < 4 ∧ 0 ≤ (k x).2 ∧ (k x).2 < 4) ∧ (∀ x ∈ xs, ∀ y ∈ xs, k x = k y → x = y) ∧
  ∀ (ys : List V) (p : Addr), ys.Perm xs → ys.Pairwise (fun x y => TS.rk4 (k x) ≤ TS.rk4 (k y)) → H p = none → Q (.ref p) (upd H p (.lst ys))
theorem bkV_back {us : List Value} (h : ∀ u ∈ us, ∃ a, u = Value.ref a) : ∀ u ∈ us, ∀ v ∈ us, bkV u = bkV v → u = v := fun u hu v hv e => by
  obtain ⟨a, rfl⟩ := h u hu
  obtain ⟨b, rfl⟩ := h v hv
  have e' : V.ref a = V.ref b := e
  cases e'
  rfl
theorem cr_sortG {X : Cx} : CallR X (.builtin "sorted") (rSortG X.K) := by
  intro pins s σ H vs us Q I r h
  obtain ⟨a, xs, k, rfl, hs, h64, hx, inj, q⟩ := h
  obtain ⟨its, rv, hl, hz⟩ := I.list hs
  rw [Vals.ref1 r]
  obtain ⟨e1, e2⟩ := bkV_refs rv fun x m => by
    obtain ⟨t, _, _, e, _⟩ := hx x m
    exact ⟨t, e⟩
  have mem : ∀ v ∈ its, bkV v ∈ xs := fun v hv => by rw [e1]; exact List.mem_map.mpr ⟨_, hv, rfl⟩
  have g4 : ∀ v ∈ its, TS.G4 s.heap v (k (bkV v)) := fun v hv => by
    have hm := mem v hv
    obtain ⟨t, rfl⟩ := e2 v hv
    obtain ⟨t', c, y, e, ht, _⟩ := hx _ hm
    cases e
    obtain ⟨its2, r2, ⟨o, ho, hc, n, hd⟩, _⟩ := I.tuple ht
    cases r2 with
    | cons ra r2 =>
      cases r2 with
      | cons rb r2 =>
        cases r2 with
        | cons rc r2 =>
          cases r2 with
          | cons rd r2 =>
            cases r2
            obtain ⟨t1, rfl⟩ := ra
            obtain ⟨t2, rfl⟩ := rb
            obtain ⟨t3, rfl⟩ := rc
            exact ⟨_, o, t1, t2, c, t3, _, n, rfl, ho, hc, hd⟩
  refine TS.sorted_rank (r := fun v => TS.rk4 (k (bkV v))) hl.isList (by rw [← rv.length]; exact h64) (fun h' kp h2 A' E' Q' hQ => ?_) fun out h1 h2 => ?_
  · refine TS.g4_kind (s := { s with heap := h' }) (k := fun v => k (bkV v)) h2 (fun v hv => (g4 v hv).keeps kp) (fun v hv => ?_) (fun v hv u hu e => ?_) Q' hQ
    · obtain ⟨_, _, _, _, _, b⟩ := hx _ (mem v hv)
      exact b
    · exact bkV_back e2 v hv u hu (inj _ (mem v hv) _ (mem u hu) e)
  · obtain ⟨ep, he'⟩ := PyProof.Rows.sortedAll_at s.heap its out
    have h3 : ∀ u ∈ out.toList, ∃ a, u = Value.ref a := fun u hu => e2 u (h1.mem_iff.mp hu)
    have hp : (out.toList.map bkV).Perm xs := by
      rw [e1]
      exact h1.map bkV
    have hlen : (out.toList.map bkV).length ≤ sizeLine := by
      rw [hp.length_eq]
      exact hz
    refine ⟨.ref _, upd H (s.heap.objs.size + 1) (.lst (out.toList.map bkV)), I.laid (t' := s.toks) (fun _ _ => PyProof.Rows.sortedAll_old) (Nat.le_succ _) ⟨hlen, out.toList, ep, bkV_vals h3, he'⟩, rfl, q _ _ hp ?_ (I.hok.fresh (Nat.le_succ _))⟩
    rw [List.pairwise_map]
    exact h2
/-- sorted(xs), xs a list of unlike words of as many places each -/
def rSortW (K : PySem.W.Frag) : List V → Hp → VK → Prop := fun vs H Q => ∃ (a : Addr) (xs : List V) (ws : List (List Int)) (d : Nat), vs = [V.ref a] ∧ SqL K H a xs ∧ xs.length < 64 ∧ Paired (fun v ns => ∃ t, v = V.ref t ∧ H t = some (.tup (ns.map V.int))) xs ws ∧ (∀ ns ∈ ws, ns.length = d ∧ TS.Bd 4 ns) ∧ ws.Nodup ∧
  ∀ (ys : List V) (us : List (List Int)) (p : Addr), ys.length = xs.length → Paired (fun v ns => ∃ t, v = V.ref t ∧ H t = some (.tup (ns.map V.int))) ys us → us.Perm ws → us.Pairwise (fun u v => TS.code 4 u ≤ TS.code 4 v) → H p = none → Q (.ref p) (upd H p (.lst ys))
theorem cr_sortW {X : Cx} : CallR X (.builtin "sorted") (rSortW X.K) := by
  intro pins s σ H vs us Q I r h
  obtain ⟨a, xs, ws, d, rfl, hs, h64, hp, hb, nd, q⟩ := h
  obtain ⟨its, rv, hl, hz⟩ := I.list hs
  rw [Vals.ref1 r]
  have raw : ∀ {t : Addr} {ns : List Int}, H t = some (.tup (ns.map V.int)) → TS.TupInts s.heap (.ref t) ns := fun ht => tupI_raw I (show SqT X.K H _ _ from .inl (.inl ht))
  have pr : ∀ {xs : List V} {us : List Value} {ws : List (List Int)}, Vals xs us → Paired (fun v ns => ∃ t, v = V.ref t ∧ H t = some (.tup (ns.map V.int))) xs ws →
      us.map (TS.intsOf s.heap) = ws ∧ ∀ u ∈ us, ∃ t ns, u = Value.ref t ∧ H t = some (.tup (ns.map V.int)) ∧ TS.intsOf s.heap u = ns ∧ ns ∈ ws := by
    intro xs us ws rv
    induction rv generalizing ws with
    | nil =>
      intro hp
      cases hp
      exact ⟨rfl, fun u hu => absurd hu List.not_mem_nil⟩
    | cons r1 _ ih =>
      intro hp
      cases hp with
      | cons h1 h2 =>
        obtain ⟨t, rfl, ht⟩ := h1
        cases r1
        obtain ⟨i1, i2⟩ := ih h2
        have e := (raw ht).ints
        refine ⟨by rw [List.map_cons, i1, e], fun u hu => ?_⟩
        rcases List.mem_cons.mp hu with rfl | hu
        · exact ⟨t, _, rfl, ht, e, List.mem_cons_self⟩
        · obtain ⟨t', ns, a1, a2, a3, a4⟩ := i2 u hu
          exact ⟨t', ns, a1, a2, a3, List.mem_cons_of_mem _ a4⟩
  obtain ⟨e1, e2⟩ := pr rv hp
  have xsl : its.length = ws.length := by rw [← e1, List.length_map]
  have xw : xs.length = its.length := rv.length
  have ok : TS.TupsOk s.heap d 4 its := fun v hv => by
    obtain ⟨t, ns, rfl, ht, e, hm⟩ := e2 v hv
    exact ⟨ns, raw ht, hb ns hm⟩
  refine TS.sorted_rank (r := fun v => TS.code 4 (TS.intsOf s.heap v)) hl.isList (by omega) (fun h' kp h2 A' E' Q' hQ => ?_) fun out h1 h2 => ?_
  · have d1 : 1 ≤ d := Nat.pos_of_ne_zero fun z => by
      subst z
      have emp : ∀ ns ∈ ws, ns = [] := fun ns hn => List.eq_nil_of_length_eq_zero (hb ns hn).1
      match ws, xsl, nd, emp with
      | [], l, _, _ => rw [l] at h2; simp at h2
      | [_], l, _, _ => rw [l] at h2; simp at h2
      | x :: y :: r, _, n, em =>
        have zx := em x (by simp)
        have zy := em y (by simp)
        rw [zx, zy] at n
        simp at n
    refine TS.kind_tups (s := { s with heap := h' }) d1 h2 (ok.keeps kp) _ (fun v hv ns t => ?_) Q' hQ
    obtain ⟨ns0, t0, _⟩ := ok v hv
    have e : ns = ns0 := t.ints.symm.trans (t0.keeps kp).ints
    rw [e, t0.ints]
  · obtain ⟨ep, he'⟩ := PyProof.Rows.sortedAll_at s.heap its out
    have h3 : ∀ u ∈ out.toList, ∃ a, u = Value.ref a := fun u hu => by
      obtain ⟨t, _, rfl, _⟩ := e2 u (h1.mem_iff.mp hu)
      exact ⟨t, rfl⟩
    have ol : out.toList.length = its.length := h1.length_eq
    refine ⟨.ref _, upd H (s.heap.objs.size + 1) (.lst (out.toList.map bkV)), I.laid (t' := s.toks) (fun _ _ => PyProof.Rows.sortedAll_old) (Nat.le_succ _) ⟨by rw [List.length_map, ol, ← xw]; exact hz, out.toList, ep, bkV_vals h3, he'⟩, rfl, q _ (out.toList.map (TS.intsOf s.heap)) _ (by rw [List.length_map, ol, xw]) ?_ ?_ ?_ (I.hok.fresh (Nat.le_succ _))⟩
    · have go : ∀ us : List Value, (∀ u ∈ us, u ∈ its) → Paired (fun v ns => ∃ t, v = V.ref t ∧ H t = some (.tup (ns.map V.int))) (us.map bkV) (us.map (TS.intsOf s.heap)) := by
        intro us
        induction us with
        | nil => intro _; exact .nil
        | cons u us ih =>
          intro hu
          obtain ⟨t, ns, rfl, ht, e, _⟩ := e2 u (hu u List.mem_cons_self)
          exact .cons ⟨t, rfl, by rw [e]; exact ht⟩ (ih fun v hv => hu v (List.mem_cons_of_mem _ hv))
      exact go _ fun u hu => h1.mem_iff.mp hu
    · rw [← e1]
      exact h1.map _
    · rw [List.pairwise_map]
      exact h2
end Wb

set_option Elab.async false
set_option linter.all false
set_option maxRecDepth 100000
set_option maxHeartbeats 4000000
set_option pp.maxSteps 600
set_option pp.deepTerms false
namespace Wb
open PySem PySem.Spec PyProof.Rows L2
abbrev sLWhole : Stmt := topS 27
abbrev sLIsWord : Stmt := topS 31
theorem scLWhole : FnScope ["_law_thing", "_law_least_one", "_law_most_one"] ["_law_thing", "_law_least_one", "_law_most_one"] (defScope sLWhole) := ⟨rfl, rfl, rfl, by decide +kernel, rfl, by decide +kernel, by decide +kernel⟩
abbrev nLIsWord : List Str := ["_law_lock_here", "_law_thing", "_law_is_wish_like", "_law_bad", "_law_k"]
theorem scLIsWord : FnScope nLIsWord ["_law_lock_here", "_law_thing", "_law_is_wish_like"] (defScope sLIsWord) := ⟨rfl, rfl, rfl, by decide +kernel, rfl, by decide +kernel, by decide +kernel⟩
def orZero : PyData → PyData
  | .none => .int 0
  | d => d
def wishedB (d : PyData) (ms : List Int) : Bool := isTup d && (decide ((itemsD d).length = ms.length) && allP ((itemsD d).map orZero) ms)
theorem whole_place (d : PyData) (m : Int) : wholeB d 0 (m - 1) = placeB d m := by
  cases d <;> first
    | rfl
    | skip
  rename_i i
  show (decide (0 ≤ i) && decide (i ≤ m - 1)) = (decide (0 ≤ i) && decide (i < m))
  congr 1
  exact decide_eq_decide.mpr (by omega)
def spLWhole (K : PySem.W.Frag) : Sp := fun vs H Q _ => ∃ (v : V) (d : PyData) (l m : Int), vs = [v, .int l, .int m] ∧ Th K H v d ∧ Q (.bl (wholeB d l m)) H
def spIsWord (K : PySem.W.Frag) : Sp := fun vs H Q _ => ∃ (v u : V) (l : Lock) (d : PyData) (wl : Bool), vs = [v, u, .bl wl] ∧ LockAt K H v l ∧ SemiOk l ∧ Th K H u d ∧ ∀ H', Evl.Ex H H' → Q (.bl (if wl = true then wishedB d (manysOf l) else placesB d (manysOf l))) H'
def badK (ds : List PyData) (ms : List Int) (k : Nat) : Bool := !placeB (ds.getD k .none) (ms.getD k 0)
def notNone : PyData → Bool
  | .none => false
  | _ => true
theorem allP_iff : ∀ {ds : List PyData} {ms : List Int}, ds.length = ms.length → (allP ds ms = true ↔ ∀ k, k < ds.length → placeB (ds.getD k .none) (ms.getD k 0) = true)
  | [], [], _ => ⟨fun _ k hk => absurd hk (Nat.not_lt_zero k), fun _ => rfl⟩
  | d :: ds, m :: ms, h => by
    have ih := allP_iff (ds := ds) (ms := ms) (by simpa using h)
    simp only [allP, Bool.and_eq_true, ih]
    constructor
    · rintro ⟨h0, h1⟩ k hk
      cases k with
      | zero => simpa using h0
      | succ k => simpa using h1 k (by simpa using hk)
    · intro h2
      exact ⟨by simpa using h2 0 (by simp), fun k hk => by simpa using h2 (k + 1) (by simpa using hk)⟩
  | [], _ :: _, h => by simp at h
  | _ :: _, [], h => by simp at h
theorem getD_map_zero (ds : List PyData) (k : Nat) (h : k < ds.length) : (ds.map orZero).getD k .none = orZero (ds.getD k .none) := by
  rw [List.getD_eq_getElem?_getD, List.getD_eq_getElem?_getD, List.getElem?_map, List.getElem?_eq_getElem h]
  rfl
def outK (ds : List PyData) (ms : List Int) (wl : Bool) (k : Nat) : Bool := badK ds ms k && (notNone (ds.getD k .none) || !wl)
theorem out_nil {ds : List PyData} {ms : List Int} (wl : Bool) (hl : ds.length = ms.length) (hm : ∀ m ∈ ms, 1 ≤ m) :
    decide ((List.range ds.length).filter (outK ds ms wl) = []) = (if wl = true then allP (ds.map orZero) ms else allP ds ms) := by
  have e : (if wl = true then allP (ds.map orZero) ms else allP ds ms) = true ↔ ∀ k, k < ds.length → outK ds ms wl k = false := by
    cases wl with
    | false =>
      rw [if_neg Bool.false_ne_true, allP_iff hl]
      refine forall_congr' fun k => forall_congr' fun hk => ?_
      unfold outK badK
      simp
    | true =>
      rw [if_pos rfl, allP_iff (by rw [List.length_map]; exact hl)]
      rw [List.length_map]
      refine forall_congr' fun k => forall_congr' fun hk => ?_
      rw [getD_map_zero ds k hk]
      have hm1 : 1 ≤ ms.getD k 0 := by
        have hk2 : k < ms.length := by omega
        rw [List.getD_eq_getElem?_getD, List.getElem?_eq_getElem hk2]
        exact hm _ (List.getElem_mem hk2)
      unfold outK badK
      generalize ds.getD k .none = d
      generalize ms.getD k 0 = m at hm1
      cases d <;> simp [orZero, notNone, placeB]
      omega
  rw [Bool.eq_iff_iff, decide_eq_true_eq, List.filter_eq_nil_iff, e]
  constructor
  · intro h k hk
    simpa using h k (List.mem_range.mpr hk)
  · intro h k hk
    simpa using h k (List.mem_range.mp hk)
theorem non_data {K : PySem.W.Frag} {H : Hp} {v : V} {d : PyData} (h : Th K H v d) : (!decide (v = .non)) = notNone d := by
  rw [h.non_iff]
  cases d <;> rfl
section
variable {P : Program} {w : World} {K : PySem.W.Frag} {mg : Str → Option Value} {base : Heap}
theorem ok_lwhole {f : Addr} {fd : FuncData} (F : Fun K "_law_whole" "_law_whole" sLWhole f fd) (B : Bi mg) : FnOk P w K mg base CX0 1 f fd ["_law_thing", "_law_least_one", "_law_most_one"] (spLWhole K) := by
  refine F.ok scLWhole (fun vs H Q E h => ?_) (fun cdv A outer s H vs Q E hr h => ?_)
  · obtain ⟨v, d, l, m, rfl, _⟩ := h; rfl
  · obtain ⟨v, d, l, m, rfl, hv, q⟩ := h
    refine ⟨_, pss_one (ps_ret (pe_and (pe_callB call_isi (by rfl) B.isi boot_isinstance (pa_cons (pv 0) (pa_cons (pe_bltn (v := .ty "int") (by rfl) B.int (by decide +kernel) rfl) pa_nil)))
      (pe_and (pe_not (pe_callB call_isi (by rfl) B.isi boot_isinstance (pa_cons (pv 0) (pa_cons (pe_bltn (v := .ty "bool") (by rfl) B.bool (by decide +kernel) rfl) pa_nil))))
        (pe_one (pe_chain op_le op_le (pv 1) (pv 0) (pv 2)))))), ?_⟩
    refine ⟨v, rfl, v, .ty "int", .type (tyS d), .type "int", isInt d, rfl, .ty _, hv.ty, kit_ty (kit_int d), isInt d, rfl, ?_⟩
    cases hi : isInt d with
    | false =>
      rw [if_neg Bool.false_ne_true]
      have z : wholeB d l m = false := by
        cases d <;> first
          | rfl
          | cases hi
      rw [z] at q
      exact q
    | true =>
      rw [if_pos rfl]
      refine ⟨v, rfl, v, .ty "bool", .type (tyS d), .type "bool", isBool d, rfl, .ty _, hv.ty, kit_ty (kit_bool d), isBool d, rfl, ?_⟩
      cases hb : isBool d with
      | true =>
        refine ⟨false, rfl, ?_⟩
        rw [if_neg Bool.false_ne_true]
        have z : wholeB d l m = false := by
          cases d <;> first
            | rfl
            | cases hb
        rw [z] at q
        exact q
      | false =>
        refine ⟨true, rfl, ?_⟩
        rw [if_pos rfl]
        obtain ⟨i, rfl, rfl⟩ := hv.int_of hi hb
        refine ⟨.int l, rfl, .int i, rfl, l, i, rfl, rfl, decide (l ≤ i), rfl, ?_⟩
        have z : wholeB (.int i) l m = (decide (l ≤ i) && decide (i ≤ m)) := rfl
        rw [z] at q
        by_cases h1 : l ≤ i
        · rw [if_pos (decide_eq_true h1)]
          refine ⟨.int m, rfl, i, m, rfl, rfl, ?_⟩
          rw [decide_eq_true h1] at q
          exact q
        · rw [if_neg (by rw [decide_eq_false h1]; exact Bool.false_ne_true)]
          rw [decide_eq_false h1] at q
          exact q
theorem ok_isWord {f f1 : Addr} {fd fd1 : FuncData} (F : Fun K "_law_is_word" "_law_is_word" sLIsWord f fd) (F1 : Fun K "_law_whole" "_law_whole" sLWhole f1 fd1) (b1 : Binds K fd1 ["_law_thing", "_law_least_one", "_law_most_one"] []) (g1 : mg "_law_whole" = some (.ref f1)) (B : Bi mg) :
    FnOk P w K mg base CX0 2 f fd ["_law_lock_here", "_law_thing", "_law_is_wish_like"] (spIsWord K) := by
  have G1 : FnOk P w K mg base CX0 1 f1 fd1 ["_law_thing", "_law_least_one", "_law_most_one"] (spLWhole K) := ok_lwhole F1 B
  refine F.ok scLIsWord (fun vs H Q E h => ?_) (fun cdv A outer s H vs Q E hr h => ?_)
  · obtain ⟨v, u, l, d, wl, rfl, _⟩ := h; rfl
  · obtain ⟨v, u, l, d, wl, rfl, ⟨a, bs, rfl, ha, hbs⟩, ok, hu, q⟩ := h
    refine ⟨_, pss_cons (ps_if (PW.pt (pw_or (pt_not (pt_val (pe_callB call_isi (by rfl) B.isi boot_isinstance (pa_cons (pv 1) (pa_cons (pe_bltn (v := .ty "tuple") (by rfl) B.tuple (by decide +kernel) rfl) pa_nil)))))
          (pw_or1 (pt_cmpR op_ne (pe_callB call_len_seq (by rfl) B.len PySem.boot_len (pa_cons (pv 1) pa_nil)) (pe_callB call_len_seq (by rfl) B.len PySem.boot_len (pa_cons (pv 0) pa_nil)) (nomark _)))))
        (pss_one (ps_ret pe_bl)) pss_nil)
      (pss_cons (ps_setLc (i := 3) (own := [("_law_k", 4)]) (g := gName 4) (by rfl) scLIsWord.nd rfl rfl (sw_true rfl rfl rfl (by decide +kernel)) (pi_range1 (by rfl) B.range (pa_cons (pe_callB call_len_seq (by rfl) B.len PySem.boot_len (pa_cons (pv 0) pa_nil)) pa_nil)) (blkOk_by (own := [("_law_k", 4)]) (N := nLIsWord) (sc := defScope sLIsWord) (by decide +kernel))
          (fun _ _ _ _ _ => pg_name (i := 4) scLIsWord.nd rfl (Or.inl rfl))
          (fun _ _ _ _ _ => pts_one (pt_not (pt_val (pe_call G1 hr (by rfl) g1 F1.kp b1 .nil pass0 (pa_cons (pe_ix (r := rIxT K) ix_tup (pv 1) (pv 4) (fun _ _ => rfl)) (pa_cons pe_int (pa_cons (pe_op op_sub (pe_ix (r := rIxT K) ix_tup (pe_ix (r := rIxT K) ix_tup (pv 0) (pv 4) (fun _ _ => rfl)) pe_int (fun _ _ => rfl)) pe_int) pa_nil)))))))
          (fun _ _ _ _ _ => pv 4))
      (pss_one (ps_ret (pe_cmpR (op_eqD hr.units) (pe_lc (own := [("_law_k", 4)]) (wi := iList K (tVar 3)) (g := gName 4) rfl scLIsWord.nd (pi_list (pv 3)) (blkOk_by (own := [("_law_k", 4)]) (N := nLIsWord) (sc := defScope sLIsWord) (by decide +kernel))
          (fun _ _ _ _ _ => pg_name (i := 4) scLIsWord.nd rfl (Or.inl rfl))
          (fun _ _ _ _ _ => pts_one (PW.pt (pw_or (pt_cmpR op_notN (pe_ix (r := rIxT K) ix_tup (pv 1) (pv 4) (fun _ _ => rfl)) pe_non (nomark _)) (pw_or1 (pt_not (pt_val (pv 2)))))))
          (fun _ _ _ _ _ => pv 4)) (pe_lst pa_nil) (nomark _))))), ?_⟩
    have bl : bs.length = l.length := Paired.len hbs
    have ml : (manysOf l).length = l.length := by unfold manysOf; rw [List.length_map]
    have l60 := ok.n1
    refine ⟨u, rfl, u, .ty "tuple", .type (tyS d), .type "tuple", isTup d, rfl, .ty _, hu.ty, kit_ty (kit_tup d), isTup d, rfl, ?_⟩
    cases ht : isTup d with
    | false =>
      have z : (if wl = true then wishedB d (manysOf l) else placesB d (manysOf l)) = false := by
        unfold wishedB placesB
        rw [ht]
        cases wl <;> rfl
      rw [z] at q
      refine iteT (iteT ?_)
      exact q H (Evl.Ex.refl H)
    | true =>
      obtain ⟨ds, rfl⟩ := tup_of ht
      obtain ⟨ua, xs, rfl, hx, hi⟩ := hu.items
      have xl := (Paired.len hi)
      refine iteF ?_
      refine ⟨.ref ua, rfl, ua, xs, rfl, .inr hx, .ref a, rfl, a, bs, rfl, .inr ha, rfl, _, rfl, ?_⟩
      refine ite2 (fun hc => ?_) (fun hc => ?_)
      · have hne : ds.length ≠ (manysOf l).length := fun z => by
          have z2 : V.int (xs.length : Nat) = V.int (bs.length : Nat) := by rw [xl, z, ml, bl]
          rw [decide_eq_true z2] at hc
          cases hc
        have z : (if wl = true then wishedB (.tuple ds) (manysOf l) else placesB (.tuple ds) (manysOf l)) = false := by
          have z1 : wishedB (.tuple ds) (manysOf l) = false := by
            show (true && (decide (ds.length = (manysOf l).length) && _)) = false
            rw [decide_eq_false hne]
            rfl
          have z2 : placesB (.tuple ds) (manysOf l) = false := by
            show (true && (decide (ds.length = (manysOf l).length) && _)) = false
            rw [decide_eq_false hne]
            rfl
          rw [z1, z2]
          cases wl <;> rfl
        rw [z] at q
        exact q H (Evl.Ex.refl H)
      · have hlen : ds.length = (manysOf l).length := by
          refine Classical.byContradiction fun z => hc ?_
          have z2 : ¬ V.int (xs.length : Nat) = V.int (bs.length : Nat) := fun e => z (by
            have := V.int.inj e
            omega)
          rw [decide_eq_false z2]
          rfl
        have hm1 : ∀ m ∈ manysOf l, 1 ≤ m := fun m hm => by
          obtain ⟨b, hb, rfl⟩ := List.mem_map.mp hm
          obtain ⟨k, hk⟩ := List.mem_iff_getElem?.mp hb
          have := (ok.bolts k b hk).m0
          omega
        have fin := out_nil (ds := ds) (ms := manysOf l) wl hlen hm1
        have goalB : (if wl = true then wishedB (.tuple ds) (manysOf l) else placesB (.tuple ds) (manysOf l)) = (if wl = true then allP (ds.map orZero) (manysOf l) else allP ds (manysOf l)) := by
          have z1 : wishedB (.tuple ds) (manysOf l) = allP (ds.map orZero) (manysOf l) := by
            show (true && (decide (ds.length = (manysOf l).length) && allP (ds.map orZero) (manysOf l))) = _
            rw [decide_eq_true hlen]
            simp
          have z2 : placesB (.tuple ds) (manysOf l) = allP ds (manysOf l) := by
            show (true && (decide (ds.length = (manysOf l).length) && allP ds (manysOf l))) = _
            rw [decide_eq_true hlen]
            simp
          rw [z1, z2]
        rw [goalB, ← fin] at q
        -- bad
        refine ⟨.ref a, rfl, a, bs, rfl, .inr ha, _, rfl, by omega, by omega, fun D hD => ?_⟩
        refine lc_range (lo := 0) (n := ((bs.length : Nat) : Int).toNat) (fun i H' => Evl.Ex H H' ∧ H' D = some (.lst ((((List.range i).filter (badK ds (manysOf l))).map (fun n : Nat => (n : Int))).map V.int))) ⟨Evl.Ex.new hD, upd_same⟩ ?_ ?_
        · rintro i H1 hi2 ⟨e, hD1⟩
          have il : i < l.length := by omega
          have ei : (0 : Int) + (i : Nat) = ((i : Nat) : Int) := by omega
          rw [ei]
          obtain ⟨x, hxi⟩ : ∃ x, xs[i]? = some x := ⟨xs[i], List.getElem?_eq_getElem (by omega)⟩
          obtain ⟨dx, hdx, hth⟩ := Paired.get1 hi hxi
          obtain ⟨b, hb⟩ : ∃ b, l[i]? = some b := ⟨l[i], List.getElem?_eq_getElem il⟩
          obtain ⟨bv, hbv, ⟨a1, c1, gs, rfl, h1, h2, h3⟩⟩ := Paired.get2 hbs hb
          have mm : (manysOf l)[i]? = some b.many := by
            unfold manysOf
            rw [List.getElem?_map, hb]
            rfl
          have eD : ds.getD i .none = dx := by rw [List.getD_eq_getElem?_getD, hdx]; rfl
          have eM : (manysOf l).getD i 0 = b.many := by rw [List.getD_eq_getElem?_getD, mm]; rfl
          refine ⟨rfl, ?_⟩
          refine ⟨.ref ua, rfl, .int (i : Nat), rfl, ua, xs, (i : Nat), x, rfl, rfl, Evl.ex_t e hx, atI_nat hxi, ?_⟩
          refine ⟨.ref a, rfl, .int (i : Nat), rfl, a, bs, (i : Nat), .ref a1, rfl, rfl, Evl.ex_t e ha, atI_nat hbv, a1, _, 0, .int b.many, rfl, rfl, Evl.ex_t e h1, atI_nat (j := 0) rfl, b.many, 1, rfl, rfl, ?_⟩
          refine ⟨x, dx, 0, b.many - 1, rfl, hth.keep (TK.ex e), ?_⟩
          refine ⟨wholeB dx 0 (b.many - 1), rfl, ?_⟩
          rw [whole_place]
          have hbad : badK ds (manysOf l) i = !placeB dx b.many := by unfold badK; rw [eD, eM]
          have ll : ((((List.range i).filter (badK ds (manysOf l))).map (fun n : Nat => (n : Int))).map V.int).length ≤ 60 := by
            rw [List.length_map, List.length_map]
            have := List.length_filter_le (badK ds (manysOf l)) (List.range i)
            rw [List.length_range] at this
            omega
          cases hp : placeB dx b.many with
          | true =>
            refine iteF ?_
            refine ⟨e, ?_⟩
            rw [hD1, List.range_succ, List.filter_append, List.filter_cons, if_neg (by rw [hbad, hp]; exact Bool.false_ne_true)]
            simp
          | false =>
            refine iteT ?_
            refine ⟨.int (i : Nat), rfl, _, hD1, Nat.lt_of_le_of_lt ll (by decide), e.mut hD, ?_⟩
            rw [upd_same, List.range_succ, List.filter_append, List.filter_cons, if_pos (by rw [hbad, hp]; rfl)]
            simp
        · rintro H1 ⟨e, hD1⟩
          have en : ((bs.length : Nat) : Int).toNat = ds.length := by omega
          rw [en] at hD1
          generalize hks : (List.range ds.length).filter (badK ds (manysOf l)) = ks at hD1
          have kl : ∀ k ∈ ks, k < ds.length := fun k hk => by
            rw [← hks] at hk
            exact List.mem_range.mp (List.mem_filter.mp hk).1
          have kn : ks.length ≤ 60 := by
            rw [← hks]
            have := List.length_filter_le (badK ds (manysOf l)) (List.range ds.length)
            rw [List.length_range] at this
            omega
          refine ⟨.ref D, rfl, D, rfl, ⟨_, SqL.of hD1⟩, fun D2 hD2 => ?_⟩
          refine lc_list (K := K) (a := D) (xs := (ks.map (fun n : Nat => (n : Int))).map V.int) (fun i H' => Evl.Ex H1 H' ∧ H' D2 = some (.lst ((((ks.take i).filter (fun k => notNone (ds.getD k .none) || !wl)).map (fun n : Nat => (n : Int))).map V.int))) ⟨Evl.Ex.new hD2, upd_same⟩ ?_ ?_ ?_
          · rintro i H' _ ⟨e2, _⟩
            exact SqL.of (e2 _ _ hD1)
          · rintro i x H2 hxi ⟨e2, hD3⟩
            obtain ⟨n, hn, rfl⟩ := get_map_int hxi
            rw [List.getElem?_map] at hn
            obtain ⟨k, hk, rfl⟩ := Option.map_eq_some_iff.mp hn
            have hkl := kl k (List.mem_of_getElem? hk)
            obtain ⟨y, hy⟩ : ∃ y, xs[k]? = some y := ⟨xs[k], List.getElem?_eq_getElem (by omega)⟩
            obtain ⟨dy, hdy, hth⟩ := Paired.get1 hi hy
            have eD : ds.getD k .none = dy := by rw [List.getD_eq_getElem?_getD, hdy]; rfl
            have e12 := e.trans e2
            refine ⟨rfl, ?_⟩
            refine ⟨.ref ua, rfl, .int (k : Nat), rfl, ua, xs, (k : Nat), y, rfl, rfl, Evl.ex_t e12 hx, atI_nat hy, rfl, _, rfl, ?_⟩
            rw [non_data (hth.keep (TK.ex e12))]
            have ll : ((((ks.take i).filter (fun k => notNone (ds.getD k .none) || !wl)).map (fun n : Nat => (n : Int))).map V.int).length ≤ 60 := by
              rw [List.length_map, List.length_map]
              have := List.length_filter_le (fun k => notNone (ds.getD k .none) || !wl) (ks.take i)
              rw [List.length_take] at this
              omega
            have put : (notNone (ds.getD k .none) || !wl) = true → ∃ acc, H2 D2 = some (.lst acc) ∧ acc.length < sizeLine ∧ Evl.Ex H1 (upd H2 D2 (.lst (acc ++ [.int (k : Nat)]))) ∧ (upd H2 D2 (.lst (acc ++ [.int (k : Nat)]))) D2 = some (.lst ((((ks.take (i + 1)).filter (fun k => notNone (ds.getD k .none) || !wl)).map (fun n : Nat => (n : Int))).map V.int)) := fun z => by
              refine ⟨_, hD3, Nat.lt_of_le_of_lt ll (by decide), e2.mut hD2, ?_⟩
              rw [upd_same, take_succ_get hk, List.filter_append, List.filter_cons, if_pos z]
              simp
            have leave : (notNone (ds.getD k .none) || !wl) = false → Evl.Ex H1 H2 ∧ H2 D2 = some (.lst ((((ks.take (i + 1)).filter (fun k => notNone (ds.getD k .none) || !wl)).map (fun n : Nat => (n : Int))).map V.int)) := fun z => by
              refine ⟨e2, ?_⟩
              rw [hD3, take_succ_get hk, List.filter_append, List.filter_cons, if_neg (by rw [z]; exact Bool.false_ne_true)]
              simp
            rw [eD] at put leave
            cases hnn : notNone dy with
            | true =>
              rw [hnn] at put
              refine iteT (iteT ?_)
              exact ⟨.int (k : Nat), rfl, put rfl⟩
            | false =>
              rw [hnn] at put leave
              refine iteF ?_
              refine ⟨.bl wl, rfl, wl, rfl, ?_⟩
              cases wl with
              | true =>
                refine iteF ?_
                exact leave rfl
              | false =>
                refine iteT ?_
                exact ⟨.int (k : Nat), rfl, put rfl⟩
          · rintro H2 ⟨e2, hD3⟩
            have tl : (ks.take (((ks.map (fun n : Nat => (n : Int))).map V.int).length)) = ks := by rw [List.length_map, List.length_map, List.take_length]
            rw [tl] at hD3
            refine ⟨Nat.zero_le _, fun e0 ne0 => ?_⟩
            have e3 := Evl.Ex.new (o := .lst []) ne0
            have hD4 := e3 _ _ hD3
            refine ⟨.list (((ks.filter (fun k => notNone (ds.getD k .none) || !wl)).map (fun n : Nat => (n : Int))).map PyData.int), .list [], .lst (.inl (.inl hD4)) (dp_ints _), .lst (.inl (.inl upd_same)) .nil, ints_shaped _, (by decide), ?_⟩
            have qq := q _ (e.trans (e2.trans e3))
            have eo : (List.range ds.length).filter (outK ds (manysOf l) wl) = ks.filter (fun k => notNone (ds.getD k .none) || !wl) := by
              rw [← hks, List.filter_filter]
              congr 1
              funext k
              unfold outK
              rw [Bool.and_comm]
            rw [eo] at qq
            cases hz : ks.filter (fun k => notNone (ds.getD k .none) || !wl) with
            | nil =>
              rw [hz] at qq
              exact qq
            | cons k0 kr =>
              rw [hz] at qq
              exact qq
end
end Wb

set_option Elab.async false
set_option linter.all false
set_option maxRecDepth 100000
set_option maxHeartbeats 4000000
set_option pp.maxSteps 600
set_option pp.deepTerms false
namespace Wb
open PySem PySem.Spec PyProof.Rows L2
/-! ### >= of two tuples of whole numbers -/
theorem lexGe (ns ms : List Int) : ∀ (n i : Nat), n = min ns.length ms.length - i → i ≤ ns.length → i ≤ ms.length →
    Ob.lexAt (fun j => decide (ns.getD j 0 = ms.getD j 0)) (fun j => decide (ns.getD j 0 ≥ ms.getD j 0)) (decide (ns.length ≥ ms.length)) i n = !HT.lexLt (ns.drop i) (ms.drop i)
  | 0, i, hn, h1, h2 => by
    rw [Ob.lexAt_zero]
    by_cases e : i = ns.length
    · rw [List.drop_of_length_le (show ns.length ≤ i by omega)]
      by_cases e2 : i = ms.length
      · rw [List.drop_of_length_le (show ms.length ≤ i by omega), decide_eq_true (by omega)]
        rfl
      · obtain ⟨y, t, ht⟩ : ∃ y t, ms.drop i = y :: t := by
          cases h : ms.drop i with
          | nil =>
            have := congrArg List.length h
            rw [List.length_drop] at this
            simp at this
            omega
          | cons y t => exact ⟨y, t, rfl⟩
        rw [ht, decide_eq_false (by omega)]
        rfl
    · have e2 : i = ms.length := by omega
      obtain ⟨y, t, ht⟩ : ∃ y t, ns.drop i = y :: t := by
        cases h : ns.drop i with
        | nil =>
          have := congrArg List.length h
          rw [List.length_drop] at this
          simp at this
          omega
        | cons y t => exact ⟨y, t, rfl⟩
      rw [ht, List.drop_of_length_le (show ms.length ≤ i by omega), decide_eq_true (by omega)]
      rfl
  | n + 1, i, hn, h1, h2 => by
    have l1 : i < ns.length := by omega
    have l2 : i < ms.length := by omega
    rw [Ob.lexAt_succ, List.drop_eq_getElem_cons l1, List.drop_eq_getElem_cons l2, HT.lexLt_cons]
    have g1 : ns.getD i 0 = ns[i] := by rw [List.getD_eq_getElem?_getD, List.getElem?_eq_getElem l1]; rfl
    have g2 : ms.getD i 0 = ms[i] := by rw [List.getD_eq_getElem?_getD, List.getElem?_eq_getElem l2]; rfl
    rw [g1, g2]
    by_cases e : ns[i] = ms[i]
    · rw [if_pos (decide_eq_true e), if_pos e]
      exact lexGe ns ms n (i + 1) (by omega) (by omega) (by omega)
    · rw [if_neg (by rw [decide_eq_false e]; exact Bool.false_ne_true), if_neg e, ← decide_not]
      exact decide_eq_decide.mpr (by omega)
def rGeT (K : PySem.W.Frag) : R2 := fun x y H Q => ∃ (a b : Addr) (ns ms : List Int), x = .ref a ∧ y = .ref b ∧ SqT K H a (ns.map V.int) ∧ SqT K H b (ms.map V.int) ∧ Q (.bl (!HT.lexLt ns ms)) H
theorem op_geT {X : Cx} (hu : X.A.units < cLine) : OpR X (compareOp .GtE) (rGeT X.K) := by
  intro pins s σ H x y v u Q I rx ry h
  obtain ⟨a, b, ns, ms, rfl, rfl, ha, hb, q⟩ := h
  cases rx
  cases ry
  obtain ⟨its, r1, p1, _⟩ := I.tuple ha
  obtain ⟨its2, r2, p2, _⟩ := I.tuple hb
  have i1 : IntsAre its ns := Vals.ints r1
  have i2 : IntsAre its2 ms := Vals.ints r2
  have e1 : its.toArray.size = ns.length := by rw [List.size_toArray]; exact i1.length
  have e2 : its2.toArray.size = ms.length := by rw [List.size_toArray]; exact i2.length
  have at1 : ∀ j (h1 : j < its.toArray.size), ∃ t, its.toArray[j] = .int (ns.getD j 0) t := fun j h1 => PyProof.Rows.IntsAre.int_at i1 _ _ (by simp at h1; simp [h1])
  have at2 : ∀ j (h1 : j < its2.toArray.size), ∃ t, its2.toArray[j] = .int (ms.getD j 0) t := fun j h1 => PyProof.Rows.IntsAre.int_at i2 _ _ (by simp at h1; simp [h1])
  have R := Ob.RcOp.tuples_ge (A := X.A) (s := s) (e := fun j => decide (ns.getD j 0 = ms.getD j 0)) (r := fun j => decide (ns.getD j 0 ≥ ms.getD j 0)) p1 p2 hu (fun j h1 h2 => by
    obtain ⟨t, et⟩ := at1 j h1
    obtain ⟨t', et'⟩ := at2 j h2
    rw [et, et']
    have z : (ns.getD j 0 == ms.getD j 0) = decide (ns.getD j 0 = ms.getD j 0) := by
      by_cases q : ns.getD j 0 = ms.getD j 0
      · rw [decide_eq_true q]; exact beq_iff_eq.mpr q
      · rw [decide_eq_false q]; exact beq_eq_false_iff_ne.mpr q
    rw [← z]
    exact SeqAt.EqAt.int_int _ _ _ _) (fun j h1 h2 _ => by
    obtain ⟨t, et⟩ := at1 j h1
    obtain ⟨t', et'⟩ := at2 j h2
    rw [et, et']
    exact Ob.RcOp.ge_int _ _ _ _)
  rw [e1, e2] at R
  have lg := lexGe ns ms (min ns.length ms.length) 0 (by omega) (Nat.zero_le _) (Nat.zero_le _)
  rw [lg, List.drop_zero, List.drop_zero] at R
  have z : wpAny (model X.prog X.w) X.A (compareOp .GtE (.ref a) (.ref b)) (EP X pins σ Q) X.xe s := R X.prog X.w X.xe (EP X pins σ Q) ⟨.bl _, H, I, rfl, q⟩
  exact z
/-! ### a gap, by the law's own walk: its ways may be more than eight -/
structure GapL (d : PyData) (many : Int) (ms : List Int) (f t p : Int) (ys : List PyData) : Prop where
  e : d = .tuple [.int f, .int t, .int p, .tuple ys]
  f0 : 0 ≤ f
  f1 : f ≤ many - 1
  t0 : 0 ≤ t
  t1 : t ≤ many - 1
  ne : f ≠ t
  p0 : 1 ≤ p
  p1 : p ≤ 1000000
  pl : ∀ y ∈ ys, placesB y ms = true
  ri : ∀ (i : Nat) (a b : PyData), ys[i]? = some a → ys[i + 1]? = some b → HT.lexLt (wdG a) (wdG b) = true
theorem GapL.gap {d : PyData} {many : Int} {ms : List Int} {f t p : Int} {ys : List PyData} (h : GapL d many ms f t p ys) (l : ys.length ≤ 8) : gapB d many ms = true := by
  obtain ⟨rfl, f0, f1, t0, t1, ne, p0, p1, pl, ri⟩ := h
  show (placesB (.tuple [.int f, .int t]) [many, many] && (!decide (intD (.int f) = intD (.int t)) && (wholeB (.int p) 1 1000000 && waysB (.tuple ys) ms))) = true
  have h1 : placesB (.tuple [.int f, .int t]) [many, many] = true := ints_places (ns := [f, t]) (inAll_two f0 (by omega) t0 (by omega))
  have h2 : (decide (1 ≤ p) && decide (p ≤ 1000000)) = true := by rw [decide_eq_true p0, decide_eq_true p1]; rfl
  have h3 : waysB (.tuple ys) ms = true := by
    show (true && (decide (ys.length ≤ 8) && (ys.all (fun e => placesB e ms) && riseB ys))) = true
    rw [decide_eq_true l, Bool.true_and, Bool.true_and, List.all_eq_true.mpr pl, Bool.true_and]
    unfold riseB
    rw [List.all_eq_true]
    intro i hi
    have hl := List.mem_range.mp hi
    have a := List.getElem?_eq_getElem (l := ys) (i := i) (by omega)
    have b := List.getElem?_eq_getElem (l := ys) (i := i + 1) (by omega)
    unfold riseAt
    rw [getD_of a, getD_of b]
    exact ri i _ _ a b
  rw [h1, h3]
  show (true && (!decide (f = t) && ((decide (1 ≤ p) && decide (p ≤ 1000000)) && true))) = true
  rw [h2, decide_eq_false ne]
  rfl
theorem GapL.nw {d : PyData} {many : Int} {ms : List Int} {f t p : Int} {ys : List PyData} (h : GapL d many ms f t p ys) : nwG d = ys.length := by
  rw [h.e]
  rfl
theorem GapL.key {d : PyData} {many : Int} {ms : List Int} {f t p : Int} {ys : List PyData} (h : GapL d many ms f t p ys) : keyG d = (f, t) := by
  rw [h.e]
  rfl
theorem key_lex (a b c d : Int) : HT.lexLt [a, b] [c, d] = keyLt (a, b) (c, d) := by
  rw [HT.lexLt_cons, HT.lexLt_cons]
  unfold keyLt
  by_cases e : a = c
  · rw [if_pos e]
    by_cases e2 : b = d
    · rw [if_pos e2, HT.lexLt_nil_nil]
      exact (decide_eq_false (by show ¬ (a < c ∨ a = c ∧ b < d); omega)).symm
    · rw [if_neg e2]
      exact decide_eq_decide.mpr (by show b < d ↔ (a < c ∨ a = c ∧ b < d); omega)
  · rw [if_neg e]
    exact decide_eq_decide.mpr (by show a < c ↔ (a < c ∨ a = c ∧ b < d); omega)
theorem le_sumN : ∀ {xs : List Nat} {x : Nat}, x ∈ xs → x ≤ xs.sum
  | y :: xs, x, h => by
    rw [List.sum_cons]
    rcases List.mem_cons.mp h with rfl | h
    · exact Nat.le_add_right _ _
    · exact Nat.le_trans (le_sumN h) (Nat.le_add_left _ _)
/-- what the law's walk has found makes the answer -/
theorem bolt_by {m : Int} {gs : List PyData} {ms : List Int} (m0 : 2 ≤ m) (m1 : m ≤ 4) (h1 : ∀ g ∈ gs, ∃ f t p ys, GapL g m ms f t p ys) (h2 : ∀ j, j + 1 < gs.length → riseK gs j = true) : boltB (.tuple [.int m, .tuple gs]) ms = decide ((gs.map nwG).sum ≤ 8) := by
  show ((decide (2 ≤ m) && decide (m ≤ 4)) && (true && (gs.all (fun g => gapB g m ms) && ((List.range (gs.length - 1)).all (riseK gs) && decide ((gs.map nwG).sum ≤ 8))))) = _
  rw [decide_eq_true m0, decide_eq_true m1, Bool.true_and, Bool.true_and, Bool.true_and]
  have z : (List.range (gs.length - 1)).all (riseK gs) = true := List.all_eq_true.mpr fun j hj => h2 j (by have := List.mem_range.mp hj; omega)
  rw [z, Bool.true_and]
  by_cases s : (gs.map nwG).sum ≤ 8
  · have a : gs.all (fun g => gapB g m ms) = true := List.all_eq_true.mpr fun g hg => by
      obtain ⟨f, t, p, ys, G⟩ := h1 g hg
      refine G.gap ?_
      rw [← G.nw]
      exact Nat.le_trans (le_sumN (List.mem_map.mpr ⟨g, hg, rfl⟩)) s
    rw [a, Bool.true_and]
  · rw [decide_eq_false s, Bool.and_false]
end Wb

set_option Elab.async false
set_option linter.all false
set_option maxRecDepth 100000
set_option maxHeartbeats 4000000
set_option pp.maxSteps 600
set_option pp.deepTerms false
namespace Wb
open PySem PySem.Spec PyProof.Rows L2
abbrev sLBolt : Stmt := topS 30
abbrev nLBolt : List Str := ["_law_under", "_law_thing", "_law_wide", "_law_gaps_here", "_law_k", "_law_gap", "_law_at"]
theorem scLBolt : FnScope nLBolt ["_law_under", "_law_thing"] (defScope sLBolt) := ⟨rfl, rfl, rfl, by decide +kernel, rfl, by decide +kernel, by decide +kernel⟩
theorem nopart1 {σ : L2.St} {H : Hp} {F : Option Int → Hp → Prop} (h : F none H) : tNoPart σ H F := h
def rLenS (K : PySem.W.Frag) : List V → Hp → VK → Prop := fun xs H Q => ∃ (p : Addr) (ys : List V), xs = [V.ref p] ∧ (SqL K H p ys ∨ SqT K H p ys) ∧ Q (V.int (ys.length : Nat)) H
theorem call_lenK {X : Cx} : CallR X (.builtin "len") (rLenS X.K) := call_len_seq
def spLBolt (K : PySem.W.Frag) : Sp := fun vs H Q _ => ∃ (v u : V) (l : Lock) (d : PyData), vs = [v, u] ∧ LockAt K H v l ∧ SemiOk l ∧ Th K H u d ∧ (∀ m g, d = .tuple [m, .tuple g] → g.length ≤ 1000000 ∧ ∀ x ∈ g, (itemsD (itD x 3)).length ≤ 1000000) ∧ ∀ H', Evl.Ex H H' → Q (.bl (boltB d (manysOf l))) H'
section
variable {P : Program} {w : World} {K : PySem.W.Frag} {mg : Str → Option Value} {base : Heap}
theorem ok_lbolt {f f1 f2 : Addr} {fd fd1 fd2 : FuncData} (F : Fun K "_law_is_bolt" "_law_is_bolt" sLBolt f fd) (F1 : Fun K "_law_whole" "_law_whole" sLWhole f1 fd1) (b1 : Binds K fd1 ["_law_thing", "_law_least_one", "_law_most_one"] []) (g1 : mg "_law_whole" = some (.ref f1))
    (F2 : Fun K "_law_is_word" "_law_is_word" sLIsWord f2 fd2) (b2 : Binds K fd2 ["_law_lock_here", "_law_thing", "_law_is_wish_like"] []) (g2 : mg "_law_is_word" = some (.ref f2)) (sm : mg "sum" = none) (B : Bi mg) :
    FnOk P w K mg base CX0 3 f fd ["_law_under", "_law_thing"] (spLBolt K) := by
  have G1 : FnOk P w K mg base CX0 1 f1 fd1 ["_law_thing", "_law_least_one", "_law_most_one"] (spLWhole K) := ok_lwhole F1 B
  have G2 : FnOk P w K mg base CX0 2 f2 fd2 ["_law_lock_here", "_law_thing", "_law_is_wish_like"] (spIsWord K) := ok_isWord F2 F1 b1 g1 B
  refine F.ok scLBolt (fun vs H Q E h => ?_) (fun cdv A outer s H vs Q E hr h => ?_)
  · obtain ⟨v, u, l, d, rfl, _⟩ := h; rfl
  · obtain ⟨v, u, l, d, rfl, hL, semi, hu, hsz, q⟩ := h
    have hr1 : Room 1 _ := hr.mono (by decide)
    refine ⟨_, pss_cons (ps_if (PW.pt (pw_or (pt_not (pt_val (pe_callB call_isi (by rfl) B.isi boot_isinstance (pa_cons (pv 1) (pa_cons (pe_bltn (v := .ty "tuple") (by rfl) B.tuple (by decide +kernel) rfl) pa_nil)))))
          (pw_or (pt_cmpR op_ne (pe_callB call_len_seq (by rfl) B.len PySem.boot_len (pa_cons (pv 1) pa_nil)) pe_int (nomark _))
            (pw_or1 (pt_not (pt_val (pe_call G1 hr1 (by rfl) g1 F1.kp b1 .nil pass0 (pa_cons (pe_ix (r := rIxT K) ix_tup (pv 1) pe_int (fun _ _ => rfl)) (pa_cons pe_int (pa_cons pe_int pa_nil)))))))))) (pss_one (ps_ret pe_bl)) pss_nil)
      (pss_cons (ps_asg (pv 1) (pg_tup rfl (pgs_cons (pg_name (i := 2) scLBolt.nd rfl (.inl rfl)) (pgs_cons (pg_name (i := 3) scLBolt.nd rfl (.inl rfl)) pgs_nil))))
      (pss_cons (ps_if (pt_not (pt_val (pe_callB call_isi (by rfl) B.isi boot_isinstance (pa_cons (pv 3) (pa_cons (pe_bltn (v := .ty "tuple") (by rfl) B.tuple (by decide +kernel) rfl) pa_nil))))) (pss_one (ps_ret pe_bl)) pss_nil)
      (pss_cons (ps_for PassesOwn.never rfl (pi_range1 (by rfl) B.range (pa_cons (pe_callB call_len_seq (by rfl) B.len PySem.boot_len (pa_cons (pv 3) pa_nil)) pa_nil)) (pg_name (i := 4) scLBolt.nd rfl (.inl rfl))
        (pss_cons (ps_set (i := 5) scLBolt.nd rfl (.inl rfl) (pe_ix (r := rIxT K) ix_tup (pv 3) (pv 4) (fun _ _ => rfl)))
        (pss_cons (ps_if (PW.pt (pw_or (pt_not (pt_val (pe_callB call_isi (by rfl) B.isi boot_isinstance (pa_cons (pv 5) (pa_cons (pe_bltn (v := .ty "tuple") (by rfl) B.tuple (by decide +kernel) rfl) pa_nil)))))
            (pw_or (pt_cmpR op_ne (pe_callB call_len_seq (by rfl) B.len PySem.boot_len (pa_cons (pv 5) pa_nil)) pe_int (nomark _))
              (pw_or1 (pt_not (pt_val (pe_call G1 hr1 (by rfl) g1 F1.kp b1 .nil pass0 (pa_cons (pe_ix (r := rIxT K) ix_tup (pv 5) pe_int (fun _ _ => rfl)) (pa_cons pe_int (pa_cons (pe_op op_sub (pv 2) pe_int) pa_nil)))))))))) (pss_one (ps_ret pe_bl)) pss_nil)
        (pss_cons (ps_if (PW.pt (pw_or (pt_not (pt_val (pe_call G1 hr1 (by rfl) g1 F1.kp b1 .nil pass0 (pa_cons (pe_ix (r := rIxT K) ix_tup (pv 5) pe_int (fun _ _ => rfl)) (pa_cons pe_int (pa_cons (pe_op op_sub (pv 2) pe_int) pa_nil))))))
            (pw_or (pt_cmpR op_eq (pe_ix (r := rIxT K) ix_tup (pv 5) pe_int (fun _ _ => rfl)) (pe_ix (r := rIxT K) ix_tup (pv 5) pe_int (fun _ _ => rfl)) (nomark _))
              (pw_or1 (pt_not (pt_val (pe_call G1 hr1 (by rfl) g1 F1.kp b1 .nil pass0 (pa_cons (pe_ix (r := rIxT K) ix_tup (pv 5) pe_int (fun _ _ => rfl)) (pa_cons pe_int (pa_cons (pe_op op_pow pe_int pe_int) pa_nil)))))))))) (pss_one (ps_ret pe_bl)) pss_nil)
        (Evl.pss_cut (ps_if (PW.pt (pw_or (pt_not (pt_val (pe_callB call_isi (by rfl) B.isi boot_isinstance (pa_cons (pe_ix (r := rIxT K) ix_tup (pv 5) pe_int (fun _ _ => rfl)) (pa_cons (pe_bltn (v := .ty "tuple") (by rfl) B.tuple (by decide +kernel) rfl) pa_nil)))))
            (pw_or1 (PW.pt (pw_and (pt_cmpR op_gt (pv 4) pe_int (nomark _))
              (pw_and1 (pt_cmpR (op_geT hr.units0) (pe_slice (r := rSlA K) sl_tupA (pe_ix (r := rIxT K) ix_tup (pv 3) (pe_op op_sub (pv 4) pe_int) (fun _ _ => rfl)) po_none (po_some pe_int)) (pe_slice (r := rSlA K) sl_tupA (pv 5) po_none (po_some pe_int)) (nomark _)))))))) (pss_one (ps_ret pe_bl)) pss_nil)
        (pss_one (ps_for PassesOwn.never rfl (pi_range1 (by rfl) B.range (pa_cons (pe_callB call_len_seq (by rfl) B.len PySem.boot_len (pa_cons (pe_ix (r := rIxT K) ix_tup (pv 5) pe_int (fun _ _ => rfl)) pa_nil)) pa_nil)) (pg_name (i := 6) scLBolt.nd rfl (.inl rfl))
          (pss_one (ps_if (PW.pt (pw_or (pt_not (pt_val (pe_call G2 hr (by rfl) g2 F2.kp b2 .nil pass0 (pa_cons (pv 0) (pa_cons (pe_ix (r := rIxT K) ix_tup (pe_ix (r := rIxT K) ix_tup (pv 5) pe_int (fun _ _ => rfl)) (pv 6) (fun _ _ => rfl)) (pa_cons pe_bl pa_nil))))))
            (pw_or1 (PW.pt (pw_and (pt_cmpR op_gt (pv 6) pe_int (nomark _))
              (pw_and1 (pt_cmpR (op_geT hr.units0) (pe_ix (r := rIxT K) ix_tup (pe_ix (r := rIxT K) ix_tup (pv 5) pe_int (fun _ _ => rfl)) (pe_op op_sub (pv 6) pe_int) (fun _ _ => rfl)) (pe_ix (r := rIxT K) ix_tup (pe_ix (r := rIxT K) ix_tup (pv 5) pe_int (fun _ _ => rfl)) (pv 6) (fun _ _ => rfl)) (nomark _)))))))) (pss_one (ps_ret pe_bl)) pss_nil)))))))))
      (pss_one (ps_ret (pe_cmpR op_le (pe_callB (cr_sum rfl) (by rfl) sm boot_sum (pa_cons (pe_lc (own := [("_law_gap", 5)]) (wi := iTup K (tVar 3)) (g := gName 5) rfl scLBolt.nd (pi_tup (pv 3)) (blkOk_by (own := [("_law_gap", 5)]) (N := nLBolt) (sc := defScope sLBolt) (by decide +kernel))
          (fun _ _ _ _ _ => pg_name (i := 5) scLBolt.nd rfl (Or.inl rfl)) (fun _ _ _ _ _ => pts_nil)
          (fun _ _ _ _ _ => pe_callB (r := rLenS K) call_lenK (by rfl) B.len PySem.boot_len (pa_cons (pe_ix (r := rIxT K) ix_tup (pv 5) pe_int (fun _ _ => rfl)) pa_nil))) pa_nil)) pe_int (nomark _))))))), ?_⟩
    have bad : (boltB d (manysOf l) = true → False) → ∀ H', Evl.Ex H H' → Q (.bl false) H' := fun hb H' e => by
      cases hz : boltB d (manysOf l) with
      | true => exact (hb hz).elim
      | false =>
        rw [hz] at q
        exact q H' e
    refine ⟨u, rfl, u, .ty "tuple", .type (tyS d), .type "tuple", isTup d, rfl, .ty _, hu.ty, kit_ty (kit_tup d), isTup d, rfl, ?_⟩
    cases ht : isTup d with
    | false =>
      refine iteT (iteT (bad (fun hb => ?_) H (Evl.Ex.refl H)))
      rw [boltB_tup ht] at hb
      cases hb
    | true =>
    obtain ⟨ds, rfl⟩ := tup_of ht
    obtain ⟨ua, xs, rfl, hx, hp⟩ := hu.items
    have xl : xs.length = ds.length := Paired.len hp
    refine iteF ?_
    refine ⟨.ref ua, rfl, ua, xs, rfl, .inr hx, rfl, _, rfl, ?_⟩
    refine ite2 (fun hc => ?_) (fun hc => ?_)
    · refine iteT (bad (fun hb => ?_) H (Evl.Ex.refl H))
      obtain ⟨m, gs, e, _⟩ := boltB_true hb
      have e' := PyData.tuple.inj e
      rw [xl, e', show decide (V.int (([PyData.int m, PyData.tuple gs] : List PyData).length : Nat) = V.int 2) = true from decide_eq_true rfl] at hc
      cases hc
    have l2 : ds.length = 2 := by
      refine Classical.byContradiction fun n => hc ?_
      have z : ¬ V.int (xs.length : Nat) = V.int 2 := fun z => n (by
        have := V.int.inj z
        omega)
      show (!decide (V.int (xs.length : Nat) = V.int 2)) = true
      rw [decide_eq_false z]
      rfl
    obtain ⟨x1, x2, d1, d2, rfl, rfl, r1, r2⟩ := two hp l2
    refine ⟨.ref ua, rfl, ua, _, 0, x1, rfl, rfl, hx, atI_nat (j := 0) rfl, x1, d1, 2, 4, rfl, r1, _, rfl, ?_⟩
    cases hW : wholeB d1 2 4 with
    | false =>
      refine iteT (bad (fun hb => ?_) H (Evl.Ex.refl H))
      have hb' : (wholeB d1 2 4 && (isTup d2 && gapsB (itemsD d2) (intD d1) (manysOf l))) = true := hb
      rw [hW] at hb'
      cases hb'
    | true =>
    refine iteF ?_
    obtain ⟨m, rfl, m0, m1⟩ := wholeB_true hW
    cases r1
    refine ⟨.ref ua, rfl, ua, _, rfl, hx, rfl, _, _, rfl, _, _, rfl, rfl, ?_⟩
    refine ⟨x2, rfl, x2, .ty "tuple", .type (tyS d2), .type "tuple", isTup d2, rfl, .ty _, r2.ty, kit_ty (kit_tup d2), isTup d2, rfl, ?_⟩
    cases hT : isTup d2 with
    | false =>
      refine iteT (bad (fun hb => ?_) H (Evl.Ex.refl H))
      have hb' : (wholeB (.int m) 2 4 && (isTup d2 && gapsB (itemsD d2) m (manysOf l))) = true := hb
      rw [hT, Bool.false_and, Bool.and_false] at hb'
      cases hb'
    | true =>
    refine iteF ?_
    obtain ⟨gs, rfl⟩ := tup_of hT
    obtain ⟨c, gvs, rfl, hg, hgp⟩ := r2.items
    obtain ⟨sz1, sz2⟩ := hsz _ _ rfl
    have gl : gvs.length = gs.length := Paired.len hgp
    have gapOf : boltB (.tuple [.int m, .tuple gs]) (manysOf l) = true → (∀ g ∈ gs, gapB g m (manysOf l) = true) ∧ ∀ (i : Nat) (a b : PyData), gs[i]? = some a → gs[i + 1]? = some b → keyLt (keyG a) (keyG b) = true := fun hb => by
      obtain ⟨m', gs', e, _, _, k1, k2, _⟩ := boltB_true hb
      have e' := PyData.tuple.inj e
      simp only [List.cons.injEq, PyData.int.injEq, PyData.tuple.injEq, and_true] at e'
      obtain ⟨rfl, rfl⟩ := e'
      exact ⟨k1, k2⟩
    refine ⟨.ref c, rfl, c, gvs, rfl, .inr hg, _, rfl, by omega, by omega, ?_⟩
    refine for_range (lo := 0) (n := ((gvs.length : Nat) : Int).toNat) (fun k σ H' => ∃ (y4 y5 y6 : Option V), σ = [some v, some (.ref ua), some (.int m), some (.ref c), y4, y5, y6] ∧ Evl.Ex H H' ∧ (∀ j g, j < k → gs[j]? = some g → ∃ f t p ys, GapL g m (manysOf l) f t p ys) ∧ ∀ j, j + 1 < k → riseK gs j = true)
      ⟨none, none, none, rfl, Evl.Ex.refl H, fun j g hj => absurd hj (Nat.not_lt_zero j), fun j hj => absurd hj (Nat.not_lt_zero _)⟩ ?_ ?_
    · rintro k σ H1 hk0 ⟨y4, y5, y6, rfl, e1, hgl, hri⟩
      have hk : k < gs.length := by omega
      have ek : (0 : Int) + (k : Nat) = ((k : Nat) : Int) := by omega
      rw [ek]
      obtain ⟨dg, hdg⟩ : ∃ dg, gs[k]? = some dg := ⟨gs[k], List.getElem?_eq_getElem hk⟩
      obtain ⟨x, hxk, hth⟩ := Paired.get2 hgp hdg
      have hgm := List.mem_of_getElem? hdg
      refine ⟨.ref c, rfl, .int (k : Nat), rfl, c, gvs, (k : Nat), x, rfl, rfl, Evl.ex_t e1 hg, atI_nat hxk, ?_⟩
      have hth1 := hth.ex e1
      have badg : (gapB dg m (manysOf l) = true → False) → ∀ H', Evl.Ex H1 H' → Q (.bl false) H' := fun h H' e => bad (fun hb => h ((gapOf hb).1 dg hgm)) H' (e1.trans e)
      refine ⟨x, rfl, x, .ty "tuple", .type (tyS dg), .type "tuple", isTup dg, rfl, .ty _, hth1.ty, kit_ty (kit_tup dg), isTup dg, rfl, ?_⟩
      cases hTg : isTup dg with
      | false =>
        refine iteT (iteT (badg (fun hb => ?_) H1 (Evl.Ex.refl H1)))
        rw [gapB_tup hTg] at hb
        cases hb
      | true =>
      obtain ⟨es, rfl⟩ := tup_of hTg
      obtain ⟨ag, zs, rfl, hag, hpz⟩ := hth1.items
      have zl : zs.length = es.length := Paired.len hpz
      refine iteF ?_
      refine ⟨.ref ag, rfl, ag, zs, rfl, .inr hag, rfl, _, rfl, ?_⟩
      refine ite2 (fun hc => ?_) (fun hc => ?_)
      · refine iteT (badg (fun hb => ?_) H1 (Evl.Ex.refl H1))
        obtain ⟨f, t, p, ys, e, _⟩ := gapB_true hb
        have e' := PyData.tuple.inj e
        rw [zl, e', show decide (V.int (([PyData.int f, PyData.int t, PyData.int p, PyData.tuple ys] : List PyData).length : Nat) = V.int 4) = true from decide_eq_true rfl] at hc
        cases hc
      have l4 : es.length = 4 := by
        refine Classical.byContradiction fun n => hc ?_
        have z : ¬ V.int (zs.length : Nat) = V.int 4 := fun z => n (by
          have := V.int.inj z
          omega)
        show (!decide (V.int (zs.length : Nat) = V.int 4)) = true
        rw [decide_eq_false z]
        rfl
      obtain ⟨z1, z2, z3, z4, e1', e2', e3', e4', rfl, rfl, s1, s2, s3, s4⟩ := four hpz l4
      have gex : gapB (.tuple [e1', e2', e3', e4']) m (manysOf l) = true → ∃ f t p ys, e1' = .int f ∧ e2' = .int t ∧ e3' = .int p ∧ e4' = .tuple ys ∧ (0 ≤ f ∧ f < m) ∧ (0 ≤ t ∧ t < m) ∧ f ≠ t ∧ (1 ≤ p ∧ p ≤ 1000000) ∧ waysB (.tuple ys) (manysOf l) = true := fun hb => by
        obtain ⟨f, t, p, ys, e, h1, h2, h3, h4, h5⟩ := gapB_true hb
        have e' := PyData.tuple.inj e
        simp only [List.cons.injEq, and_true] at e'
        exact ⟨f, t, p, ys, e'.1, e'.2.1, e'.2.2.1, e'.2.2.2, h1, h2, h3, h4, h5⟩
      -- the first three things
      refine ⟨.ref ag, rfl, ag, _, 0, z1, rfl, rfl, hag, atI_nat (j := 0) rfl, .int m, rfl, m, 1, rfl, rfl, z1, e1', 0, m - 1, rfl, s1, _, rfl, ?_⟩
      cases hw1 : wholeB e1' 0 (m - 1) with
      | false =>
        refine iteT (badg (fun hb => ?_) H1 (Evl.Ex.refl H1))
        obtain ⟨f, t, p, ys, rfl, _, _, _, ⟨f0, f1⟩, _⟩ := gex hb
        have hw' : (decide (0 ≤ f) && decide (f ≤ m - 1)) = false := hw1
        rw [decide_eq_true f0, decide_eq_true (by omega)] at hw'
        cases hw'
      | true =>
      refine iteF ?_
      obtain ⟨gf, rfl, gf0, gf1⟩ := wholeB_true hw1
      cases s1
      refine ⟨.ref ag, rfl, ag, _, 1, z2, rfl, rfl, hag, atI_nat (j := 1) rfl, .int m, rfl, m, 1, rfl, rfl, z2, e2', 0, m - 1, rfl, s2, _, rfl, ?_⟩
      cases hw2 : wholeB e2' 0 (m - 1) with
      | false =>
        refine iteT (iteT (badg (fun hb => ?_) H1 (Evl.Ex.refl H1)))
        obtain ⟨f, t, p, ys, _, rfl, _, _, _, ⟨t0, t1⟩, _⟩ := gex hb
        have hw' : (decide (0 ≤ t) && decide (t ≤ m - 1)) = false := hw2
        rw [decide_eq_true t0, decide_eq_true (by omega)] at hw'
        cases hw'
      | true =>
      refine iteF ?_
      obtain ⟨gt, rfl, gt0, gt1⟩ := wholeB_true hw2
      cases s2
      refine ⟨.ref ag, rfl, ag, _, 0, .int gf, rfl, rfl, hag, atI_nat (j := 0) rfl, .ref ag, rfl, ag, _, 1, .int gt, rfl, rfl, hag, atI_nat (j := 1) rfl, rfl, _, rfl, ?_⟩
      refine ite2 (fun hc => ?_) (fun hc => ?_)
      · refine iteT (badg (fun hb => ?_) H1 (Evl.Ex.refl H1))
        obtain ⟨f, t, p, ys, ef, et, _, _, _, _, ne, _⟩ := gex hb
        have hq : V.int gf = V.int gt := of_decide_eq_true hc
        cases hq
        cases ef
        cases et
        exact ne rfl
      have gne : gf ≠ gt := fun z => hc (by rw [z]; exact decide_eq_true rfl)
      refine ⟨.ref ag, rfl, ag, _, 2, z3, rfl, rfl, hag, atI_nat (j := 2) rfl, 10, 6, rfl, rfl, ⟨by decide, by decide, by decide⟩, z3, e3', 1, 10 ^ (6 : Int).toNat, rfl, s3, _, rfl, ?_⟩
      have six : (10 : Int) ^ (6 : Int).toNat = 1000000 := by decide
      rw [six]
      cases hw3 : wholeB e3' 1 1000000 with
      | false =>
        refine iteT (badg (fun hb => ?_) H1 (Evl.Ex.refl H1))
        obtain ⟨f, t, p, ys, _, _, rfl, _, _, _, _, ⟨p0, p1⟩, _⟩ := gex hb
        have hw' : (decide (1 ≤ p) && decide (p ≤ 1000000)) = false := hw3
        rw [decide_eq_true p0, decide_eq_true p1] at hw'
        cases hw'
      | true =>
      refine iteF ?_
      obtain ⟨gp, rfl, gp0, gp1⟩ := wholeB_true hw3
      cases s3
      -- its ways
      have rise0 : ∀ j, j + 1 < k → riseK gs j = true := hri
      refine ⟨fun σ' H' => (∃ (bg : Addr) (yvs : List V) (ys : List PyData), z4 = .ref bg ∧ e4' = .tuple ys ∧ SqT K H1 bg yvs ∧ Paired (Th K H1) yvs ys) ∧ σ' = [some v, some (.ref ua), some (.int m), some (.ref c), some (.int (k : Nat)), some (.ref ag), y6] ∧ Evl.Ex H1 H' ∧ ∀ j, j + 1 < k + 1 → riseK gs j = true, ?_, ?_⟩
      rotate_left
      · rintro σ' H2 ⟨⟨bg, yvs, ys, rfl, rfl, hbg, hyp⟩, rfl, e2, hri1⟩
        have yl : yvs.length = ys.length := Paired.len hyp
        have ysz : ys.length ≤ 1000000 := sz2 _ hgm
        refine ⟨.ref ag, rfl, ag, _, 3, .ref bg, rfl, rfl, Evl.ex_t e2 hag, atI_nat (j := 3) rfl, bg, yvs, rfl, .inr (Evl.ex_t e2 hbg), _, rfl, by omega, by omega, ?_⟩
        refine for_range (lo := 0) (n := ((yvs.length : Nat) : Int).toNat) (fun i σ H' => ∃ (y6 : Option V), σ = [some v, some (.ref ua), some (.int m), some (.ref c), some (.int (k : Nat)), some (.ref ag), y6] ∧ Evl.Ex H1 H' ∧ (∀ j y, j < i → ys[j]? = some y → placesB y (manysOf l) = true) ∧ ∀ j a b, j + 1 < i → ys[j]? = some a → ys[j + 1]? = some b → HT.lexLt (wdG a) (wdG b) = true)
          ⟨_, rfl, e2, fun j y hj => absurd hj (Nat.not_lt_zero j), fun j a b hj => absurd hj (Nat.not_lt_zero _)⟩ ?_ ?_
        · rintro i σ H3 hi0 ⟨y6, rfl, e3, hpl, hrw⟩
          have hi : i < ys.length := by omega
          have ei : (0 : Int) + (i : Nat) = ((i : Nat) : Int) := by omega
          rw [ei]
          obtain ⟨dy, hdy⟩ : ∃ dy, ys[i]? = some dy := ⟨ys[i], List.getElem?_eq_getElem hi⟩
          obtain ⟨yv, hyv, hyt⟩ := Paired.get2 hyp hdy
          have e13 := e1.trans e3
          have badw : (waysB (.tuple ys) (manysOf l) = true → False) → ∀ H', Evl.Ex H3 H' → Q (.bl false) H' := fun h H' e => badg (fun hb => by
            obtain ⟨f, t, p, ys', _, _, _, e4, _, _, _, _, hw⟩ := gex hb
            cases e4
            exact h hw) H' (e3.trans e)
          refine ⟨v, rfl, .ref ag, rfl, ag, _, 3, .ref bg, rfl, rfl, Evl.ex_t e3 hag, atI_nat (j := 3) rfl, .int (i : Nat), rfl, bg, yvs, (i : Nat), yv, rfl, rfl, Evl.ex_t e3 hbg, atI_nat hyv, v, yv, l, dy, false, rfl, hL.mono (TX.ex e13), semi, hyt.ex e3, fun H4 e4 => ?_⟩
          rw [if_neg Bool.false_ne_true]
          refine ⟨_, rfl, ?_⟩
          have e34 := e3.trans e4
          cases hP : placesB dy (manysOf l) with
          | false =>
            refine iteT (iteT (badw (fun hw => ?_) H4 e4))
            have := (ways_parts hw).2.1 dy (List.mem_of_getElem? hdy)
            rw [hP] at this
            cases this
          | true =>
          refine iteF ?_
          have pl1 : ∀ j y, j < i + 1 → ys[j]? = some y → placesB y (manysOf l) = true := fun j y hj hy => by
            by_cases e : j = i
            · subst e
              rw [hdy] at hy
              cases hy
              exact hP
            · exact hpl j y (by omega) hy
          have strict : ∀ (j : Nat) (y : PyData), ys[j]? = some y → placesB y (manysOf l) = true → ∃ ya, yvs[j]? = some (.ref ya) ∧ SqT K H1 ya ((wdG y).map V.int) := fun j y hy hpy => by
            obtain ⟨yv', hyv', hyt'⟩ := Paired.get2 hyp hy
            obtain ⟨ns, rfl, _⟩ := places_ints hpy
            obtain ⟨ya, rfl, hya⟩ := ints_th hyt'
            refine ⟨ya, hyv', ?_⟩
            show SqT K H1 ya (((ns.map PyData.int).map intD).map V.int)
            rw [ints_back]
            exact hya
          refine ⟨.int (i : Nat), rfl, (i : Nat), 0, rfl, rfl, _, rfl, ?_⟩
          refine ite2 (fun hc => ?_) (fun hc => ?_)
          · have i0 : 0 < i := by
              have := of_decide_eq_true hc
              omega
            obtain ⟨i', rfl⟩ : ∃ i', i = i' + 1 := ⟨i - 1, by omega⟩
            obtain ⟨dp, hdp⟩ : ∃ dp, ys[i']? = some dp := ⟨ys[i'], List.getElem?_eq_getElem (by omega)⟩
            obtain ⟨a1, ha1, hs1⟩ := strict i' dp hdp (hpl i' dp (by omega) hdp)
            obtain ⟨a2, ha2, hs2⟩ := strict (i' + 1) dy hdy hP
            refine ⟨.ref ag, rfl, ag, _, 3, .ref bg, rfl, rfl, Evl.ex_t e34 hag, atI_nat (j := 3) rfl, .int ((i' + 1 : Nat) : Int), rfl, ((i' + 1 : Nat) : Int), 1, rfl, rfl, bg, yvs, ((i' + 1 : Nat) : Int) - 1, .ref a1, rfl, rfl, Evl.ex_t e34 hbg, ?_, .ref ag, rfl, ag, _, 3, .ref bg, rfl, rfl, Evl.ex_t e34 hag, atI_nat (j := 3) rfl, .int ((i' + 1 : Nat) : Int), rfl, bg, yvs, ((i' + 1 : Nat) : Int), .ref a2, rfl, rfl, Evl.ex_t e34 hbg, atI_nat ha2, a1, a2, wdG dp, wdG dy, rfl, rfl, Evl.ex_t e34 hs1, Evl.ex_t e34 hs2, _, rfl, ?_⟩
            · rw [show ((i' + 1 : Nat) : Int) - 1 = ((i' : Nat) : Int) by omega]
              exact atI_nat ha1
            cases hR : HT.lexLt (wdG dp) (wdG dy) with
            | false =>
              refine iteT (badw (fun hw => ?_) H4 e4)
              have := (ways_parts hw).2.2 i' _ _ hdp hdy
              rw [hR] at this
              cases this
            | true =>
              refine iteF ?_
              refine ⟨_, rfl, e34, pl1, fun j a b hj ha hb => ?_⟩
              by_cases e : j = i'
              · subst e
                rw [hdp] at ha
                rw [hdy] at hb
                cases ha
                cases hb
                exact hR
              · exact hrw j a b (by omega) ha hb
          · refine iteF ?_
            refine ⟨_, rfl, e34, pl1, fun j a b hj => ?_⟩
            have : ¬ (0 : Int) < (i : Nat) := fun z => hc (decide_eq_true z)
            omega
        · rintro σ H3 ⟨y6, rfl, e3, hpl, hrw⟩
          have en : ((yvs.length : Nat) : Int).toNat = ys.length := by omega
          rw [en] at hpl hrw
          refine ⟨_, _, _, rfl, e1.trans e3, fun j g hj hgj => ?_, hri1⟩
          by_cases e : j = k
          · subst e
            rw [hdg] at hgj
            cases hgj
            refine ⟨gf, gt, gp, ys, rfl, gf0, gf1, gt0, gt1, gne, gp0, gp1, fun y hy => ?_, fun i a b ha hb => hrw i a b (List.getElem?_eq_some_iff.mp hb).1 ha hb⟩
            obtain ⟨i, hi⟩ := List.mem_iff_getElem?.mp hy
            exact hpl i y (List.getElem?_eq_some_iff.mp hi).1 hi
          · exact hgl j g (by omega) hgj
      · refine ⟨.ref ag, rfl, ag, _, 3, z4, rfl, rfl, hag, atI_nat (j := 3) rfl, z4, .ty "tuple", .type (tyS e4'), .type "tuple", isTup e4', rfl, .ty _, s4.ty, kit_ty (kit_tup e4'), isTup e4', rfl, ?_⟩
        cases hT4 : isTup e4' with
        | false =>
          refine iteT (iteT (badg (fun hb => ?_) H1 (Evl.Ex.refl H1)))
          obtain ⟨f, t, p, ys, _, _, _, rfl, _⟩ := gex hb
          cases hT4
        | true =>
        refine iteF ?_
        obtain ⟨ys, rfl⟩ := tup_of hT4
        obtain ⟨bg_, yvs, rfl, hbg, hyp⟩ := s4.items
        have yl : yvs.length = ys.length := Paired.len hyp
        have keyk : keyG (gs.getD k .none) = (gf, gt) := by rw [getD_of hdg]; rfl
        have fin : (∀ j, j + 1 < k + 1 → riseK gs j = true) → ∀ H2, Evl.Ex H1 H2 → (∃ (bg : Addr) (yvs : List V) (ys' : List PyData), V.ref bg_ = V.ref bg ∧ PyData.tuple ys = PyData.tuple ys' ∧ SqT K H1 bg yvs ∧ Paired (Th K H1) yvs ys') ∧ ([some v, some (.ref ua), some (.int m), some (.ref c), some (.int (k : Nat)), some (.ref ag), y6] : L2.St) = [some v, some (.ref ua), some (.int m), some (.ref c), some (.int (k : Nat)), some (.ref ag), y6] ∧ Evl.Ex H1 H2 ∧ ∀ j, j + 1 < k + 1 → riseK gs j = true := fun h H2 e => ⟨⟨bg_, yvs, ys, rfl, rfl, hbg, hyp⟩, rfl, e, h⟩
        refine ⟨.int (k : Nat), rfl, (k : Nat), 0, rfl, rfl, _, rfl, ?_⟩
        refine ite2 (fun hc => ?_) (fun hc => ?_)
        · have k0 : 0 < k := by
            have := of_decide_eq_true hc
            omega
          obtain ⟨k', rfl⟩ : ∃ k', k = k' + 1 := ⟨k - 1, by omega⟩
          obtain ⟨dp, hdp⟩ : ∃ dp, gs[k']? = some dp := ⟨gs[k'], List.getElem?_eq_getElem (by omega)⟩
          obtain ⟨xp, hxp, hthp⟩ := Paired.get2 hgp hdp
          obtain ⟨pf, pt, pp, pys, G⟩ := hgl k' dp (by omega) hdp
          have kp := G.key
          obtain ⟨rfl, _⟩ := G
          obtain ⟨agp, bgp, wsp, rfl, hp1, hp2, hp3⟩ := th_gap (hthp.ex e1)
          refine ⟨.ref c, rfl, .int ((k' + 1 : Nat) : Int), rfl, ((k' + 1 : Nat) : Int), 1, rfl, rfl, c, gvs, ((k' + 1 : Nat) : Int) - 1, .ref agp, rfl, rfl, Evl.ex_t e1 hg, ?_, 2, rfl, agp, _, rfl, hp1, fun z => absurd (show HT.sIx 4 4 (some 2) = 4 from z.2) (by decide), fun _ p np => ?_⟩
          · rw [show ((k' + 1 : Nat) : Int) - 1 = ((k' : Nat) : Int) by omega]
            exact atI_nat hxp
          rw [cut2]
          have e5 := Evl.Ex.new (o := .tup [V.int pf, V.int pt]) np
          have g5 : (upd H1 p (.tup [V.int pf, V.int pt])) p = some (.tup [V.int pf, V.int pt]) := upd_same
          generalize upd H1 p (.tup [V.int pf, V.int pt]) = H5 at e5 g5
          refine ⟨.ref ag, rfl, 2, rfl, ag, _, rfl, Evl.ex_t e5 hag, fun z => absurd (show HT.sIx 4 4 (some 2) = 4 from z.2) (by decide), fun _ p' np' => ?_⟩
          rw [cut2]
          have e6 := Evl.Ex.new (o := .tup [V.int gf, V.int gt]) np'
          refine ⟨p, p', [pf, pt], [gf, gt], rfl, rfl, .inl (.inl (e6 _ _ g5)), .inl (.inl upd_same), _, rfl, ?_⟩
          rw [key_lex]
          have rk : riseK gs k' = keyLt (pf, pt) (gf, gt) := by
            unfold riseK
            rw [getD_of hdp, kp, keyk]
          cases hK : keyLt (pf, pt) (gf, gt) with
          | false =>
            refine iteT (bad (fun hb => ?_) _ (e1.trans (e5.trans e6)))
            have z := (gapOf hb).2 k' _ _ hdp hdg
            rw [kp] at z
            rw [getD_of hdg] at keyk
            rw [keyk, hK] at z
            cases z
          | true =>
            refine iteF ?_
            refine fin (fun j hj => ?_) _ (e5.trans e6)
            by_cases e : j = k'
            · rw [e, rk]
              exact hK
            · exact hri j (by omega)
        · refine iteF ?_
          refine fin (fun j hj => ?_) _ (Evl.Ex.refl H1)
          have : ¬ (0 : Int) < (k : Nat) := fun z => hc (decide_eq_true z)
          omega
    · rintro σ H1 ⟨y4, y5, y6, rfl, e1, hgl, hri⟩
      have en : ((gvs.length : Nat) : Int).toNat = gs.length := by omega
      rw [en] at hgl hri
      have all1 : ∀ g ∈ gs, ∃ f t p ys, GapL g m (manysOf l) f t p ys := fun g hg => by
        obtain ⟨j, hj⟩ := List.mem_iff_getElem?.mp hg
        exact hgl j g (List.getElem?_eq_some_iff.mp hj).1 hj
      have ans := bolt_by m0 m1 all1 hri
      refine ⟨.ref c, rfl, c, rfl, ⟨gvs, Evl.ex_t e1 hg⟩, fun D0 hD => ?_⟩
      refine lc_tup (K := K) (a := c) (xs := gvs) (fun i H' => Evl.Ex H1 H' ∧ H' D0 = some (.lst (((gs.take i).map (fun g => ((nwG g : Nat) : Int))).map V.int))) ⟨Evl.Ex.new hD, upd_same⟩ ?_ ?_ ?_
      · rintro i H' _ ⟨e2, _⟩
        exact Evl.ex_t (e1.trans e2) hg
      · rintro i x H2 hxi ⟨e2, hD2⟩
        obtain ⟨dg, hdg, hth⟩ := Paired.get1 hgp hxi
        have il : i < gs.length := (List.getElem?_eq_some_iff.mp hdg).1
        obtain ⟨f, t, p, ys, G⟩ := all1 dg (List.mem_of_getElem? hdg)
        have nw := G.nw
        obtain ⟨rfl, _⟩ := G
        obtain ⟨ag, bg, ws, rfl, h1, h2, h3⟩ := th_gap (hth.ex (e1.trans e2))
        have wl : ws.length = ys.length := Paired.len h3
        refine ⟨rfl, .ref ag, rfl, ag, _, 3, .ref bg, rfl, rfl, h1, atI_nat (j := 3) rfl, bg, ws, rfl, .inr h2, _, hD2, ?_, e2.mut hD, ?_⟩
        · rw [List.length_map, List.length_map, List.length_take]
          exact Nat.lt_of_le_of_lt (show min i gs.length ≤ 1000000 by omega) (by decide)
        · rw [upd_same, take_succ_get hdg, List.map_append, List.map_append, wl, ← nw]
          rfl
      · rintro H2 ⟨e2, hD2⟩
        rw [gl, List.take_length] at hD2
        refine ⟨D0, _, rfl, SqL.of hD2, _, 8, rfl, rfl, ?_⟩
        have z : ∀ xs : List PyData, (xs.map (fun g => ((nwG g : Nat) : Int))).sum = (((xs.map nwG).sum : Nat) : Int) := by
          intro xs
          induction xs with
          | nil => rfl
          | cons g xs ih => simp [ih]
        rw [z]
        have s8 : decide ((((gs.map nwG).sum : Nat) : Int) ≤ 8) = decide ((gs.map nwG).sum ≤ 8) := decide_eq_decide.mpr (by omega)
        show Q (.bl (decide (_ ≤ 8))) H2
        rw [s8, ← ans]
        exact q H2 (e1.trans e2)
end
end Wb

set_option Elab.async false
set_option linter.all false
set_option maxRecDepth 100000
set_option maxHeartbeats 4000000
namespace Wb
open PySem PySem.Spec PyProof.Rows L2
/-! ### set(xs) of a long list of tuples of whole numbers, few of them unlike -/
def FewT (ks : List (Addr × List Int)) : Prop := ∀ L : List (Addr × List Int), (L.map (·.2)).Nodup → (∀ p ∈ L, p ∈ ks) → L.length + 1 < 64
section
variable {P : Program} {w : World} {A : Around} {E : Value → Shared → Prop} {s : Shared}
/-- what stands in the set behind some items -/
def Upto (P : Program) (w : World) (S : Addr) (ks : List (Addr × List Int)) (i : Nat) (h : Heap) : Prop := ∃ L es ep t, SetTR P w h S L es ep t ∧ Got ks i L
theorem loop_few {I : Addr} {fp wr : List Addr} {G : Array GenState → Array GenState → Prop} {Pv : Nat → Value → Prop} {St : Nat → Shared → Prop} {R : Result → Shared → Prop} {ks : List (Addr × List Int)}
    (W : WalksS P w A.in1 I fp wr G ks.length Pv St) {S : Addr} (hS : S ∉ fp) (few : FewT ks) (val : ∀ i v, Pv i v → ∃ p, ks[i]? = some p ∧ v = .ref p.1) {h0 : Heap} (tup : ∀ p ∈ ks, IsT P w h0 p.2 p.1) (fresh : ∀ b ∈ S :: wr, h0.get? b = none) (hu : A.in1.units < cLine)
    (fin : ∀ s', Moved (S :: wr) G s s' → Upto P w S ks ks.length s'.heap → (∀ b o, h0.get? b = some o → s'.heap.get? b = some o) → R (.ok (.ret .none)) s') :
    ∀ (m i : Nat) (s1 : Shared), ks.length = i + m → St i s1 → Moved (S :: wr) G s s1 → (∀ b o, h0.get? b = some o → s1.heap.get? b = some o) → Upto P w S ks i s1.heap →
      codeAny (model P w) A (.builtin "set.update.loop" ⟨[.ref S, .ref I], []⟩) R s1 := by
  have Swr : S ∉ wr := fun h => hS (W.sub _ h)
  have old : ∀ {b : Addr} {o : Obj}, h0.get? b = some o → b ∉ S :: wr := fun {b o} e hb => by
    rw [fresh b hb] at e
    cases e
  have wide : ∀ b ∈ wr, b ∈ S :: wr := fun b hb => List.mem_cons_of_mem _ hb
  -- what an item's turn leaves
  have turn : ∀ {i : Nat} {sa sb : Shared}, Moved wr G sa sb → (∀ b o, h0.get? b = some o → sa.heap.get? b = some o) → Upto P w S ks i sa.heap → (∀ b o, h0.get? b = some o → sb.heap.get? b = some o) ∧ Upto P w S ks i sb.heap := by
    intro i sa sb mv kp ⟨L, es, ep, t, q, g⟩
    have kp' : ∀ b o, h0.get? b = some o → sb.heap.get? b = some o := fun b o e => mv.heap b o (fun hb => old e (wide b hb)) (kp b o e)
    exact ⟨kp', L, es, ep, t, q.keep (fun o e => mv.heap S o Swr e) fun p hp => isT_keep (tup p (List.mem_of_mem_take (g.sub p hp))) kp', g⟩
  intro m
  induction m with
  | zero =>
    intro i s1 hn hst mv kp up
    obtain rfl : ks.length = i := by omega
    refine codeAny_builtin F.entry_set_update_loop ?_
    rw [Around.under_plainId F.plain_set_update_loop _]
    show wpAny _ A.in1 (pyNext (.ref I) >>= _) _ _ s1
    refine wpAny_bind (W.done s1 _ _ hst fun s2 mv2 => ?_)
    obtain ⟨kp2, up2⟩ := turn mv2 kp up
    show wpAny _ A.in1 (ret Value.none) _ _ s2
    exact wpAny_pure (fin s2 (Moved.trans W.gtrans mv (mv2.mono wide)) up2 kp2)
  | succ m ih =>
    intro i s1 hn hst mv kp up
    refine codeAny_builtin F.entry_set_update_loop ?_
    rw [Around.under_plainId F.plain_set_update_loop _]
    show wpAny _ A.in1 (pyNext (.ref I) >>= _) _ _ s1
    refine wpAny_bind (W.item i s1 _ _ (by omega) hst fun v s2 hv hst2 mv2 => ?_)
    obtain ⟨x, hx, rfl⟩ := val i v hv
    obtain ⟨kp2, L, es, ep, t, q2, g⟩ := turn mv2 kp up
    have xt : IsT P w s2.heap x.2 x.1 := isT_keep (tup x (List.mem_of_getElem? hx)) kp2
    show wpAny _ A.in1 (holding [Value.ref x.1] (setAdd S (.ref x.1)) >>= _) _ _ s2
    refine wpAny_bind (wpAny_holding ?_)
    unfold setAdd
    refine wpAny_holding (wpAny_bind (wpAny_pyHash_tuple hu xt ?_))
    refine add_at (s := { s2 with toks := s2.toks + (x.2.length + 1) }) q2 xt hu (few L q2.nd fun p hp => List.mem_of_mem_take (g.sub p hp)) fun b h3 L3 es3 ep3 t3 same q3 c1 c2 => ?_
    have g3 : Got ks (i + 1) L3 := (Classical.em (x.2 ∈ L.map (·.2))).elim (fun c => by rw [c1 c]; exact g.same hx c) fun c => g.more hx (c2 c)
    have still : ∀ b o, b ≠ S → s2.heap.get? b = some o → h3.get? b = some o := fun b o n e => (same.2 b n).trans e
    refine wpAny_pure ⟨plainId_quiet F.plain_set_update_loop _, ih (i + 1) _ (by omega) (W.frame _ s2 _ _ hst2 (Nat.le_add_right _ _) fun b hb o e => still b o (fun z => hS (z ▸ hb)) e) ?_ (fun b o e => still b o (fun z => old e (z ▸ List.mem_cons_self)) (kp2 b o e)) ⟨L3, es3, ep3, t3, q3, g3⟩⟩
    exact (Moved.trans W.gtrans mv (mv2.mono wide)).then_heap (Nat.le_add_right _ _) fun b o hb e => still b o (fun z => hb (z ▸ List.mem_cons_self)) e
set_option maxHeartbeats 3200000 in
theorem call_set_few {l : Addr} {its : Array Value} {ks : List (Addr × List Int)} {Q : Value → Shared → Prop} (calm : A.handled = none) (hl : s.heap.IsList l its) (hv : its.toList = ks.map fun p => Value.ref p.1) (tup : ∀ p ∈ ks, IsT P w s.heap p.2 p.1) (few : FewT ks) (hu : A.units + 3 < cLine)
    (fin : ∀ (h' : Heap) (tk : Nat), Upto P w s.heap.objs.size ks ks.length h' → (∀ b o, s.heap.get? b = some o → h'.get? b = some o) → Q (.ref s.heap.objs.size) { s with heap := h', toks := tk }) :
    wpAny (model P w) A (call (.type "set") [.ref l]) Q E s := by
  -- the empty set, at a new place
  let o0 : Obj := { cls := .type "set", dict := none, data := .set #[] 0 (.fresh 0 0 (!w.params.followText "set-order")) }
  let S := s.heap.objs.size
  let s0 : Shared := { s with heap := s.heap.push o0 }
  have at0 : s0.heap.get? S = some o0 := Heap.get?_push_size _ rfl
  have size0 : s0.heap.objs.size = S + 1 := Heap.size_push ..
  obtain ⟨cs, tl, hmro⟩ := F.called_set.mro
  have hmade := F.called_set.made
  have hsub := F.called_set.sub
  refine wpAny_call (codeAny_of_tree ?_)
  show wpAny _ _ (callAny (.type "set") _) _ _ _
  refine wpAny_pure ⟨Code.quiet_builtin _ (by decide +kernel), codeAny_builtin F.entry_type_call ?_⟩
  rw [Around.under_plain (weight_type_call_type "set" [.ref l] []) rfl]
  have h1 := F.called_set.notType
  have h2 := F.called_set.canCreate
  have hct := F.typeCall_set_1 (.ref l)
  repeat (any_goals (first | assumption | wp_step))

  refine codeAny_mono (code_set_led1 (.ref l) (E := E) (Q₁ := fun x y => x = .ref S ∧ y = s0) ⟨rfl, rfl⟩) fun r y hr => ?_
  cases r with
  | error e => exact hr
  | ok fl =>
    cases fl with
    | ret x =>
      obtain ⟨rfl, rfl⟩ := hr
      have hT : Shared.TypeIs s0 (.ref S) "set" := ⟨_, at0, rfl⟩
      have hli := F.called_set.init.lookup
      have hbi := F.called_set.init.bind (.ref S)
      repeat (any_goals (first | assumption | wp_step))

      refine codeAny_mono (codeAny_call_builtin (R := wants (fun r y => r = .none ∧ ∃ h' tk, y = { s with heap := h', toks := tk } ∧ Upto P w S ks ks.length h' ∧ ∀ b o, s.heap.get? b = some o → h'.get? b = some o) E) F.called_set.init.plain F.entry_set_init (check_set_init_1 hT ?_)) fun r y hr => ?_
      · have hl0 : s0.heap.IsList l its := by
          obtain ⟨o, a, b, n, d⟩ := hl
          exact ⟨o, Heap.get?_push_of_some _ a, b, n, d⟩
        have lS : l < S := by
          obtain ⟨o, a, _⟩ := hl
          exact Heap.lt_size a
        have hsls := F.sub_list_set
        have hslf := F.sub_list_frozenset
        have hne : (Value.type "list" == Value.type "dict") = false := by decide
        obtain ⟨ol, e1, e2, n, e3⟩ := hl0
        obtain ⟨c0, d0, a0, sl0⟩ := ol
        simp only at e2 e3
        subst e2 e3
        have hl1 : s0.heap.IsList l its := ⟨_, e1, rfl, n, rfl⟩
        unfold Builtin.«set.__init__» noKeywords Builtin.Frozenset.updateFrom
        generalize hPI : pyIter = PI
        wp_walk
        subst hPI
        refine wpAny_pyIter_list hl1 (wpAny_bind (wpAny_runValue ?_))
        have none_of : ∀ b, S ≤ b → s.heap.get? b = none := fun b hb => by
          cases q : s.heap.get? b with
          | none => rfl
          | some o => exact absurd (Heap.lt_size q) (Nat.not_lt.mpr hb)
        have nI : l ≠ s0.heap.objs.size := by rw [size0]; exact Nat.ne_of_lt (Nat.lt_succ_of_lt lS)
        have nS : S ∉ [s0.heap.objs.size, l] := by
          rw [size0]
          simp only [List.mem_cons, List.not_mem_nil, or_false, not_or]
          exact ⟨Nat.ne_of_lt (Nat.lt_succ_self S), Nat.ne_of_gt lS⟩
        have kl : its.size = ks.length := by
          have := congrArg List.length hv
          rwa [Array.length_toList, List.length_map] at this
        have W := (Walks.list (prog := P) (w := w) (A := A.in1.in1.in1) (by simp [calm]) _ l nI its).toS
        rw [kl] at W
        refine loop_few W nS few (fun i v hi => ?_) (h0 := s.heap) tup (fun b hb => none_of b ?_) hu (fun s2 mv up kp => ?_) ks.length 0 _ (by omega) ⟨⟨_, Heap.get?_push_size _ rfl, rfl, rfl⟩, hl1.push _⟩ ⟨fun b o _ e => e, W.grefl _, rfl, rfl, Nat.le_refl _⟩ (fun b o e => Heap.get?_push_of_some _ (Heap.get?_push_of_some _ e)) ⟨[], #[], 0, _, setTR_fresh (Heap.get?_push_of_some _ at0), Got.zero ks⟩
        · have q : its.toList[i]? = some v := by rw [Array.getElem?_toList]; exact hi
          rw [hv, List.getElem?_map] at q
          obtain ⟨p, hp, rfl⟩ := Option.map_eq_some_iff.mp q
          exact ⟨p, hp, rfl⟩
        · rcases List.mem_cons.mp hb with rfl | hb
          · exact Nat.le_refl _
          · rw [List.mem_singleton.mp hb, size0]
            exact Nat.le_succ S
        · obtain ⟨h', g2, d', tk', os'⟩ := s2
          have eg : g2 = s.gens := mv.gens
          have ed : d' = s.drawn := mv.drawn
          have eo : os' = s.os := mv.os
          subst eg ed eo
          show wpAny _ _ _ _ _ _
          refine wpAny_pure ?_
          show wpAny _ _ (ret Value.none) _ _ _
          exact wpAny_pure ⟨rfl, h', tk', rfl, up, kp⟩
      · cases r with
        | error e => exact hr
        | ok fl =>
          cases fl with
          | ret x =>
            obtain ⟨rfl, h', tk, rfl, up, kp⟩ := hr
            repeat (any_goals (first | assumption | wp_step))
            exact fin _ _ up kp
          | _ => exact hr.elim
    | _ => exact hr.elim
end
end Wb

set_option Elab.async false
set_option linter.all false
set_option maxRecDepth 100000
set_option maxHeartbeats 4000000
set_option pp.maxSteps 600
set_option pp.deepTerms false
namespace Wb
open PySem PySem.Spec PyProof.Rows L2
section
variable {X : Cx}
/-- set(xs) of a long list, few of them unlike -/
def rSetFew (K : PySem.W.Frag) (P : Program) (w : World) : List V → Hp → VK → Prop := fun xs H Q => ∃ (l : Addr) (ks : List (Addr × List Int)), xs = [V.ref l] ∧ SqL K H l (ks.map fun p => V.ref p.1) ∧ (∀ p ∈ ks, SqT K H p.1 (p.2.map V.int)) ∧ FewT ks ∧
  ∀ a L, H a = none → (L.map (·.2)).Nodup → (∀ p ∈ L, p ∈ ks) → (∀ p ∈ ks, p.2 ∈ L.map (·.2)) → Q (.ref a) (upd H a (SetTO P w a L))
theorem cr_setFew (hc : X.calm = true) (hu : X.A.units + 64 < cLine) : CallR X (.type "set") (rSetFew X.K X.prog X.w) := by
  intro pins s σ H xs us Q I r h
  obtain ⟨l, ks, rfl, hl, hk, few, q⟩ := h
  obtain ⟨its, rv, pl, hz⟩ := I.list hl
  rw [Vals.ref1 r]
  refine call_set_few (P := X.prog) (w := X.w) (ks := ks) (I.ok.hd hc) pl.isList (by simpa using refs_of_vals rv) (fun p hp => I.isT (hk p hp)) few (by omega) fun h' tk ⟨L, es, ep, t, R, g⟩ k => ?_
  refine ⟨.ref s.heap.objs.size, upd H s.heap.objs.size (SetTO X.prog X.w s.heap.objs.size L), I.laid (t' := tk) k (Nat.le_refl _) (setTO_new R.t0), rfl, q _ L (I.hok.fresh (Nat.le_refl _)) R.nd (fun p hp => List.mem_of_mem_take (g.sub p hp)) fun p hp => g.all p (by rw [List.take_length]; exact hp)⟩
/-- len(set) -/
def rLenSetT (K : PySem.W.Frag) (P : Program) (w : World) : List V → Hp → VK → Prop := fun xs H Q => ∃ (a : Addr) (L : List (Addr × List Int)), xs = [V.ref a] ∧ H a = some (SetTO P w a L) ∧ (∀ p ∈ L, SqT K H p.1 (p.2.map V.int)) ∧ Q (.int (L.length : Nat)) H
theorem call_lenSetT : CallR X (.builtin "len") (rLenSetT X.K X.prog X.w) := by
  intro pins s σ H xs us Q I r h
  obtain ⟨a, L, rfl, ha, ht, q⟩ := h
  rw [Vals.ref1 r]
  have ok : ObjOk X.prog X.w H s.heap a (SetTO X.prog X.w a L) := I.hok a _ ha
  have z : SetT0 X.prog X.w s.heap a L := ok.1
  obtain ⟨es, ep, t, R⟩ := z.full fun p hp => I.isT (ht p hp)
  obtain ⟨o, ho, hex, hd⟩ := R.ob
  have sz := R.size
  have few := R.few
  refine call_len_set ho hex hd R.fits (by omega) ⟨.int (L.length : Nat), H, I.tok _, ⟨_, by rw [sz]⟩, q⟩
end
end Wb

set_option Elab.async false
set_option linter.all false
set_option maxRecDepth 100000
set_option maxHeartbeats 4000000
set_option pp.maxSteps 600
set_option pp.deepTerms false
namespace Wb
open PySem PySem.Spec PyProof.Rows L2
abbrev sLFault : Stmt := topS 32
abbrev nLFault : List Str := ["_law_thing", "_law_k", "_law_words", "_law_bolt", "_law_gap", "_law_way"]
theorem scLFault : FnScope nLFault ["_law_thing"] (defScope sLFault) := ⟨rfl, rfl, rfl, by decide +kernel, rfl, by decide +kernel, by decide +kernel⟩
/-- no part of a thing is of more than a million things -/
def Sz (d : PyData) : Prop := ∀ e ∈ itemsD d, ∀ m g, e = .tuple [m, .tuple g] → g.length ≤ 1000000 ∧ ∀ x ∈ g, (itemsD (itD x 3)).length ≤ 1000000
/-- where all its bolts are right, few words are unlike -/
def FewW (d : PyData) : Prop := (∀ j < (itemsD d).length, boltsAt (itemsD d) j = true) → ∀ k, wordsN (lockD (itemsD d)) k ≤ 60
def spLFault (K : PySem.W.Frag) : Sp := fun vs H Q _ => ∃ (v : V) (d : PyData), vs = [v] ∧ Th K H v d ∧ Sz d ∧ FewW d ∧ ∀ H' u, Evl.Ex H H' → Th K H' u (faultD d) → Q u H'
theorem sum_take_le : ∀ (xs : List Nat) (i : Nat), (xs.take i).sum ≤ xs.sum
  | [], i => by simp
  | x :: xs, 0 => by simp
  | x :: xs, i + 1 => by
    rw [List.take_succ_cons, List.sum_cons, List.sum_cons]
    have := sum_take_le xs i
    omega
/-- words in a list, by what they are -/
def WsAt (K : PySem.W.Frag) (H : Hp) (a : Addr) (us : List Word) : Prop := ∃ ks : List (Addr × List Int), H a = some (.lst (ks.map fun p => V.ref p.1)) ∧ (∀ p ∈ ks, SqT K H p.1 (p.2.map V.int)) ∧ ks.map (·.2) = us
theorem WsAt.ex {K : PySem.W.Frag} {H H' : Hp} (e : Evl.Ex H H') {a : Addr} {us : List Word} (h : WsAt K H a us) : WsAt K H' a us := by
  obtain ⟨ks, h1, h2, h3⟩ := h
  exact ⟨ks, e _ _ h1, fun p hp => Evl.ex_t e (h2 p hp), h3⟩
theorem cutV_whole {xs : List V} {lo hi : Option Int} (h : HT.sIx xs.length 0 lo = 0 ∧ HT.sIx xs.length xs.length hi = xs.length) : cutV xs lo hi = xs := by
  unfold cutV
  rw [h.1, h.2, List.drop_zero, Nat.sub_zero, List.take_length]
theorem cut_drop (xs : List V) {k : Nat} (h : k ≤ xs.length) : cutV xs (some (k : Int)) none = xs.drop k := by
  unfold cutV
  rw [HT.sIx_none, HT.sIx_nat]
  rw [List.take_of_length_le]
  · congr 1
    omega
  · rw [List.length_drop]
    omega
theorem paired_drop {α β : Type} {R : α → β → Prop} : ∀ {xs : List α} {ys : List β} (n : Nat), Paired R xs ys → Paired R (xs.drop n) (ys.drop n)
  | _, _, 0, h => h
  | _, _, _ + 1, .nil => .nil
  | _, _, n + 1, .cons _ t => paired_drop n t
theorem sl_sq {K : PySem.W.Frag} {H : Hp} {a : Addr} {xs : List V} {lo hi : Option Int} {Q : VK} (ha : SqT K H a xs) (q : ∀ H' z, Evl.Ex H H' → SqT K H' z (cutV xs lo hi) → Q (.ref z) H') : rSlA K (.ref a) lo hi H Q := by
  refine ⟨a, xs, rfl, ha, fun h => ?_, fun _ t nt => ?_⟩
  · exact q H a (Evl.Ex.refl H) (by rw [cutV_whole h]; exact ha)
  · exact q _ t (Evl.Ex.new nt) (.inl (.inl upd_same))
theorem few_of {l : Lock} {k : Nat} {ks : List (Addr × List Int)} (h : ks.map (·.2) = cutList l k) (w : wordsN l k ≤ 60) : FewT ks := by
  intro L nd sub
  have z : (L.map (·.2)).length ≤ (dedW (cutList l k)).length := nodup_le nd fun u hu => by
    obtain ⟨p, hp, rfl⟩ := List.mem_map.mp hu
    unfold dedW
    rw [ded_mem, ← h]
    exact .inr (List.mem_map.mpr ⟨p, sub p hp, rfl⟩)
  rw [List.length_map] at z
  unfold wordsN at w
  omega
theorem set_words {l : Lock} {k : Nat} {ks L : List (Addr × List Int)} (h : ks.map (·.2) = cutList l k) (nd : (L.map (·.2)).Nodup) (sub : ∀ p ∈ L, p ∈ ks) (all : ∀ p ∈ ks, p.2 ∈ L.map (·.2)) : L.length = wordsN l k := by
  have z : WordsAt l k (L.map (·.2)) := ⟨nd, fun u => by
    rw [← mem_cutList, ← h]
    constructor
    · intro hu
      obtain ⟨p, hp, rfl⟩ := List.mem_map.mp hu
      exact List.mem_map.mpr ⟨p, sub p hp, rfl⟩
    · intro hu
      obtain ⟨p, hp, rfl⟩ := List.mem_map.mp hu
      exact all p hp⟩
  have := words_len z
  rwa [List.length_map] at this
section
variable {P : Program} {w : World} {K : PySem.W.Frag} {mg : Str → Option Value} {base : Heap}
theorem ok_lfault {f f1 f2 f3 : Addr} {fd fd1 fd2 fd3 : FuncData} (F : Fun K "_law_fault" "_law_fault" sLFault f fd) (F1 : Fun K "_law_whole" "_law_whole" sLWhole f1 fd1) (b1 : Binds K fd1 ["_law_thing", "_law_least_one", "_law_most_one"] []) (g1 : mg "_law_whole" = some (.ref f1))
    (F2 : Fun K "_law_is_word" "_law_is_word" sLIsWord f2 fd2) (b2 : Binds K fd2 ["_law_lock_here", "_law_thing", "_law_is_wish_like"] []) (g2 : mg "_law_is_word" = some (.ref f2))
    (F3 : Fun K "_law_is_bolt" "_law_is_bolt" sLBolt f3 fd3) (b3 : Binds K fd3 ["_law_under", "_law_thing"] []) (g3 : mg "_law_is_bolt" = some (.ref f3)) (sm : mg "sum" = none) (B : Bi mg) :
    FnOk P w K mg base CX0 4 f fd ["_law_thing"] (spLFault K) := by
  have G3 : FnOk P w K mg base CX0 3 f3 fd3 ["_law_under", "_law_thing"] (spLBolt K) := ok_lbolt F3 F1 b1 g1 F2 b2 g2 sm B
  refine F.ok scLFault (fun vs H Q E h => ?_) (fun cdv A outer s H vs Q E hr h => ?_)
  · obtain ⟨v, d, rfl, _⟩ := h; rfl
  · obtain ⟨v, d, rfl, hv, sz, few, q⟩ := h
    refine ⟨_, pss_cons (ps_if (PW.pt (pw_or (pt_not (pt_val (pe_callB call_isi (by rfl) B.isi boot_isinstance (pa_cons (pv 0) (pa_cons (pe_bltn (v := .ty "tuple") (by rfl) B.tuple (by decide +kernel) rfl) pa_nil)))))
          (pw_or1 (pt_not (pt_chain op_lt op_lt pe_int (pe_callB call_len_seq (by rfl) B.len PySem.boot_len (pa_cons (pv 0) pa_nil)) pe_int))))) (pss_one (ps_ret (pe_tup (pa_cons pe_str pa_nil)))) pss_nil)
      (pss_cons (ps_for PassesOwn.never rfl (pi_range1 (by rfl) B.range (pa_cons (pe_callB call_len_seq (by rfl) B.len PySem.boot_len (pa_cons (pv 0) pa_nil)) pa_nil)) (pg_name (i := 1) scLFault.nd rfl (.inr rfl))
        (pss_one (ps_if (pt_not (pt_val (pe_call G3 hr (by rfl) g3 F3.kp b3 .nil pass0 (pa_cons (pe_slice (r := rSlA K) sl_tupA (pv 0) po_none (po_some (pv 1))) (pa_cons (pe_ix (r := rIxT K) ix_tup (pv 0) (pv 1) (fun _ _ => rfl)) pa_nil))))) (pss_one (ps_ret (pe_tup (pa_cons pe_str (pa_cons (pv 1) pa_nil))))) pss_nil)))
      (pss_cons (ps_for PassesOwn.never rfl (pi_range1 (by rfl) B.range (pa_cons (pe_callB call_len_seq (by rfl) B.len PySem.boot_len (pa_cons (pv 0) pa_nil)) pa_nil)) (pg_name (i := 1) scLFault.nd rfl (.inr rfl))
        (pss_cons (ps_set (i := 2) scLFault.nd rfl (.inl rfl) (pe_lst pa_nil))
        (pss_cons (ps_for PassesOwn.never rfl (pi_tup (pe_slice (r := rSlA K) sl_tupA (pv 0) (po_some (pv 1)) po_none)) (pg_name (i := 3) scLFault.nd rfl (.inl rfl))
          (pss_one (ps_for PassesOwn.never rfl (pi_tup (pe_ix (r := rIxT K) ix_tup (pv 3) pe_int (fun _ _ => rfl))) (pg_name (i := 4) scLFault.nd rfl (.inl rfl))
            (pss_one (ps_set (i := 2) scLFault.nd rfl (.inl rfl) (pe_op op_cat (pv 2) (pe_lc (own := [("_law_way", 5)]) (g := gName 5) rfl scLFault.nd (pi_tup (pe_ix (r := rIxT K) ix_tup (pv 4) pe_int (fun _ _ => rfl))) (blkOk_by (own := [("_law_way", 5)]) (N := nLFault) (sc := defScope sLFault) (by decide +kernel))
              (fun _ _ _ _ _ => pg_name (i := 5) scLFault.nd rfl (Or.inl rfl)) (fun _ _ _ _ _ => pts_nil) (fun _ _ _ _ _ => pe_slice (r := rSlA K) sl_tupA (pv 5) po_none (po_some (pv 1))))))))))
        (pss_one (ps_if (pt_cmpR op_gt (pe_callB (r := rLenSetT K P w) call_lenSetT (by rfl) B.len PySem.boot_len (pa_cons (pe_callTy (r := rSetFew K P w) (cr_setFew rfl hr.units) (by rfl) B.set PyProof.Rows.boot_set (pa_cons (pv 2) pa_nil)) pa_nil)) pe_int (nomark _)) (pss_one (ps_ret (pe_tup (pa_cons pe_str (pa_cons (pv 1) pa_nil))))) pss_nil)))))
      (pss_one (ps_ret pe_non)))), ?_⟩
    have lockW : (isTup d && (decide (1 ≤ (itemsD d).length) && decide ((itemsD d).length ≤ 60))) = false → ∀ H' t, Evl.Ex H H' → H' t = none → Q (.ref t) (upd H' t (.tup [.str "lock"])) := fun hz H' t e nt => by
      refine q _ _ (e.trans (Evl.Ex.new nt)) ?_
      rw [fault_lock hz]
      exact .tup upd_same (.cons (.str _) .nil)
    refine ⟨v, rfl, v, .ty "tuple", .type (tyS d), .type "tuple", isTup d, rfl, .ty _, hv.ty, kit_ty (kit_tup d), isTup d, rfl, ?_⟩
    cases ht : isTup d with
    | false =>
      refine iteT (iteT ⟨(by show 1 ≤ sizeLine; decide), fun t nt => lockW (by rw [ht]; rfl) H t (Evl.Ex.refl H) nt⟩)
    | true =>
    obtain ⟨ds, rfl⟩ := tup_of ht
    obtain ⟨a, bs, rfl, hx, hp⟩ := hv.items
    have bl : bs.length = ds.length := Paired.len hp
    refine iteF ?_
    refine ⟨.ref a, rfl, a, bs, rfl, .inr hx, 0, (bs.length : Nat), rfl, rfl, _, rfl, ?_⟩
    by_cases n0 : 1 ≤ ds.length
    rotate_left
    · rw [if_neg (by rw [decide_eq_false (show ¬ (0 : Int) < (bs.length : Nat) by omega)]; exact Bool.false_ne_true)]
      refine ⟨false, rfl, iteT ⟨(by show 1 ≤ sizeLine; decide), fun t nt => lockW ?_ H t (Evl.Ex.refl H) nt⟩⟩
      show (true && (decide (1 ≤ ds.length) && decide (ds.length ≤ 60))) = false
      rw [decide_eq_false n0]
      rfl
    rw [if_pos (decide_eq_true (show (0 : Int) < (bs.length : Nat) by omega))]
    refine ⟨(bs.length : Nat), 61, rfl, rfl, _, rfl, ?_⟩
    by_cases n60 : ds.length ≤ 60
    rotate_left
    · rw [decide_eq_false (show ¬ ((bs.length : Nat) : Int) < 61 by omega)]
      refine iteT ⟨(by show 1 ≤ sizeLine; decide), fun t nt => lockW ?_ H t (Evl.Ex.refl H) nt⟩
      show (true && (decide (1 ≤ ds.length) && decide (ds.length ≤ 60))) = false
      rw [decide_eq_false n60, Bool.and_false]
      rfl
    rw [decide_eq_true (show ((bs.length : Nat) : Int) < 61 by omega)]
    refine iteF ?_
    -- the bolts, one by one
    refine ⟨.ref a, rfl, a, bs, rfl, .inr hx, _, rfl, by omega, by omega, ?_⟩
    refine for_range (lo := 0) (n := ((bs.length : Nat) : Int).toNat) (fun i σ H' => ∃ (y1 y2 y3 y4 y5 : Option V), σ = [some (.ref a), y1, y2, y3, y4, y5] ∧ Evl.Ex H H' ∧ ∀ j < i, boltsAt ds j = true) ⟨none, none, none, none, none, rfl, Evl.Ex.refl H, fun j hj => absurd hj (Nat.not_lt_zero j)⟩ ?_ ?_
    · rintro i σ H1 hi0 ⟨y1, y2, y3, y4, y5, rfl, e1, hall⟩
      have il : i < ds.length := by omega
      have ei : (0 : Int) + (i : Nat) = ((i : Nat) : Int) := by omega
      rw [ei]
      obtain ⟨dd, hdd⟩ : ∃ dd, ds[i]? = some dd := ⟨ds[i], List.getElem?_eq_getElem il⟩
      obtain ⟨y, hy, hth⟩ := Paired.get2 hp hdd
      refine ⟨.ref a, rfl, .int (i : Nat), rfl, (i : Nat), rfl, ?_⟩
      refine sl_sq (K := K) (lo := none) (hi := some (i : Nat)) (Evl.ex_t e1 hx) fun H2 z e2 s2 => ?_
      rw [cut_take] at s2
      have e12 := e1.trans e2
      have semi : SemiOk (lockD (ds.take i)) := by
        have all' : ∀ j < (ds.take i).length, boltsAt (ds.take i) j = true := fun j hj => by
          rw [List.length_take] at hj
          have := hall j (by omega)
          unfold boltsAt at this ⊢
          rw [List.take_take, Nat.min_eq_left (by omega)]
          have z1 : (ds.take i).getD j .none = ds.getD j .none := by
            rw [List.getD_eq_getElem?_getD, List.getD_eq_getElem?_getD, List.getElem?_take, if_pos (by omega)]
          rw [z1]
          exact this
        exact semi_of (by rw [List.length_take]; omega) all'
      have lockz : LockAt K H2 (.ref z) (lockD (ds.take i)) := by
        refine semi_at s2 (Paired.takeN i (Paired.imp (fun _ _ h => h.ex e12) hp)) fun j hj => ?_
        rw [List.length_take] at hj
        have := hall j (by omega)
        unfold boltsAt at this ⊢
        rw [List.take_take, Nat.min_eq_left (by omega)]
        have z1 : (ds.take i).getD j .none = ds.getD j .none := by
          rw [List.getD_eq_getElem?_getD, List.getD_eq_getElem?_getD, List.getElem?_take, if_pos (by omega)]
        rw [z1]
        exact this
      refine ⟨.ref a, rfl, .int (i : Nat), rfl, a, bs, (i : Nat), y, rfl, rfl, Evl.ex_t e12 hx, atI_nat hy, .ref z, y, lockD (ds.take i), dd, rfl, lockz, semi, hth.ex e12, sz dd (List.mem_of_getElem? hdd), fun H3 e3 => ?_⟩
      refine ⟨_, rfl, ?_⟩
      have bA : boltsAt ds i = boltB dd (manysOf (lockD (ds.take i))) := by
        unfold boltsAt
        rw [getD_of hdd]
      rw [← bA]
      have e13 := e12.trans e3
      cases hB : boltsAt ds i with
      | false =>
        refine iteT ?_
        refine ⟨.int (i : Nat), rfl, (by show 2 ≤ sizeLine; decide), fun t nt => ?_⟩
        refine q _ _ (e13.trans (Evl.Ex.new nt)) ?_
        rw [fault_bolt n0 n60 il hB hall]
        exact .tup upd_same (.cons (.str _) (.cons (.int _) .nil))
      | true =>
        refine iteF ?_
        refine ⟨_, _, _, _, _, rfl, e13, fun j hj => ?_⟩
        by_cases e : j = i
        · rw [e]; exact hB
        · exact hall j (by omega)
    rintro σ H1 ⟨y1, y2, y3, y4, y5, rfl, e1, hall⟩
    have en : ((bs.length : Nat) : Int).toNat = ds.length := by omega
    rw [en] at hall
    have semi := semi_of n60 hall
    have hp1 : Paired (Th K H1) bs ds := Paired.imp (fun _ _ h => h.ex e1) hp
    have hx1 := Evl.ex_t e1 hx
    have each : ∀ e ∈ ds, ∃ ms, boltB e ms = true := fun e he => by
      obtain ⟨j, hj⟩ := List.mem_iff_getElem?.mp he
      have := hall j (List.getElem?_eq_some_iff.mp hj).1
      unfold boltsAt at this
      rw [getD_of hj] at this
      exact ⟨_, this⟩
    -- the words
    refine ⟨.ref a, rfl, a, bs, rfl, .inr hx1, _, rfl, by omega, by omega, ?_⟩
    refine for_range (lo := 0) (n := ((bs.length : Nat) : Int).toNat) (fun i σ H' => ∃ (y1 y2 y3 y4 y5 : Option V), σ = [some (.ref a), y1, y2, y3, y4, y5] ∧ Evl.Ex H1 H' ∧ ∀ j < i, ¬ 8 < wordsN (lockD ds) j) ⟨_, _, _, _, _, rfl, Evl.Ex.refl H1, fun j hj => absurd hj (Nat.not_lt_zero j)⟩ ?_ ?_
    rotate_left
    · rintro σ H2 ⟨y1, y2, y3, y4, y5, rfl, e2, hno⟩
      rw [en] at hno
      refine q H2 _ (e1.trans e2) ?_
      rw [fault_no n0 n60 hall hno]
      exact .non
    rintro k σ H2 hk0 ⟨y1, y2, y3, y4, y5, rfl, e2, hno⟩
    have kl : k < ds.length := by omega
    have ek : (0 : Int) + (k : Nat) = ((k : Nat) : Int) := by omega
    rw [ek]
    refine ⟨Nat.zero_le _, fun w0 nw0 => ?_⟩
    have e3 := Evl.Ex.new (o := .lst []) nw0
    have hw3 : (upd H2 w0 (.lst [])) w0 = some (.lst []) := upd_same
    generalize upd H2 w0 (.lst []) = H3 at e3 hw3
    have e13 := e2.trans e3
    refine ⟨.ref a, rfl, .int (k : Nat), rfl, (k : Nat), rfl, ?_⟩
    refine nopart1 ?_
    refine sl_sq (K := K) (lo := some (k : Nat)) (hi := none) (Evl.ex_t e13 hx1) fun H4 z e4 s4 => ?_
    rw [cut_drop bs (k := k) (by omega)] at s4
    have e14 := e13.trans e4
    have hpd : Paired (Th K H4) (bs.drop k) (ds.drop k) := paired_drop k (Paired.imp (fun _ _ h => h.ex e14) hp1)
    have dl : (bs.drop k).length = (ds.drop k).length := Paired.len hpd
    have word8 : ∀ e ∈ ds, ((boltD e).gaps.map (fun g : Gap => g.ways.length)).sum ≤ 8 := fun e he => by
      obtain ⟨ms, hb⟩ := each e he
      exact (bolt_ok hb).few
    let cut : Bolt → List Word := fun b => b.gaps.flatMap fun g => g.ways.map fun u => u.take k
    refine ⟨z, rfl, ⟨_, s4⟩, ?_⟩
    refine for_tup (K := K) (a := z) (xs := bs.drop k) (fun i σ H' => ∃ (wl : Addr) (y3 y4 y5 : Option V), σ = [some (.ref a), some (.int (k : Nat)), some (.ref wl), y3, y4, y5] ∧ Evl.Ex H4 H' ∧ WsAt K H' wl ((((ds.drop k).take i).map boltD).flatMap cut) ∧ ((((ds.drop k).take i).map boltD).flatMap cut).length ≤ 8 * i)
      ⟨w0, _, _, _, rfl, Evl.Ex.refl H4, ⟨[], e4 _ _ hw3, fun p hp => (by cases hp), rfl⟩, Nat.le_refl _⟩ ?_ ?_ ?_
    · rintro i σ H5 _ ⟨_, _, _, _, _, e5, _⟩
      exact Evl.ex_t e5 s4
    · rintro i x σ H5 hxi ⟨wl, y3, y4, y5, rfl, e5, hws, wln⟩
      obtain ⟨dd, hdd, hth⟩ := Paired.get1 hpd hxi
      have ddm : dd ∈ ds := List.mem_of_mem_drop (List.mem_of_getElem? hdd)
      obtain ⟨ms, hb⟩ := each dd ddm
      have il : i < (ds.drop k).length := (List.getElem?_eq_some_iff.mp hdd).1
      rw [List.length_drop] at il
      have b8 := word8 dd ddm
      obtain ⟨a1, c1, gvs, rfl, h1, h2, h3⟩ := bolt_at hb (hth.ex e5)
      have gl : gvs.length = (boltD dd).gaps.length := Paired.len h3
      refine ⟨.ref a1, rfl, a1, _, 1, .ref c1, rfl, rfl, h1, atI_nat (j := 1) rfl, c1, rfl, ⟨gvs, h2⟩, ?_⟩
      refine for_tup (K := K) (a := c1) (xs := gvs) (fun j σ H' => ∃ (wl : Addr) (y4 y5 : Option V), σ = [some (.ref a), some (.int (k : Nat)), some (.ref wl), some (.ref a1), y4, y5] ∧ Evl.Ex H5 H' ∧ WsAt K H' wl ((((ds.drop k).take i).map boltD).flatMap cut ++ ((boltD dd).gaps.take j).flatMap fun g => g.ways.map fun u => u.take k))
        ⟨wl, _, _, rfl, Evl.Ex.refl H5, by simpa using hws⟩ ?_ ?_ ?_
      · rintro j σ H6 _ ⟨_, _, _, _, e6, _⟩
        exact Evl.ex_t e6 h2
      · rintro j x σ H6 hxj ⟨wl, y4, y5, rfl, e6, hws⟩
        obtain ⟨g, hg, ⟨a2, b2', us, rfl, k1, k2, k3⟩⟩ := Paired.get1 h3 hxj
        have jl : j < (boltD dd).gaps.length := (List.getElem?_eq_some_iff.mp hg).1
        have gm : g ∈ (boltD dd).gaps := List.mem_of_getElem? hg
        have w8 : g.ways.length ≤ 8 := Nat.le_trans (le_sumN (List.mem_map.mpr ⟨g, gm, rfl⟩)) b8
        have usl : us.length = g.ways.length := Paired.len k3
        have pre : (((boltD dd).gaps.take j).flatMap fun g => g.ways.map fun u => u.take k).length ≤ 8 := by
          have z := bolt_len (b := ⟨0, (boltD dd).gaps.take j⟩) (k := k)
          have z' : (((boltD dd).gaps.take j).flatMap fun g => g.ways.map fun u => u.take k).length = (((boltD dd).gaps.take j).map fun g => g.ways.length).sum := z
          rw [z', List.map_take]
          exact Nat.le_trans (sum_take_le _ _) b8
        refine ⟨.ref wl, rfl, .ref a2, rfl, a2, _, 3, .ref b2', rfl, rfl, Evl.ex_t e6 k1, atI_nat (j := 3) rfl, b2', rfl, ⟨us, Evl.ex_t e6 k2⟩, fun D0 hD => ?_⟩
        refine lc_tup (K := K) (a := b2') (xs := us) (fun m H' => Evl.Ex H6 H' ∧ WsAt K H' D0 ((g.ways.take m).map fun u => u.take k)) ⟨Evl.Ex.new hD, [], upd_same, fun p hp => (by cases hp), rfl⟩ ?_ ?_ ?_
        · rintro m H7 _ ⟨e7, _⟩
          exact Evl.ex_t (e6.trans e7) k2
        · rintro m x H7 hxm ⟨e7, ks, hD7, ht7, hk7⟩
          obtain ⟨u, hu, ⟨ua, rfl, hua⟩⟩ := Paired.get1 k3 hxm
          have ml : m < g.ways.length := (List.getElem?_eq_some_iff.mp hu).1
          refine ⟨rfl, .ref ua, rfl, .int (k : Nat), rfl, (k : Nat), rfl, ?_⟩
          refine sl_sq (K := K) (lo := none) (hi := some (k : Nat)) (.inl (.inl ((e6.trans e7) _ _ hua))) fun H8 zz e8 s8 => ?_
          rw [cut_take, ← List.map_take] at s8
          have hD8 := e8 _ _ hD7
          have kln : ks.length = m := by
            have := congrArg List.length hk7
            rw [List.length_map, List.length_map, List.length_take] at this
            omega
          have tx : TX K H8 (upd H8 D0 (.lst ((ks.map fun p => V.ref p.1) ++ [.ref zz]))) := TX.put hD8
          refine ⟨_, hD8, by rw [List.length_map, kln]; exact Nat.lt_of_le_of_lt (show m ≤ 8 by omega) (by decide), (e7.trans e8).mut hD, ks ++ [(zz, u.take k)], by rw [upd_same, List.map_append]; rfl, fun p hp => ?_, ?_⟩
          · rcases List.mem_append.mp hp with h | h
            · exact tx.1 _ _ (Evl.ex_t e8 (ht7 p h))
            · rw [List.mem_singleton.mp h]
              exact tx.1 _ _ s8
          · rw [List.map_append, hk7, take_succ_get hu, List.map_append]
            rfl
        · rintro H7 ⟨e7, ks, hD7, ht7, hk7⟩
          rw [usl, List.take_length] at hk7
          obtain ⟨ks0, hw7, ht0, hk0'⟩ := hws.ex e7
          have l0 : ks0.length ≤ 8 * i + 8 := by
            have := congrArg List.length hk0'
            rw [List.length_map, List.length_append] at this
            omega
          have l1 : ks.length ≤ 8 := by
            have := congrArg List.length hk7
            rw [List.length_map, List.length_map] at this
            omega
          refine ⟨wl, D0, _, _, rfl, rfl, hw7, hD7, Nat.le_trans (by rw [List.length_map, List.length_map]; omega : (ks0.map fun p => V.ref p.1).length + (ks.map fun p => V.ref p.1).length ≤ 1000) (by decide), fun w2 nw2 => ?_⟩
          have e8 := Evl.Ex.new (o := .lst ((ks0.map fun p => V.ref p.1) ++ ks.map fun p => V.ref p.1)) nw2
          refine ⟨w2, _, _, rfl, e6.trans (e7.trans e8), ks0 ++ ks, by rw [upd_same, List.map_append], fun p hp => ?_, ?_⟩
          · rcases List.mem_append.mp hp with h | h
            · exact Evl.ex_t e8 (ht0 p h)
            · exact Evl.ex_t e8 (ht7 p h)
          · rw [List.map_append, hk0', hk7, take_succ_get hg, List.flatMap_append, List.append_assoc]
            simp
      · rintro σ H6 ⟨wl, y4, y5, rfl, e6, hws⟩
        rw [gl, List.take_length] at hws
        have ew : (((ds.drop k).take (i + 1)).map boltD).flatMap cut = (((ds.drop k).take i).map boltD).flatMap cut ++ cut (boltD dd) := by
          rw [take_succ_get hdd, List.map_append, List.flatMap_append]
          simp
        refine ⟨wl, _, _, _, rfl, e5.trans e6, by rw [ew]; exact hws, ?_⟩
        rw [ew, List.length_append]
        have := bolt_len (b := boltD dd) (k := k)
        have z : (cut (boltD dd)).length ≤ 8 := by
          show ((boltD dd).gaps.flatMap fun g => g.ways.map fun u => u.take k).length ≤ 8
          rw [this]
          exact b8
        omega
    · rintro σ H5 ⟨wl, y3, y4, y5, rfl, e5, hws, _⟩
      rw [dl, List.take_length] at hws
      obtain ⟨ks, hw5, ht5, hk5⟩ := hws
      have hk5' : ks.map (·.2) = cutList (lockD ds) k := by
        rw [hk5]
        unfold cutList lockD
        rw [List.map_drop]
      have few1 : wordsN (lockD ds) k ≤ 60 := few hall k
      refine ⟨.ref wl, rfl, wl, ks, rfl, SqL.of hw5, ht5, few_of hk5' few1, fun st L nst nd sub all => ?_⟩
      have e6 := Evl.Ex.new (o := SetTO P w st L) nst
      have ln := set_words hk5' nd sub all
      refine ⟨st, L, rfl, upd_same, fun p hp => Evl.ex_t e6 (ht5 p (sub p hp)), _, 8, rfl, rfl, _, rfl, ?_⟩
      have e16 := e14.trans (e5.trans e6)
      refine ite2 (fun hc => ?_) (fun hc => ?_)
      · have hc' : decide ((8 : Int) < (L.length : Nat)) = true := hc
        rw [decide_eq_true_eq] at hc'
        refine ⟨.int (k : Nat), rfl, (by show 2 ≤ sizeLine; decide), fun t nt => ?_⟩
        refine q _ _ (e1.trans (e16.trans (Evl.Ex.new nt))) ?_
        rw [fault_words n0 n60 hall kl (by omega) hno]
        exact .tup upd_same (.cons (.str _) (.cons (.int _) .nil))
      · refine ⟨_, _, _, _, _, rfl, e16, fun j hj => ?_⟩
        by_cases e : j = k
        · rw [e]
          intro z
          exact hc (decide_eq_true (by omega : (8 : Int) < (L.length : Nat)))
        · exact hno j (by omega)
end
end Wb

set_option Elab.async false
set_option linter.all false
set_option maxRecDepth 100000
set_option maxHeartbeats 4000000
set_option pp.maxSteps 600
set_option pp.deepTerms false
namespace Wb
open PySem PySem.Spec PyProof.Rows L2
/-! ### a lock whose tuples are all tracked as such -/
def GapS (K : PySem.W.Frag) (H : Hp) (v : V) (g : Gap) : Prop := ∃ a b ws, v = .ref a ∧ H a = some (.tup [.int g.frm, .int g.to_, .int g.price, .ref b]) ∧ H b = some (.tup ws) ∧ Paired (Wd K H) ws g.ways
def BoltS (K : PySem.W.Frag) (H : Hp) (v : V) (b : Bolt) : Prop := ∃ a c gs, v = .ref a ∧ H a = some (.tup [.int b.many, .ref c]) ∧ H c = some (.tup gs) ∧ Paired (GapS K H) gs b.gaps
def LockS (K : PySem.W.Frag) (H : Hp) (v : V) (l : Lock) : Prop := ∃ a bs, v = .ref a ∧ H a = some (.tup bs) ∧ Paired (BoltS K H) bs l
theorem paired_app1 {α β : Type} {R : α → β → Prop} {xs : List α} {ys : List β} {x : α} {y : β} (h : Paired R xs ys) (r : R x y) : Paired R (xs ++ [x]) (ys ++ [y]) := Paired.app h (.cons r .nil)
section
variable {K : PySem.W.Frag} {H H' : Hp} {v : V}
theorem GapS.mono (e : TX K H H') {g : Gap} (h : GapS K H v g) : GapS K H' v g := by
  obtain ⟨a, b, ws, r, q1, q2, q3⟩ := h
  exact ⟨a, b, ws, r, e.2 _ _ q1, e.2 _ _ q2, Paired.imp (fun _ _ => Wd.mono e) q3⟩
theorem BoltS.mono (e : TX K H H') {b : Bolt} (h : BoltS K H v b) : BoltS K H' v b := by
  obtain ⟨a, c, gs, r, q1, q2, q3⟩ := h
  exact ⟨a, c, gs, r, e.2 _ _ q1, e.2 _ _ q2, Paired.imp (fun _ _ => GapS.mono e) q3⟩
theorem LockS.mono (e : TX K H H') {l : Lock} (h : LockS K H v l) : LockS K H' v l := by
  obtain ⟨a, bs, r, q1, q2⟩ := h
  exact ⟨a, bs, r, e.2 _ _ q1, Paired.imp (fun _ _ => BoltS.mono e) q2⟩
theorem GapS.at_ {g : Gap} (h : GapS K H v g) : GapAt K H v g := by
  obtain ⟨a, b, ws, r, q1, q2, q3⟩ := h
  exact ⟨a, b, ws, r, .inl (.inl q1), .inl (.inl q2), q3⟩
theorem BoltS.at_ {b : Bolt} (h : BoltS K H v b) : BoltAt K H v b := by
  obtain ⟨a, c, gs, r, q1, q2, q3⟩ := h
  exact ⟨a, c, gs, r, .inl (.inl q1), .inl (.inl q2), Paired.imp (fun _ _ => GapS.at_) q3⟩
theorem LockS.at_ {l : Lock} (h : LockS K H v l) : LockAt K H v l := by
  obtain ⟨a, bs, r, q1, q2⟩ := h
  exact ⟨a, bs, r, .inl (.inl q1), Paired.imp (fun _ _ => BoltS.at_) q2⟩
end
abbrev sGaps : Stmt := topS 23
abbrev nGaps : List Str := ["_law_pen_here", "_law_wide", "_law_words", "_law_found", "_law_left", "_law_here", "_law_there", "_law_ways_here", "_law_cost", "_law_word"]
theorem scGaps : FnScope nGaps ["_law_pen_here", "_law_wide", "_law_words"] (defScope sGaps) := ⟨rfl, rfl, rfl, by decide +kernel, rfl, by decide +kernel, by decide +kernel⟩
/-- gaps as they are drawn: left so many ways of eight -/
structure Drawn (wide : Int) (ws : List Word) (gs : List Gap) (left : Int) : Prop where
  each : ∀ g ∈ gs, (0 ≤ g.frm ∧ g.frm < wide) ∧ (0 ≤ g.to_ ∧ g.to_ < wide) ∧ g.frm ≠ g.to_ ∧ (1 ≤ g.price ∧ g.price ≤ 1000000) ∧ g.ways.Sublist ws
  rise : gs.Pairwise (fun g h => lexLt2 g.frm g.to_ h.frm h.to_)
  sum : (((gs.map (fun g => g.ways.length)).sum : Nat) : Int) + left = 8
  left0 : 0 ≤ left
def spGaps (K : PySem.W.Frag) : Sp := fun vs H Q _ => ∃ (p c wl : Addr) (wide T : Int) (us : List V) (ws : List Word), vs = [.ref p, .int wide, .ref wl] ∧ PenAt H p c T ∧ T ≤ 9000000 ∧ 2 ≤ wide ∧ wide ≤ 4 ∧ wl ≠ p ∧
  H wl = some (.lst us) ∧ Paired (Wd K H) us ws ∧ ws.length ≤ 8 ∧
  ∀ H' a gvs gs left, Exx p H H' → PenAt H' p c (T + 400) → H' a = some (.tup gvs) → Paired (GapS K H') gvs gs → Drawn wide ws gs left → Q (.ref a) H'
theorem drawn0 {wide : Int} {ws : List Word} : Drawn wide ws [] 8 := ⟨fun g hg => (by cases hg), List.Pairwise.nil, by decide, by decide⟩
section
variable {P : Program} {w : World} {K : PySem.W.Frag} {mg : Str → Option Value} {base : Heap}
theorem ok_gaps {f f1 f2 : Addr} {fd fd1 fd2 : FuncData} (F : Fun K "_law_gaps" "_law_gaps" sGaps f fd) (F1 : Fun K "_law_draw" "_law_draw" sDraw f1 fd1) (b1 : Binds K fd1 ["_law_pen_here", "_law_many"] []) (g1 : mg "_law_draw" = some (.ref f1))
    (F2 : Fun K "_law_pick" "_law_pick" sPick f2 fd2) (b2 : Binds K fd2 ["_law_pen_here", "_law_some"] []) (g2 : mg "_law_pick" = some (.ref f2)) (B : Bi mg) :
    FnOk P w K mg base CX0 3 f fd ["_law_pen_here", "_law_wide", "_law_words"] (spGaps K) := by
  have G1 : FnOk P w K mg base CX0 1 f1 fd1 ["_law_pen_here", "_law_many"] spDraw := ok_draw F1 B
  have G2 : FnOk P w K mg base CX0 2 f2 fd2 ["_law_pen_here", "_law_some"] (spPick K) := ok_pick F2 F1 b1 g1 B
  refine F.ok scGaps (fun vs H Q E h => ?_) (fun cdv A outer s H vs Q E hr h => ?_)
  · obtain ⟨p, c, wl, wide, T, us, ws, rfl, _⟩ := h; rfl
  · obtain ⟨p, c, wl, wide, T, us, ws, rfl, hp, T9, w2, w4, nwp, hwl, hws, w8, q⟩ := h
    have hr1 : Room 1 _ := hr.mono (by decide)
    refine ⟨_, pss_cons (ps_par (by rfl) scGaps.nd (i := 3) (j := 4) rfl rfl (by decide) rfl rfl (pa_cons (pe_lst pa_nil) (pa_cons pe_int pa_nil)) (by rfl))
      (pss_cons (ps_for PassesOwn.never rfl (pi_range1 (by rfl) B.range (pa_cons (pv 1) pa_nil)) (pg_name (i := 5) scGaps.nd rfl (.inl rfl))
        (pss_one (ps_for PassesOwn.never rfl (pi_range1 (by rfl) B.range (pa_cons (pv 1) pa_nil)) (pg_name (i := 6) scGaps.nd rfl (.inl rfl))
          (pss_one (ps_if (PW.pt (pw_and (pt_cmpR op_ne (pv 5) (pv 6) (nomark _)) (pw_and1 (pt_cmpR op_gt (pe_call G1 hr1 (by rfl) g1 F1.kp b1 .nil pass0 (pa_cons (pv 0) (pa_cons pe_int pa_nil))) pe_int (nomark _)))))
            (pss_cons (ps_set (i := 7) scGaps.nd rfl (.inl rfl) (pe_slice sl_list
                (pe_lc (own := [("_law_word", 9)]) (g := gName 9) rfl scGaps.nd (pi_list (pv 2)) (blkOk_by (own := [("_law_word", 9)]) (N := nGaps) (sc := defScope sGaps) (by decide +kernel))
                  (fun _ _ _ _ _ => pg_name (i := 9) scGaps.nd rfl (Or.inl rfl))
                  (fun _ _ _ _ _ => pts_one (pt_cmpR op_gt (pe_call G1 hr1 (by rfl) g1 F1.kp b1 .nil pass0 (pa_cons (pv 0) (pa_cons pe_int pa_nil))) pe_int (nomark _)))
                  (fun _ _ _ _ _ => pv 9)) po_none (po_some (pv 4))))
            (pss_cons (ps_set (i := 8) scGaps.nd rfl (.inl rfl) (pe_call G2 hr (by rfl) g2 F2.kp b2 .nil pass0 (pa_cons (pv 0) (pa_cons (pe_lst (pa_cons pe_int
                (pa_cons (pe_op op_add pe_int (pe_call G1 hr1 (by rfl) g1 F1.kp b1 .nil pass0 (pa_cons (pv 0) (pa_cons pe_int pa_nil))))
                (pa_cons (pe_op op_add pe_int (pe_call G1 hr1 (by rfl) g1 F1.kp b1 .nil pass0 (pa_cons (pv 0) (pa_cons pe_int pa_nil))))
                (pa_cons (pe_op op_add pe_int (pe_call G1 hr1 (by rfl) g1 F1.kp b1 .nil pass0 (pa_cons (pv 0) (pa_cons (pe_op op_pow pe_int pe_int) pa_nil)))) pa_nil))))) pa_nil))))
            (pss_cons (ps_expr (pe_bm PySem.F.plainAttrs_list PySem.F.slot_list_append PySem.F.type_list_append mt_append (pv 3) (pa_cons (pe_tup (pa_cons (pv 5) (pa_cons (pv 6) (pa_cons (pv 8) (pa_cons
                (pe_callTy call_tuple_of (by rfl) B.tuple PyProof.Rows.boot_tuple (pa_cons (pv 7) pa_nil)) pa_nil))))) pa_nil)))
            (pss_one (ps_set (i := 4) scGaps.nd rfl (.inl rfl) (pe_op op_sub (pv 4) (pe_callB call_len_seq (by rfl) B.len PySem.boot_len (pa_cons (pv 7) pa_nil)))))))) pss_nil)))))
      (pss_one (ps_ret (pe_callTy call_tuple_of (by rfl) B.tuple PyProof.Rows.boot_tuple (pa_cons (pv 3) pa_nil))))), ?_⟩
    have ul : us.length = ws.length := Paired.len hws
    refine ⟨Nat.zero_le _, fun l nl => ?_⟩
    have nlp : l ≠ p := hp.new1 nl
    have nlc : l ≠ c := hp.new2 nl
    have nlw : l ≠ wl := fun z => by rw [z, hwl] at nl; cases nl
    refine ⟨.ref l, .int 8, rfl, ?_⟩
    refine ⟨.int wide, rfl, wide, rfl, by omega, by omega, for_range (lo := 0) (n := wide.toNat) (fun i σ H' => ∃ (gvs : List V) (gs : List Gap) (left : Int) (y5 y6 y7 y8 y9 : Option V), σ = [some (.ref p), some (.int wide), some (.ref wl), some (.ref l), some (.int left), y5, y6, y7, y8, y9] ∧
        Exx p H H' ∧ PenAt H' p c (T + 80 * i) ∧ H' l = some (.lst gvs) ∧ Paired (GapS K H') gvs gs ∧ Drawn wide ws gs left ∧ gvs.length ≤ 4 * i ∧ ∀ g ∈ gs, g.frm < (i : Int)) ⟨[], [], 8, none, none, none, none, none, rfl, Exx.ex (Evl.Ex.new nl), ?_, upd_same, .nil, drawn0, Nat.zero_le _, fun g hg => nomatch hg⟩ ?_ ?_⟩
    · have := hp.put (o := .lst []) nlp nlc
      simpa using this
    · rintro i σ H1 hi ⟨gvs, gs, left, y5, y6, y7, y8, y9, rfl, x1, hp1, hl1, hg1, hd1, gl1, hlt1⟩
      have i4 : i < 4 := by omega
      have ei : (0 : Int) + (i : Nat) = (i : Int) := by omega
      rw [ei]
      refine ⟨.int wide, rfl, wide, rfl, by omega, by omega, for_range (lo := 0) (n := wide.toNat) (fun j σ H' => ∃ (gvs : List V) (gs : List Gap) (left : Int) (y6 y7 y8 y9 : Option V), σ = [some (.ref p), some (.int wide), some (.ref wl), some (.ref l), some (.int left), some (.int (i : Nat)), y6, y7, y8, y9] ∧
          Exx p H H' ∧ PenAt H' p c (T + 80 * i + 20 * j) ∧ H' l = some (.lst gvs) ∧ Paired (GapS K H') gvs gs ∧ Drawn wide ws gs left ∧ gvs.length ≤ 4 * i + j ∧ ∀ g ∈ gs, lexLt2 g.frm g.to_ i j) ⟨gvs, gs, left, _, _, _, _, rfl, x1, by simpa using hp1, hl1, hg1, hd1, by omega, fun g hg => .inl (hlt1 g hg)⟩ ?_ ?_⟩
      · rintro j σ H2 hj ⟨gvs, gs, left, y6, y7, y8, y9, rfl, x2, hp2, hl2, hg2, hd2, gl2, hlt2⟩
        have j4 : j < 4 := by omega
        have ej : (0 : Int) + (j : Nat) = (j : Int) := by omega
        rw [ej]
        have hi' : (i : Int) < wide := by omega
        have hj' : (j : Int) < wide := by omega
        -- nothing is put in
        have stay : ∀ {Hx : Hp} {y7 y8 y9 : Option V} {k : Int}, Exx p H2 Hx → PenAt Hx p c (T + 80 * i + 20 * j + k) → k ≤ 20 → ∃ (gvs : List V) (gs : List Gap) (left' : Int) (y6 y7' y8' y9' : Option V), ([some (.ref p), some (.int wide), some (.ref wl), some (.ref l), some (.int left), some (.int (i : Nat)), some (.int (j : Nat)), y7, y8, y9] : L2.St) = [some (.ref p), some (.int wide), some (.ref wl), some (.ref l), some (.int left'), some (.int (i : Nat)), y6, y7', y8', y9'] ∧
            Exx p H Hx ∧ PenAt Hx p c (T + 80 * i + 20 * ((j + 1 : Nat) : Int)) ∧ Hx l = some (.lst gvs) ∧ Paired (GapS K Hx) gvs gs ∧ Drawn wide ws gs left' ∧ gvs.length ≤ 4 * i + (j + 1) ∧ ∀ g ∈ gs, lexLt2 g.frm g.to_ i ((j + 1 : Nat) : Int) := by
          intro Hx y7 y8 y9 k ex hpx hk
          refine ⟨gvs, gs, left, _, _, _, _, rfl, x2.trans ex, hpx.mono (by omega), ex _ _ nlp hl2, Paired.imp (fun _ _ => GapS.mono (hp2.tx ex)) hg2, hd2, by omega, fun g hg => ?_⟩
          rcases hlt2 g hg with h | ⟨h, h'⟩
          · exact .inl h
          · exact .inr ⟨h, by omega⟩
        refine ⟨.int (i : Nat), rfl, .int (j : Nat), rfl, rfl, _, rfl, ?_⟩
        by_cases eij : i = j
        · subst eij
          have z : (!decide (V.int (i : Nat) = V.int (i : Nat))) = false := by simp
          rw [z]
          refine iteF ?_
          exact stay (k := 0) (Exx.refl p H2) (by simpa using hp2) (by decide)
        · have z : (!decide (V.int (i : Nat) = V.int (j : Nat))) = true := by
            have : ¬ V.int (i : Nat) = V.int (j : Nat) := fun e => eij (by have := V.int.inj e; omega)
            rw [decide_eq_false this]
            rfl
          rw [z]
          refine iteT ?_
          refine ⟨.ref p, rfl, p, c, 3, _, rfl, hp2, by decide, by decide, by omega, fun r H3 r0 r1 x3 hp3 => ?_⟩
          refine ⟨r, 0, rfl, rfl, _, rfl, ?_⟩
          refine ite2 (fun _ => ?_) (fun _ => ?_)
          · have x23 := x2.trans x3
            have hwl3 : H3 wl = some (.lst us) := x23 _ _ nwp hwl
            have tx3 : TX K H H3 := hp.tx x23
            -- the words drawn
            refine ⟨.ref wl, rfl, wl, rfl, ⟨us, .inl (.inl hwl3)⟩, fun D hD => ?_⟩
            have nDp : D ≠ p := hp3.new1 hD
            have nDc : D ≠ c := hp3.new2 hD
            have nDw : D ≠ wl := fun z => by rw [z, hwl3] at hD; cases hD
            refine lc_list (K := K) (a := wl) (xs := us) (fun m H' => ∃ (vs : List V) (ss : List Word), Exx p H3 H' ∧ PenAt H' p c (T + 80 * i + 20 * j + 1 + m) ∧ H' D = some (.lst vs) ∧ Paired (Wd K H') vs ss ∧ ss.Sublist (ws.take m)) ⟨[], [], Exx.ex (Evl.Ex.new hD), ?_, upd_same, .nil, List.nil_sublist _⟩ ?_ ?_ ?_
            · have := hp3.put (o := .lst []) nDp nDc
              simpa using this
            · rintro m H' _ ⟨_, _, x, _⟩
              exact .inl (.inl (x _ _ nwp hwl3))
            · rintro m x H4 hm ⟨vs, ss, x4, hp4, hD4, hv4, hs4⟩
              obtain ⟨t, ht, hax⟩ := Paired.get1 hws hm
              have m8 : m < 8 := by
                have := (List.getElem?_eq_some_iff.mp ht).1
                omega
              refine ⟨rfl, .ref p, rfl, p, c, 3, _, rfl, hp4, by decide, by decide, by omega, fun r' H5 _ _ x5 hp5 => ?_⟩
              refine ⟨r', 0, rfl, rfl, _, rfl, ?_⟩
              have vlen : vs.length ≤ m := by
                have h1 := hs4.length_le
                rw [List.length_take] at h1
                have h2 : vs.length = ss.length := Paired.len hv4
                omega
              have hD5 := x5 _ _ nDp hD4
              have hv5 : Paired (Wd K H5) vs ss := Paired.imp (fun _ _ => Wd.mono (hp4.tx x5)) hv4
              refine ite2 (fun _ => ?_) (fun _ => ?_)
              · refine ⟨x, rfl, vs, hD5, Nat.lt_of_le_of_lt (by omega : vs.length ≤ 8) (by decide), vs ++ [x], ss ++ [t], (x4.trans x5).mut hD, ?_, upd_same, ?_, ?_⟩
                · have := (hp5.put (o := .lst (vs ++ [x])) nDp nDc).mono (T' := T + 80 * i + 20 * j + 1 + ((m + 1 : Nat) : Int)) (by omega)
                  exact this
                · have tx5 : TX K H H5 := tx3.trans ((hp3.tx x4).trans (hp4.tx x5))
                  exact Paired.imp (fun _ _ => Wd.mono (TX.put hD5)) (paired_app1 hv5 (hax.mono tx5))
                · rw [take_succ_get ht]
                  exact List.Sublist.append hs4 (List.Sublist.refl _)
              · refine ⟨vs, ss, x4.trans x5, hp5.mono (by omega), hD5, hv5, ?_⟩
                rw [take_succ_get ht]
                exact hs4.trans (List.sublist_append_left _ _)
            · rintro H4 ⟨vs, ss, x4, hp4, hD4, hv4, hs4⟩
              rw [ul, List.take_length] at hs4
              refine ⟨.int left, rfl, left, rfl, D, vs, rfl, .inl (.inl hD4), fun D2 hD2 => ?_⟩
              have left0 := hd2.left0
              obtain ⟨ln, hln⟩ : ∃ ln : Nat, left = (ln : Int) := ⟨left.toNat, by omega⟩
              subst hln
              rw [cut_take]
              have nD2p : D2 ≠ p := hp4.new1 hD2
              have nD2c : D2 ≠ c := hp4.new2 hD2
              have e5 := Evl.Ex.new (o := .lst (vs.take ln)) hD2
              generalize hH5 : upd H4 D2 (.lst (vs.take ln)) = H5 at e5
              have hD25 : H5 D2 = some (.lst (vs.take ln)) := by rw [← hH5]; exact upd_same
              have hp5 := hp4.ex e5
              have x35 := x4.trans (Exx.ex e5)
              -- the price
              refine ⟨.ref p, rfl, .ref p, rfl, p, c, 5, _, rfl, hp5, by decide, by decide, by omega, fun q1 H6 a1 a2 x6 hp6 => ⟨1, q1, rfl, rfl, ?_⟩⟩
              refine ⟨.ref p, rfl, p, c, 40, _, rfl, hp6, by decide, by decide, by omega, fun q2 H7 a3 a4 x7 hp7 => ⟨1, q2, rfl, rfl, ?_⟩⟩
              refine ⟨.ref p, rfl, 10, 6, rfl, rfl, (show (0 : Int) ≤ 6 ∧ (6 : Int) ≤ 1000000 ∧ (10 : Int).natAbs < 2 ^ 64 by decide), p, c, 1000000, _, rfl, hp7, by decide, by decide, by omega, fun q3 H8 a5 a6 x8 hp8 => ⟨1, q3, rfl, rfl, ?_⟩⟩
              refine ⟨(by show 4 ≤ sizeLine; decide), fun L hL => ?_⟩
              have nLp : L ≠ p := hp8.new1 hL
              have e9 := Evl.Ex.new (o := .lst [.int 1, .int (1 + q1), .int (1 + q2), .int (1 + q3)]) hL
              generalize hH9 : upd H8 L (.lst [.int 1, .int (1 + q1), .int (1 + q2), .int (1 + q3)]) = H9 at e9
              have hL9 : H9 L = some (.lst [.int 1, .int (1 + q1), .int (1 + q2), .int (1 + q3)]) := by rw [← hH9]; exact upd_same
              have hp9 := hp8.ex e9
              refine ⟨p, c, L, _, _, rfl, hp9, by omega, .inl (.inl hL9), nLp, (by simp), (by show 4 ≤ 1000000; decide), fun pr H10 hpr x10 hp10 => ?_⟩
              obtain ⟨pi, rfl, pi1, pi2⟩ : ∃ pi, pr = .int pi ∧ 1 ≤ pi ∧ pi ≤ 1000000 := by
                simp only [List.mem_cons, List.not_mem_nil, or_false] at hpr
                rcases hpr with rfl | rfl | rfl | rfl
                · exact ⟨_, rfl, by decide, by decide⟩
                · exact ⟨_, rfl, by omega, by omega⟩
                · exact ⟨_, rfl, by omega, by omega⟩
                · exact ⟨_, rfl, by omega, by omega⟩
              have x310 : Exx p H5 H10 := (((x6.trans x7).trans x8).trans (Exx.ex e9)).trans x10
              have hD210 : H10 D2 = some (.lst (vs.take ln)) := x310 _ _ nD2p hD25
              have xA : Exx p H3 H10 := x35.trans x310
              have xB : Exx p H H10 := x23.trans xA
              have hl10 : H10 l = some (.lst gvs) := xA _ _ nlp (x3 _ _ nlp hl2)
              have hv10 : Paired (Wd K H10) (vs.take ln) (ss.take ln) := Paired.imp (fun _ _ => Wd.mono ((TX.ex e5).trans (hp5.tx x310))) (Paired.takeN ln hv4)
              have hg10 : Paired (GapS K H10) gvs gs := Paired.imp (fun _ _ => GapS.mono ((hp2.tx x3).trans (hp3.tx xA))) hg2
              refine ⟨.ref l, rfl, .inl ⟨rfl, _, SqL.of hl10⟩, .int (i : Nat), rfl, .int (j : Nat), rfl, .int pi, rfl, .ref D2, rfl, D2, _, rfl, .inl ⟨.inl (.inl hD210), fun W hW => ?_⟩⟩
              have e11 := Evl.Ex.new (o := .tup (vs.take ln)) hW
              generalize hH11 : upd H10 W (.tup (vs.take ln)) = H11 at e11
              have hW11 : H11 W = some (.tup (vs.take ln)) := by rw [← hH11]; exact upd_same
              refine ⟨(by show 4 ≤ sizeLine; decide), fun G hG => ?_⟩
              have e12 := Evl.Ex.new (o := .tup [.int (i : Nat), .int (j : Nat), .int pi, .ref W]) hG
              generalize hH12 : upd H11 G (.tup [.int (i : Nat), .int (j : Nat), .int pi, .ref W]) = H12 at e12
              have hG12 : H12 G = some (.tup [.int (i : Nat), .int (j : Nat), .int pi, .ref W]) := by rw [← hH12]; exact upd_same
              have e1012 := e11.trans e12
              have hl12 := e1012 _ _ hl10
              have nlG : l ≠ G := fun z => by rw [← z, e11 _ _ hl10] at hG; cases hG
              refine ⟨l, gvs, _, rfl, rfl, hl12, Nat.lt_of_le_of_lt (by omega : gvs.length ≤ 20) (by decide), ?_⟩
              have nlD2 : D2 ≠ l := fun z => by rw [z, xA.trans (Exx.refl p _) l _ nlp (x3 _ _ nlp hl2)] at hD210; cases hD210; rw [z] at hD2; rw [x4 _ _ nlp (x3 _ _ nlp hl2)] at hD2; cases hD2
              have hD213 : (upd H12 l (.lst (gvs ++ [.ref G]))) D2 = some (.lst (vs.take ln)) := by rw [upd_ne nlD2]; exact e1012 _ _ hD210
              refine ⟨.int (ln : Int), rfl, .ref D2, rfl, D2, _, rfl, .inl (.inl (.inl hD213)), (ln : Int), _, rfl, rfl, ?_⟩
              have hus8 : us.length ≤ 8 := by omega
              let g : Gap := ⟨i, j, pi, ss.take ln⟩
              have hpF : PenAt (upd H12 l (.lst (gvs ++ [.ref G]))) p c (T + 80 * i + 20 * ((j + 1 : Nat) : Int)) := ((hp10.ex e1012).put (o := .lst (gvs ++ [.ref G])) nlp nlc).mono (by omega)
              have gAt : GapS K H12 (.ref G) g := ⟨G, W, vs.take ln, rfl, hG12, (e12 _ _ hW11), Paired.imp (fun _ _ => wd_ex e1012) hv10⟩
              have vsl : (vs.take ln).length = (ss.take ln).length := Paired.len hv10
              refine ⟨gvs ++ [.ref G], gs ++ [g], (ln : Int) - ((vs.take ln).length : Int), _, _, _, _, rfl, (xB.trans (Exx.ex e1012)).mut nl, hpF, upd_same, ?_, ?_, ?_, ?_⟩
              · exact Paired.imp (fun _ _ => GapS.mono (TX.put hl12)) (paired_app1 (Paired.imp (fun _ _ => GapS.mono (TX.ex e1012)) hg10) gAt)
              · refine ⟨?_, ?_, ?_, ?_⟩
                · intro g' hg'
                  rcases List.mem_append.mp hg' with h | h
                  · exact hd2.each g' h
                  · have : g' = g := by simpa using h
                    subst this
                    exact ⟨⟨by show (0 : Int) ≤ i; omega, hi'⟩, ⟨by show (0 : Int) ≤ j; omega, hj'⟩, (by show (i : Int) ≠ j; omega), ⟨pi1, pi2⟩, (List.take_sublist ln ss).trans hs4⟩
                · rw [List.pairwise_append]
                  refine ⟨hd2.rise, by simp, ?_⟩
                  intro g' hg' g'' hg''
                  have : g'' = g := by simpa using hg''
                  subst this
                  exact hlt2 g' hg'
                · have h := hd2.sum
                  rw [List.map_append, List.sum_append, vsl]
                  simp only [List.map_cons, List.map_nil, List.sum_cons, List.sum_nil]
                  show ((((gs.map (fun g => g.ways.length)).sum + ((ss.take ln).length + 0) : Nat)) : Int) + ((ln : Int) - ((ss.take ln).length : Int)) = 8
                  omega
                · have : (vs.take ln).length ≤ ln := by rw [List.length_take]; exact Nat.min_le_left _ _
                  omega
              · rw [List.length_append]
                simp
                omega
              · intro g' hg'
                rcases List.mem_append.mp hg' with h | h
                · rcases hlt2 g' h with h | ⟨h, h'⟩
                  · exact .inl h
                  · exact .inr ⟨h, by omega⟩
                · have : g' = g := by simpa using h
                  subst this
                  exact .inr ⟨rfl, by show (j : Int) < ((j + 1 : Nat) : Int); omega⟩
          · exact stay (k := 1) x3 hp3 (by decide)
      · rintro σ H2 ⟨gvs, gs, left, y6, y7, y8, y9, rfl, x2, hp2, hl2, hg2, hd2, gl2, hlt2⟩
        refine ⟨gvs, gs, left, _, _, _, _, _, rfl, x2, hp2.mono (by omega), hl2, hg2, hd2, by omega, fun g hg => ?_⟩
        have hj := ((hd2.each g hg).2.1).2
        rcases hlt2 g hg with h | ⟨h, h'⟩
        · omega
        · omega
    · rintro σ H1 ⟨gvs, gs, left, y5, y6, y7, y8, y9, rfl, x1, hp1, hl1, hg1, hd1, gl1, hlt1⟩
      refine ⟨.ref l, rfl, l, gvs, rfl, .inl ⟨.inl (.inl hl1), fun a na => ?_⟩⟩
      have e2 := Evl.Ex.new (o := .tup gvs) na
      exact q _ a gvs gs left (x1.trans (Exx.ex e2)) ((hp1.ex e2).mono (by omega)) upd_same (Paired.imp (fun _ _ => GapS.mono (TX.ex e2)) hg1) hd1
end
end Wb

set_option Elab.async false
set_option linter.all false
set_option maxRecDepth 100000
set_option maxHeartbeats 4000000
set_option pp.maxSteps 600
set_option pp.deepTerms false
namespace Wb
open PySem PySem.Spec PyProof.Rows L2
abbrev sLock : Stmt := topS 24
abbrev nLock : List Str := ["_law_pen_here", "_law_many", "_law_wide", "_law_more", "_law_k", "_law_widths", "_law_bolts", "_law_bases", "_law_words", "_law_turn", "_law_one", "_law_base"]
theorem scLock : FnScope nLock ["_law_pen_here", "_law_many", "_law_wide", "_law_more"] (defScope sLock) := ⟨rfl, rfl, rfl, by decide +kernel, rfl, by decide +kernel, by decide +kernel⟩

/-- a lock as it is drawn: up to one bolt too many, up to four words too many -/
structure LockDr (l : Lock) : Prop where
  n0 : 1 ≤ l.length
  n1 : l.length ≤ 61
  bolts : ∀ (k : Nat) (b : Bolt), l[k]? = some b → BoltOk (manysOf (l.take k)) b
  words : ∀ (k : Nat) (ws : List Word), k < l.length → ws.Nodup → (∀ w ∈ ws, cutsFrom l k w) → ws.length ≤ 12
theorem inAll_nil : InAll [] [] := ⟨rfl, fun i n m h => by simp at h⟩
theorem inAll_snoc {xs ms : List Int} {x m : Int} (h : InAll xs ms) (h0 : 0 ≤ x) (h1 : x < m) : InAll (xs ++ [x]) (ms ++ [m]) := by
  refine ⟨by rw [List.length_append, List.length_append, h.1]; rfl, fun i a b ha hb => ?_⟩
  by_cases hi : i < xs.length
  · rw [List.getElem?_append_left hi] at ha
    rw [List.getElem?_append_left (by rw [← h.1]; exact hi)] at hb
    exact h.2 i a b ha hb
  · rw [List.getElem?_append_right (by omega)] at ha
    rw [List.getElem?_append_right (by rw [← h.1]; omega)] at hb
    by_cases e : i - xs.length = 0
    · rw [e] at ha
      rw [← h.1, e] at hb
      cases ha
      cases hb
      exact ⟨h0, h1⟩
    · rw [List.getElem?_eq_none (by simp; omega)] at ha
      cases ha
theorem inAll_take {xs ms : List Int} (h : InAll xs ms) (k : Nat) : InAll (xs.take k) (ms.take k) := by
  refine ⟨by rw [List.length_take, List.length_take, h.1], fun i a b ha hb => ?_⟩
  rw [List.getElem?_take] at ha hb
  split at ha
  · rename_i hk
    rw [if_pos hk] at hb
    exact h.2 i a b ha hb
  · cases ha
/-- [draw(pen, one) for one in a list of ints] -/
theorem lc_draws {K : PySem.W.Frag} {vs : List Nat} {i : Nat} {σ : L2.St} {H : Hp} {Q : VK} {tl : TE} {wds : List Int} {p c : Addr} {T : Int} (hp : PenAt H p c T)
    (ha : ∀ Q' : VK, (∀ a H1, Exx p H H1 → PenAt H1 p c T → SqL K H1 a (wds.map V.int) → a ≠ p → Q' (.ref a) H1) → tl σ H Q')
    (hT : T ≤ 9000000) (hw : ∀ x ∈ wds, 1 ≤ x ∧ x ≤ 1000000) (hl : wds.length ≤ 100)
    (h0 : ∀ x, ((wipe σ vs).set i (some x))[0]? = some (some (.ref p))) (hi : ∀ x, ((wipe σ vs).set i (some x))[i]? = some (some x)) (hwp : ∀ x, wipe ((wipe σ vs).set i (some x)) vs = wipe σ vs)
    (q : ∀ H' D xs, Exx p H H' → PenAt H' p c (T + (wds.length : Nat)) → H D = none → H' D = some (.lst (xs.map V.int)) → InAll xs wds → Q (.ref D) H') :
    tLc (iList K tl) (gName i) tYes (tCall spDraw [] E0 (tCons (tVar 0) (tCons (tVar i) tNil))) vs σ H Q := by
  refine ha _ fun a H1 x1 hp1 ha1 nap => ⟨a, rfl, ⟨_, ha1⟩, fun D hD => ?_⟩
  have nDp : D ≠ p := hp1.new1 hD
  have nDc : D ≠ c := hp1.new2 hD
  refine lc_list (K := K) (a := a) (xs := wds.map V.int) (fun m H' => ∃ xs : List Int, Exx p H1 H' ∧ PenAt H' p c (T + (m : Nat)) ∧ H' D = some (.lst (xs.map V.int)) ∧ InAll xs (wds.take m)) ⟨[], Exx.ex (Evl.Ex.new hD), ?_, upd_same, inAll_nil⟩ ?_ ?_ ?_
  · have := hp1.put (o := .lst []) nDp nDc
    simpa using this
  · rintro m H' _ ⟨_, x, _⟩
    exact x.l nap ha1
  · rintro m x H2 hm ⟨xs, x2, hp2, hD2, hin⟩
    obtain ⟨wd, hwd, rfl⟩ := get_map_int hm
    have ml : m < wds.length := (List.getElem?_eq_some_iff.mp hwd).1
    obtain ⟨w1, w2⟩ := hw wd (List.mem_of_getElem? hwd)
    refine ⟨hwp _, ?_⟩
    refine ⟨.ref p, h0 _, .int wd, hi _, p, c, wd, _, rfl, hp2, w1, w2, by omega, fun r H3 r0 r1 x3 hp3 => ?_⟩
    have hD3 := x3 _ _ nDp hD2
    have xl : xs.length = m := by
      have := hin.1
      rw [List.length_take] at this
      omega
    refine ⟨_, hD3, Nat.lt_of_le_of_lt (by rw [List.length_map, xl]; omega : (xs.map V.int).length ≤ 100) (by decide), xs ++ [r], (x2.trans x3).mut hD, (hp3.put nDp nDc).mono (by omega), ?_, ?_⟩
    · rw [upd_same, List.map_append]
      rfl
    · rw [take_succ_get hwd]
      exact inAll_snoc hin r0 r1
  · rintro H2 ⟨xs, x2, hp2, hD2, hin⟩
    rw [List.length_map] at hp2 hin
    rw [List.take_length] at hin
    exact q H2 D xs (x1.trans x2) hp2 (fresh_exx x1 hp1.here hD) hD2 hin
def rTupK (K : PySem.W.Frag) : List V → Hp → VK → Prop := fun xs H Q => ∃ p ys, xs = [.ref p] ∧ ((SqL K H p ys ∧ ∀ l, H l = none → Q (.ref l) (upd H l (.tup ys))) ∨ (SqT K H p ys ∧ Q (.ref p) H))
theorem call_tupK {X : Cx} : CallR X (.type "tuple") (rTupK X.K) := call_tuple_of
def spLock (K : PySem.W.Frag) : Sp := fun vs H Q _ => ∃ (p c : Addr) (many mr T : Int), vs = [.ref p, .int many, .int 4, .int mr] ∧ PenAt H p c T ∧ T ≤ 8000000 ∧ 1 ≤ many ∧ many ≤ 61 ∧ 0 ≤ mr ∧ mr ≤ 9 ∧
  ∀ H' v l, Exx p H H' → PenAt H' p c (T + 40000) → LockS K H' v l → LockDr l → (l.length : Int) = many → Q v H'

/-! ### codes and the tuples' order -/
theorem lex_of_code {B : Int} : ∀ {u w : List Int}, u.length = w.length → TS.Bd B u → TS.Bd B w → TS.code B u ≤ TS.code B w → u ≠ w → HT.lexLt u w = true
  | [], [], _, _, _, _, ne => absurd rfl ne
  | x :: u, y :: w, hl, hu, hw, hc, ne => by
    have hl' : u.length = w.length := by simpa using hl
    have hu' : TS.Bd B u := fun m hm => hu m (List.mem_cons_of_mem _ hm)
    have hw' : TS.Bd B w := fun m hm => hw m (List.mem_cons_of_mem _ hm)
    rw [HT.lexLt_cons]
    by_cases e : x = y
    · subst e
      rw [if_pos rfl]
      refine lex_of_code hl' hu' hw' ?_ (fun z => ne (by rw [z]))
      apply Int.not_lt.mp
      intro z
      have := (TS.code_same (d := x) hl'.symm).mpr z
      omega
    · rw [if_neg e]
      apply decide_eq_true
      apply Int.not_le.mp
      intro z
      have := TS.code_lt hl'.symm hw' hu' (show y < x by omega)
      omega
  | [], _ :: _, hl, _, _, _, _ => by simp at hl
  | _ :: _, [], hl, _, _, _, _ => by simp at hl
theorem le_sum : ∀ {xs : List Nat} {x : Nat}, x ∈ xs → x ≤ xs.sum
  | y :: xs, x, h => by
    rw [List.sum_cons]
    rcases List.mem_cons.mp h with rfl | h
    · exact Nat.le_add_right _ _
    · have := le_sum h
      omega
/-! ### locks as they are drawn -/
structure BGood (wds : List Int) (srcs : List Word) (k : Nat) (b : Bolt) : Prop where
  many : wds[k]? = some b.many
  ex : ∃ ws left, Drawn b.many ws b.gaps left ∧ ws.Pairwise (fun u w => HT.lexLt u w = true) ∧ ∀ w ∈ ws, InAll w (wds.take k) ∧ ∃ s ∈ srcs, w = s.take k
theorem BGood.mono {wds : List Int} {srcs srcs' : List Word} {k : Nat} {b : Bolt} (h : BGood wds srcs k b) (hs : ∀ s ∈ srcs, s ∈ srcs') : BGood wds srcs' k b := by
  obtain ⟨m, ws, left, a, b, d⟩ := h
  refine ⟨m, ws, left, a, b, fun w hw => ?_⟩
  obtain ⟨h1, s, h2, h3⟩ := d w hw
  exact ⟨h1, s, hs s h2, h3⟩
theorem lockOk_drawn {wds : List Int} {srcs : List Word} {l : Lock} (hl : l.length = wds.length) (h0 : 1 ≤ l.length) (h60 : l.length ≤ 61) (hw : ∀ x ∈ wds, 2 ≤ x ∧ x ≤ 4) (hs : srcs.length ≤ 12)
    (hb : ∀ k b, l[k]? = some b → BGood wds srcs k b) : LockDr l := by
  have mk : ∀ k, k ≤ l.length → manysOf (l.take k) = wds.take k := by
    intro k hk
    apply List.ext_getElem?
    intro i
    unfold manysOf
    rw [List.getElem?_map, List.getElem?_take, List.getElem?_take]
    by_cases hi : i < k
    · rw [if_pos hi, if_pos hi]
      have hil : i < l.length := by omega
      rw [List.getElem?_eq_getElem hil]
      rw [(hb i l[i] (List.getElem?_eq_getElem hil)).many]
      rfl
    · rw [if_neg hi, if_neg hi]
      rfl
  refine ⟨h0, h60, fun k b hk => ?_, fun k ws hk hn hc => ?_⟩
  · have kl : k < l.length := (List.getElem?_eq_some_iff.mp hk).1
    obtain ⟨hm, ws, left, hd, hr, hws⟩ := hb k b hk
    rw [mk k (Nat.le_of_lt kl)]
    have hm2 := hw _ (List.mem_of_getElem? hm)
    have sum8 : (b.gaps.map (fun g => g.ways.length)).sum ≤ 8 := by
      have h1 := hd.sum
      have h2 := hd.left0
      omega
    refine ⟨hm2.1, hm2.2, fun g hg => ?_, hd.rise, sum8⟩
    obtain ⟨⟨a1, a2⟩, ⟨a3, a4⟩, a5, ⟨a6, a7⟩, a8⟩ := hd.each g hg
    have g8 : g.ways.length ≤ 8 := by
      have : g.ways.length ≤ (b.gaps.map (fun g => g.ways.length)).sum := le_sum (List.mem_map.mpr ⟨g, hg, rfl⟩)
      omega
    refine ⟨a1, a2, a3, a4, a5, a6, a7, g8, fun w' hw' => ?_, hr.sublist a8⟩
    have := (hws w' (a8.subset hw')).1
    exact ⟨this.1, this.2⟩
  · have : ws.length ≤ (srcs.map (fun s => s.take k)).length := by
      refine nodup_le hn fun w' hw' => ?_
      obtain ⟨j, b, g, u, hj, hbj, hg, hu, rfl⟩ := hc w' hw'
      obtain ⟨_, ws', left, hd, _, hws⟩ := hb j b hbj
      obtain ⟨_, s, hs', rfl⟩ := hws u (((hd.each g hg).2.2.2.2).subset hu)
      refine List.mem_map.mpr ⟨s, hs', ?_⟩
      rw [List.take_take, Nat.min_eq_left hj]
    rw [List.length_map] at this
    omega
end Wb

set_option Elab.async false
set_option linter.all false
set_option maxRecDepth 100000
set_option maxHeartbeats 4000000
set_option pp.maxSteps 600
set_option pp.deepTerms false
namespace Wb
open PySem PySem.Spec PyProof.Rows L2
def scTurn : Scope := { kind := .function, names := [(".0", .local), ("_law_turn", .local), ("tuple", .globalImplicit), ("_law_pen_here", .free), ("_law_widths", .free)], isGenerator := false, isCoroutine := false }
theorem keys_of {K : PySem.W.Frag} {H : Hp} : ∀ {vs : List V} {ws : List Word}, Paired (Wd K H) vs ws → ∃ ks : List (Addr × List Int), vs = ks.map (fun p => V.ref p.1) ∧ ks.map (·.2) = ws ∧ ∀ p ∈ ks, H p.1 = some (.tup (p.2.map V.int))
  | [], [], _ => ⟨[], rfl, rfl, fun p hp => (by cases hp)⟩
  | v :: vs, w :: ws, h => by
    cases h with
    | cons r t =>
      obtain ⟨ks, h1, h2, h3⟩ := keys_of t
      obtain ⟨a, rfl, ha⟩ := r
      refine ⟨(a, w) :: ks, by rw [h1]; rfl, by rw [← h2]; rfl, fun p hp => ?_⟩
      rcases List.mem_cons.mp hp with rfl | hp
      · exact ha
      · exact h3 p hp
theorem rows_of_keys {K : PySem.W.Frag} {H : Hp} : ∀ {ks : List (Addr × List Int)}, (∀ p ∈ ks, H p.1 = some (.tup (p.2.map V.int))) → Paired (Wd K H) (ks.map (fun p => V.ref p.1)) (ks.map (·.2))
  | [], _ => .nil
  | k :: ks, h => .cons ⟨k.1, rfl, h k List.mem_cons_self⟩ (rows_of_keys fun p hp => h p (List.mem_cons_of_mem _ hp))
theorem take_map_succ {bases : List Word} {m : Nat} {b : Word} (k : Nat) (h : bases[m]? = some b) : (bases.take (m + 1)).map (fun u => u.take k) = (bases.take m).map (fun u => u.take k) ++ [b.take k] := by
  rw [take_succ_get h, List.map_append]
  rfl
theorem tcb1 {r : List V → Hp → VK → Prop} {X : TE} {σ : L2.St} {H : Hp} {Q : VK} (h : X σ H (fun x H1 => r [x] H1 Q)) : tCB r (tCons X tNil) σ H Q := h
theorem tcons1 {X : TE} {σ : L2.St} {H : Hp} {Q : List V → Hp → Prop} (h : X σ H (fun x H1 => Q [x] H1)) : tCons X tNil σ H Q := h
theorem tyes1 {σ : L2.St} {H : Hp} {E F : Hp → Prop} (h : E H) : tYes σ H (fun b H3 => if b = true then E H3 else F H3) := h
section
variable {P : Program} {w : World} {K : PySem.W.Frag} {mg : Str → Option Value} {base : Heap}
theorem ok_lock {f f1 f2 f3 : Addr} {fd fd1 fd2 fd3 : FuncData} (F : Fun K "_law_lock" "_law_lock" sLock f fd) (F1 : Fun K "_law_draw" "_law_draw" sDraw f1 fd1) (b1 : Binds K fd1 ["_law_pen_here", "_law_many"] []) (g1 : mg "_law_draw" = some (.ref f1))
    (F2 : Fun K "_law_pick" "_law_pick" sPick f2 fd2) (b2 : Binds K fd2 ["_law_pen_here", "_law_some"] []) (g2 : mg "_law_pick" = some (.ref f2))
    (F3 : Fun K "_law_gaps" "_law_gaps" sGaps f3 fd3) (b3 : Binds K fd3 ["_law_pen_here", "_law_wide", "_law_words"] []) (g3 : mg "_law_gaps" = some (.ref f3)) (B : Bi mg) :
    FnOk P w K mg base CX0 4 f fd ["_law_pen_here", "_law_many", "_law_wide", "_law_more"] (spLock K) := by
  have G1 : FnOk P w K mg base CX0 1 f1 fd1 ["_law_pen_here", "_law_many"] spDraw := ok_draw F1 B
  have G3 : FnOk P w K mg base CX0 3 f3 fd3 ["_law_pen_here", "_law_wide", "_law_words"] (spGaps K) := ok_gaps F3 F1 b1 g1 F2 b2 g2 B
  refine F.ok scLock (fun vs H Q E h => ?_) (fun cdv A outer s H vs Q E hr h => ?_)
  · obtain ⟨p, c, many, mr, T, rfl, _⟩ := h; rfl
  · obtain ⟨p, c, many, mr, T, rfl, hp, T8, m1, m60, mr0, mr9, q⟩ := h
    have hr1 : Room 1 _ := hr.mono (by decide)
    refine ⟨_, pss_cons (ps_asg (pe_tup (pa_cons (pe_lc (own := [("_law_k", 4)]) (g := gName 4) rfl scLock.nd (pi_range1 (by rfl) B.range (pa_cons (pv 1) pa_nil)) (blkOk_by (own := [("_law_k", 4)]) (N := nLock) (sc := defScope sLock) (by decide +kernel))
            (fun _ _ _ _ _ => pg_name (i := 4) scLock.nd rfl (Or.inl rfl)) (fun _ _ _ _ _ => pts_nil)
            (fun _ _ _ _ _ => pe_op op_add pe_int (pe_call G1 hr1 (by rfl) g1 F1.kp b1 .nil pass0 (pa_cons (pv 0) (pa_cons (pe_op op_sub (pv 2) pe_int) pa_nil))))) (pa_cons (pe_lst pa_nil) pa_nil)))
          (pg_tup rfl (pgs_cons (pg_name (i := 5) scLock.nd rfl (.inr rfl)) (pgs_cons (pg_name (i := 6) scLock.nd rfl (.inl rfl)) pgs_nil))))
      (pss_cons (ps_setLc (i := 7) (own := [("_law_turn", 9)]) (g := gName 9) rfl scLock.nd rfl rfl (sw_true rfl rfl rfl (by decide +kernel)) (pi_range1 (by rfl) B.range (pa_cons (pe_op op_add pe_int (pe_call G1 hr1 (by rfl) g1 F1.kp b1 .nil pass0 (pa_cons (pv 0) (pa_cons pe_int pa_nil)))) pa_nil)) (blkOk_by (own := [("_law_turn", 9)]) (N := nLock) (sc := defScope sLock) (by decide +kernel))
            (fun _ _ _ _ _ => pg_name (i := 9) scLock.nd rfl (Or.inl rfl)) (fun _ _ _ _ _ => pts_nil)
            (fun _ _ _ _ _ => pe_callTy (r := rTupK K) call_tupK (by rfl) B.tuple PyProof.Rows.boot_tuple (pa_cons
              (pe_lc (own := [("_law_one", 10)]) (wi := iList K (tVar 5)) (g := gName 10) rfl scLock.nd (pi_list (pv 5)) (blkOk_by (own := [("_law_one", 10)]) (N := nLock) (sc := relS scTurn (defScope sLock)) (by decide +kernel))
                (fun _ _ _ _ _ => pg_name (i := 10) scLock.nd rfl (Or.inl rfl)) (fun _ _ _ _ _ => pts_nil)
                (fun _ _ _ _ _ => pe_call G1 hr1 (by rfl) g1 F1.kp b1 .nil pass0 (pa_cons (pv 0) (pa_cons (pv 10) pa_nil)))) pa_nil)))
      (pss_cons (ps_for PassesOwn.never rfl (pi_range1 (by rfl) B.range (pa_cons (pv 1) pa_nil)) (pg_name (i := 4) scLock.nd rfl (.inr rfl))
        (pss_cons (ps_setLc (i := 8) (own := [("_law_base", 11)]) (g := gName 11) rfl scLock.nd rfl rfl (sw_true rfl rfl rfl (by decide +kernel)) (pi_list (pv 7)) (blkOk_by (own := [("_law_base", 11)]) (N := nLock) (sc := defScope sLock) (by decide +kernel))
            (fun _ _ _ _ _ => pg_name (i := 11) scLock.nd rfl (Or.inl rfl)) (fun _ _ _ _ _ => pts_nil)
            (fun _ _ _ _ _ => pe_slice (r := rSlA K) sl_tupA (pv 11) po_none (po_some (pv 4))))
        (Evl.pss_cut (ps_if (PW.pt (pw_and (pt_cmpR op_gt (pv 3) pe_int (nomark _)) (pw_and1 (pt_cmpR op_eq (pe_call G1 hr1 (by rfl) g1 F1.kp b1 .nil pass0 (pa_cons (pv 0) (pa_cons pe_int pa_nil))) pe_int (nomark _)))))
            (pss_cons (ps_expr (pe_bm PySem.F.plainAttrs_list PySem.F.slot_list_append PySem.F.type_list_append mt_append (pv 8) (pa_cons
              (pe_callTy (r := rTupK K) call_tupK (by rfl) B.tuple PyProof.Rows.boot_tuple (pa_cons
                (pe_lc (own := [("_law_one", 10)]) (g := gName 10) rfl scLock.nd (pi_list (pe_slice sl_list (pv 5) po_none (po_some (pv 4)))) (blkOk_by (own := [("_law_one", 10)]) (N := nLock) (sc := defScope sLock) (by decide +kernel))
                  (fun _ _ _ _ _ => pg_name (i := 10) scLock.nd rfl (Or.inl rfl)) (fun _ _ _ _ _ => pts_nil)
                  (fun _ _ _ _ _ => pe_call G1 hr1 (by rfl) g1 F1.kp b1 .nil pass0 (pa_cons (pv 0) (pa_cons (pv 10) pa_nil)))) pa_nil)) pa_nil)))
            (pss_one (ps_set (i := 3) scLock.nd rfl (.inl rfl) (pe_op op_sub (pv 3) pe_int)))) pss_nil)
        (pss_one (ps_expr (pe_bm PySem.F.plainAttrs_list PySem.F.slot_list_append PySem.F.type_list_append mt_append (pv 6) (pa_cons
          (pe_tup (pa_cons (pe_ix ix_list (pv 5) (pv 4) (fun _ _ => rfl)) (pa_cons (pe_call G3 hr (by rfl) g3 F3.kp b3 .nil pass0 (pa_cons (pv 0) (pa_cons (pe_ix ix_list (pv 5) (pv 4) (fun _ _ => rfl)) (pa_cons
              (pe_callB (cr_sortedW rfl) (by rfl) B.sorted boot_sorted (pa_cons (pe_callTy (cr_setOfT rfl hr.units) (by rfl) B.set PyProof.Rows.boot_set (pa_cons (pv 8) pa_nil)) pa_nil)) pa_nil)))) pa_nil))) pa_nil)))))))
      (pss_one (ps_ret (pe_callTy (r := rTupK K) call_tupK (by rfl) B.tuple PyProof.Rows.boot_tuple (pa_cons (pv 6) pa_nil)))))), ?_⟩
    refine ⟨.int many, rfl, many, rfl, by omega, by omega, fun W nW => ?_⟩
    have nWp : W ≠ p := hp.new1 nW
    have nWc : W ≠ c := hp.new2 nW
    refine lc_range (lo := 0) (n := many.toNat) (fun i H' => ∃ wds : List Int, Exx p H H' ∧ PenAt H' p c (T + (i : Nat)) ∧ H' W = some (.lst (wds.map V.int)) ∧ wds.length = i ∧ ∀ x ∈ wds, 2 ≤ x ∧ x ≤ 4) ⟨[], Exx.ex (Evl.Ex.new nW), ?_, upd_same, rfl, fun x hx => (by cases hx)⟩ ?_ ?_
    · have := hp.put (o := .lst []) nWp nWc
      simpa using this
    · rintro i H1 hi ⟨wds, x1, hp1, hW1, wl, hw⟩
      refine ⟨rfl, ?_⟩
      refine ⟨.ref p, rfl, .int 4, rfl, 4, 1, rfl, rfl, p, c, _, _, rfl, hp1, (by decide : (1 : Int) ≤ 4 - 1), (by decide : (4 : Int) - 1 ≤ 1000000), by omega, fun r H2 r0 r1 x2 hp2 => ?_⟩
      refine ⟨2, r, rfl, rfl, _, x2 _ _ nWp hW1, Nat.lt_of_le_of_lt (by rw [List.length_map, wl]; omega : (wds.map V.int).length ≤ 61) (by decide), wds ++ [2 + r], (x1.trans x2).mut nW, (hp2.put nWp nWc).mono (by omega), by rw [upd_same, List.map_append]; rfl, by rw [List.length_append, wl]; rfl, ?_⟩
      intro x hx
      rcases List.mem_append.mp hx with h | h
      · exact hw x h
      · have : x = 2 + r := by simpa using h
        omega
    · rintro H1 ⟨wds, x1, hp1, hW1, wl, hw⟩
      refine ⟨Nat.zero_le _, fun bl nbl => ⟨(by show 2 ≤ sizeLine; decide), fun tp ntp => ?_⟩⟩
      have nblp : bl ≠ p := hp1.new1 nbl
      have nblc : bl ≠ c := hp1.new2 nbl
      have nblW : bl ≠ W := fun z => by rw [z, hW1] at nbl; cases nbl
      have e2 := Evl.Ex.new (o := .lst []) nbl
      have e3 := Evl.Ex.new (o := .tup [.ref W, .ref bl]) ntp
      generalize hH3 : upd (upd H1 bl (.lst [])) tp (.tup [.ref W, .ref bl]) = H3 at e3
      have htp : H3 tp = some (.tup [.ref W, .ref bl]) := by rw [← hH3]; exact upd_same
      have hbl3 : H3 bl = some (.lst []) := e3 _ _ upd_same
      have hW3 : H3 W = some (.lst (wds.map V.int)) := e3 _ _ (e2 _ _ hW1)
      have hp3 := hp1.ex (e2.trans e3)
      have x3 : Exx p H H3 := x1.trans (Exx.ex (e2.trans e3))
      have nbl0 : H bl = none := fresh_exx x1 hp1.here nbl
      refine ⟨tp, _, rfl, .inl (.inl htp), rfl, _, _, rfl, _, _, rfl, rfl, ?_⟩
      have wlen : (wds.length : Int) = many := by omega
      have wds60 : wds.length ≤ 61 := by omega
      have hw1 : ∀ x ∈ wds, 1 ≤ x ∧ x ≤ 1000000 := fun x hx => by have := hw x hx; omega
      -- the bases
      refine ⟨.ref p, rfl, p, c, 3, _, rfl, hp3, by decide, by decide, by omega, fun r H4 r0 r1 x4 hp4 => ⟨1, r, rfl, rfl, _, rfl, by omega, by omega, fun bs nbs => ?_⟩⟩
      have nbsp : bs ≠ p := hp4.new1 nbs
      have nbsc : bs ≠ c := hp4.new2 nbs
      have hW4 := x4 _ _ nWp hW3
      have hbl4 := x4 _ _ nblp hbl3
      have nbsW : bs ≠ W := fun z => by rw [z, hW4] at nbs; cases nbs
      have nbsbl : bs ≠ bl := fun z => by rw [z, hbl4] at nbs; cases nbs
      refine lc_range (lo := 0) (n := (1 + r).toNat) (fun i H' => ∃ (bvs : List V) (bases : List Word), Exx p H4 H' ∧ PenAt H' p c (T + 70 + 61 * (i : Nat)) ∧ H' bs = some (.lst bvs) ∧ Paired (Wd K H') bvs bases ∧ bases.length = i ∧ ∀ u ∈ bases, InAll u wds) ⟨[], [], Exx.ex (Evl.Ex.new nbs), ?_, upd_same, .nil, rfl, fun u hu => (by cases hu)⟩ ?_ ?_
      · have := hp4.put (o := .lst []) nbsp nbsc
        exact this.mono (by omega)
      · rintro i H5 hi ⟨bvs, bases, x5, hp5, hbs5, hbv5, bl5, hb5⟩
        refine ⟨rfl, ?_⟩
        refine tyes1 ?_
        refine tcb1 ?_
        refine lc_draws (K := K) (vs := [10]) (i := 10) (wds := wds) (p := p) (c := c) hp5 ?_ (by omega) hw1 (by omega) ?_ ?_ ?_ ?_
        · exact fun Q' h => ⟨.ref W, rfl, h W H5 (Exx.refl p H5) hp5 (.inl (.inl (x5 _ _ nWp hW4))) nWp⟩
        · exact fun _ => rfl
        · exact fun _ => rfl
        · exact fun _ => rfl
        intro H6 D xs x6 hp6 nD hD hin
        refine ⟨D, _, rfl, .inl ⟨.inl (.inl hD), fun t nt => ?_⟩⟩
        have e7 := Evl.Ex.new (o := .tup (xs.map V.int)) nt
        have hbs7 := e7 _ _ (x6 _ _ nbsp hbs5)
        have bvl : bvs.length = bases.length := Paired.len hbv5
        have tx6 := hp5.tx (K := K) x6
        refine ⟨bvs, hbs7, Nat.lt_of_le_of_lt (by omega : bvs.length ≤ 3) (by decide), bvs ++ [.ref t], bases ++ [xs], (x5.trans (x6.trans (Exx.ex e7))).mut nbs, ((hp6.ex e7).put nbsp nbsc).mono (by omega), upd_same, ?_, by rw [List.length_append, bl5]; rfl, ?_⟩
        · refine Paired.imp (fun _ _ => Wd.mono (TX.put hbs7)) (paired_app1 (Paired.imp (fun _ _ => Wd.mono (tx6.trans (TX.ex e7))) hbv5) ⟨t, rfl, upd_same⟩)
        · intro u hu
          rcases List.mem_append.mp hu with h | h
          · exact hb5 u h
          · have : u = xs := by simpa using h
            subst this
            exact hin
      · rintro H5 ⟨bvs, bases, x5, hp5, hbs5, hbv5, bl5, hb5⟩
        have bl3 : bases.length ≤ 3 := by omega
        have bl1 : 1 ≤ bases.length := by omega
        have nbs0 : H bs = none := fresh_exx (x3.trans x4) hp4.here nbs
        have x35 : Exx p H H5 := x3.trans (x4.trans x5)
        -- the bolts
        refine ⟨.int many, rfl, many, rfl, by omega, by omega, ?_⟩
        refine for_range (lo := 0) (n := many.toNat) (fun k σ H' => ∃ (more : Int) (lvs : List V) (l : Lock) (srcs : List Word) (y4 y8 y9 y10 y11 : Option V), σ = [some (.ref p), some (.int many), some (.int 4), some (.int more), y4, some (.ref W), some (.ref bl), some (.ref bs), y8, y9, y10, y11] ∧
            Exx p H H' ∧ PenAt H' p c (T + 300 + 600 * (k : Nat)) ∧ H' W = some (.lst (wds.map V.int)) ∧ H' bs = some (.lst bvs) ∧ Paired (Wd K H') bvs bases ∧ H' bl = some (.lst lvs) ∧ Paired (BoltS K H') lvs l ∧ l.length = k ∧
            (∀ s ∈ bases, s ∈ srcs) ∧ (srcs.length : Int) + more ≤ 12 ∧ 0 ≤ more ∧ ∀ j b, l[j]? = some b → BGood wds srcs j b)
          ⟨mr, [], [], bases, _, _, _, _, _, rfl, x35, hp5.mono (by omega), x5 _ _ nWp hW4, hbs5, hbv5, x5 _ _ nblp hbl4, .nil, rfl, fun s h => h, by omega, mr0, fun j b h => by simp at h⟩ ?_ ?_
        · rintro k σ H6 hk ⟨more, lvs, l, srcs, y4, y8, y9, y10, y11, rfl, x6, hp6, hW6, hbs6, hbv6, hbl6, hlv6, ll, hsub, hmore, more0, hgood⟩
          have ek : (0 : Int) + (k : Nat) = ((k : Nat) : Int) := by omega
          rw [ek]
          have kl : k < wds.length := by omega
          have bvl : bvs.length = bases.length := Paired.len hbv6
          -- the words
          refine ⟨.ref bs, rfl, bs, rfl, ⟨bvs, .inl (.inl hbs6)⟩, fun wlA nwl => ?_⟩
          have nwlp : wlA ≠ p := hp6.new1 nwl
          have nwlc : wlA ≠ c := hp6.new2 nwl
          refine lc_list (K := K) (a := bs) (xs := bvs) (fun m H' => ∃ vs : List V, Evl.Ex H6 H' ∧ H' wlA = some (.lst vs) ∧ Paired (Wd K H') vs ((bases.take m).map (fun u => u.take k))) ⟨[], Evl.Ex.new nwl, upd_same, .nil⟩ ?_ ?_ ?_
          · rintro m H' _ ⟨_, e, _⟩
            exact .inl (.inl (e _ _ hbs6))
          · rintro m x H7 hm ⟨vs, e7, hwl7, hv7⟩
            obtain ⟨u, hu, ⟨ax, rfl, hax⟩⟩ := Paired.get1 hbv6 hm
            have ul : u.length = wds.length := (hb5 u (List.mem_of_getElem? hu)).1
            have ml : m < bases.length := (List.getElem?_eq_some_iff.mp hu).1
            refine ⟨rfl, .ref ax, rfl, .int (k : Nat), rfl, (k : Nat), rfl, ax, _, rfl, .inl (.inl (e7 _ _ hax)), fun z => absurd (slice_whole z.2) (by rw [List.length_map]; omega), fun _ t nt => ?_⟩
            rw [cut_take, ← List.map_take]
            have e8 := Evl.Ex.new (o := .tup ((u.take k).map V.int)) nt
            have vl : vs.length ≤ 3 := by
              have := Paired.len hv7
              rw [List.length_map, List.length_take] at this
              omega
            refine ⟨vs, e8 _ _ hwl7, Nat.lt_of_le_of_lt vl (by decide), vs ++ [.ref t], (e7.trans e8).mut nwl, upd_same, ?_⟩
            rw [take_map_succ k hu]
            exact Paired.imp (fun _ _ => Wd.mono (TX.put (e8 _ _ hwl7))) (paired_app1 (Paired.imp (fun _ _ => wd_ex e8) hv7) ⟨t, rfl, upd_same⟩)
          · rintro H7 ⟨vs, e7, hwl7, hv7⟩
            rw [bvl, List.take_length] at hv7
            have hp7 := hp6.ex e7
            have vl7 : vs.length = bases.length := by
              have := Paired.len hv7
              rwa [List.length_map] at this
            have w0 : ∀ u ∈ bases.map (fun u => u.take k), InAll u (wds.take k) ∧ ∃ s ∈ srcs, u = s.take k := by
              intro u hu
              obtain ⟨b0, hb0, rfl⟩ := List.mem_map.mp hu
              exact ⟨inAll_take (hb5 b0 hb0) k, b0, hsub b0 hb0, rfl⟩
            refine ⟨fun σ' H' => ∃ (more' : Int) (vs' : List V) (words : List Word) (srcs' : List Word) (y9 y10 y11 : Option V), σ' = [some (.ref p), some (.int many), some (.int 4), some (.int more'), some (.int (k : Nat)), some (.ref W), some (.ref bl), some (.ref bs), some (.ref wlA), y9, y10, y11] ∧
                Exx p H6 H' ∧ PenAt H' p c (T + 300 + 600 * (k : Nat) + 61) ∧ H' wlA = some (.lst vs') ∧ Paired (Wd K H') vs' words ∧ 1 ≤ words.length ∧ words.length ≤ 4 ∧ (∀ u ∈ words, InAll u (wds.take k) ∧ ∃ s ∈ srcs', u = s.take k) ∧ (∀ s ∈ srcs, s ∈ srcs') ∧ (srcs'.length : Int) + more' ≤ 12 ∧ 0 ≤ more', ?_, ?_⟩
            · have same : ∀ {Hx : Hp} {z9 z10 z11 : Option V}, Exx p H7 Hx → PenAt Hx p c (T + 300 + 600 * (k : Nat) + 61) → ∃ (more' : Int) (vs' : List V) (words : List Word) (srcs' : List Word) (y9 y10 y11 : Option V), ([some (.ref p), some (.int many), some (.int 4), some (.int more), some (.int (k : Nat)), some (.ref W), some (.ref bl), some (.ref bs), some (.ref wlA), z9, z10, z11] : L2.St) = [some (.ref p), some (.int many), some (.int 4), some (.int more'), some (.int (k : Nat)), some (.ref W), some (.ref bl), some (.ref bs), some (.ref wlA), y9, y10, y11] ∧
                  Exx p H6 Hx ∧ PenAt Hx p c (T + 300 + 600 * (k : Nat) + 61) ∧ Hx wlA = some (.lst vs') ∧ Paired (Wd K Hx) vs' words ∧ 1 ≤ words.length ∧ words.length ≤ 4 ∧ (∀ u ∈ words, InAll u (wds.take k) ∧ ∃ s ∈ srcs', u = s.take k) ∧ (∀ s ∈ srcs, s ∈ srcs') ∧ (srcs'.length : Int) + more' ≤ 12 ∧ 0 ≤ more' := by
                intro Hx z9 z10 z11 ex hpx
                exact ⟨more, vs, bases.map (fun u => u.take k), srcs, _, _, _, rfl, (Exx.ex e7).trans ex, hpx, ex _ _ nwlp hwl7, Paired.imp (fun _ _ => Wd.mono (hp7.tx ex)) hv7, by rw [List.length_map]; exact bl1, by rw [List.length_map]; omega, w0, fun s h => h, hmore, more0⟩
              refine ⟨.int more, rfl, more, 0, rfl, rfl, _, rfl, ?_⟩
              refine ite2 (fun hgt => ?_) (fun _ => same (Exx.refl p H7) (hp7.mono (by omega)))
              have hgt' : 0 < more := of_decide_eq_true hgt
              refine ⟨.ref p, rfl, p, c, 3, _, rfl, hp7, by decide, by decide, by omega, fun r' H8 _ _ x8 hp8 => ?_⟩
              refine ⟨rfl, _, rfl, ?_⟩
              refine ite2 (fun _ => ?_) (fun _ => same x8 (hp8.mono (by omega)))
              -- one word more
              have hwl8 := x8 _ _ nwlp hwl7
              have hW8 : H8 W = some (.lst (wds.map V.int)) := x8 _ _ nWp (e7 _ _ hW6)
              refine ⟨.ref wlA, rfl, .inl ⟨rfl, _, SqL.of hwl8⟩, ?_⟩
              refine tcons1 ?_
              refine tcb1 ?_
              refine lc_draws (K := K) (vs := [10]) (i := 10) (wds := wds.take k) (p := p) (c := c) (T := T + 300 + 600 * (k : Nat) + 1) (hp8.mono (by omega)) ?_ (by omega) (fun x hx => hw1 x (List.mem_of_mem_take hx)) (by rw [List.length_take]; omega) ?_ ?_ ?_ ?_
              rotate_left
              · exact fun _ => rfl
              · exact fun _ => rfl
              · exact fun _ => rfl
              rotate_left
              · intro Q' h
                refine ⟨.ref W, rfl, .int (k : Nat), rfl, (k : Nat), rfl, W, _, rfl, .inl (.inl hW8), fun S nS => ?_⟩
                rw [cut_take, ← List.map_take]
                have e9 := Evl.Ex.new (o := .lst ((wds.take k).map V.int)) nS
                exact h S _ (Exx.ex e9) ((hp8.ex e9).mono (by omega)) (.inl (.inl upd_same)) (hp8.new1 nS)
              · intro H9 D xs x9 hp9 nD hD hin
                refine ⟨D, _, rfl, .inl ⟨.inl (.inl hD), fun t nt => ?_⟩⟩
                have e10 := Evl.Ex.new (o := .tup (xs.map V.int)) nt
                have hwl10 := e10 _ _ (x9 _ _ nwlp hwl8)
                refine ⟨wlA, vs, _, rfl, rfl, hwl10, Nat.lt_of_le_of_lt (by omega : vs.length ≤ 3) (by decide), ?_⟩
                refine ⟨.int more, rfl, more, 1, rfl, rfl, ?_⟩
                have xl : xs.length = k := by
                  have := hin.1
                  rw [List.length_take] at this
                  omega
                have hpt : (((wds.take k).length : Nat) : Int) ≤ 60 := by rw [List.length_take]; omega
                refine ⟨more - 1, vs ++ [.ref t], bases.map (fun u => u.take k) ++ [xs], srcs ++ [xs], _, _, _, rfl, ((Exx.ex e7).trans (x8.trans (x9.trans (Exx.ex e10)))).mut nwl, ((hp9.ex e10).put nwlp nwlc).mono (by omega), upd_same, ?_, by rw [List.length_append, List.length_map]; omega, by rw [List.length_append, List.length_map]; simp; omega, ?_, fun s h => List.mem_append_left _ h, by rw [List.length_append]; simp; omega, by omega⟩
                · refine Paired.imp (fun _ _ => Wd.mono (TX.put hwl10)) (paired_app1 (Paired.imp (fun _ _ => Wd.mono ((hp7.tx x8).trans ((hp8.tx x9).trans (TX.ex e10)))) hv7) ⟨t, rfl, upd_same⟩)
                · intro u hu
                  rcases List.mem_append.mp hu with h | h
                  · obtain ⟨h1, s', h2, h3⟩ := w0 u h
                    exact ⟨h1, s', List.mem_append_left _ h2, h3⟩
                  · have : u = xs := by simpa using h
                    subst this
                    exact ⟨hin, u, List.mem_append_right _ (by simp), by rw [List.take_of_length_le (by omega)]⟩
            · rintro σ' H8 ⟨more', vs', words, srcs', z9, z10, z11, rfl, x8, hp8, hwl8, hv8, wd1, wd4, hwords, hsrcs, hmore', more0'⟩
              have hW8 : H8 W = some (.lst (wds.map V.int)) := x8 _ _ nWp hW6
              have hbl8 : H8 bl = some (.lst lvs) := x8 _ _ nblp hbl6
              obtain ⟨wd, hwd⟩ : ∃ wd, wds[k]? = some wd := ⟨wds[k], List.getElem?_eq_getElem kl⟩
              have hwd2 := hw wd (List.mem_of_getElem? hwd)
              obtain ⟨ks, rfl, hks, hkt⟩ := keys_of hv8
              have bd : ∀ q ∈ ks, q.2.length = k ∧ TS.Bd 4 q.2 := by
                intro q hq
                have hq2 : q.2 ∈ words := by rw [← hks]; exact List.mem_map.mpr ⟨q, hq, rfl⟩
                obtain ⟨⟨h1, h2⟩, _⟩ := hwords q.2 hq2
                rw [List.length_take] at h1
                refine ⟨by omega, fun m hm => ?_⟩
                obtain ⟨j, hj, rfl⟩ := List.getElem_of_mem hm
                have hjk : j < (wds.take k).length := by rw [List.length_take]; omega
                have := h2 j _ _ (List.getElem?_eq_getElem hj) (List.getElem?_eq_getElem hjk)
                have h4 := hw ((wds.take k)[j]) (List.mem_of_mem_take (List.getElem_mem hjk))
                omega
              have ksl : ks.length = words.length := by rw [← hks, List.length_map]
              refine ⟨.ref bl, rfl, .inl ⟨rfl, _, SqL.of hbl8⟩, ?_⟩
              refine ⟨.ref W, rfl, .int (k : Nat), rfl, W, _, (k : Nat), .int wd, rfl, rfl, .inl (.inl hW8), atI_nat (map_int_get hwd), ?_⟩
              refine ⟨.ref p, rfl, .ref W, rfl, .int (k : Nat), rfl, W, _, (k : Nat), .int wd, rfl, rfl, .inl (.inl hW8), atI_nat (map_int_get hwd), ?_⟩
              refine ⟨.ref wlA, rfl, wlA, ks, rfl, .inl (.inl hwl8), fun q hq => .inl (.inl (hkt q hq)), by omega, fun sa L nsa hL1 hL2 => ?_⟩
              have e9 := Evl.Ex.new (o := SetTO P w sa L) nsa
              have Lne : L ≠ [] := by
                intro z
                cases hk0 : ks with
                | nil => rw [hk0] at ksl; simp at ksl; omega
                | cons q0 qs =>
                  have := hL2 q0 (by rw [hk0]; exact List.mem_cons_self)
                  rw [z] at this
                  cases this
              refine ⟨sa, L, k, 4, rfl, upd_same, fun q hq => .inl (.inl (e9 _ _ (hkt q (hL1 q hq)))), fun q hq => bd q (hL1 q hq), Lne, fun L' sl perm nodup l64 pw nsl => ?_⟩
              have e10 : Evl.Ex (upd H8 sa (SetTO P w sa L)) (upd (upd H8 sa (SetTO P w sa L)) sl (.lst (L'.map fun q => V.ref q.1))) := Evl.Ex.new nsl
              have e810 := e9.trans e10
              have hp10 := hp8.ex e810
              have hL' : ∀ q ∈ L', q ∈ ks := fun q hq => hL1 q (perm.mem_iff.mp hq)
              have rows10 : Paired (Wd K (upd (upd H8 sa (SetTO P w sa L)) sl (.lst (L'.map fun q => V.ref q.1)))) (L'.map fun q => V.ref q.1) (L'.map (·.2)) := rows_of_keys fun q hq => e810 _ _ (hkt q (hL' q hq))
              have rise : (L'.map (·.2)).Pairwise (fun u w => HT.lexLt u w = true) := by
                rw [List.pairwise_iff_getElem]
                intro i j hi hj hij
                have hi' : i < L'.length := by rwa [List.length_map] at hi
                have hj' : j < L'.length := by rwa [List.length_map] at hj
                have ne := List.pairwise_iff_getElem.mp nodup i j hi hj hij
                have cd := List.pairwise_iff_getElem.mp pw i j hi' hj' hij
                rw [List.getElem_map, List.getElem_map] at ne ⊢
                obtain ⟨a1, a2⟩ := bd L'[i] (hL' _ (List.getElem_mem hi'))
                obtain ⟨a3, a4⟩ := bd L'[j] (hL' _ (List.getElem_mem hj'))
                exact lex_of_code (by omega) a2 a4 cd ne
              have sub : ∀ u ∈ L'.map (·.2), u ∈ words := by
                intro u hu
                obtain ⟨q, hq, rfl⟩ := List.mem_map.mp hu
                rw [← hks]
                exact List.mem_map.mpr ⟨q, hL' q hq, rfl⟩
              have l8 : (L'.map (·.2)).length ≤ 8 := by
                have := nodup_le nodup sub
                omega
              refine ⟨p, c, sl, wd, _, _, L'.map (fun q : Addr × List Int => q.2), rfl, hp10, by omega, hwd2.1, hwd2.2, (hp8.ex e9).new1 nsl, upd_same, rows10, l8, fun H11 ga gvs gs left x11 hp11 hga hgv hdr => ?_⟩
              refine ⟨(by show 2 ≤ sizeLine; decide), fun bt nbt => ?_⟩
              have e12 := Evl.Ex.new (o := .tup [.int wd, .ref ga]) nbt
              generalize hH12 : upd H11 bt (.tup [.int wd, .ref ga]) = H12 at e12
              have hbt : H12 bt = some (.tup [.int wd, .ref ga]) := by rw [← hH12]; exact upd_same
              have x812 : Exx p H8 H12 := (Exx.ex e810).trans (x11.trans (Exx.ex e12))
              have hbl12 : H12 bl = some (.lst lvs) := x812 _ _ nblp hbl8
              have tx612 : TX K H6 H12 := hp6.tx (x8.trans x812)
              have lvl : lvs.length = l.length := Paired.len hlv6
              have hW12 := x812 _ _ nWp hW8
              have hbs12 := x812 _ _ nbsp (x8 _ _ nbsp hbs6)
              have nWbl : W ≠ bl := fun z => nblW z.symm
              have bAt : BoltS K H12 (.ref bt) ⟨wd, gs⟩ := ⟨bt, ga, gvs, rfl, hbt, e12 _ _ hga, Paired.imp (fun _ _ => GapS.mono (TX.ex e12)) hgv⟩
              refine ⟨bl, lvs, _, rfl, rfl, hbl12, Nat.lt_of_le_of_lt (by omega : lvs.length ≤ 61) (by decide), ?_⟩
              refine ⟨more', lvs ++ [.ref bt], l ++ [⟨wd, gs⟩], srcs', _, _, _, _, _, rfl, (x6.trans (x8.trans x812)).mut nbl0, ((hp11.ex e12).put nblp nblc).mono (by omega), by rw [upd_ne nWbl]; exact hW12, by rw [upd_ne nbsbl]; exact hbs12, ?_, upd_same, ?_, by rw [List.length_append, ll]; rfl, fun s hs => hsrcs s (hsub s hs), hmore', more0', ?_⟩
              · exact Paired.imp (fun _ _ => Wd.mono (tx612.trans (TX.put hbl12))) hbv6
              · exact Paired.imp (fun _ _ => BoltS.mono (TX.put hbl12)) (paired_app1 (Paired.imp (fun _ _ => BoltS.mono tx612) hlv6) bAt)
              · intro j b hj
                by_cases hjl : j < l.length
                · rw [List.getElem?_append_left hjl] at hj
                  exact (hgood j b hj).mono hsrcs
                · rw [List.getElem?_append_right (by omega)] at hj
                  have : j = l.length := by
                    by_cases e : j - l.length = 0
                    · omega
                    · rw [List.getElem?_eq_none (by simp; omega)] at hj; cases hj
                  subst this
                  rw [Nat.sub_self] at hj
                  have eb : b = ⟨wd, gs⟩ := (Option.some.inj hj).symm
                  subst eb
                  rw [ll]
                  exact ⟨hwd, L'.map (·.2), left, hdr, rise, fun u hu => hwords u (sub u hu)⟩
        · rintro σ H6 ⟨more, lvs, l, srcs, y4, y8, y9, y10, y11, rfl, x6, hp6, hW6, hbs6, hbv6, hbl6, hlv6, ll, hsub, hmore, more0, hgood⟩
          refine ⟨.ref bl, rfl, bl, lvs, rfl, .inl ⟨.inl (.inl hbl6), fun lt nlt => ?_⟩⟩
          have e7 := Evl.Ex.new (o := .tup lvs) nlt
          have lw : l.length = wds.length := by omega
          refine q _ (.ref lt) l (x6.trans (Exx.ex e7)) ((hp6.ex e7).mono (by omega)) ⟨lt, lvs, rfl, upd_same, Paired.imp (fun _ _ => BoltS.mono (TX.ex e7)) hlv6⟩ (lockOk_drawn lw (by omega) (by omega) hw (by omega) hgood) (by omega)
end
end Wb

set_option Elab.async false
set_option linter.all false
set_option maxRecDepth 100000
set_option maxHeartbeats 4000000
set_option pp.maxSteps 600
set_option pp.deepTerms false
namespace Wb
open PySem PySem.Spec PyProof.Rows L2
abbrev sAllWays : Stmt := topS 25
abbrev nAllWays : List Str := ["_law_lock_here", "_law_found", "_law_bolt", "_law_gap"]
theorem scAllWays : FnScope nAllWays ["_law_lock_here"] (defScope sAllWays) := ⟨rfl, rfl, rfl, by decide +kernel, rfl, by decide +kernel, by decide +kernel⟩
def gapWays (gs : List Gap) : List Word := gs.flatMap (·.ways)
def lockWays (l : Lock) : List Word := l.flatMap fun b => gapWays b.gaps
theorem gapWays_snoc (gs : List Gap) (g : Gap) : gapWays (gs ++ [g]) = gapWays gs ++ g.ways := by
  unfold gapWays
  rw [List.flatMap_append]
  simp
theorem lockWays_snoc (l : Lock) (b : Bolt) : lockWays (l ++ [b]) = lockWays l ++ gapWays b.gaps := by
  unfold lockWays
  rw [List.flatMap_append]
  simp
theorem gapWays_len : ∀ gs : List Gap, (gapWays gs).length = (gs.map (fun g => g.ways.length)).sum
  | [] => rfl
  | g :: gs => by
    have := gapWays_len gs
    unfold gapWays at this ⊢
    rw [List.flatMap_cons, List.length_append, this]
    rfl
theorem gapWays_take {gs : List Gap} (m : Nat) : (gapWays (gs.take m)).length ≤ (gapWays gs).length := by
  have h : gapWays gs = gapWays (gs.take m) ++ gapWays (gs.drop m) := by
    unfold gapWays
    rw [← List.flatMap_append, List.take_append_drop]
  rw [h, List.length_append]
  omega
theorem gapWays_ok {l : Lock} (ok : LockDr l) {b : Bolt} (hb : b ∈ l) : (gapWays b.gaps).length ≤ 8 := by
  obtain ⟨k, hk, rfl⟩ := List.getElem_of_mem hb
  rw [gapWays_len]
  exact (ok.bolts k _ (List.getElem?_eq_getElem hk)).few
theorem lockWays_len : ∀ {l : Lock}, (∀ b ∈ l, (gapWays b.gaps).length ≤ 8) → (lockWays l).length ≤ 8 * l.length
  | [], _ => Nat.zero_le _
  | b :: l, h => by
    have h1 := lockWays_len (l := l) fun b' hb' => h b' (List.mem_cons_of_mem _ hb')
    have h2 := h b List.mem_cons_self
    unfold lockWays at h1 ⊢
    rw [List.flatMap_cons, List.length_append, List.length_cons]
    omega
theorem mem_lockWays {l : Lock} {u : Word} (h : u ∈ lockWays l) : ∃ (k : Nat) (b : Bolt) (g : Gap), l[k]? = some b ∧ g ∈ b.gaps ∧ u ∈ g.ways := by
  obtain ⟨b, hb, h1⟩ := List.mem_flatMap.mp h
  obtain ⟨g, hg, h2⟩ := List.mem_flatMap.mp h1
  obtain ⟨k, hk⟩ := List.mem_iff_getElem?.mp hb
  exact ⟨k, b, g, hk, hg, h2⟩
def spAllWays (K : PySem.W.Frag) : Sp := fun vs H Q _ => ∃ (v : V) (l : Lock), vs = [v] ∧ LockAt K H v l ∧ LockDr l ∧
  ∀ H' a us, Evl.Ex H H' → H a = none → H' a = some (.lst us) → Paired (Wd K H') us (lockWays l) → Q (.ref a) H'
section
variable {P : Program} {w : World} {K : PySem.W.Frag} {mg : Str → Option Value} {base : Heap}
theorem ok_allways {f : Addr} {fd : FuncData} (F : Fun K "_law_ways" "_law_ways" sAllWays f fd) (B : Bi mg) : FnOk P w K mg base CX0 1 f fd ["_law_lock_here"] (spAllWays K) := by
  refine F.ok scAllWays (fun vs H Q E h => ?_) (fun cdv A outer s H vs Q E hr h => ?_)
  · obtain ⟨v, l, rfl, _⟩ := h; rfl
  · obtain ⟨v, l, rfl, ⟨a, bs, rfl, ha, hbs⟩, ok, q⟩ := h
    refine ⟨_, pss_cons (ps_set (i := 1) scAllWays.nd rfl (.inl rfl) (pe_lst pa_nil))
      (pss_cons (ps_for PassesOwn.never rfl (pi_tup (pv 0)) (pg_name (i := 2) scAllWays.nd rfl (.inl rfl))
        (pss_one (ps_for PassesOwn.never rfl (pi_tup (pe_ix ix_tup (pv 2) pe_int (fun _ _ => rfl))) (pg_name (i := 3) scAllWays.nd rfl (.inl rfl))
          (pss_one (ps_set (i := 1) scAllWays.nd rfl (.inl rfl) (pe_op op_cat (pv 1) (pe_callTy call_list_of (by rfl) B.list PyProof.Rows.boot_list (pa_cons (pe_ix ix_tup (pv 3) pe_int (fun _ _ => rfl)) pa_nil))))))))
      (pss_one (ps_ret (pv 1)))), ?_⟩
    refine ⟨Nat.zero_le _, fun l0 n0 => ?_⟩
    have bl : bs.length = l.length := Paired.len hbs
    have few : ∀ b ∈ l, (gapWays b.gaps).length ≤ 8 := fun b hb => gapWays_ok ok hb
    refine ⟨.ref a, rfl, a, rfl, ⟨_, Evl.ex_t (Evl.Ex.new n0) ha⟩, ?_⟩
    refine for_tup (K := K) (a := a) (xs := bs) (fun i σ H' => ∃ (r : Addr) (us : List V) (y2 y3 : Option V), σ = [some (.ref a), some (.ref r), y2, y3] ∧ Evl.Ex H H' ∧ H r = none ∧ H' r = some (.lst us) ∧ Paired (Wd K H') us (lockWays (l.take i)))
      ⟨l0, [], none, none, rfl, Evl.Ex.new n0, n0, upd_same, .nil⟩ ?_ ?_ ?_
    · rintro i σ H1 _ ⟨r, us, y2, y3, _, e1, _⟩
      exact Evl.ex_t e1 ha
    · rintro i x σ H1 hx ⟨r, us, y2, y3, rfl, e1, nr, hr1, hus⟩
      obtain ⟨b, hb, ⟨a1, c1, gs, rfl, h1, h2, h3⟩⟩ := Paired.get1 hbs hx
      have il : i < l.length := (List.getElem?_eq_some_iff.mp hb).1
      have l60 := ok.n1
      refine ⟨.ref a1, rfl, a1, _, 1, .ref c1, rfl, rfl, Evl.ex_t e1 h1, rfl, c1, rfl, ⟨_, Evl.ex_t e1 h2⟩, ?_⟩
      refine for_tup (K := K) (a := c1) (xs := gs) (fun j σ H' => ∃ (r : Addr) (us : List V) (y3 : Option V), σ = [some (.ref a), some (.ref r), some (.ref a1), y3] ∧ Evl.Ex H H' ∧ H r = none ∧ H' r = some (.lst us) ∧ Paired (Wd K H') us (lockWays (l.take i) ++ gapWays (b.gaps.take j)))
        ⟨r, us, _, rfl, e1, nr, hr1, by simpa [gapWays] using hus⟩ ?_ ?_ ?_
      · rintro j σ H2 _ ⟨r, us, y3, _, e2, _⟩
        exact Evl.ex_t e2 h2
      · rintro j x σ H2 hx2 ⟨r, us, y3, rfl, e2, nr, hr2, hus⟩
        obtain ⟨g, hg, ⟨a2, b2, ws, rfl, k1, k2, k3⟩⟩ := Paired.get1 h3 hx2
        refine ⟨.ref r, rfl, .ref a2, rfl, a2, _, 3, .ref b2, rfl, rfl, Evl.ex_t e2 k1, rfl, b2, ws, rfl, .inr (Evl.ex_t e2 k2), fun q1 nq1 => ?_⟩
        have e3 := Evl.Ex.new (o := .lst ws) nq1
        have lus : us.length ≤ 500 := by
          have z1 := Paired.len hus
          rw [List.length_append] at z1
          have z2 := lockWays_len (l := l.take i) fun b hb => few b (List.mem_of_mem_take hb)
          have z3 := gapWays_take (gs := b.gaps) j
          have z4 := few b (List.mem_of_getElem? hb)
          rw [List.length_take] at z2
          omega
        have lws : ws.length ≤ 8 := by
          have z1 := Paired.len k3
          have z4 := ((ok.bolts i b hb).gaps g (List.mem_of_getElem? hg)).few
          omega
        refine ⟨r, q1, us, ws, rfl, rfl, e3 _ _ hr2, upd_same, Nat.le_trans (by omega : us.length + ws.length ≤ 508) (by decide), fun q2 nq2 => ?_⟩
        have e4 := Evl.Ex.new (o := .lst (us ++ ws)) nq2
        have nq20 : H q2 = none := Evl.fresh_back (e2.trans e3) nq2
        refine ⟨q2, us ++ ws, _, rfl, e2.trans (e3.trans e4), nq20, upd_same, ?_⟩
        rw [take_succ_get hg, gapWays_snoc, ← List.append_assoc]
        exact Paired.app (Paired.imp (fun _ _ => wd_ex (e3.trans e4)) hus) (Paired.imp (fun _ _ => wd_ex (e2.trans (e3.trans e4))) k3)
      · rintro σ H2 ⟨r, us, y3, rfl, e2, nr, hr2, hus⟩
        refine ⟨r, us, _, _, rfl, e2, nr, hr2, ?_⟩
        rw [Paired.len h3, List.take_length] at hus
        rw [take_succ_get hb, lockWays_snoc]
        exact hus
    · rintro σ H1 ⟨r, us, y2, y3, rfl, e1, nr, hr1, hus⟩
      rw [bl, List.take_length] at hus
      exact ⟨.ref r, rfl, q H1 r us e1 nr hr1 hus⟩
end
end Wb

set_option Elab.async false
set_option linter.all false
set_option maxRecDepth 100000
set_option maxHeartbeats 4000000
set_option pp.maxSteps 600
set_option pp.deepTerms false
namespace Wb
open PySem PySem.Spec PyProof.Rows L2
/-! ### data that is small: it can be compared and written -/
structure Fine (d : PyData) (n L : Nat) : Prop where
  lay : d.canLay0 = true
  sho : d.showable = true
  dep : d.depth ≤ n
  len : d.shown.length ≤ L
structure FineAll (ds : List PyData) (n S : Nat) : Prop where
  lay : PyData.canLayAll0 ds = true
  sho : PyData.showableAll ds = true
  dep : PyData.depthAll ds ≤ n
  len : piled (PyData.shownAll ds) ≤ S
theorem FineAll.nil {n : Nat} : FineAll [] n 0 := ⟨rfl, rfl, Nat.zero_le _, Nat.le_refl _⟩
theorem FineAll.cons {d : PyData} {ds : List PyData} {n L S : Nat} (h : Fine d n L) (t : FineAll ds n S) : FineAll (d :: ds) n (L + 2 + S) := by
  obtain ⟨a1, a2, a3, a4⟩ := h
  obtain ⟨b1, b2, b3, b4⟩ := t
  refine ⟨by simp [PyData.canLayAll0, a1, b1], by simp [PyData.showableAll, a2, b2], by simp only [PyData.depthAll]; omega, ?_⟩
  simp only [PyData.shownAll, piled_cons]
  omega
theorem FineAll.rep {n B : Nat} : ∀ {ds : List PyData}, (∀ d ∈ ds, Fine d n B) → FineAll ds n (ds.length * (B + 2))
  | [], _ => by simpa using FineAll.nil
  | d :: ds, h => by
    have := FineAll.cons (h d List.mem_cons_self) (FineAll.rep fun d' hd => h d' (List.mem_cons_of_mem _ hd))
    rw [List.length_cons, Nat.succ_mul, Nat.add_comm]
    exact this
theorem FineAll.mono {ds : List PyData} {n S S' : Nat} (h : FineAll ds n S) (l : S ≤ S') : FineAll ds n S' := ⟨h.1, h.2, h.3, Nat.le_trans h.4 l⟩
theorem Fine.mono {d : PyData} {n n' L L' : Nat} (h : Fine d n L) (a : n ≤ n') (b : L ≤ L') : Fine d n' L' := ⟨h.1, h.2, Nat.le_trans h.3 a, Nat.le_trans h.4 b⟩
theorem join_le (ts : List Str) : (Str.join ", " ts).length ≤ piled ts := by
  cases ts with
  | nil => exact Nat.zero_le _
  | cons t ts =>
    have := join_length_add (t :: ts) (by simp)
    omega
theorem textFrom_le : ∀ (ts : List Str) (k : Nat) (acc : Str), (textFrom k acc ts).length ≤ acc.length + piled ts
  | [], k, acc => by show acc.length ≤ _; omega
  | t :: ts, k, acc => by
    have h := textFrom_le ts (k + 1) (acc ++ (if k > 0 then ", " else "" : String) ++ t)
    have e : (acc ++ (if k > 0 then ", " else "" : String) ++ t).length = acc.length + (if k > 0 then 2 else 0) + t.length := by
      rw [strLen_append, strLen_append]
      split <;> rfl
    have e2 : (if k > 0 then 2 else 0 : Nat) ≤ 2 := by split <;> omega
    rw [piled_cons]
    show (textFrom (k + 1) _ ts).length ≤ _
    omega
theorem fine_tup {ds : List PyData} {n S : Nat} (h : FineAll ds n S) : Fine (.tuple ds) (n + 1) (S + 3) := by
  obtain ⟨b1, b2, b3, b4⟩ := h
  refine ⟨by simpa only [PyData.canLay0] using b1, by simpa only [PyData.showable] using b2, by simp only [PyData.depth]; omega, ?_⟩
  simp only [PyData.shown]
  unfold tupleText
  rw [strLen_append, strLen_append]
  have e1 : ((("(" : String) : Str)).length = 1 := rfl
  have e3 : (((if (PyData.shownAll ds).length == 1 then ",)" else ")" : String) : Str)).length ≤ 2 := by split <;> decide
  have := join_le (PyData.shownAll ds)
  omega
theorem fine_lst {ds : List PyData} {n S : Nat} (h : FineAll ds n S) : Fine (.list ds) (n + 1) (S + 3) := by
  obtain ⟨b1, b2, b3, b4⟩ := h
  refine ⟨by simpa only [PyData.canLay0] using b1, by simpa only [PyData.showable] using b2, by simp only [PyData.depth]; omega, ?_⟩
  simp only [PyData.shown]
  unfold listText
  rw [strLen_append]
  have e1 : ((("]" : String) : Str)).length = 1 := rfl
  have e2 : ((("[" : String) : Str)).length = 1 := rfl
  have := textFrom_le (PyData.shownAll ds) 0 "["
  omega
theorem fine_int {i : Int} (h : i.natAbs < 10 ^ 7) : Fine (.int i) 0 8 := by
  refine ⟨by simp only [PyData.canLay0], ?_, by simp only [PyData.depth]; omega, ?_⟩
  · simp only [PyData.showable]
    refine decide_eq_true ?_
    by_cases z : i.natAbs = 0
    · rw [z]; decide
    · refine (Nat.log2_lt z).mpr (Nat.lt_of_lt_of_le h ?_)
      exact Nat.le_trans (show 10 ^ 7 ≤ 2 ^ 24 by decide) (Nat.pow_le_pow_right (by decide) (by decide))
  · simp only [PyData.shown]
    rw [PySem.ofString_length]
    exact int_text_length_le10 (k := 7) (by decide) h
theorem Fine.shaped {d : PyData} {n L : Nat} (h : Fine d n L) (hn : n ≤ 64) : SeqAt.shaped d = true := by
  unfold SeqAt.shaped
  rw [h.lay, Bool.true_and]
  exact decide_eq_true (Nat.le_trans h.dep hn)
/-! ### words, gaps, bolts, locks, steps as data -/
def dW (w : Word) : PyData := .tuple (w.map .int)
def dWs (ws : List Word) : PyData := .tuple (ws.map dW)
def dG (g : Gap) : PyData := .tuple [.int g.frm, .int g.to_, .int g.price, dWs g.ways]
def dGs (gs : List Gap) : PyData := .tuple (gs.map dG)
def dB (b : Bolt) : PyData := .tuple [.int b.many, dGs b.gaps]
def dL (l : Lock) : PyData := .tuple (l.map dB)
section
variable {K : PySem.W.Frag} {H : Hp}
theorem dp_all {α : Type} {F : V → α → Prop} {f : α → PyData} (h : ∀ v x, F v x → Dp K H v (f x)) : ∀ {vs : List V} {xs : List α}, Paired F vs xs → DpAll K H vs (xs.map f)
  | _, _, .nil => .nil
  | _, _, .cons r t => .cons (h _ _ r) (dp_all h t)
theorem dp_W {v : V} {u : Word} (h : Wd K H v u) : Dp K H v (dW u) := by
  obtain ⟨a, rfl, ha⟩ := h
  exact .tup (.inl (.inl ha)) (dp_ints u)
theorem dp_G {v : V} {g : Gap} (h : GapAt K H v g) : Dp K H v (dG g) := by
  obtain ⟨a, b, ws, rfl, h1, h2, h3⟩ := h
  exact .tup h1 (.cons (.int _) (.cons (.int _) (.cons (.int _) (.cons (.tup h2 (dp_all (F := Wd K H) (f := dW) (fun _ _ => dp_W) h3)) .nil))))
theorem dp_B {v : V} {b : Bolt} (h : BoltAt K H v b) : Dp K H v (dB b) := by
  obtain ⟨a, c, gs, rfl, h1, h2, h3⟩ := h
  exact .tup h1 (.cons (.int _) (.cons (.tup h2 (dp_all (F := GapAt K H) (f := dG) (fun _ _ => dp_G) h3)) .nil))
theorem dp_L {v : V} {l : Lock} (h : LockAt K H v l) : Dp K H v (dL l) := by
  obtain ⟨a, bs, rfl, h1, h2⟩ := h
  exact .tup h1 (dp_all (F := BoltAt K H) (f := dB) (fun _ _ => dp_B) h2)
end
theorem fine_W {u : Word} {B : Int} {n : Nat} (hb : ∀ x ∈ u, 0 ≤ x ∧ x < B) (hB : B ≤ 10) (hn : u.length ≤ n) : Fine (dW u) 1 (10 * n + 3) := by
  have h : FineAll (u.map PyData.int) 0 ((u.map PyData.int).length * (8 + 2)) := FineAll.rep fun d hd => by
    obtain ⟨x, hx, rfl⟩ := List.mem_map.mp hd
    have := hb x hx
    have h10 : x.natAbs < 10 := by omega
    exact fine_int (Nat.lt_trans h10 (by decide))
  refine (fine_tup h).mono (Nat.le_refl _) ?_
  rw [List.length_map]
  omega
theorem fine_small {x : Int} (h0 : 0 ≤ x) (h1 : x ≤ 1000000) : Fine (.int x) 0 8 := fine_int (by
  have h : x.natAbs ≤ 1000000 := by omega
  exact Nat.lt_of_le_of_lt h (by decide))
theorem manys_le {l : Lock} (ok : LockDr l) {k : Nat} {b : Bolt} (h : l[k]? = some b) : b.many ≤ 4 := (ok.bolts k b h).m1
theorem fine_way {l : Lock} (ok : LockDr l) {k : Nat} {b : Bolt} {g : Gap} {u : Word} (hb : l[k]? = some b) (hg : g ∈ b.gaps) (hu : u ∈ g.ways) : Fine (dW u) 1 603 := by
  have G := (ok.bolts k b hb).gaps g hg
  obtain ⟨h1, h2⟩ := G.words u hu
  have kl : k < l.length := (List.getElem?_eq_some_iff.mp hb).1
  have l60 := ok.n1
  have ml : (manysOf (l.take k)).length = k := by
    unfold manysOf
    rw [List.length_map, List.length_take]
    omega
  refine (fine_W (B := 4) (n := 60) (fun x hx => ?_) (by decide) (by omega)).mono (Nat.le_refl _) (Nat.le_refl _)
  obtain ⟨i, hi⟩ := List.mem_iff_getElem?.mp hx
  have il : i < u.length := (List.getElem?_eq_some_iff.mp hi).1
  have il2 : i < l.length := by omega
  have hm : (manysOf (l.take k))[i]? = some l[i].many := by
    unfold manysOf
    rw [List.getElem?_map, List.getElem?_take, if_pos (by omega), List.getElem?_eq_getElem il2]
    rfl
  have := h2 i x _ hi hm
  have := manys_le ok (List.getElem?_eq_getElem il2)
  omega
theorem fine_G {l : Lock} (ok : LockDr l) {k : Nat} {b : Bolt} {g : Gap} (hb : l[k]? = some b) (hg : g ∈ b.gaps) : Fine (dG g) 3 5000 := by
  have BO := ok.bolts k b hb
  have G := BO.gaps g hg
  have m1 := BO.m1
  have h1 : FineAll (g.ways.map dW) 1 ((g.ways.map dW).length * (603 + 2)) := FineAll.rep fun d hd => by
    obtain ⟨u, hu, rfl⟩ := List.mem_map.mp hd
    exact fine_way ok hb hg hu
  have h2 := fine_tup h1
  have f8 := G.few
  rw [List.length_map] at h2
  have a1 := fine_small G.f0 (show g.frm ≤ 1000000 by have := G.f1; omega)
  have a2 := fine_small G.t0 (show g.to_ ≤ 1000000 by have := G.t1; omega)
  have a3 := fine_small (show 0 ≤ g.price by have := G.p0; omega) G.p1
  have w2 := a1.mono (Nat.zero_le 2) (Nat.le_refl 8)
  refine (fine_tup (FineAll.cons (a1.mono (Nat.zero_le 2) (Nat.le_refl 8)) (FineAll.cons (a2.mono (Nat.zero_le 2) (Nat.le_refl 8)) (FineAll.cons (a3.mono (Nat.zero_le 2) (Nat.le_refl 8)) (FineAll.cons (h2 : Fine (dWs g.ways) 2 _) FineAll.nil))))).mono (Nat.le_refl _) ?_
  omega
theorem codes_len {gs : List Gap} {m : Int} (hm : m ≤ 4) (h : ∀ g ∈ gs, 0 ≤ g.frm ∧ g.frm < m ∧ 0 ≤ g.to_ ∧ g.to_ < m) (r : gs.Pairwise (fun g h => lexLt2 g.frm g.to_ h.frm h.to_)) : gs.length ≤ 16 := by
  have n1 : (gs.map fun g => (4 * g.frm + g.to_).toNat).Nodup := by
    rw [List.Nodup, List.pairwise_map]
    refine List.Pairwise.imp_of_mem ?_ r
    intro g g' hg hg' hl
    have b1 := h g hg
    have b2 := h g' hg'
    rcases hl with hl | ⟨hl, hl'⟩ <;> omega
  have := nodup_le (ys := List.range 16) n1 fun x hx => by
    obtain ⟨g, hg, rfl⟩ := List.mem_map.mp hx
    have b1 := h g hg
    rw [List.mem_range]
    omega
  rw [List.length_map, List.length_range] at this
  exact this
theorem gaps_16 {l : Lock} (ok : LockDr l) {k : Nat} {b : Bolt} (hb : l[k]? = some b) : b.gaps.length ≤ 16 := by
  have BO := ok.bolts k b hb
  exact codes_len BO.m1 (fun g hg => by
    have G := BO.gaps g hg
    exact ⟨G.f0, G.f1, G.t0, G.t1⟩) BO.rise
theorem fine_B {l : Lock} (ok : LockDr l) {k : Nat} {b : Bolt} (hb : l[k]? = some b) : Fine (dB b) 5 81000 := by
  have BO := ok.bolts k b hb
  have h1 : FineAll (b.gaps.map dG) 3 ((b.gaps.map dG).length * (5000 + 2)) := FineAll.rep fun d hd => by
    obtain ⟨g, hg, rfl⟩ := List.mem_map.mp hd
    exact fine_G ok hb hg
  have h2 := fine_tup h1
  have g16 := gaps_16 ok hb
  rw [List.length_map] at h2
  have a1 := fine_small (show 0 ≤ b.many by have := BO.m0; omega) (show b.many ≤ 1000000 by have := BO.m1; omega)
  refine (fine_tup (FineAll.cons (a1.mono (Nat.zero_le 4) (Nat.le_refl 8)) (FineAll.cons (h2 : Fine (dGs b.gaps) 4 _) FineAll.nil))).mono (Nat.le_refl _) ?_
  omega
theorem fine_L {l : Lock} (ok : LockDr l) : Fine (dL l) 6 5000000 := by
  have h1 : FineAll (l.map dB) 5 ((l.map dB).length * (81000 + 2)) := FineAll.rep fun d hd => by
    obtain ⟨b, hb, rfl⟩ := List.mem_map.mp hd
    obtain ⟨k, hk⟩ := List.mem_iff_getElem?.mp hb
    exact fine_B ok hk
  have h2 := fine_tup h1
  have l60 := ok.n1
  rw [List.length_map] at h2
  refine h2.mono (Nat.le_refl _) ?_
  omega
theorem fine_ways {l : Lock} (ok : LockDr l) : Fine (.list ((lockWays l).map dW)) 2 400000 := by
  have h1 : FineAll ((lockWays l).map dW) 1 (((lockWays l).map dW).length * (603 + 2)) := FineAll.rep fun d hd => by
    obtain ⟨u, hu, rfl⟩ := List.mem_map.mp hd
    obtain ⟨k, b, g, hb, hg, hw⟩ := mem_lockWays hu
    exact fine_way ok hb hg hw
  have h2 := fine_lst h1
  have n := lockWays_len (l := l) fun b hb => gapWays_ok ok hb
  have l60 := ok.n1
  rw [List.length_map] at h2
  refine h2.mono (Nat.le_refl _) ?_
  omega
end Wb

set_option Elab.async false
set_option linter.all false
set_option maxRecDepth 100000
set_option maxHeartbeats 4000000
set_option pp.maxSteps 600
set_option pp.deepTerms false
namespace Wb
open PySem PySem.Spec PyProof.Rows L2
abbrev sStand : Stmt := topS 26
abbrev nStand : List Str := ["_law_pen_here", "_law_lock_here", "_law_found", "_law_ways_here", "_law_way", "_law_bolt"]
theorem scStand : FnScope nStand ["_law_pen_here", "_law_lock_here"] (defScope sStand) := ⟨rfl, rfl, rfl, by decide +kernel, rfl, by decide +kernel, by decide +kernel⟩
def spStand (K : PySem.W.Frag) : Sp := fun vs H Q _ => ∃ (p c : Addr) (v : V) (l : Lock) (T : Int), vs = [.ref p, v] ∧ PenAt H p c T ∧ T ≤ 9000000 ∧ LockAt K H v l ∧ LockDr l ∧
  ∀ H' u st, Exx p H H' → PenAt H' p c (T + 100) → Wd K H' u st → InAll st (manysOf l) → Q u H'
theorem inAll_mix {xs ys ms : List Int} {j : Nat} (h : InAll xs ms) (h' : InAll ys (ms.take j)) (hj : j ≤ ms.length) : InAll (ys ++ xs.drop j) ms := by
  have yl : ys.length = j := by
    have := h'.1
    rw [List.length_take] at this
    omega
  have xl := h.1
  refine ⟨by rw [List.length_append, List.length_drop]; omega, fun i a b ha hb => ?_⟩
  by_cases hi : i < ys.length
  · rw [List.getElem?_append_left hi] at ha
    exact h'.2 i a b ha (by rw [List.getElem?_take, if_pos (by omega)]; exact hb)
  · rw [List.getElem?_append_right (by omega), List.getElem?_drop] at ha
    exact h.2 i a b (by rw [show j + (i - ys.length) = i by omega] at ha; exact ha) hb
theorem manys_take (l : Lock) (k : Nat) : manysOf (l.take k) = (manysOf l).take k := by
  unfold manysOf
  rw [List.map_take]
theorem way_in {l : Lock} (ok : LockDr l) {u : Word} (h : u ∈ lockWays l) : u.length < l.length ∧ InAll u ((manysOf l).take u.length) := by
  obtain ⟨k, b, g, hb, hg, hu⟩ := mem_lockWays h
  have kl : k < l.length := (List.getElem?_eq_some_iff.mp hb).1
  obtain ⟨h1, h2⟩ := ((ok.bolts k b hb).gaps g hg).words u hu
  rw [manys_take] at h1 h2
  have ml : (manysOf l).length = l.length := by unfold manysOf; rw [List.length_map]
  rw [List.length_take, ml] at h1
  have e : u.length = k := by omega
  rw [e]
  exact ⟨kl, by rw [List.length_take, ml]; omega, h2⟩
section
variable {P : Program} {w : World} {K : PySem.W.Frag} {mg : Str → Option Value} {base : Heap}
theorem ok_stand {f f1 f2 f3 : Addr} {fd fd1 fd2 fd3 : FuncData} (F : Fun K "_law_stand" "_law_stand" sStand f fd) (F1 : Fun K "_law_draw" "_law_draw" sDraw f1 fd1) (b1 : Binds K fd1 ["_law_pen_here", "_law_many"] []) (g1 : mg "_law_draw" = some (.ref f1))
    (F2 : Fun K "_law_pick" "_law_pick" sPick f2 fd2) (b2 : Binds K fd2 ["_law_pen_here", "_law_some"] []) (g2 : mg "_law_pick" = some (.ref f2))
    (F3 : Fun K "_law_ways" "_law_ways" sAllWays f3 fd3) (b3 : Binds K fd3 ["_law_lock_here"] []) (g3 : mg "_law_ways" = some (.ref f3)) (B : Bi mg) :
    FnOk P w K mg base CX0 3 f fd ["_law_pen_here", "_law_lock_here"] (spStand K) := by
  have G1 : FnOk P w K mg base CX0 1 f1 fd1 ["_law_pen_here", "_law_many"] spDraw := ok_draw F1 B
  have G2 : FnOk P w K mg base CX0 2 f2 fd2 ["_law_pen_here", "_law_some"] (spPick K) := ok_pick F2 F1 b1 g1 B
  have G3 : FnOk P w K mg base CX0 1 f3 fd3 ["_law_lock_here"] (spAllWays K) := ok_allways F3 B
  refine F.ok scStand (fun vs H Q E h => ?_) (fun cdv A outer s H vs Q E hr h => ?_)
  · obtain ⟨p, c, v, l, T, rfl, _⟩ := h; rfl
  · obtain ⟨p, c, v, l, T, rfl, hp, T9, ⟨a, bs, rfl, ha, hbs⟩, ok, q⟩ := h
    have hr1 : Room 1 _ := hr.mono (by decide)
    have hu := hu_of hr
    refine ⟨_, pss_cons (ps_par (by rfl) scStand.nd (i := 2) (j := 3) rfl rfl (by decide) rfl rfl (pa_cons (pe_callTy (r := rTupK K) call_tupK (by rfl) B.tuple PyProof.Rows.boot_tuple (pa_cons
          (pe_lc (own := [("_law_bolt", 5)]) (wi := iTup K (tVar 1)) (g := gName 5) rfl scStand.nd (pi_tup (pv 1)) (blkOk_by (own := [("_law_bolt", 5)]) (N := nStand) (sc := defScope sStand) (by decide +kernel))
            (fun _ _ _ _ _ => pg_name (i := 5) scStand.nd rfl (Or.inl rfl)) (fun _ _ _ _ _ => pts_nil)
            (fun _ _ _ _ _ => pe_call G1 hr1 (by rfl) g1 F1.kp b1 .nil pass0 (pa_cons (pv 0) (pa_cons (pe_ix (r := rIxT K) ix_tup (pv 5) pe_int (fun _ _ => rfl)) pa_nil)))) pa_nil))
        (pa_cons (pe_call G3 hr1 (by rfl) g3 F3.kp b3 .nil pass0 (pa_cons (pv 1) pa_nil)) pa_nil)) (by rfl))
      (Evl.pss_cut (ps_if (PW.pt (pw_and (pt_cmpR (op_neD hr.units) (pv 3) (pe_lst pa_nil) (nomark _)) (pw_and1 (pt_cmpR op_eq (pe_call G1 hr1 (by rfl) g1 F1.kp b1 .nil pass0 (pa_cons (pv 0) (pa_cons pe_int pa_nil))) pe_int (nomark _)))))
          (pss_cons (ps_set (i := 4) scStand.nd rfl (.inl rfl) (pe_call G2 hr (by rfl) g2 F2.kp b2 .nil pass0 (pa_cons (pv 0) (pa_cons (pv 3) pa_nil))))
          (pss_one (ps_set (i := 2) scStand.nd rfl (.inl rfl) (pe_op op_catA (pv 4) (pe_slice (r := rSlA K) sl_tupA (pv 2) (po_some (pe_callB call_len_seq (by rfl) B.len PySem.boot_len (pa_cons (pv 4) pa_nil))) po_none))))) pss_nil)
      (pss_one (ps_ret (pv 2)))), ?_⟩
    have bl : bs.length = l.length := Paired.len hbs
    have l60 := ok.n1
    have ml : (manysOf l).length = l.length := by unfold manysOf; rw [List.length_map]
    refine ⟨.ref a, rfl, a, rfl, ⟨_, ha⟩, fun D hD => ?_⟩
    have nDp : D ≠ p := hp.new1 hD
    have nDc : D ≠ c := hp.new2 hD
    have txx : ∀ {Hx : Hp}, Exx p H Hx → TX K H Hx := fun x => hp.tx x
    refine lc_tup (K := K) (a := a) (xs := bs) (fun i H' => ∃ xs : List Int, Exx p H H' ∧ PenAt H' p c (T + (i : Nat)) ∧ H' D = some (.lst (xs.map V.int)) ∧ InAll xs ((manysOf l).take i)) ⟨[], Exx.ex (Evl.Ex.new hD), ?_, upd_same, inAll_nil⟩ ?_ ?_ ?_
    · have := hp.put (o := .lst []) nDp nDc
      simpa using this
    · rintro i H' _ ⟨_, x, _⟩
      exact (txx x).1 _ _ ha
    · rintro i x H1 hx ⟨xs, x1, hp1, hD1, hin⟩
      obtain ⟨b, hb, ⟨a1, c1, gs, rfl, h1, h2, h3⟩⟩ := Paired.get1 hbs hx
      have il : i < l.length := (List.getElem?_eq_some_iff.mp hb).1
      have BO := ok.bolts i b hb
      have m0 := BO.m0
      have m1 := BO.m1
      have xl : xs.length = i := by
        have := hin.1
        rw [List.length_take] at this
        omega
      have mm : (manysOf l)[i]? = some b.many := by
        unfold manysOf
        rw [List.getElem?_map, hb]
        rfl
      refine ⟨rfl, ?_⟩
      refine ⟨.ref p, rfl, .ref a1, rfl, a1, _, 0, .int b.many, rfl, rfl, (txx x1).1 _ _ h1, atI_nat (j := 0) rfl, p, c, b.many, _, rfl, hp1, by omega, by omega, by omega, fun r H2 r0 r1 x2 hp2 => ?_⟩
      refine ⟨_, x2 _ _ nDp hD1, Nat.lt_of_le_of_lt (by rw [List.length_map]; omega : (xs.map V.int).length ≤ 61) (by decide), xs ++ [r], (x1.trans x2).mut hD, (hp2.put nDp nDc).mono (by omega), by rw [upd_same, List.map_append]; rfl, ?_⟩
      rw [take_succ_get mm]
      exact inAll_snoc hin r0 r1
    · rintro H1 ⟨xs, x1, hp1, hD1, hin⟩
      rw [bl, ← ml, List.take_length] at hin
      refine ⟨D, _, rfl, .inl ⟨.inl (.inl hD1), fun tp ntp => ?_⟩⟩
      have e2 := Evl.Ex.new (o := .tup (xs.map V.int)) ntp
      have x2 : Exx p H (upd H1 tp (.tup (xs.map V.int))) := x1.trans (Exx.ex e2)
      have hp2 := hp1.ex e2
      have htp : (upd H1 tp (.tup (xs.map V.int))) tp = some (.tup (xs.map V.int)) := upd_same
      generalize upd H1 tp (.tup (xs.map V.int)) = H2 at x2 hp2 htp
      have hL2 : LockAt K H2 (.ref a) l := LockAt.mono (txx x2) ⟨a, bs, rfl, ha, hbs⟩
      refine ⟨.ref a, rfl, .ref a, l, rfl, hL2, ok, fun H3 wa us e3 nwa hwa hus => ?_⟩
      refine ⟨.ref tp, .ref wa, rfl, ?_⟩
      have hp3 := hp2.ex e3
      have x3 : Exx p H H3 := x2.trans (Exx.ex e3)
      have htp3 := e3 _ _ htp
      have xl : xs.length = l.length := by rw [hin.1, ml]
      refine ⟨fun σ H' => ∃ (u : V) (st : Word) (y4 : Option V), σ = [some (.ref p), some (.ref a), some u, some (.ref wa), y4, none] ∧ Exx p H H' ∧ PenAt H' p c (T + 100) ∧ Wd K H' u st ∧ InAll st (manysOf l), ?_, ?_⟩
      · have same : ∀ {Hx : Hp} {y4 : Option V}, Exx p H3 Hx → PenAt Hx p c (T + 100) → ∃ (u : V) (st : Word) (y4' : Option V), ([some (.ref p), some (.ref a), some (.ref tp), some (.ref wa), y4, none] : L2.St) = [some (.ref p), some (.ref a), some u, some (.ref wa), y4', none] ∧ Exx p H Hx ∧ PenAt Hx p c (T + 100) ∧ Wd K Hx u st ∧ InAll st (manysOf l) := by
          intro Hx y4 ex hpx
          exact ⟨_, xs, _, rfl, x3.trans ex, hpx, Wd.mono (hp3.tx ex) ⟨tp, rfl, htp3⟩, hin⟩
        refine ⟨.ref wa, rfl, Nat.zero_le _, fun e ne => ?_⟩
        have e4 := Evl.Ex.new (o := .lst []) ne
        have hwa4 := e4 _ _ hwa
        refine ⟨.list ((lockWays l).map dW), .list [], .lst (.inl (.inl hwa4)) (dp_all (F := Wd K _) (f := dW) (fun _ _ => dp_W) (Paired.imp (fun _ _ => wd_ex e4) hus)), .lst (.inl (.inl upd_same)) .nil, (fine_ways ok).shaped (by decide), (by decide), _, rfl, ?_⟩
        cases hw0 : lockWays l with
        | nil =>
          refine iteF ?_
          exact same (Exx.ex e4) ((hp3.ex e4).mono (by omega))
        | cons w0 ws =>
          refine iteT ?_
          generalize upd H3 e (.lst []) = H4 at e4 hwa4
          have hp4 := hp3.ex e4
          refine ⟨.ref p, rfl, p, c, 2, _, rfl, hp4, by decide, by decide, by omega, fun r H5 r0 r1 x5 hp5 => ?_⟩
          have x35 : Exx p H3 H5 := (Exx.ex e4).trans x5
          refine ⟨rfl, _, rfl, ?_⟩
          refine ite2 (fun _ => ?_) (fun _ => same x35 (hp5.mono (by omega)))
          have nwap : wa ≠ p := fun z => by
            have := hp2.here
            rw [z] at nwa
            exact this nwa
          have hwa5 := x5 _ _ nwap hwa4
          have ulen : us.length = (lockWays l).length := Paired.len hus
          have une : us ≠ [] := fun z => by rw [z, hw0] at ulen; simp at ulen
          have u480 := lockWays_len (l := l) fun b hb => gapWays_ok ok hb
          refine ⟨.ref p, rfl, .ref wa, rfl, p, c, wa, _, us, rfl, hp5, by omega, .inl (.inl hwa5), nwap, une, by omega, fun x H6 hx x6 hp6 => ?_⟩
          obtain ⟨j, hj⟩ := List.mem_iff_getElem?.mp hx
          obtain ⟨u, hu, ⟨ua, rfl, hua⟩⟩ := Paired.get1 hus hj
          obtain ⟨ul, uin⟩ := way_in ok (List.mem_of_getElem? hu)
          have x36 : Exx p H3 H6 := x35.trans x6
          have tx36 : TX K H3 H6 := hp3.tx x36
          have hua6 : H6 ua = some (.tup (u.map V.int)) := tx36.2 _ _ hua
          have htp6 : H6 tp = some (.tup (xs.map V.int)) := tx36.2 _ _ htp3
          have fin : ∀ {Hx : Hp} {z : Addr}, Evl.Ex H6 Hx → Hx z = some (.tup ((u ++ xs.drop u.length).map V.int)) → ∃ (u' : V) (st : Word) (y4' : Option V), ([some (.ref p), some (.ref a), some (.ref z), some (.ref wa), some (.ref ua), none] : L2.St) = [some (.ref p), some (.ref a), some u', some (.ref wa), y4', none] ∧ Exx p H Hx ∧ PenAt Hx p c (T + 100) ∧ Wd K Hx u' st ∧ InAll st (manysOf l) := by
            intro Hx z ex hz
            exact ⟨_, _, _, rfl, x3.trans (x36.trans (Exx.ex ex)), (hp6.ex ex).mono (by omega), ⟨z, rfl, hz⟩, inAll_mix hin uin (by omega)⟩
          refine ⟨.ref ua, rfl, .ref tp, rfl, .ref ua, rfl, ua, _, rfl, .inr (.inl (.inl hua6)), ?_⟩
          have lz : ((xs.map V.int).length) = xs.length := List.length_map ..
          have ln : ((u.map V.int).length) = u.length := List.length_map ..
          have cutd : cutV (xs.map V.int) (some (((u.map V.int).length : Nat) : Int)) none = (xs.drop u.length).map V.int := by
            rw [ln, cut_drop (xs.map V.int) (k := u.length) (by rw [lz]; omega), List.map_drop]
          have size : (u.map V.int).length + (xs.map V.int).length ≤ sizeLine := Nat.le_trans (by rw [ln, lz]; omega : (u.map V.int).length + (xs.map V.int).length ≤ 130) (by decide)
          refine ⟨_, rfl, ⟨tp, _, rfl, .inl (.inl htp6), fun z => ?_, fun _ t nt => ?_⟩⟩
          · have z1 : u.length = 0 := by
              have z2 := z.1
              rw [ln, lz, HT.sIx_nat] at z2
              omega
            have u0 : u = [] := List.length_eq_zero_iff.mp z1
            have hf := fin (Hx := H6) (z := tp) (Evl.Ex.refl _) (by rw [u0]; exact htp6)
            exact ⟨ua, tp, _, _, rfl, rfl, .inl (.inl hua6), .inl (.inl htp6), size, fun _ => hf, fun z _ => absurd (by rw [u0]; rfl) z, fun z _ => absurd (by rw [u0]; rfl) z⟩
          · rw [cutd]
            have e7 := Evl.Ex.new (o := .tup ((xs.drop u.length).map V.int)) nt
            have nd : ((xs.drop u.length).map V.int) ≠ [] := fun z => by
              have := congrArg List.length z
              rw [List.length_map, List.length_drop] at this
              simp at this
              omega
            refine ⟨ua, t, _, _, rfl, rfl, .inl (.inl (e7 _ _ hua6)), .inl (.inl upd_same), ?_, fun z => ?_, fun _ z => absurd z nd, fun _ _ t2 nt2 => ?_⟩
            · refine Nat.le_trans ?_ size
              simp only [List.length_map, List.length_drop]
              omega
            · have u0 : u = [] := List.map_eq_nil_iff.mp z
              exact fin e7 (by rw [upd_same, u0]; rfl)
            · have e8 := Evl.Ex.new (o := .tup (u.map V.int ++ (xs.drop u.length).map V.int)) nt2
              exact fin (e7.trans e8) (by rw [upd_same, List.map_append])
      · rintro σ H4 ⟨u, st, y4, rfl, x4, hp4, hu4, hin4⟩
        exact ⟨u, rfl, q H4 u st x4 hp4 hu4 hin4⟩
end
end Wb

set_option Elab.async false
set_option linter.all false
set_option maxRecDepth 100000
set_option maxHeartbeats 4000000
set_option pp.maxSteps 600
set_option pp.deepTerms false
namespace Wb
open PySem PySem.Spec PyProof.Rows L2
abbrev sOdd : Stmt := topS 28
theorem scOdd : FnScope ["_law_pen_here", "_law_some"] ["_law_pen_here"] (defScope sOdd) := ⟨rfl, rfl, rfl, by decide +kernel, rfl, by decide +kernel, by decide +kernel⟩
/-- the odd things -/
def oddData : List PyData := [.none, .bool true, .bool false, .int (0), .int (1), .int (-1), .int (2), .int (10 ^ (6 : Int).toNat), .int (10 ^ (60 : Int).toNat), .str "", .str "0", .str "a", .tuple [], .tuple [.int 0], .list [], .list [.int 0], .dict [], .dict [(.int 0, .int 1)], .tuple [.none], .tuple [.int 0, .int 1], .list [.tuple [.int 0, .int 1]], .tuple [.tuple []], .tuple [.tuple [.int 2, .tuple []]], .tuple [.bool true], .tuple [.str "0"], .tuple [.tuple [.int 0, .int 1], .tuple [.int 1, .int 0]], .tuple [.int 0, .int 0, .int 1, .tuple []]]
def OddV (K : PySem.W.Frag) (H : Hp) (v : V) : Prop := ∃ d, Th K H v d ∧ d ∈ oddData
def spOdd (K : PySem.W.Frag) : Sp := fun vs H Q _ => ∃ (p c : Addr) (T : Int), vs = [.ref p] ∧ PenAt H p c T ∧ T ≤ 10000000 ∧ ∀ H' v d, Exx p H H' → PenAt H' p c (T + 1) → Th K H' v d → d ∈ oddData → Q v H'
theorem odd_mem {i : Nat} {d : PyData} (h : oddData[i]? = some d) : d ∈ oddData := List.mem_of_getElem? h
/-- what is tracked beside the pen stays, the pen's own dict apart -/
theorem PenAt.tk {K : PySem.W.Frag} {H H' : Hp} {p c : Addr} {T : Int} (h : PenAt H p c T) (e : Exx p H H') : TK K H H' := by
  obtain ⟨cells, t, d, hp, hc, _⟩ := h
  refine ⟨fun a xs z => e a _ (fun y => ?_) z, fun a xs z => e a _ (fun y => ?_) z, fun a z => e a _ (fun y => ?_) z, fun a z => e a _ (fun y => ?_) z⟩
  · rw [y, hp] at z
    cases z
  · rw [y, hp] at z
    cases z
  · rw [y, hp] at z
    cases z
  · rw [y, hp] at z
    cases z
section
variable {P : Program} {w : World} {K : PySem.W.Frag} {mg : Str → Option Value} {base : Heap}
theorem ok_odd {f f1 f2 : Addr} {fd fd1 fd2 : FuncData} (F : Fun K "_law_odd" "_law_odd" sOdd f fd) (F1 : Fun K "_law_draw" "_law_draw" sDraw f1 fd1) (b1 : Binds K fd1 ["_law_pen_here", "_law_many"] []) (g1 : mg "_law_draw" = some (.ref f1))
    (F2 : Fun K "_law_pick" "_law_pick" sPick f2 fd2) (b2 : Binds K fd2 ["_law_pen_here", "_law_some"] []) (g2 : mg "_law_pick" = some (.ref f2)) (B : Bi mg) : FnOk P w K mg base CX0 3 f fd ["_law_pen_here"] (spOdd K) := by
  have G2 : FnOk P w K mg base CX0 2 f2 fd2 ["_law_pen_here", "_law_some"] (spPick K) := ok_pick F2 F1 b1 g1 B
  refine F.ok scOdd (fun vs H Q E h => ?_) (fun cdv A outer s H vs Q E hr h => ?_)
  · obtain ⟨p, c, T, rfl, _⟩ := h; rfl
  · obtain ⟨p, c, T, rfl, hp, T9, q⟩ := h
    refine ⟨_, pss_cons (ps_set (i := 1) scOdd.nd rfl (.inl rfl) (pe_lst (pa_cons pe_non (pa_cons pe_bl (pa_cons pe_bl (pa_cons pe_int (pa_cons pe_int (pa_cons (pe_un un_neg pe_int) (pa_cons pe_int (pa_cons (pe_op op_pow pe_int pe_int) (pa_cons (pe_op op_pow pe_int pe_int) (pa_cons pe_str (pa_cons pe_str (pa_cons pe_str (pa_cons (pe_tup pa_nil) (pa_cons (pe_tup (pa_cons pe_int pa_nil)) (pa_cons (pe_lst pa_nil) (pa_cons (pe_lst (pa_cons pe_int pa_nil)) (pa_cons pe_dnewK (pa_cons (pe_disp (pps_cons pe_int pe_int pps_nil) (by rfl) (by rfl) (fun z => by cases z) (by decide)) (pa_cons (pe_tup (pa_cons pe_non pa_nil)) pa_nil)))))))))))))))))))))
      (pss_cons (ps_set (i := 1) scOdd.nd rfl (.inl rfl) (pe_op op_cat (pv 1) (pe_lst (pa_cons (pe_tup (pa_cons pe_int (pa_cons pe_int pa_nil))) (pa_cons (pe_lst (pa_cons (pe_tup (pa_cons pe_int (pa_cons pe_int pa_nil))) pa_nil)) (pa_cons (pe_tup (pa_cons (pe_tup pa_nil) pa_nil)) (pa_cons (pe_tup (pa_cons (pe_tup (pa_cons pe_int (pa_cons (pe_tup pa_nil) pa_nil))) pa_nil)) (pa_cons (pe_tup (pa_cons pe_bl pa_nil)) (pa_cons (pe_tup (pa_cons pe_str pa_nil)) (pa_cons (pe_tup (pa_cons (pe_tup (pa_cons pe_int (pa_cons pe_int pa_nil))) (pa_cons (pe_tup (pa_cons pe_int (pa_cons pe_int pa_nil))) pa_nil))) (pa_cons (pe_tup (pa_cons pe_int (pa_cons pe_int (pa_cons pe_int (pa_cons (pe_tup pa_nil) pa_nil))))) pa_nil)))))))))))
      (pss_one (ps_ret (pe_call G2 hr (by rfl) g2 F2.kp b2 .nil pass0 (pa_cons (pv 0) (pa_cons (pv 1) pa_nil)))))), ?_⟩
    refine ⟨1, rfl, 10, 6, rfl, rfl, ⟨by decide, by decide, by decide⟩, 10, 60, rfl, rfl, ⟨by decide, by decide, by decide⟩, (by show 0 ≤ sizeLine; decide), fun a1 n1 => ?_⟩
    have e1 := Evl.Ex.new (o := .tup []) n1
    have g1 : (upd H a1 (.tup [])) a1 = some (.tup []) := upd_same
    generalize upd H a1 (.tup []) = H1 at e1 g1
    have q1 : Th K H1 (.ref a1) (.tuple []) := .tup g1 .nil
    refine ⟨(by show 1 ≤ sizeLine; decide), fun a2 n2 => ?_⟩
    have e2 := Evl.Ex.new (o := .tup [.int 0]) n2
    have g2 : (upd H1 a2 (.tup [.int 0])) a2 = some (.tup [.int 0]) := upd_same
    generalize upd H1 a2 (.tup [.int 0]) = H2 at e2 g2
    have q1 := Th.ex e2 q1
    have q2 : Th K H2 (.ref a2) (.tuple [.int 0]) := .tup g2 (.cons (.int 0) .nil)
    refine ⟨(by show 0 ≤ sizeLine; decide), fun a3 n3 => ?_⟩
    have e3 := Evl.Ex.new (o := .lst []) n3
    have g3 : (upd H2 a3 (.lst [])) a3 = some (.lst []) := upd_same
    generalize upd H2 a3 (.lst []) = H3 at e3 g3
    have q1 := Th.ex e3 q1
    have q2 := Th.ex e3 q2
    have q3 : Th K H3 (.ref a3) (.list []) := .lst g3 .nil
    refine ⟨(by show 1 ≤ sizeLine; decide), fun a4 n4 => ?_⟩
    have e4 := Evl.Ex.new (o := .lst [.int 0]) n4
    have g4 : (upd H3 a4 (.lst [.int 0])) a4 = some (.lst [.int 0]) := upd_same
    generalize upd H3 a4 (.lst [.int 0]) = H4 at e4 g4
    have q1 := Th.ex e4 q1
    have q2 := Th.ex e4 q2
    have q3 := Th.ex e4 q3
    have q4 : Th K H4 (.ref a4) (.list [.int 0]) := .lst g4 (.cons (.int 0) .nil)
    intro a5 n5
    have e5 := Evl.Ex.new (o := .dK []) n5
    have z5 : (upd H4 a5 (.dK [])) a5 = some (.dK []) := upd_same
    generalize upd H4 a5 (.dK []) = H5 at e5 z5
    have q1 := Th.ex e5 q1
    have q2 := Th.ex e5 q2
    have q3 := Th.ex e5 q3
    have q4 := Th.ex e5 q4
    intro a6 n6
    refine ⟨upd_same, one0, rfl, (by show 1 ≤ 15; decide), ?_⟩
    have e6 : Evl.Ex H5 (upd (upd H5 a6 (.dK [])) a6 (.dK (mergeK [] one0))) := (Evl.Ex.new n6).mut n6
    have z6 : (upd (upd H5 a6 (.dK [])) a6 (.dK (mergeK [] one0))) a6 = some (.dK one0) := upd_same
    generalize upd (upd H5 a6 (.dK [])) a6 (.dK (mergeK [] one0)) = H6 at e6 z6
    have q1 := Th.ex e6 q1
    have q2 := Th.ex e6 q2
    have q3 := Th.ex e6 q3
    have q4 := Th.ex e6 q4
    have z5 := e6 _ _ z5
    refine ⟨(by show 1 ≤ sizeLine; decide), fun a7 n7 => ?_⟩
    have e7 := Evl.Ex.new (o := .tup [.non]) n7
    have g7 : (upd H6 a7 (.tup [.non])) a7 = some (.tup [.non]) := upd_same
    generalize upd H6 a7 (.tup [.non]) = H7 at e7 g7
    have q1 := Th.ex e7 q1
    have q2 := Th.ex e7 q2
    have q3 := Th.ex e7 q3
    have q4 := Th.ex e7 q4
    have z5 := e7 _ _ z5
    have z6 := e7 _ _ z6
    have q7 : Th K H7 (.ref a7) (.tuple [.none]) := .tup g7 (.cons .non .nil)
    refine ⟨(by show 19 ≤ sizeLine; decide), fun a8 n8 => ?_⟩
    have e8 := Evl.Ex.new (o := .lst [.non, .bl true, .bl false, .int 0, .int 1, .int (-1), .int 2, .int (10 ^ (6 : Int).toNat), .int (10 ^ (60 : Int).toNat), .str "", .str "0", .str "a", .ref a1, .ref a2, .ref a3, .ref a4, .ref a5, .ref a6, .ref a7]) n8
    have z8 : (upd H7 a8 (.lst [.non, .bl true, .bl false, .int 0, .int 1, .int (-1), .int 2, .int (10 ^ (6 : Int).toNat), .int (10 ^ (60 : Int).toNat), .str "", .str "0", .str "a", .ref a1, .ref a2, .ref a3, .ref a4, .ref a5, .ref a6, .ref a7])) a8 = some (.lst [.non, .bl true, .bl false, .int 0, .int 1, .int (-1), .int 2, .int (10 ^ (6 : Int).toNat), .int (10 ^ (60 : Int).toNat), .str "", .str "0", .str "a", .ref a1, .ref a2, .ref a3, .ref a4, .ref a5, .ref a6, .ref a7]) := upd_same
    generalize upd H7 a8 (.lst [.non, .bl true, .bl false, .int 0, .int 1, .int (-1), .int 2, .int (10 ^ (6 : Int).toNat), .int (10 ^ (60 : Int).toNat), .str "", .str "0", .str "a", .ref a1, .ref a2, .ref a3, .ref a4, .ref a5, .ref a6, .ref a7]) = H8 at e8 z8
    have q1 := Th.ex e8 q1
    have q2 := Th.ex e8 q2
    have q3 := Th.ex e8 q3
    have q4 := Th.ex e8 q4
    have z5 := e8 _ _ z5
    have z6 := e8 _ _ z6
    have q7 := Th.ex e8 q7
    refine ⟨.ref a8, rfl, (by show 2 ≤ sizeLine; decide), fun a9 n9 => ?_⟩
    have e9 := Evl.Ex.new (o := .tup [.int 0, .int 1]) n9
    have g9 : (upd H8 a9 (.tup [.int 0, .int 1])) a9 = some (.tup [.int 0, .int 1]) := upd_same
    generalize upd H8 a9 (.tup [.int 0, .int 1]) = H9 at e9 g9
    have q1 := Th.ex e9 q1
    have q2 := Th.ex e9 q2
    have q3 := Th.ex e9 q3
    have q4 := Th.ex e9 q4
    have z5 := e9 _ _ z5
    have z6 := e9 _ _ z6
    have q7 := Th.ex e9 q7
    have z8 := e9 _ _ z8
    have q9 : Th K H9 (.ref a9) (.tuple [.int 0, .int 1]) := .tup g9 (.cons (.int 0) (.cons (.int 1) .nil))
    refine ⟨(by show 2 ≤ sizeLine; decide), fun a10 n10 => ?_⟩
    have e10 := Evl.Ex.new (o := .tup [.int 0, .int 1]) n10
    have g10 : (upd H9 a10 (.tup [.int 0, .int 1])) a10 = some (.tup [.int 0, .int 1]) := upd_same
    generalize upd H9 a10 (.tup [.int 0, .int 1]) = H10 at e10 g10
    have q1 := Th.ex e10 q1
    have q2 := Th.ex e10 q2
    have q3 := Th.ex e10 q3
    have q4 := Th.ex e10 q4
    have z5 := e10 _ _ z5
    have z6 := e10 _ _ z6
    have q7 := Th.ex e10 q7
    have z8 := e10 _ _ z8
    have q9 := Th.ex e10 q9
    have q10 : Th K H10 (.ref a10) (.tuple [.int 0, .int 1]) := .tup g10 (.cons (.int 0) (.cons (.int 1) .nil))
    refine ⟨(by show 1 ≤ sizeLine; decide), fun a11 n11 => ?_⟩
    have e11 := Evl.Ex.new (o := .lst [.ref a10]) n11
    have g11 : (upd H10 a11 (.lst [.ref a10])) a11 = some (.lst [.ref a10]) := upd_same
    generalize upd H10 a11 (.lst [.ref a10]) = H11 at e11 g11
    have q1 := Th.ex e11 q1
    have q2 := Th.ex e11 q2
    have q3 := Th.ex e11 q3
    have q4 := Th.ex e11 q4
    have z5 := e11 _ _ z5
    have z6 := e11 _ _ z6
    have q7 := Th.ex e11 q7
    have z8 := e11 _ _ z8
    have q9 := Th.ex e11 q9
    have q10 := Th.ex e11 q10
    have q11 : Th K H11 (.ref a11) (.list [.tuple [.int 0, .int 1]]) := .lst g11 (.cons q10 .nil)
    refine ⟨(by show 0 ≤ sizeLine; decide), fun a12 n12 => ?_⟩
    have e12 := Evl.Ex.new (o := .tup []) n12
    have g12 : (upd H11 a12 (.tup [])) a12 = some (.tup []) := upd_same
    generalize upd H11 a12 (.tup []) = H12 at e12 g12
    have q1 := Th.ex e12 q1
    have q2 := Th.ex e12 q2
    have q3 := Th.ex e12 q3
    have q4 := Th.ex e12 q4
    have z5 := e12 _ _ z5
    have z6 := e12 _ _ z6
    have q7 := Th.ex e12 q7
    have z8 := e12 _ _ z8
    have q9 := Th.ex e12 q9
    have q10 := Th.ex e12 q10
    have q11 := Th.ex e12 q11
    have q12 : Th K H12 (.ref a12) (.tuple []) := .tup g12 .nil
    refine ⟨(by show 1 ≤ sizeLine; decide), fun a13 n13 => ?_⟩
    have e13 := Evl.Ex.new (o := .tup [.ref a12]) n13
    have g13 : (upd H12 a13 (.tup [.ref a12])) a13 = some (.tup [.ref a12]) := upd_same
    generalize upd H12 a13 (.tup [.ref a12]) = H13 at e13 g13
    have q1 := Th.ex e13 q1
    have q2 := Th.ex e13 q2
    have q3 := Th.ex e13 q3
    have q4 := Th.ex e13 q4
    have z5 := e13 _ _ z5
    have z6 := e13 _ _ z6
    have q7 := Th.ex e13 q7
    have z8 := e13 _ _ z8
    have q9 := Th.ex e13 q9
    have q10 := Th.ex e13 q10
    have q11 := Th.ex e13 q11
    have q12 := Th.ex e13 q12
    have q13 : Th K H13 (.ref a13) (.tuple [.tuple []]) := .tup g13 (.cons q12 .nil)
    refine ⟨(by show 0 ≤ sizeLine; decide), fun a14 n14 => ?_⟩
    have e14 := Evl.Ex.new (o := .tup []) n14
    have g14 : (upd H13 a14 (.tup [])) a14 = some (.tup []) := upd_same
    generalize upd H13 a14 (.tup []) = H14 at e14 g14
    have q1 := Th.ex e14 q1
    have q2 := Th.ex e14 q2
    have q3 := Th.ex e14 q3
    have q4 := Th.ex e14 q4
    have z5 := e14 _ _ z5
    have z6 := e14 _ _ z6
    have q7 := Th.ex e14 q7
    have z8 := e14 _ _ z8
    have q9 := Th.ex e14 q9
    have q10 := Th.ex e14 q10
    have q11 := Th.ex e14 q11
    have q12 := Th.ex e14 q12
    have q13 := Th.ex e14 q13
    have q14 : Th K H14 (.ref a14) (.tuple []) := .tup g14 .nil
    refine ⟨(by show 2 ≤ sizeLine; decide), fun a15 n15 => ?_⟩
    have e15 := Evl.Ex.new (o := .tup [.int 2, .ref a14]) n15
    have g15 : (upd H14 a15 (.tup [.int 2, .ref a14])) a15 = some (.tup [.int 2, .ref a14]) := upd_same
    generalize upd H14 a15 (.tup [.int 2, .ref a14]) = H15 at e15 g15
    have q1 := Th.ex e15 q1
    have q2 := Th.ex e15 q2
    have q3 := Th.ex e15 q3
    have q4 := Th.ex e15 q4
    have z5 := e15 _ _ z5
    have z6 := e15 _ _ z6
    have q7 := Th.ex e15 q7
    have z8 := e15 _ _ z8
    have q9 := Th.ex e15 q9
    have q10 := Th.ex e15 q10
    have q11 := Th.ex e15 q11
    have q12 := Th.ex e15 q12
    have q13 := Th.ex e15 q13
    have q14 := Th.ex e15 q14
    have q15 : Th K H15 (.ref a15) (.tuple [.int 2, .tuple []]) := .tup g15 (.cons (.int 2) (.cons q14 .nil))
    refine ⟨(by show 1 ≤ sizeLine; decide), fun a16 n16 => ?_⟩
    have e16 := Evl.Ex.new (o := .tup [.ref a15]) n16
    have g16 : (upd H15 a16 (.tup [.ref a15])) a16 = some (.tup [.ref a15]) := upd_same
    generalize upd H15 a16 (.tup [.ref a15]) = H16 at e16 g16
    have q1 := Th.ex e16 q1
    have q2 := Th.ex e16 q2
    have q3 := Th.ex e16 q3
    have q4 := Th.ex e16 q4
    have z5 := e16 _ _ z5
    have z6 := e16 _ _ z6
    have q7 := Th.ex e16 q7
    have z8 := e16 _ _ z8
    have q9 := Th.ex e16 q9
    have q10 := Th.ex e16 q10
    have q11 := Th.ex e16 q11
    have q12 := Th.ex e16 q12
    have q13 := Th.ex e16 q13
    have q14 := Th.ex e16 q14
    have q15 := Th.ex e16 q15
    have q16 : Th K H16 (.ref a16) (.tuple [.tuple [.int 2, .tuple []]]) := .tup g16 (.cons q15 .nil)
    refine ⟨(by show 1 ≤ sizeLine; decide), fun a17 n17 => ?_⟩
    have e17 := Evl.Ex.new (o := .tup [.bl true]) n17
    have g17 : (upd H16 a17 (.tup [.bl true])) a17 = some (.tup [.bl true]) := upd_same
    generalize upd H16 a17 (.tup [.bl true]) = H17 at e17 g17
    have q1 := Th.ex e17 q1
    have q2 := Th.ex e17 q2
    have q3 := Th.ex e17 q3
    have q4 := Th.ex e17 q4
    have z5 := e17 _ _ z5
    have z6 := e17 _ _ z6
    have q7 := Th.ex e17 q7
    have z8 := e17 _ _ z8
    have q9 := Th.ex e17 q9
    have q10 := Th.ex e17 q10
    have q11 := Th.ex e17 q11
    have q12 := Th.ex e17 q12
    have q13 := Th.ex e17 q13
    have q14 := Th.ex e17 q14
    have q15 := Th.ex e17 q15
    have q16 := Th.ex e17 q16
    have q17 : Th K H17 (.ref a17) (.tuple [.bool true]) := .tup g17 (.cons (.bl true) .nil)
    refine ⟨(by show 1 ≤ sizeLine; decide), fun a18 n18 => ?_⟩
    have e18 := Evl.Ex.new (o := .tup [.str "0"]) n18
    have g18 : (upd H17 a18 (.tup [.str "0"])) a18 = some (.tup [.str "0"]) := upd_same
    generalize upd H17 a18 (.tup [.str "0"]) = H18 at e18 g18
    have q1 := Th.ex e18 q1
    have q2 := Th.ex e18 q2
    have q3 := Th.ex e18 q3
    have q4 := Th.ex e18 q4
    have z5 := e18 _ _ z5
    have z6 := e18 _ _ z6
    have q7 := Th.ex e18 q7
    have z8 := e18 _ _ z8
    have q9 := Th.ex e18 q9
    have q10 := Th.ex e18 q10
    have q11 := Th.ex e18 q11
    have q12 := Th.ex e18 q12
    have q13 := Th.ex e18 q13
    have q14 := Th.ex e18 q14
    have q15 := Th.ex e18 q15
    have q16 := Th.ex e18 q16
    have q17 := Th.ex e18 q17
    have q18 : Th K H18 (.ref a18) (.tuple [.str "0"]) := .tup g18 (.cons (.str "0") .nil)
    refine ⟨(by show 2 ≤ sizeLine; decide), fun a19 n19 => ?_⟩
    have e19 := Evl.Ex.new (o := .tup [.int 0, .int 1]) n19
    have g19 : (upd H18 a19 (.tup [.int 0, .int 1])) a19 = some (.tup [.int 0, .int 1]) := upd_same
    generalize upd H18 a19 (.tup [.int 0, .int 1]) = H19 at e19 g19
    have q1 := Th.ex e19 q1
    have q2 := Th.ex e19 q2
    have q3 := Th.ex e19 q3
    have q4 := Th.ex e19 q4
    have z5 := e19 _ _ z5
    have z6 := e19 _ _ z6
    have q7 := Th.ex e19 q7
    have z8 := e19 _ _ z8
    have q9 := Th.ex e19 q9
    have q10 := Th.ex e19 q10
    have q11 := Th.ex e19 q11
    have q12 := Th.ex e19 q12
    have q13 := Th.ex e19 q13
    have q14 := Th.ex e19 q14
    have q15 := Th.ex e19 q15
    have q16 := Th.ex e19 q16
    have q17 := Th.ex e19 q17
    have q18 := Th.ex e19 q18
    have q19 : Th K H19 (.ref a19) (.tuple [.int 0, .int 1]) := .tup g19 (.cons (.int 0) (.cons (.int 1) .nil))
    refine ⟨(by show 2 ≤ sizeLine; decide), fun a20 n20 => ?_⟩
    have e20 := Evl.Ex.new (o := .tup [.int 1, .int 0]) n20
    have g20 : (upd H19 a20 (.tup [.int 1, .int 0])) a20 = some (.tup [.int 1, .int 0]) := upd_same
    generalize upd H19 a20 (.tup [.int 1, .int 0]) = H20 at e20 g20
    have q1 := Th.ex e20 q1
    have q2 := Th.ex e20 q2
    have q3 := Th.ex e20 q3
    have q4 := Th.ex e20 q4
    have z5 := e20 _ _ z5
    have z6 := e20 _ _ z6
    have q7 := Th.ex e20 q7
    have z8 := e20 _ _ z8
    have q9 := Th.ex e20 q9
    have q10 := Th.ex e20 q10
    have q11 := Th.ex e20 q11
    have q12 := Th.ex e20 q12
    have q13 := Th.ex e20 q13
    have q14 := Th.ex e20 q14
    have q15 := Th.ex e20 q15
    have q16 := Th.ex e20 q16
    have q17 := Th.ex e20 q17
    have q18 := Th.ex e20 q18
    have q19 := Th.ex e20 q19
    have q20 : Th K H20 (.ref a20) (.tuple [.int 1, .int 0]) := .tup g20 (.cons (.int 1) (.cons (.int 0) .nil))
    refine ⟨(by show 2 ≤ sizeLine; decide), fun a21 n21 => ?_⟩
    have e21 := Evl.Ex.new (o := .tup [.ref a19, .ref a20]) n21
    have g21 : (upd H20 a21 (.tup [.ref a19, .ref a20])) a21 = some (.tup [.ref a19, .ref a20]) := upd_same
    generalize upd H20 a21 (.tup [.ref a19, .ref a20]) = H21 at e21 g21
    have q1 := Th.ex e21 q1
    have q2 := Th.ex e21 q2
    have q3 := Th.ex e21 q3
    have q4 := Th.ex e21 q4
    have z5 := e21 _ _ z5
    have z6 := e21 _ _ z6
    have q7 := Th.ex e21 q7
    have z8 := e21 _ _ z8
    have q9 := Th.ex e21 q9
    have q10 := Th.ex e21 q10
    have q11 := Th.ex e21 q11
    have q12 := Th.ex e21 q12
    have q13 := Th.ex e21 q13
    have q14 := Th.ex e21 q14
    have q15 := Th.ex e21 q15
    have q16 := Th.ex e21 q16
    have q17 := Th.ex e21 q17
    have q18 := Th.ex e21 q18
    have q19 := Th.ex e21 q19
    have q20 := Th.ex e21 q20
    have q21 : Th K H21 (.ref a21) (.tuple [.tuple [.int 0, .int 1], .tuple [.int 1, .int 0]]) := .tup g21 (.cons q19 (.cons q20 .nil))
    refine ⟨(by show 0 ≤ sizeLine; decide), fun a22 n22 => ?_⟩
    have e22 := Evl.Ex.new (o := .tup []) n22
    have g22 : (upd H21 a22 (.tup [])) a22 = some (.tup []) := upd_same
    generalize upd H21 a22 (.tup []) = H22 at e22 g22
    have q1 := Th.ex e22 q1
    have q2 := Th.ex e22 q2
    have q3 := Th.ex e22 q3
    have q4 := Th.ex e22 q4
    have z5 := e22 _ _ z5
    have z6 := e22 _ _ z6
    have q7 := Th.ex e22 q7
    have z8 := e22 _ _ z8
    have q9 := Th.ex e22 q9
    have q10 := Th.ex e22 q10
    have q11 := Th.ex e22 q11
    have q12 := Th.ex e22 q12
    have q13 := Th.ex e22 q13
    have q14 := Th.ex e22 q14
    have q15 := Th.ex e22 q15
    have q16 := Th.ex e22 q16
    have q17 := Th.ex e22 q17
    have q18 := Th.ex e22 q18
    have q19 := Th.ex e22 q19
    have q20 := Th.ex e22 q20
    have q21 := Th.ex e22 q21
    have q22 : Th K H22 (.ref a22) (.tuple []) := .tup g22 .nil
    refine ⟨(by show 4 ≤ sizeLine; decide), fun a23 n23 => ?_⟩
    have e23 := Evl.Ex.new (o := .tup [.int 0, .int 0, .int 1, .ref a22]) n23
    have g23 : (upd H22 a23 (.tup [.int 0, .int 0, .int 1, .ref a22])) a23 = some (.tup [.int 0, .int 0, .int 1, .ref a22]) := upd_same
    generalize upd H22 a23 (.tup [.int 0, .int 0, .int 1, .ref a22]) = H23 at e23 g23
    have q1 := Th.ex e23 q1
    have q2 := Th.ex e23 q2
    have q3 := Th.ex e23 q3
    have q4 := Th.ex e23 q4
    have z5 := e23 _ _ z5
    have z6 := e23 _ _ z6
    have q7 := Th.ex e23 q7
    have z8 := e23 _ _ z8
    have q9 := Th.ex e23 q9
    have q10 := Th.ex e23 q10
    have q11 := Th.ex e23 q11
    have q12 := Th.ex e23 q12
    have q13 := Th.ex e23 q13
    have q14 := Th.ex e23 q14
    have q15 := Th.ex e23 q15
    have q16 := Th.ex e23 q16
    have q17 := Th.ex e23 q17
    have q18 := Th.ex e23 q18
    have q19 := Th.ex e23 q19
    have q20 := Th.ex e23 q20
    have q21 := Th.ex e23 q21
    have q22 := Th.ex e23 q22
    have q23 : Th K H23 (.ref a23) (.tuple [.int 0, .int 0, .int 1, .tuple []]) := .tup g23 (.cons (.int 0) (.cons (.int 0) (.cons (.int 1) (.cons q22 .nil))))
    refine ⟨(by show 8 ≤ sizeLine; decide), fun a24 n24 => ?_⟩
    have e24 := Evl.Ex.new (o := .lst [.ref a9, .ref a11, .ref a13, .ref a16, .ref a17, .ref a18, .ref a21, .ref a23]) n24
    have z24 : (upd H23 a24 (.lst [.ref a9, .ref a11, .ref a13, .ref a16, .ref a17, .ref a18, .ref a21, .ref a23])) a24 = some (.lst [.ref a9, .ref a11, .ref a13, .ref a16, .ref a17, .ref a18, .ref a21, .ref a23]) := upd_same
    generalize upd H23 a24 (.lst [.ref a9, .ref a11, .ref a13, .ref a16, .ref a17, .ref a18, .ref a21, .ref a23]) = H24 at e24 z24
    have q1 := Th.ex e24 q1
    have q2 := Th.ex e24 q2
    have q3 := Th.ex e24 q3
    have q4 := Th.ex e24 q4
    have z5 := e24 _ _ z5
    have z6 := e24 _ _ z6
    have q7 := Th.ex e24 q7
    have z8 := e24 _ _ z8
    have q9 := Th.ex e24 q9
    have q10 := Th.ex e24 q10
    have q11 := Th.ex e24 q11
    have q12 := Th.ex e24 q12
    have q13 := Th.ex e24 q13
    have q14 := Th.ex e24 q14
    have q15 := Th.ex e24 q15
    have q16 := Th.ex e24 q16
    have q17 := Th.ex e24 q17
    have q18 := Th.ex e24 q18
    have q19 := Th.ex e24 q19
    have q20 := Th.ex e24 q20
    have q21 := Th.ex e24 q21
    have q22 := Th.ex e24 q22
    have q23 := Th.ex e24 q23
    refine ⟨a8, a24, _, _, rfl, rfl, z8, z24, (by show 27 ≤ sizeLine; decide), fun a25 n25 => ?_⟩
    have e25 := Evl.Ex.new (o := .lst ([.non, .bl true, .bl false, .int 0, .int 1, .int (-1), .int 2, .int (10 ^ (6 : Int).toNat), .int (10 ^ (60 : Int).toNat), .str "", .str "0", .str "a", .ref a1, .ref a2, .ref a3, .ref a4, .ref a5, .ref a6, .ref a7] ++ [.ref a9, .ref a11, .ref a13, .ref a16, .ref a17, .ref a18, .ref a21, .ref a23])) n25
    have z25 : (upd H24 a25 (.lst ([.non, .bl true, .bl false, .int 0, .int 1, .int (-1), .int 2, .int (10 ^ (6 : Int).toNat), .int (10 ^ (60 : Int).toNat), .str "", .str "0", .str "a", .ref a1, .ref a2, .ref a3, .ref a4, .ref a5, .ref a6, .ref a7] ++ [.ref a9, .ref a11, .ref a13, .ref a16, .ref a17, .ref a18, .ref a21, .ref a23]))) a25 = some (.lst ([.non, .bl true, .bl false, .int 0, .int 1, .int (-1), .int 2, .int (10 ^ (6 : Int).toNat), .int (10 ^ (60 : Int).toNat), .str "", .str "0", .str "a", .ref a1, .ref a2, .ref a3, .ref a4, .ref a5, .ref a6, .ref a7] ++ [.ref a9, .ref a11, .ref a13, .ref a16, .ref a17, .ref a18, .ref a21, .ref a23])) := upd_same
    generalize upd H24 a25 (.lst ([.non, .bl true, .bl false, .int 0, .int 1, .int (-1), .int 2, .int (10 ^ (6 : Int).toNat), .int (10 ^ (60 : Int).toNat), .str "", .str "0", .str "a", .ref a1, .ref a2, .ref a3, .ref a4, .ref a5, .ref a6, .ref a7] ++ [.ref a9, .ref a11, .ref a13, .ref a16, .ref a17, .ref a18, .ref a21, .ref a23])) = H25 at e25 z25
    have q1 := Th.ex e25 q1
    have q2 := Th.ex e25 q2
    have q3 := Th.ex e25 q3
    have q4 := Th.ex e25 q4
    have z5 := e25 _ _ z5
    have z6 := e25 _ _ z6
    have q7 := Th.ex e25 q7
    have z8 := e25 _ _ z8
    have q9 := Th.ex e25 q9
    have q10 := Th.ex e25 q10
    have q11 := Th.ex e25 q11
    have q12 := Th.ex e25 q12
    have q13 := Th.ex e25 q13
    have q14 := Th.ex e25 q14
    have q15 := Th.ex e25 q15
    have q16 := Th.ex e25 q16
    have q17 := Th.ex e25 q17
    have q18 := Th.ex e25 q18
    have q19 := Th.ex e25 q19
    have q20 := Th.ex e25 q20
    have q21 := Th.ex e25 q21
    have q22 := Th.ex e25 q22
    have q23 := Th.ex e25 q23
    have z24 := e25 _ _ z24
    have ee : Evl.Ex H H25 := (e1.trans (e2.trans (e3.trans (e4.trans (e5.trans (e6.trans (e7.trans (e8.trans (e9.trans (e10.trans (e11.trans (e12.trans (e13.trans (e14.trans (e15.trans (e16.trans (e17.trans (e18.trans (e19.trans (e20.trans (e21.trans (e22.trans (e23.trans (e24.trans e25))))))))))))))))))))))))
    have hpk := hp.ex ee
    have each : ∀ x ∈ ([.non, .bl true, .bl false, .int 0, .int 1, .int (-1), .int 2, .int (10 ^ (6 : Int).toNat), .int (10 ^ (60 : Int).toNat), .str "", .str "0", .str "a", .ref a1, .ref a2, .ref a3, .ref a4, .ref a5, .ref a6, .ref a7] ++ [.ref a9, .ref a11, .ref a13, .ref a16, .ref a17, .ref a18, .ref a21, .ref a23] : List V), OddV K H25 x := by
      intro x hx
      simp only [List.cons_append, List.nil_append, List.mem_cons, List.not_mem_nil, or_false] at hx
      rcases hx with rfl | rfl | rfl | rfl | rfl | rfl | rfl | rfl | rfl | rfl | rfl | rfl | rfl | rfl | rfl | rfl | rfl | rfl | rfl | rfl | rfl | rfl | rfl | rfl | rfl | rfl | rfl
      · exact ⟨_, .non, odd_mem (i := 0) rfl⟩
      · exact ⟨_, (.bl _), odd_mem (i := 1) rfl⟩
      · exact ⟨_, (.bl _), odd_mem (i := 2) rfl⟩
      · exact ⟨_, (.int _), odd_mem (i := 3) rfl⟩
      · exact ⟨_, (.int _), odd_mem (i := 4) rfl⟩
      · exact ⟨_, (.int _), odd_mem (i := 5) rfl⟩
      · exact ⟨_, (.int _), odd_mem (i := 6) rfl⟩
      · exact ⟨_, (.int _), odd_mem (i := 7) rfl⟩
      · exact ⟨_, (.int _), odd_mem (i := 8) rfl⟩
      · exact ⟨_, (.str _), odd_mem (i := 9) rfl⟩
      · exact ⟨_, (.str _), odd_mem (i := 10) rfl⟩
      · exact ⟨_, (.str _), odd_mem (i := 11) rfl⟩
      · exact ⟨_, q1, odd_mem (i := 12) rfl⟩
      · exact ⟨_, q2, odd_mem (i := 13) rfl⟩
      · exact ⟨_, q3, odd_mem (i := 14) rfl⟩
      · exact ⟨_, q4, odd_mem (i := 15) rfl⟩
      · exact ⟨_, (.d0 z5), odd_mem (i := 16) rfl⟩
      · exact ⟨_, (.d1 z6), odd_mem (i := 17) rfl⟩
      · exact ⟨_, q7, odd_mem (i := 18) rfl⟩
      · exact ⟨_, q9, odd_mem (i := 19) rfl⟩
      · exact ⟨_, q11, odd_mem (i := 20) rfl⟩
      · exact ⟨_, q13, odd_mem (i := 21) rfl⟩
      · exact ⟨_, q16, odd_mem (i := 22) rfl⟩
      · exact ⟨_, q17, odd_mem (i := 23) rfl⟩
      · exact ⟨_, q18, odd_mem (i := 24) rfl⟩
      · exact ⟨_, q21, odd_mem (i := 25) rfl⟩
      · exact ⟨_, q23, odd_mem (i := 26) rfl⟩
    refine ⟨.ref p, rfl, .ref a25, rfl, p, c, a25, _, _, rfl, hpk, T9, .inl (.inl z25), (hp.ex ((e1.trans (e2.trans (e3.trans (e4.trans (e5.trans (e6.trans (e7.trans (e8.trans (e9.trans (e10.trans (e11.trans (e12.trans (e13.trans (e14.trans (e15.trans (e16.trans (e17.trans (e18.trans (e19.trans (e20.trans (e21.trans (e22.trans (e23.trans e24))))))))))))))))))))))))).new1 n25, (fun z => nomatch z), (by show 27 ≤ 1000000; decide), fun x H' hx x1 hp1 => ?_⟩
    obtain ⟨d, hd, hs⟩ := each x hx
    exact q H' x d ((Exx.ex ee).trans x1) hp1 (hd.keep (hpk.tk x1)) hs
end
end Wb

set_option Elab.async false
set_option linter.all false
set_option maxRecDepth 100000
set_option maxHeartbeats 4000000
set_option pp.maxSteps 600
set_option pp.deepTerms false
namespace Wb
open PySem PySem.Spec PyProof.Rows L2
/-! ### how great a thing is -/
mutual
def wt : PyData → Nat
  | .none => 4
  | .bool _ => 5
  | .int i => i.natAbs.log2 + 4
  | .str x => 10 * x.length + 4
  | .list ds => wtAll ds + 5
  | .tuple ds => wtAll ds + 5
  | .dict _ => 20
def wtAll : List PyData → Nat
  | [] => 0
  | d :: ds => wt d + 2 + wtAll ds
end
mutual
/-- its numbers and texts are of at most a figures by twos, signs -/
def good (a : Nat) : PyData → Bool
  | .none => true
  | .bool _ => true
  | .int i => decide (i.natAbs.log2 ≤ a)
  | .str x => decide (x.length ≤ a) && x.cps.toList.all fun c => decide (c < 128)
  | .list ds => goodAll a ds
  | .tuple ds => goodAll a ds
  | .dict kvs => decide ((PyData.dict kvs).shown.length ≤ 16) && ((PyData.dict kvs).showable && decide ((PyData.dict kvs).depth ≤ 1))
def goodAll (a : Nat) : List PyData → Bool
  | [] => true
  | d :: ds => good a d && goodAll a ds
end
theorem goodAll_mem {a : Nat} : ∀ {ds : List PyData}, goodAll a ds = true ↔ ∀ d ∈ ds, good a d = true
  | [] => by simp [goodAll]
  | d :: ds => by simp [goodAll, goodAll_mem (ds := ds)]
theorem wtAll_append : ∀ xs ys : List PyData, wtAll (xs ++ ys) = wtAll xs + wtAll ys
  | [], ys => by simp [wtAll]
  | x :: xs, ys => by
    rw [List.cons_append, wtAll, wtAll, wtAll_append xs ys]
    omega
theorem wtAll_mem : ∀ {ds : List PyData} {d : PyData}, d ∈ ds → wt d + 2 ≤ wtAll ds
  | x :: xs, d, h => by
    rw [wtAll]
    rcases List.mem_cons.mp h with rfl | h
    · omega
    · have := wtAll_mem h
      omega
theorem wtAll_len : ∀ ds : List PyData, 6 * ds.length ≤ wtAll ds
  | [] => Nat.zero_le _
  | d :: ds => by
    have := wtAll_len ds
    have h : 4 ≤ wt d := by cases d <;> simp [wt] <;> omega
    rw [wtAll, List.length_cons]
    omega
theorem wt_len {d : PyData} : (itemsD d).length ≤ wt d := by
  cases d with
  | tuple ds =>
    have := wtAll_len ds
    simp only [itemsD, wt]
    omega
  | _ => simp [itemsD]
theorem int_text (i : Int) : (toString i).length ≤ i.natAbs.log2 + 3 := by
  have h : i.natAbs < 10 ^ (i.natAbs.log2 + 1) := Nat.lt_of_lt_of_le Nat.lt_log2_self (Nat.pow_le_pow_left (by decide) _)
  have := int_text_length_le10 (k := i.natAbs.log2 + 1) (by omega) h
  omega
mutual
theorem good_text {a : Nat} (ha : a < 1920) : ∀ d : PyData, good a d = true → d.showable = true ∧ d.shown.length ≤ wt d
  | .none, _ => ⟨by simp only [PyData.showable], by simp only [PyData.shown, wt]; decide⟩
  | .bool b, _ => ⟨by simp only [PyData.showable], by cases b <;> simp only [PyData.shown, wt] <;> decide⟩
  | .int i, h => by
    have h' : i.natAbs.log2 ≤ a := by simpa [good] using h
    refine ⟨by simp only [PyData.showable]; exact decide_eq_true (by omega), ?_⟩
    simp only [PyData.shown, wt]
    rw [PySem.ofString_length]
    have := int_text i
    omega
  | .str x, h => by
    have h' : x.length ≤ a ∧ ∀ c ∈ x.cps.toList, c < 128 := by
      simp only [good, Bool.and_eq_true, decide_eq_true_eq, List.all_eq_true] at h
      exact h
    refine ⟨by simp only [PyData.showable], ?_⟩
    simp only [PyData.shown, wt]
    have := PySem.StrLaws.reprText_len x fun c hc => Nat.lt_of_lt_of_le (h'.2 c hc) (by decide)
    omega
  | .list ds, h => by
    have h' : goodAll a ds = true := by simpa only [good] using h
    obtain ⟨h1, h2⟩ := good_texts ha ds h'
    refine ⟨by simpa only [PyData.showable] using h1, ?_⟩
    simp only [PyData.shown, wt]
    unfold listText
    rw [strLen_append]
    have e1 : ((("]" : String) : Str)).length = 1 := rfl
    have e2 : ((("[" : String) : Str)).length = 1 := rfl
    have := textFrom_le (PyData.shownAll ds) 0 "["
    omega
  | .tuple ds, h => by
    have h' : goodAll a ds = true := by simpa only [good] using h
    obtain ⟨h1, h2⟩ := good_texts ha ds h'
    refine ⟨by simpa only [PyData.showable] using h1, ?_⟩
    simp only [PyData.shown, wt]
    unfold tupleText
    rw [strLen_append, strLen_append]
    have e1 : ((("(" : String) : Str)).length = 1 := rfl
    have e3 : (((if (PyData.shownAll ds).length == 1 then ",)" else ")" : String) : Str)).length ≤ 2 := by split <;> decide
    have := join_le (PyData.shownAll ds)
    omega
  | .dict kvs, h => by
    have h' : (PyData.dict kvs).shown.length ≤ 16 ∧ (PyData.dict kvs).showable = true ∧ (PyData.dict kvs).depth ≤ 1 := by
      simpa only [good, Bool.and_eq_true, decide_eq_true_eq] using h
    refine ⟨h'.2.1, ?_⟩
    have := h'.1
    simp only [wt]
    omega
theorem good_texts {a : Nat} (ha : a < 1920) : ∀ ds : List PyData, goodAll a ds = true → PyData.showableAll ds = true ∧ piled (PyData.shownAll ds) ≤ wtAll ds
  | [], _ => ⟨by simp only [PyData.showableAll], by simp only [PyData.shownAll, wtAll]; exact Nat.le_refl _⟩
  | d :: ds, h => by
    have h' : good a d = true ∧ goodAll a ds = true := by simpa only [goodAll, Bool.and_eq_true] using h
    obtain ⟨a1, a2⟩ := good_text ha d h'.1
    obtain ⟨b1, b2⟩ := good_texts ha ds h'.2
    refine ⟨by simp only [PyData.showableAll, a1, b1, Bool.and_self], ?_⟩
    simp only [PyData.shownAll, wtAll, piled_cons]
    omega
end
mutual
theorem good_mono {a b : Nat} (h : a ≤ b) : ∀ d : PyData, good a d = true → good b d = true
  | .none, _ => by simp only [good]
  | .bool _, _ => by simp only [good]
  | .int i, z => by
    simp only [good, decide_eq_true_eq] at z ⊢
    omega
  | .str x, z => by
    simp only [good, Bool.and_eq_true, decide_eq_true_eq] at z ⊢
    exact ⟨by omega, z.2⟩
  | .list ds, z => by
    simp only [good] at z ⊢
    exact goodAll_mono h ds z
  | .tuple ds, z => by
    simp only [good] at z ⊢
    exact goodAll_mono h ds z
  | .dict kvs, z => by
    simp only [good] at z ⊢
    exact z
theorem goodAll_mono {a b : Nat} (h : a ≤ b) : ∀ ds : List PyData, goodAll a ds = true → goodAll b ds = true
  | [], _ => by simp only [goodAll]
  | d :: ds, z => by
    simp only [goodAll, Bool.and_eq_true] at z ⊢
    exact ⟨good_mono h d z.1, goodAll_mono h ds z.2⟩
end
theorem odd_good : ∀ d ∈ oddData, good 200 d = true ∧ wt d ≤ 210 ∧ d.depth ≤ 3 ∧ (itemsD d).length ≤ 8 := by
  intro d hd
  unfold oddData at hd
  simp only [List.mem_cons, List.not_mem_nil, or_false] at hd
  rcases hd with rfl | rfl | rfl | rfl | rfl | rfl | rfl | rfl | rfl | rfl | rfl | rfl | rfl | rfl | rfl | rfl | rfl | rfl | rfl | rfl | rfl | rfl | rfl | rfl | rfl | rfl | rfl
  all_goals exact ⟨by decide +kernel, by decide +kernel, by decide +kernel, by decide +kernel⟩
end Wb

set_option Elab.async false
set_option linter.all false
set_option maxRecDepth 100000
set_option maxHeartbeats 4000000
set_option pp.maxSteps 600
set_option pp.deepTerms false
namespace Wb
open PySem PySem.Spec PyProof.Rows L2
/-! ### what a bend leaves -/
/-- the things of a tuple or a list -/
def itemsS : PyData → List PyData
  | .tuple ds => ds
  | .list ds => ds
  | _ => []
/-- no ways stand in it, were it a bolt -/
def noW (x : PyData) : Bool := (itemsD (itD x 1)).all fun g => (itemsD (itD g 3)).isEmpty
structure Bent (d e : PyData) : Prop where
  good : ∀ a, 200 ≤ a → good a d = true → good (a + 24) e = true
  wt : wt e ≤ 2 * wt d + 20000
  dep : e.depth ≤ d.depth + 4
  new : ∃ odd : List PyData, odd.length ≤ 1 ∧ ∀ x ∈ itemsS e, x ∈ itemsS d ∨ x ∈ odd ∨ noW x = true
theorem depth_mem : ∀ {ds : List PyData} {d : PyData}, d ∈ ds → d.depth ≤ PyData.depthAll ds
  | x :: xs, d, h => by
    simp only [PyData.depthAll]
    rcases List.mem_cons.mp h with rfl | h
    · exact Nat.le_max_left _ _
    · exact Nat.le_trans (depth_mem h) (Nat.le_max_right _ _)
theorem depth_all : ∀ {ds : List PyData} {n : Nat}, (∀ d ∈ ds, d.depth ≤ n) → PyData.depthAll ds ≤ n
  | [], n, _ => by simp only [PyData.depthAll]; exact Nat.zero_le _
  | x :: xs, n, h => by
    simp only [PyData.depthAll]
    exact Nat.max_le.mpr ⟨h x List.mem_cons_self, depth_all fun d hd => h d (List.mem_cons_of_mem _ hd)⟩
theorem good_seq {a : Nat} {ds : List PyData} : (good a (.tuple ds) = true ↔ goodAll a ds = true) ∧ (good a (.list ds) = true ↔ goodAll a ds = true) := by
  constructor <;> simp only [good]
theorem wt_seq (ds : List PyData) : wt (.tuple ds) = wtAll ds + 5 ∧ wt (.list ds) = wtAll ds + 5 := by
  constructor <;> simp only [wt]
theorem depth_seq (ds : List PyData) : (PyData.tuple ds).depth = PyData.depthAll ds + 1 ∧ (PyData.list ds).depth = PyData.depthAll ds + 1 := by
  constructor <;> simp only [PyData.depth]
/-- a tuple or a list of these things -/
def Seq2 (d : PyData) (ds : List PyData) : Prop := d = .tuple ds ∨ d = .list ds
theorem Seq2.facts {d : PyData} {ds : List PyData} (h : Seq2 d ds) : itemsS d = ds ∧ wt d = wtAll ds + 5 ∧ d.depth = PyData.depthAll ds + 1 ∧ ∀ a, good a d = true ↔ goodAll a ds = true := by
  rcases h with rfl | rfl
  · exact ⟨rfl, (wt_seq ds).1, (depth_seq ds).1, fun a => good_seq.1⟩
  · exact ⟨rfl, (wt_seq ds).2, (depth_seq ds).2, fun a => good_seq.2⟩
theorem bent_parts {d e : PyData} {ds es : List PyData} (hd : Seq2 d ds) (he : Seq2 e es) (sub : ∀ x ∈ es, x ∈ ds) (w : wtAll es ≤ 2 * wtAll ds) : Bent d e := by
  obtain ⟨d1, d2, d3, d4⟩ := hd.facts
  obtain ⟨e1, e2, e3, e4⟩ := he.facts
  refine ⟨fun a ha hg => ?_, by omega, ?_, [], Nat.zero_le _, fun x hx => ?_⟩
  · rw [e4, goodAll_mem]
    rw [d4, goodAll_mem] at hg
    exact fun x hx => good_mono (by omega) x (hg x (sub x hx))
  · rw [d3, e3]
    have := depth_all (ds := es) (n := PyData.depthAll ds) fun x hx => depth_mem (sub x hx)
    omega
  · rw [e1] at hx
    rw [d1]
    exact .inl (sub x hx)
theorem wt_split {ds : List PyData} {i : Nat} {x : PyData} (h : ds[i]? = some x) : wtAll ds = wtAll (ds.take i) + (wt x + 2) + wtAll (ds.drop (i + 1)) := by
  have il := (List.getElem?_eq_some_iff.mp h).1
  have e : ds = ds.take i ++ ([x] ++ ds.drop (i + 1)) := by
    have z := List.drop_eq_getElem_cons il
    rw [(List.getElem?_eq_some_iff.mp h).2] at z
    rw [List.singleton_append, ← z, List.take_append_drop]
  have w1 : wtAll [x] = wt x + 2 := by simp only [wtAll]
  conv => lhs; rw [e]
  rw [wtAll_append, wtAll_append, w1]
  omega
theorem wt_take (ds : List PyData) (i : Nat) : wtAll (ds.take i) + wtAll (ds.drop i) = wtAll ds := by
  rw [← wtAll_append, List.take_append_drop]
theorem bent_at {d e : PyData} {ds : List PyData} {i : Nat} {x y : PyData} (hd : Seq2 d ds) (hx : ds[i]? = some x) (b : Bent x y) (he : Seq2 e (ds.take i ++ [y] ++ ds.drop (i + 1))) : Bent d e := by
  obtain ⟨d1, d2, d3, d4⟩ := hd.facts
  obtain ⟨e1, e2, e3, e4⟩ := he.facts
  have hxm := List.mem_of_getElem? hx
  have ws := wt_split hx
  have w1 : wtAll [y] = wt y + 2 := by simp only [wtAll]
  have bw := b.wt
  have mem : ∀ z ∈ ds.take i ++ [y] ++ ds.drop (i + 1), z ∈ ds ∨ z = y := by
    intro z hz
    rcases List.mem_append.mp hz with h | h
    · rcases List.mem_append.mp h with h | h
      · exact .inl (List.mem_of_mem_take h)
      · exact .inr (List.mem_singleton.mp h)
    · exact .inl (List.mem_of_mem_drop h)
  refine ⟨fun a ha hg => ?_, ?_, ?_, [y], by simp, fun z hz => ?_⟩
  · rw [e4, goodAll_mem]
    rw [d4, goodAll_mem] at hg
    intro z hz
    rcases mem z hz with h | rfl
    · exact good_mono (by omega) z (hg z h)
    · exact b.good a ha (hg x hxm)
  · rw [d2, e2, wtAll_append, wtAll_append, w1]
    omega
  · rw [d3, e3]
    have dx := depth_mem hxm
    have by_ := b.dep
    have := depth_all (ds := ds.take i ++ [y] ++ ds.drop (i + 1)) (n := PyData.depthAll ds + 4) fun z hz => by
      rcases mem z hz with h | rfl
      · have := depth_mem h
        omega
      · omega
    omega
  · rw [e1] at hz
    rw [d1]
    rcases mem z hz with h | rfl
    · exact .inl h
    · exact .inr (.inl (by simp))
theorem bent_odd {d e : PyData} (h : e ∈ oddData) : Bent d e := by
  obtain ⟨h1, h2, h3, _⟩ := odd_good e h
  refine ⟨fun a ha _ => good_mono (by omega) e h1, by omega, by omega, [], Nat.zero_le _, fun x hx => .inr (.inr ?_)⟩
  have : (itemsS e).all noW = true := by
    unfold oddData at h
    simp only [List.mem_cons, List.not_mem_nil, or_false] at h
    rcases h with rfl | rfl | rfl | rfl | rfl | rfl | rfl | rfl | rfl | rfl | rfl | rfl | rfl | rfl | rfl | rfl | rfl | rfl | rfl | rfl | rfl | rfl | rfl | rfl | rfl | rfl | rfl
    all_goals decide
  exact List.all_eq_true.mp this x hx
/-- the four ways to cut and turn a list of things -/
theorem cuts_in (ds : List PyData) (i : Nat) : (∀ x ∈ ds.take i ++ ds.drop (i + 1), x ∈ ds) ∧ (∀ x ∈ ds.take (i + 1) ++ ds.drop i, x ∈ ds) ∧ (∀ x ∈ ds.take i ++ ((ds.drop i).take 2).reverse ++ ds.drop (i + 2), x ∈ ds) := by
  refine ⟨fun x hx => ?_, fun x hx => ?_, fun x hx => ?_⟩
  · exact (List.mem_append.mp hx).elim List.mem_of_mem_take List.mem_of_mem_drop
  · exact (List.mem_append.mp hx).elim List.mem_of_mem_take List.mem_of_mem_drop
  · rcases List.mem_append.mp hx with h | h
    · rcases List.mem_append.mp h with h | h
      · exact List.mem_of_mem_take h
      · exact List.mem_of_mem_drop (List.mem_of_mem_take (List.mem_reverse.mp h))
    · exact List.mem_of_mem_drop h
theorem wt_rev : ∀ ds : List PyData, wtAll ds.reverse = wtAll ds
  | [] => rfl
  | d :: ds => by
    rw [List.reverse_cons, wtAll_append, wt_rev ds, wtAll]
    simp only [wtAll]
    omega
theorem wt_takeL (ds : List PyData) (i : Nat) : wtAll (ds.take i) ≤ wtAll ds := by
  have := wt_take ds i
  omega
theorem wt_dropL (ds : List PyData) (i : Nat) : wtAll (ds.drop i) ≤ wtAll ds := by
  have := wt_take ds i
  omega
theorem cuts_wt (ds : List PyData) (i : Nat) : wtAll (ds.take i ++ ds.drop (i + 1)) ≤ 2 * wtAll ds ∧ wtAll (ds.take (i + 1) ++ ds.drop i) ≤ 2 * wtAll ds ∧ wtAll (ds.take i ++ ((ds.drop i).take 2).reverse ++ ds.drop (i + 2)) ≤ 2 * wtAll ds := by
  rw [wtAll_append, wtAll_append, wtAll_append, wtAll_append, wt_rev]
  have h1 := wt_takeL ds i
  have h2 := wt_dropL ds (i + 1)
  have h3 := wt_takeL ds (i + 1)
  have h4 := wt_dropL ds i
  have h5 := wt_take ds i
  have h6 := wt_take (ds.drop i) 2
  rw [List.drop_drop] at h6
  omega
end Wb

set_option Elab.async false
set_option linter.all false
set_option maxRecDepth 100000
set_option maxHeartbeats 4000000
set_option pp.maxSteps 600
set_option pp.deepTerms false
namespace HT
open PySem PySem.Spec PyProof.Rows
section
variable {prog : Program} {w : World} {A : Around} {E : Value → Shared → Prop} {s : Shared}
theorem adjust_back (n : Nat) : Builtin.Slice.sliceAdjust none none (-1) (n : Int) = ((n : Int) - 1, -1) := by
  unfold Builtin.Slice.sliceAdjust
  rfl
theorem places_back (n : Nat) : Builtin.Slice.slicePlaces ((n : Int) - 1) (-1) (-1) = n := by
  unfold Builtin.Slice.slicePlaces
  rw [if_neg (by decide)]
  by_cases h : ((n : Int) - 1 > -1)
  · rw [if_pos h, show (-(-1) : Int) = 1 from rfl, Int.ediv_one]
    omega
  · rw [if_neg h]
    omega
theorem fm_congr {α β : Type} {f g : α → Option β} : ∀ {xs : List α}, (∀ x ∈ xs, f x = g x) → xs.filterMap f = xs.filterMap g
  | [], _ => rfl
  | x :: xs, h => by
    rw [List.filterMap_cons, List.filterMap_cons, h x List.mem_cons_self, fm_congr fun y hy => h y (List.mem_cons_of_mem _ hy)]
theorem pick_back (xs : Array Value) : ((List.range xs.size).filterMap fun (m : Nat) => xs[(((xs.size : Int) - 1) + (m : Int) * (-1)).toNat]?).toArray = xs.toList.reverse.toArray := by
  have z := PySem.W.krv_pick xs
  rw [← z]
  unfold slicePick
  rw [PySem.W.krv_bounds]
  show _ = ((sliceRange ((xs.size : Int) - 1) (-1) (-1)).filterMap (xs[·]?)).toArray
  rw [PySem.W.krv_sliceRange, List.filterMap_map]
  congr 1
  refine fm_congr fun m hm => ?_
  have := List.mem_range.mp hm
  show xs[(((xs.size : Int) - 1) + (m : Int) * (-1)).toNat]? = xs[xs.size - 1 - m]?
  rw [show (((xs.size : Int) - 1) + (m : Int) * (-1)).toNat = xs.size - 1 - m by omega]
theorem applied_back {q : Addr} {vs : Value} {n : Nat} {Q : Int × Int × Nat → Shared → Prop} (hq : s.heap.IsSliceOf q .none .none vs) (hv : IsPart vs (some (-1)))
    (h : Q ((n : Int) - 1, -1, n) s) : wpAny (model prog w) A (Builtin.Slice.sliceApplied (.ref q) (pure (n : Int))) Q E s := by
  obtain ⟨ob, g1, g2, g3⟩ := id hq
  unfold Builtin.Slice.sliceApplied Builtin.Slice.sliceFields
  refine wpAny_bind (wpAny_bind (wpAny_field g1 g3 (x := .none) rfl ?_))
  refine wpAny_bind (wpAny_field g1 g3 (x := .none) rfl ?_)
  refine wpAny_bind (wpAny_field g1 g3 (x := vs) rfl (wpAny_pure ?_))
  refine wpAny_bind (slicePart_ hv ?_)
  show wpAny _ _ (if ((-1 : Int) == 0) = true then _ else _) _ _ s
  rw [if_neg (by decide)]
  refine wpAny_bind (slicePart_none ?_)
  refine wpAny_bind (slicePart_none ?_)
  refine wpAny_bind (wpAny_pure ?_)
  show wpAny _ _ (match Builtin.Slice.sliceAdjust none none (-1) (n : Int) with | (lo, hi) => pure (lo, (-1 : Int), Builtin.Slice.slicePlaces lo hi (-1))) _ _ s
  rw [adjust_back]
  show wpAny _ _ (pure ((n : Int) - 1, (-1 : Int), Builtin.Slice.slicePlaces ((n : Int) - 1) (-1) (-1))) _ _ s
  rw [places_back]
  exact wpAny_pure h
theorem getItem_back {t q : Addr} {xs : Array Value} {vs : Value} {Q : Value → Shared → Prop} (ht : IsTup s.heap t xs) (hq : s.heap.IsSliceOf q .none .none vs) (hv : IsPart vs (some (-1)))
    (h : Q (.ref s.heap.objs.size) { s with heap := s.heap.push { cls := .type "tuple", data := .seq xs.toList.reverse.toArray } }) (hz : xs.size ≤ sizeLine) : wpAny (model prog w) A (getItem (.ref t) (.ref q)) Q E s := by
  have small : sizeOk (.seq xs.toList.reverse.toArray) := by
    show xs.toList.reverse.toArray.size ≤ sizeLine
    rw [List.size_toArray, List.length_reverse, Array.length_toList]
    exact hz
  obtain ⟨ob, g1, g2, g3⟩ := id hq
  have tq : s.TypeIs (.ref q) "slice" := ⟨ob, g1, g2⟩
  unfold getItem
  try with_reducible refine wpAny_holding ?_
  first
    | refine wpAny_bind (wpAny_pure ?_)
    | skip
  refine wpAny_bind (wpAny_sequenceKey ht.typeIs (by decide) ?_)
  refine wpAny_bind (wpAny_callSpecial?_slot (name := Str.ofString "__getitem__") ht.typeIs PyProof.Rows.slot_tuple_getitem (wpAny_call_entry PyProof.Rows.slot_tuple_getitem ht.typeIs entry_tuple_getitem ?_ (args_tuple_getitem _ _)))
  show wpAny _ _ (Builtin.Tuple.tupleItemsOf (.ref t) >>= _) _ _ s
  refine wpAny_bind (tupleItemsOf_ ht ?_)
  refine wpAny_bind (wpAny_typeOf tq ?_)
  rw [if_pos (by decide)]
  refine wpAny_bind (applied_back hq hv ?_)
  have no : ¬ ((((xs.size : Int) - 1 == 0) && ((-1 : Int) == 1) && (xs.size == xs.size)) = true) := by
    have z : ((-1 : Int) == 1) = false := by decide
    rw [z, Bool.and_false, Bool.false_and]
    exact Bool.false_ne_true
  show wpAny _ _ (if (((xs.size : Int) - 1 == 0) && ((-1 : Int) == 1) && (xs.size == xs.size)) = true then _ else _) _ _ s
  rw [if_neg no, pick_back]
  first
    | exact wpAny_bind (m := Builtin.Tuple.tupleExact _) (wpAny_newObj_type (wpAny_pure ⟨_, rfl, wpAny_pure h⟩) small)
    | exact wpAny_bind (m := Builtin.Tuple.tupleExact _) (wpAny_newObj_type (wpAny_bind (wpAny_pure (wpAny_pure ⟨_, rfl, wpAny_pure h⟩))) small)
    | exact wpAny_bind (wpAny_bind (m := Builtin.Tuple.tupleExact _) (wpAny_newObj_type (wpAny_pure (wpAny_pure ⟨_, rfl, wpAny_pure h⟩)) small))
    | exact wpAny_bind (wpAny_bind (m := Builtin.Tuple.tupleExact _) (wpAny_newObj_type (wpAny_pure ⟨_, rfl, wpAny_pure h⟩) small))
end
end HT
namespace Wb
open PySem PySem.Spec PyProof.Rows L2
section
variable {X : Cx}
/-- t[::-1] -/
def tBack (K : PySem.W.Frag) (te : TE) : TE := fun σ H Q => te σ H fun x H1 => ∃ a xs, x = .ref a ∧ SqT K H1 a xs ∧ ∀ q, H1 q = none → Q (.ref q) (upd H1 q (.tup xs.reverse))
theorem pe_back {e : Expr} {te : TE} {j : Nat} {pa pb pc pos : Pos} (he : PE X e te) : PE X (.Subscript e (.Slice none none (some (.UnaryOp .USub (.Constant (.int 1) j pa) pb)) pc) pos) (tBack X.K te) := by
  refine ⟨fun pins s σ H Q I h => ?_⟩
  refine Subscript_ (thn (he.run pins s σ H _ I h) fun v s1 ⟨x, H1, I1, r1, q1⟩ => ?_)
  obtain ⟨a, xs, ex, hx, q⟩ := q1
  rw [ex] at r1
  cases r1
  have minus : PO X (some (.UnaryOp .USub (.Constant (.int 1) j pa) pb)) (tPart (tUn (rU fun i => .int (-i)) (tC (.int 1)))) := po_some (pe_un un_neg pe_int)
  refine wpAny_Slice (thn (po_none.run pins s1 σ H1 (fun o G => o = none ∧ G = H1) I1 ⟨rfl, rfl⟩) fun v1 s2 ⟨o1, G1, J1, p1, eo1, eG1⟩ => ?_)
  rw [eo1] at p1
  rw [eG1] at J1
  refine thn (po_none.run pins s2 σ H1 (fun o G => o = none ∧ G = H1) J1 ⟨rfl, rfl⟩) fun v2 s3 ⟨o2, G2, J2, p2, eo2, eG2⟩ => ?_
  rw [eo2] at p2
  rw [eG2] at J2
  refine thn (minus.run pins s3 σ H1 (fun o G => o = some (-1) ∧ G = H1) J2 ⟨1, rfl, -1, rfl, rfl, rfl⟩) fun v3 s4 ⟨o3, G3, J3, p3, eo3, eG3⟩ => ?_
  rw [eo3] at p3
  rw [eG3] at J3
  cases p1
  cases p2
  have J4 : Inv X pins σ H1 { s4 with heap := s4.heap.push { cls := .type "slice", data := .fields #[.none, .none, v3] } } := J3.kept (t' := s4.toks) fun b ob g => Heap.get?_push_of_some _ g
  obtain ⟨its, r, ht, hz⟩ := J4.tuple hx
  have hlen := r.length
  show wpAny (model X.prog X.w) X.A (subscriptTail e (.Slice none none (some (.UnaryOp .USub (.Constant (.int 1) j pa) pb)) pc) (.ref a) (.ref s4.heap.objs.size)) (EP X pins σ Q) X.xe
    { s4 with heap := s4.heap.push { cls := .type "slice", data := .fields #[.none, .none, v3] } }
  refine tail_any (ops := [.ref a, .ref s4.heap.objs.size]) ht.typeIs PyProof.Rows.slot_tuple_getitem.lookup ?_ (by with_unfolding_all rfl)
  refine HT.getItem_back ht (Heap.IsSliceOf.new _ .none .none v3) p3 ?_ (by rw [List.size_toArray]; omega)
  refine ⟨.ref _, _, J4.laid (t' := s4.toks) (o := .tup xs.reverse) (fun b ob g => Heap.get?_push_of_some _ g) (Nat.le_refl _) ?_, rfl, q _ (J4.hok.fresh (Nat.le_refl _))⟩
  exact ⟨by rw [List.length_reverse]; exact hz, _, r.reverse, IsTup.new _ _⟩
/-- str of an int or of None -/
theorem call_strO : CallR X (.type "str") (fun xs H Q => (∃ i, xs = [.int i] ∧ i.natAbs.log2 < 1920 ∧ Q (.str (toString i)) H) ∨ (xs = [.non] ∧ Q (.str "None") H)) := by
  intro pins s σ H xs us Q I r h
  rcases h with h | ⟨rfl, q⟩
  · exact call_str_int pins s σ H xs us Q I r h
  · cases r with
    | cons r1 r2 =>
      cases r2
      cases r1
      exact PySem.P.str_of_none ⟨.str _, H, I.tok _, ⟨_, rfl⟩, q⟩
end
end Wb

set_option Elab.async false
set_option linter.all false
set_option maxRecDepth 100000
set_option maxHeartbeats 4000000
set_option pp.maxSteps 600
set_option pp.deepTerms false
namespace Wb
open PySem PySem.Spec PyProof.Rows L2
abbrev sBent : Stmt := topS 29
abbrev nBent : List Str := ["_law_pen_here", "_law_thing", "_law_at", "_law_way", "_law_inner", "_law_some"]
theorem scBent : FnScope nBent ["_law_pen_here", "_law_thing"] (defScope sBent) := ⟨rfl, rfl, rfl, by decide +kernel, rfl, by decide +kernel, by decide +kernel⟩
/-! ### parts of tuples, tuples together: a tuple of ours -/
section
variable {K : PySem.W.Frag} {H : Hp} {Q : VK} {a b : Addr} {xs ys : List V}
theorem sl_own {lo hi : Option Int} (ha : H a = some (.tup xs)) (q : ∀ H' z, Evl.Ex H H' → H' z = some (.tup (cutV xs lo hi)) → Q (.ref z) H') : rSlA K (.ref a) lo hi H Q := by
  refine ⟨a, xs, rfl, .inl (.inl ha), fun h => ?_, fun _ t nt => ?_⟩
  · exact q H a (Evl.Ex.refl H) (by rw [cutV_whole h]; exact ha)
  · exact q _ t (Evl.Ex.new nt) upd_same
theorem cat_own (ha : H a = some (.tup xs)) (hb : H b = some (.tup ys)) (hz : xs.length + ys.length ≤ sizeLine) (q : ∀ H' z, Evl.Ex H H' → H' z = some (.tup (xs ++ ys)) → Q (.ref z) H') : rCatA K (.ref a) (.ref b) H Q := by
  refine ⟨a, b, xs, ys, rfl, rfl, .inl (.inl ha), .inl (.inl hb), hz, fun h => ?_, fun _ h => ?_, fun _ _ t nt => ?_⟩
  · exact q H b (Evl.Ex.refl H) (by rw [h]; exact hb)
  · exact q H a (Evl.Ex.refl H) (by rw [h, List.append_nil]; exact ha)
  · exact q _ t (Evl.Ex.new nt) upd_same
end
section
variable {K : PySem.W.Frag}
theorem kit_seq (d : PyData) : PySem.W.kitAny K (.type (tyS d)) [.type "tuple", .type "list"] = some (isTup d || isLst d) := by
  have h1 := kit_ty (K := K) (kit_tup d)
  have h2 := kit_ty (K := K) (kit_lst d)
  unfold PySem.W.kitAny
  rw [h1]
  cases isTup d with
  | true => rfl
  | false =>
    show PySem.W.kitAny K (.type (tyS d)) [.type "list"] = _
    unfold PySem.W.kitAny
    rw [h2]
    cases isLst d <;> rfl
end
theorem cut_mid (xs : List V) {i : Nat} (h : i ≤ xs.length) : cutV xs (some (i : Int)) (some ((i : Int) + 2)) = (xs.drop i).take 2 := by
  have e : ((i : Int) + 2) = ((i + 2 : Nat) : Int) := by omega
  rw [e]
  unfold cutV
  rw [HT.sIx_nat, HT.sIx_nat, Nat.min_eq_left h]
  by_cases z : i + 2 ≤ xs.length
  · rw [Nat.min_eq_left z, show i + 2 - i = 2 by omega]
  · rw [Nat.min_eq_right (by omega), List.take_of_length_le (by rw [List.length_drop]; omega), List.take_of_length_le (by rw [List.length_drop]; omega)]
theorem cut_far (xs : List V) (i : Nat) : cutV xs (some (i : Int)) none = xs.drop i := by
  by_cases h : i ≤ xs.length
  · exact cut_drop xs h
  · unfold cutV
    rw [HT.sIx_nat, HT.sIx_none, Nat.min_eq_right (by omega), List.drop_of_length_le (Nat.le_refl _), List.drop_of_length_le (by omega), List.take_nil]
def spBent (K : PySem.W.Frag) (n : Nat) : Sp := fun vs H Q _ => ∃ (p c : Addr) (v : V) (d : PyData) (T : Int), vs = [.ref p, v] ∧ PenAt H p c T ∧ T + 100 * (n : Nat) ≤ 9000000 ∧ Th K H v d ∧ d.depth ≤ n ∧ good 1000 d = true ∧ wt d ≤ 4000000 ∧
  ∀ H' u e, Exx p H H' → PenAt H' p c (T + 10 * (n : Nat) + 20) → Th K H' u e → Bent d e → Q u H'
/-- .. of a tuple with things in it -/
def spBentT (K : PySem.W.Frag) (n : Nat) : Sp := fun vs H Q _ => ∃ (p c a : Addr) (xs : List V) (ds : List PyData) (T : Int), vs = [.ref p, .ref a] ∧ PenAt H p c T ∧ T + 100 * ((n + 1 : Nat) : Int) ≤ 9000000 ∧ H a = some (.tup xs) ∧ Paired (Th K H) xs ds ∧ 1 ≤ ds.length ∧ PyData.depthAll ds ≤ n ∧ goodAll 1000 ds = true ∧ wtAll ds + 5 ≤ 4000000 ∧
  ∀ H' u e, Exx p H H' → PenAt H' p c (T + 10 * ((n + 1 : Nat) : Int) + 20) → Th K H' u e → Bent (.tuple ds) e → Q u H'
theorem paired_app {α β : Type} {R : α → β → Prop} {xs xs' : List α} {ys ys' : List β} (h : Paired R xs ys) (h' : Paired R xs' ys') : Paired R (xs ++ xs') (ys ++ ys') := Paired.app h h'
theorem paired_rev {α β : Type} {R : α → β → Prop} : ∀ {xs : List α} {ys : List β}, Paired R xs ys → Paired R xs.reverse ys.reverse
  | _, _, .nil => .nil
  | _, _, .cons r t => by
    rw [List.reverse_cons, List.reverse_cons]
    exact Paired.app (paired_rev t) (.cons r .nil)
section
variable {P : Program} {w : World} {K : PySem.W.Frag} {mg : Str → Option Value} {base : Heap}
theorem ok_bentT {f f1 f2 f3 : Addr} {fd fd1 fd2 fd3 : FuncData} {ks m n : Nat} (F : Fun K "_law_bent" "_law_bent" sBent f fd) (bb : Binds K fd ["_law_pen_here", "_law_thing"] []) (gb : mg "_law_bent" = some (.ref f))
    (F1 : Fun K "_law_draw" "_law_draw" sDraw f1 fd1) (b1 : Binds K fd1 ["_law_pen_here", "_law_many"] []) (g1 : mg "_law_draw" = some (.ref f1))
    (F2 : Fun K "_law_pick" "_law_pick" sPick f2 fd2) (b2 : Binds K fd2 ["_law_pen_here", "_law_some"] []) (g2 : mg "_law_pick" = some (.ref f2))
    (F3 : Fun K "_law_odd" "_law_odd" sOdd f3 fd3) (b3 : Binds K fd3 ["_law_pen_here"] []) (g3 : mg "_law_odd" = some (.ref f3))
    (str_ : mg "str" = none) (B : Bi mg) (GI : FnOk P w K mg base CX0 ks f fd ["_law_pen_here", "_law_thing"] (spBent K n)) (hks : ks ≤ m) (h3 : 3 ≤ m) :
    FnOk P w K mg base CX0 (m + 1) f fd ["_law_pen_here", "_law_thing"] (spBentT K n) := by
  have G1 : FnOk P w K mg base CX0 1 f1 fd1 ["_law_pen_here", "_law_many"] spDraw := ok_draw F1 B
  have G2 : FnOk P w K mg base CX0 2 f2 fd2 ["_law_pen_here", "_law_some"] (spPick K) := ok_pick F2 F1 b1 g1 B
  have G3 : FnOk P w K mg base CX0 3 f3 fd3 ["_law_pen_here"] (spOdd K) := ok_odd F3 F1 b1 g1 F2 b2 g2 B
  refine F.ok scBent (fun vs H Q E h => ?_) (fun cdv A outer s H vs Q E hr h => ?_)
  · obtain ⟨p, c, a, xs, ds, T, rfl, _⟩ := h; rfl
  · obtain ⟨p, c, a, xs, ds, T, rfl, hp, T9, ha, hds, n1, dn, gd, wd, q⟩ := h
    have hr1 : Room 1 _ := hr.mono (by omega)
    have hr2 : Room 2 _ := hr.mono (by omega)
    have hr3 : Room 3 _ := hr.mono h3
    have hrI : Room ks _ := hr.mono hks
    refine ⟨_, Evl.pss_cut (ps_if (PW.pt (pw_and (pt_val (pe_callB call_isiT (by rfl) B.isi boot_isinstance (pa_cons (pv 1) (pa_cons (pe_tup (pa_cons (pe_bltn (v := .ty "tuple") (by rfl) B.tuple (by decide +kernel) rfl) (pa_cons (pe_bltn (v := .ty "list") (by rfl) B.list (by decide +kernel) rfl) pa_nil))) pa_nil))))
          (pw_and (pt_cmpR op_gt (pe_callB call_len_seq (by rfl) B.len PySem.boot_len (pa_cons (pv 1) pa_nil)) pe_int (nomark _))
            (pw_and1 (pt_cmpR op_gt (pe_call G1 hr1 (by rfl) g1 F1.kp b1 .nil pass0 (pa_cons (pv 0) (pa_cons pe_int pa_nil))) pe_int (nomark _))))))
        (pss_cons (ps_par (by rfl) scBent.nd (i := 2) (j := 3) rfl rfl (by decide) rfl rfl (pa_cons (pe_call G1 hr1 (by rfl) g1 F1.kp b1 .nil pass0 (pa_cons (pv 0) (pa_cons (pe_callB call_len_seq (by rfl) B.len PySem.boot_len (pa_cons (pv 1) pa_nil)) pa_nil)))
            (pa_cons (pe_call G1 hr1 (by rfl) g1 F1.kp b1 .nil pass0 (pa_cons (pv 0) (pa_cons pe_int pa_nil))) pa_nil)) (by rfl))
        (pss_cons (ps_if (pt_cmpR op_lt (pv 3) pe_int (nomark _))
            (pss_cons (ps_set (i := 4) scBent.nd rfl (.inl rfl) (pe_lst (pa_cons (pe_call GI hrI (by rfl) gb F.kp bb .nil pass0 (pa_cons (pv 0) (pa_cons (pe_ix (r := rIxT K) ix_tup (pv 1) (pv 2) (fun _ _ => rfl)) pa_nil))) pa_nil)))
            (pss_cons (ps_set (i := 4) scBent.nd rfl (.inl rfl) (pe_ifExp (pt_val (pe_callB call_isi (by rfl) B.isi boot_isinstance (pa_cons (pv 1) (pa_cons (pe_bltn (v := .ty "list") (by rfl) B.list (by decide +kernel) rfl) pa_nil)))) (pv 4) (pe_callTy (r := rTupK K) call_tupK (by rfl) B.tuple PyProof.Rows.boot_tuple (pa_cons (pv 4) pa_nil))))
            (pss_one (ps_ret (pe_op op_catA (pe_op op_catA (pe_slice (r := rSlA K) sl_tupA (pv 1) po_none (po_some (pv 2))) (pv 4)) (pe_slice (r := rSlA K) sl_tupA (pv 1) (po_some (pe_op op_add (pv 2) pe_int)) po_none)))))) pss_nil)
        (pss_cons (ps_set (i := 5) scBent.nd rfl (.inl rfl) (pe_lst (pa_cons (pe_op op_catA (pe_slice (r := rSlA K) sl_tupA (pv 1) po_none (po_some (pv 2))) (pe_slice (r := rSlA K) sl_tupA (pv 1) (po_some (pe_op op_add (pv 2) pe_int)) po_none))
            (pa_cons (pe_op op_catA (pe_slice (r := rSlA K) sl_tupA (pv 1) po_none (po_some (pe_op op_add (pv 2) pe_int))) (pe_slice (r := rSlA K) sl_tupA (pv 1) (po_some (pv 2)) po_none)) pa_nil))))
        (pss_cons (ps_expr (pe_bm PySem.F.plainAttrs_list PySem.F.slot_list_append PySem.F.type_list_append mt_append (pv 5) (pa_cons (pe_op op_catA (pe_op op_catA (pe_slice (r := rSlA K) sl_tupA (pv 1) po_none (po_some (pv 2)))
            (pe_back (pe_slice (r := rSlA K) sl_tupA (pv 1) (po_some (pv 2)) (po_some (pe_op op_add (pv 2) pe_int))))) (pe_slice (r := rSlA K) sl_tupA (pv 1) (po_some (pe_op op_add (pv 2) pe_int)) po_none)) pa_nil)))
        (pss_one (ps_ret (pe_ix ix_list (pe_op op_cat (pv 5) (pe_lst (pa_cons (pe_ifExp (pt_val (pe_callB call_isi (by rfl) B.isi boot_isinstance (pa_cons (pv 1) (pa_cons (pe_bltn (v := .ty "tuple") (by rfl) B.tuple (by decide +kernel) rfl) pa_nil))))
            (pe_callTy call_list_of (by rfl) B.list PyProof.Rows.boot_list (pa_cons (pv 1) pa_nil)) (pe_callTy (r := rTupK K) call_tupK (by rfl) B.tuple PyProof.Rows.boot_tuple (pa_cons (pv 1) pa_nil))) pa_nil))) (pe_op op_sub (pv 3) pe_int) (fun _ _ => rfl)))))))) pss_nil)
      (Evl.pss_cut (ps_if (PW.pt (pw_and (pt_val (pe_callB call_isi (by rfl) B.isi boot_isinstance (pa_cons (pv 1) (pa_cons (pe_bltn (v := .ty "int") (by rfl) B.int (by decide +kernel) rfl) pa_nil)))) (pw_and1 (pt_cmpR op_gt (pe_call G1 hr1 (by rfl) g1 F1.kp b1 .nil pass0 (pa_cons (pv 0) (pa_cons pe_int pa_nil))) pe_int (nomark _)))))
        (pss_cons (ps_set (i := 5) scBent.nd rfl (.inl rfl) (pe_lst (pa_cons (pe_op op_add (pv 1) pe_int) (pa_cons (pe_op op_sub (pv 1) pe_int) (pa_cons (pe_op op_sub pe_int (pv 1)) (pa_cons (pe_cmpR op_eq (pv 1) pe_int (nomark _)) (pa_cons (pe_callTy call_strO (by rfl) str_ PyProof.Rows.boot_str (pa_cons (pv 1) pa_nil))
            (pa_cons (pe_op op_mul (pv 1) (pe_op op_pow pe_int pe_int)) (pa_cons pe_non (pa_cons (pe_tup (pa_cons (pv 1) pa_nil)) pa_nil))))))))))
        (pss_one (ps_ret (pe_call G2 hr2 (by rfl) g2 F2.kp b2 .nil pass0 (pa_cons (pv 0) (pa_cons (pv 5) pa_nil)))))) pss_nil)
      (pss_cons (ps_if (PW.pt (pw_and (pt_val (pe_callB call_isi (by rfl) B.isi boot_isinstance (pa_cons (pv 1) (pa_cons (pe_bltn (v := .ty "str") (by rfl) str_ (by decide +kernel) rfl) pa_nil)))) (pw_and1 (pt_cmpR op_gt (pe_call G1 hr1 (by rfl) g1 F1.kp b1 .nil pass0 (pa_cons (pv 0) (pa_cons pe_int pa_nil))) pe_int (nomark _)))))
        pss_never pss_nil)
      (pss_one (ps_ret (pe_call G3 hr3 (by rfl) g3 F3.kp b3 .nil pass0 (pa_cons (pv 0) pa_nil)))))), ?_⟩
    have xl : xs.length = ds.length := Paired.len hds
    have len6 := wtAll_len ds
    have nap : a ≠ p := fun z => by
      obtain ⟨cells, t, d, hpp, _⟩ := hp
      rw [z, hpp] at ha
      cases ha
    have q2 : Seq2 (.tuple ds) ds := .inl rfl
    refine ⟨fun σ' H' => σ' = [some (.ref p), some (.ref a), none, none, none, none] ∧ Exx p H H' ∧ PenAt H' p c (T + 1), ?_, ?_⟩
    · refine ⟨.ref a, rfl, (by show 2 ≤ sizeLine; decide), fun tp ntp => ?_⟩
      have e1 := Evl.Ex.new (o := .tup [.ty "tuple", .ty "list"]) ntp
      refine ⟨.ref a, tp, _, .type (tyS (.tuple ds)), _, (isTup (.tuple ds) || isLst (.tuple ds)), rfl, upd_same, .cons (.ty _) (.cons (.ty _) .nil), (Th.tupI (e1 _ _ ha) (Paired.imp (fun _ _ h => h.ex e1) hds)).ty, kit_seq (.tuple ds), _, rfl, ?_⟩
      refine iteT ?_
      have hp1 := hp.ex e1
      have ha1 := e1 _ _ ha
      have hd1 : Paired (Th K (upd H tp (.tup [.ty "tuple", .ty "list"]))) xs ds := Paired.imp (fun _ _ h => h.ex e1) hds
      generalize upd H tp (.tup [.ty "tuple", .ty "list"]) = H1 at e1 hp1 ha1 hd1
      refine ⟨.ref a, rfl, a, xs, rfl, .inr (.inl (.inl ha1)), (xs.length : Nat), 0, rfl, rfl, _, rfl, ?_⟩
      refine ite2 (fun _ => ?_) (fun z => absurd (decide_eq_true (by omega)) z)
      refine ⟨.ref p, rfl, p, c, 8, _, rfl, hp1, by decide, by decide, by omega, fun r H2 r0 r8 x2 hp2 => ⟨r, 0, rfl, rfl, _, rfl, ?_⟩⟩
      refine ite2 (fun _ => ?_) (fun _ => ⟨rfl, (Exx.ex e1).trans x2, hp2.mono (by omega)⟩)
      have ha2 := x2 _ _ nap ha1
      refine ⟨.ref p, rfl, .ref a, rfl, a, xs, rfl, .inr (.inl (.inl ha2)), p, c, (xs.length : Nat), _, rfl, hp2, by omega, by omega, by omega, fun at' H3 at0 at1 x3 hp3 => ?_⟩
      obtain ⟨i, rfl⟩ : ∃ n : Nat, at' = (n : Int) := ⟨at'.toNat, by omega⟩
      refine ⟨.ref p, rfl, p, c, 9, _, rfl, hp3, by decide, by decide, by omega, fun way H4 w0 w9 x4 hp4 => ?_⟩
      refine ⟨.int (i : Nat), .int way, rfl, ?_⟩
      have ha4 := x4 _ _ nap (x3 _ _ nap ha2)
      have x14 : Exx p H1 H4 := x2.trans (x3.trans x4)
      have x04 : Exx p H H4 := (Exx.ex e1).trans x14
      have hd4 : Paired (Th K H4) xs ds := Paired.imp (fun _ _ h => h.keep (hp1.tk x14)) hd1
      have il : i < xs.length := by omega
      refine ⟨.int way, rfl, way, 5, rfl, rfl, _, rfl, ?_⟩
      refine ite2 (fun _ => ?_) (fun hw => ?_)
      · -- a thing of it bent
        obtain ⟨dx, hdx⟩ : ∃ dx, ds[i]? = some dx := ⟨ds[i], List.getElem?_eq_getElem (by omega)⟩
        obtain ⟨x, hx, hth⟩ := Paired.get2 hd4 hdx
        have hdm := List.mem_of_getElem? hdx
        have w1 := wtAll_mem hdm
        refine ⟨.ref p, rfl, .ref a, rfl, .int (i : Nat), rfl, a, xs, (i : Nat), x, rfl, rfl, .inl (.inl ha4), atI_nat hx, ?_⟩
        refine ⟨p, c, x, dx, _, rfl, hp4, by omega, hth, Nat.le_trans (depth_mem hdm) dn, goodAll_mem.mp gd dx hdm, by omega, fun H5 v e x5 hp5 hv be => ?_⟩
        have ha5 := x5 _ _ nap ha4
        have hd5 : Paired (Th K H5) xs ds := Paired.imp (fun _ _ h => h.keep (hp4.tk x5)) hd4
        refine ⟨(by show 1 ≤ sizeLine; decide), fun l nl => ?_⟩
        have e6 := Evl.Ex.new (o := .lst [v]) nl
        have g6 : (upd H5 l (.lst [v])) l = some (.lst [v]) := upd_same
        generalize upd H5 l (.lst [v]) = H6 at e6 g6
        have ha6 := e6 _ _ ha5
        refine ⟨.ref a, rfl, .ref a, .ty "list", .type "tuple", .type "list", false, rfl, .ty _, tyx_tup (.inl (.inl ha6)), kit_ty (by decide +kernel), false, rfl, ?_⟩
        refine iteF ?_
        refine ⟨.ref l, rfl, l, [v], rfl, .inl ⟨SqL.of g6, fun t nt => ?_⟩⟩
        have e7 := Evl.Ex.new (o := .tup [v]) nt
        have g7 : (upd H6 t (.tup [v])) t = some (.tup [v]) := upd_same
        generalize upd H6 t (.tup [v]) = H7 at e7 g7
        refine ⟨.ref a, rfl, .int (i : Nat), rfl, (i : Nat), rfl, ?_⟩
        refine sl_own (K := K) (lo := none) (hi := some (i : Nat)) (e7 _ _ ha6) fun H8 z8 e8 s8 => ?_
        rw [cut_take] at s8
        refine ⟨.ref t, rfl, ?_⟩
        refine cat_own (K := K) s8 (e8 _ _ g7) (Nat.le_trans (by rw [List.length_take, List.length_singleton]; omega : (xs.take i).length + [v].length ≤ 1000000) (by decide)) fun H9 z9 e9 s9 => ?_
        refine ⟨.ref a, rfl, .int (i : Nat), rfl, (i : Nat), 1, rfl, rfl, ((i + 1 : Nat) : Int), by rw [Int.natCast_add]; rfl, ?_⟩
        refine nopart1 ?_
        refine sl_own (K := K) (lo := some ((i + 1 : Nat) : Int)) (hi := none) ((e8.trans e9) _ _ (e7 _ _ ha6)) fun H10 z10 e10 s10 => ?_
        rw [cut_far] at s10
        refine cat_own (K := K) (e10 _ _ s9) s10 (Nat.le_trans (by simp only [List.length_append, List.length_take, List.length_singleton, List.length_drop]; omega : (xs.take i ++ [v]).length + (xs.drop (i + 1)).length ≤ 2000000) (by decide)) fun H11 z11 e11 s11 => ?_
        have e511 : Evl.Ex H5 H11 := e6.trans (e7.trans (e8.trans (e9.trans (e10.trans e11))))
        have hd11 : Paired (Th K H11) xs ds := Paired.imp (fun _ _ h => h.ex e511) hd5
        exact q H11 (.ref z11) (.tuple (ds.take i ++ [e] ++ ds.drop (i + 1))) (x04.trans (x5.trans (Exx.ex e511))) ((hp5.ex e511).mono (by omega)) (Th.tupI s11 (Paired.app (Paired.app (Paired.takeN i hd11) (.cons (hv.ex e511) .nil)) (paired_drop (i + 1) hd11))) (bent_at q2 hdx be (.inl rfl))
      · have way5 : 5 ≤ way := Int.not_lt.mp fun z => hw (decide_eq_true z)
        have small : xs.length ≤ 700000 := by omega
        obtain ⟨in1, in2, in3⟩ := cuts_in ds i
        obtain ⟨wt1, wt2, wt3⟩ := cuts_wt ds i
        -- the first
        refine ⟨.ref a, rfl, .int (i : Nat), rfl, (i : Nat), rfl, ?_⟩
        refine sl_own (K := K) (lo := none) (hi := some (i : Nat)) ha4 fun H5 z5 e5 s5 => ?_
        rw [cut_take] at s5
        refine ⟨.ref a, rfl, .int (i : Nat), rfl, (i : Nat), 1, rfl, rfl, ((i + 1 : Nat) : Int), by rw [Int.natCast_add]; rfl, ?_⟩
        refine nopart1 ?_
        refine sl_own (K := K) (lo := some ((i + 1 : Nat) : Int)) (hi := none) (e5 _ _ ha4) fun H6 z6 e6 s6 => ?_
        rw [cut_far] at s6
        refine cat_own (K := K) (e6 _ _ s5) s6 (Nat.le_trans (by simp only [List.length_take, List.length_drop]; omega : (xs.take i).length + (xs.drop (i + 1)).length ≤ 2000000) (by decide)) fun H7 y1 e7 s7 => ?_
        have e47 := e5.trans (e6.trans e7)
        -- the second
        refine ⟨.ref a, rfl, .int (i : Nat), rfl, (i : Nat), 1, rfl, rfl, ((i + 1 : Nat) : Int), by rw [Int.natCast_add]; rfl, ?_⟩
        refine sl_own (K := K) (lo := none) (hi := some ((i + 1 : Nat) : Int)) (e47 _ _ ha4) fun H8 z8 e8 s8 => ?_
        rw [cut_take] at s8
        refine ⟨.ref a, rfl, .int (i : Nat), rfl, (i : Nat), rfl, ?_⟩
        refine nopart1 ?_
        refine sl_own (K := K) (lo := some (i : Nat)) (hi := none) ((e47.trans e8) _ _ ha4) fun H9 z9 e9 s9 => ?_
        rw [cut_far] at s9
        refine cat_own (K := K) (e9 _ _ s8) s9 (Nat.le_trans (by simp only [List.length_take, List.length_drop]; omega : (xs.take (i + 1)).length + (xs.drop i).length ≤ 2000000) (by decide)) fun H10 y2 e10 s10 => ?_
        have e410 := e47.trans (e8.trans (e9.trans e10))
        refine ⟨(by show 2 ≤ sizeLine; decide), fun l nl => ?_⟩
        have e11 := Evl.Ex.new (o := .lst [.ref y1, .ref y2]) nl
        have g11 : (upd H10 l (.lst [.ref y1, .ref y2])) l = some (.lst [.ref y1, .ref y2]) := upd_same
        generalize upd H10 l (.lst [.ref y1, .ref y2]) = H11 at e11 g11
        have e411 := e410.trans e11
        -- the third
        refine ⟨.ref l, rfl, .inl ⟨rfl, _, SqL.of g11⟩, ?_⟩
        refine ⟨.ref a, rfl, .int (i : Nat), rfl, (i : Nat), rfl, ?_⟩
        refine sl_own (K := K) (lo := none) (hi := some (i : Nat)) (e411 _ _ ha4) fun H12 z12 e12 s12 => ?_
        rw [cut_take] at s12
        refine ⟨.ref a, rfl, .int (i : Nat), rfl, (i : Nat), rfl, .int (i : Nat), rfl, (i : Nat), 2, rfl, rfl, ((i : Nat) : Int) + 2, rfl, ?_⟩
        refine sl_own (K := K) (lo := some (i : Nat)) (hi := some (((i : Nat) : Int) + 2)) ((e411.trans e12) _ _ ha4) fun H13 z13 e13 s13 => ?_
        rw [cut_mid xs (by omega)] at s13
        refine ⟨z13, _, rfl, .inl (.inl s13), fun z14 n14 => ?_⟩
        have e14 := Evl.Ex.new (o := .tup ((xs.drop i).take 2).reverse) n14
        have s14 : (upd H13 z14 (.tup ((xs.drop i).take 2).reverse)) z14 = some (.tup ((xs.drop i).take 2).reverse) := upd_same
        generalize upd H13 z14 (.tup ((xs.drop i).take 2).reverse) = H14 at e14 s14
        refine cat_own (K := K) ((e13.trans e14) _ _ s12) s14 (Nat.le_trans (by simp only [List.length_take, List.length_drop, List.length_reverse]; omega : (xs.take i).length + ((xs.drop i).take 2).reverse.length ≤ 2000000) (by decide)) fun H15 z15 e15 s15 => ?_
        have e415 := e411.trans (e12.trans (e13.trans (e14.trans e15)))
        refine ⟨.ref a, rfl, .int (i : Nat), rfl, (i : Nat), 2, rfl, rfl, ((i + 2 : Nat) : Int), by rw [Int.natCast_add]; rfl, ?_⟩
        refine nopart1 ?_
        refine sl_own (K := K) (lo := some ((i + 2 : Nat) : Int)) (hi := none) (e415 _ _ ha4) fun H16 z16 e16 s16 => ?_
        rw [cut_far] at s16
        refine cat_own (K := K) (e16 _ _ s15) s16 (Nat.le_trans (by simp only [List.length_append, List.length_take, List.length_drop, List.length_reverse]; omega : (xs.take i ++ ((xs.drop i).take 2).reverse).length + (xs.drop (i + 2)).length ≤ 3000000) (by decide)) fun H17 y3 e17 s17 => ?_
        have e1117 := e12.trans (e13.trans (e14.trans (e15.trans (e16.trans e17))))
        have nl4 : H4 l = none := Evl.fresh_back e410 nl
        have hl17 := e1117 _ _ g11
        refine ⟨l, [.ref y1, .ref y2], _, rfl, rfl, hl17, (by show 2 < sizeLine; decide), ?_⟩
        have e4l : Evl.Ex H4 (upd H17 l (.lst ([.ref y1, .ref y2] ++ [.ref y3]))) := (e411.trans e1117).mut nl4
        have keepT : ∀ {b : Addr} {zs : List V}, H17 b = some (.tup zs) → (upd H17 l (.lst ([.ref y1, .ref y2] ++ [.ref y3]))) b = some (.tup zs) := fun {b zs} hz => by
          rw [upd_ne (fun z => by rw [z, hl17] at hz; cases hz)]
          exact hz
        have t1 := keepT ((e8.trans (e9.trans (e10.trans (e11.trans e1117)))) _ _ s7)
        have t2 := keepT ((e11.trans e1117) _ _ s10)
        have t3 := keepT s17
        have ta := keepT ((e411.trans e1117) _ _ ha4)
        have gl : (upd H17 l (.lst ([.ref y1, .ref y2] ++ [.ref y3]))) l = some (.lst ([.ref y1, .ref y2] ++ [.ref y3])) := upd_same
        generalize upd H17 l (.lst ([.ref y1, .ref y2] ++ [.ref y3])) = H18 at e4l t1 t2 t3 ta gl
        refine ⟨.ref l, rfl, ?_⟩
        refine ⟨.ref a, rfl, .ref a, .ty "tuple", .type "tuple", .type "tuple", true, rfl, .ty _, tyx_tup (.inl (.inl ta)), kit_ty (by decide +kernel), true, rfl, ?_⟩
        refine iteT ?_
        refine ⟨.ref a, rfl, a, xs, rfl, .inr (.inl (.inl ta)), fun y4 n4 => ?_⟩
        have e19 := Evl.Ex.new (o := .lst xs) n4
        have g19 : (upd H18 y4 (.lst xs)) y4 = some (.lst xs) := upd_same
        generalize upd H18 y4 (.lst xs) = H19 at e19 g19
        refine ⟨(by show 1 ≤ sizeLine; decide), fun l2 nl2 => ?_⟩
        have e20 := Evl.Ex.new (o := .lst [.ref y4]) nl2
        have g20 : (upd H19 l2 (.lst [.ref y4])) l2 = some (.lst [.ref y4]) := upd_same
        generalize upd H19 l2 (.lst [.ref y4]) = H20 at e20 g20
        refine ⟨l, l2, _, _, rfl, rfl, e20 _ _ (e19 _ _ gl), g20, (by show 4 ≤ sizeLine; decide), fun l3 nl3 => ?_⟩
        have e21 := Evl.Ex.new (o := .lst (([.ref y1, .ref y2] ++ [.ref y3]) ++ [.ref y4])) nl3
        have g21 : (upd H20 l3 (.lst (([.ref y1, .ref y2] ++ [.ref y3]) ++ [.ref y4]))) l3 = some (.lst (([.ref y1, .ref y2] ++ [.ref y3]) ++ [.ref y4])) := upd_same
        generalize upd H20 l3 (.lst (([.ref y1, .ref y2] ++ [.ref y3]) ++ [.ref y4])) = H21 at e21 g21
        have e1821 := e19.trans (e20.trans e21)
        have hp21 := hp4.ex (e4l.trans e1821)
        have x21 : Exx p H H21 := x04.trans (Exx.ex (e4l.trans e1821))
        have hd21 : Paired (Th K H21) xs ds := Paired.imp (fun _ _ h => h.ex (e4l.trans e1821)) hd4
        have k1 : Th K H21 (.ref y1) (.tuple (ds.take i ++ ds.drop (i + 1))) := Th.tupI (e1821 _ _ t1) (Paired.app (Paired.takeN i hd21) (paired_drop (i + 1) hd21))
        have k2 : Th K H21 (.ref y2) (.tuple (ds.take (i + 1) ++ ds.drop i)) := Th.tupI (e1821 _ _ t2) (Paired.app (Paired.takeN (i + 1) hd21) (paired_drop i hd21))
        have k3 : Th K H21 (.ref y3) (.tuple (ds.take i ++ ((ds.drop i).take 2).reverse ++ ds.drop (i + 2))) := Th.tupI (e1821 _ _ t3) (Paired.app (Paired.app (Paired.takeN i hd21) (paired_rev (Paired.takeN 2 (paired_drop i hd21)))) (paired_drop (i + 2) hd21))
        have k4 : Th K H21 (.ref y4) (.list ds) := .lst (e21 _ _ (e20 _ _ g19)) (thAll hd21)
        have fin : ∀ v e, Th K H21 v e → Bent (.tuple ds) e → Q v H21 := fun v e hv be => q H21 v e x21 (hp21.mono (by omega)) hv be
        obtain rfl | rfl | rfl | rfl : way = 5 ∨ way = 6 ∨ way = 7 ∨ way = 8 := by omega
        · exact ⟨.int 5, rfl, 5, 5, rfl, rfl, l3, _, 5 - 5, .ref y1, rfl, rfl, SqL.of g21, rfl, fin _ _ k1 (bent_parts q2 (.inl rfl) in1 wt1)⟩
        · exact ⟨.int 6, rfl, 6, 5, rfl, rfl, l3, _, 6 - 5, .ref y2, rfl, rfl, SqL.of g21, rfl, fin _ _ k2 (bent_parts q2 (.inl rfl) in2 wt2)⟩
        · exact ⟨.int 7, rfl, 7, 5, rfl, rfl, l3, _, 7 - 5, .ref y3, rfl, rfl, SqL.of g21, rfl, fin _ _ k3 (bent_parts q2 (.inl rfl) in3 wt3)⟩
        · exact ⟨.int 8, rfl, 8, 5, rfl, rfl, l3, _, 8 - 5, .ref y4, rfl, rfl, SqL.of g21, rfl, fin _ _ k4 (bent_parts q2 (.inr rfl) (fun x hx => hx) (by omega))⟩
    · rintro σ' H1 ⟨rfl, x1, hp1⟩
      have ha1 := x1 _ _ nap ha
      have hd1 : Paired (Th K H1) xs ds := Paired.imp (fun _ _ h => h.keep (hp.tk x1)) hds
      have ty1 : TyX K H1 (.ref a) (.type (tyS (.tuple ds))) := (Th.tupI ha1 hd1).ty
      refine ⟨fun σ' H' => σ' = [some (.ref p), some (.ref a), none, none, none, none] ∧ Exx p H H' ∧ PenAt H' p c (T + 2), ?_, ?_⟩
      · refine ⟨.ref a, rfl, .ref a, .ty "int", .type (tyS (.tuple ds)), .type "int", isInt (.tuple ds), rfl, .ty _, ty1, kit_ty (kit_int (.tuple ds)), isInt (.tuple ds), rfl, ?_⟩
        refine iteF (iteF ?_)
        exact ⟨rfl, x1, hp1.mono (by omega)⟩
      · rintro σ' H2 ⟨rfl, x2, hp2⟩
        have ha2 := x2 _ _ nap ha
        have hd2 : Paired (Th K H2) xs ds := Paired.imp (fun _ _ h => h.keep (hp.tk x2)) hds
        refine ⟨.ref a, rfl, .ref a, .ty "str", .type (tyS (.tuple ds)), .type "str", isStr (.tuple ds), rfl, .ty _, (Th.tupI ha2 hd2).ty, kit_ty (kit_str (.tuple ds)), isStr (.tuple ds), rfl, ?_⟩
        refine iteF (iteF ?_)
        exact ⟨.ref p, rfl, p, c, _, rfl, hp2, by omega, fun H3 v d x3 hp3 ho hm => q H3 v d (x2.trans x3) (hp3.mono (by omega)) ho (bent_odd hm)⟩
end
end Wb

set_option Elab.async false
set_option linter.all false
set_option maxRecDepth 100000
set_option maxHeartbeats 4000000
set_option pp.maxSteps 600
set_option pp.deepTerms false
namespace Wb
open PySem PySem.Spec PyProof.Rows L2
/-- of a list with things in it -/
def spBentL (K : PySem.W.Frag) (n : Nat) : Sp := fun vs H Q _ => ∃ (p c a : Addr) (xs : List V) (ds : List PyData) (T : Int), vs = [.ref p, .ref a] ∧ PenAt H p c T ∧ T + 100 * ((n + 1 : Nat) : Int) ≤ 9000000 ∧ H a = some (.lst xs) ∧ Paired (Th K H) xs ds ∧ 1 ≤ ds.length ∧ PyData.depthAll ds ≤ n ∧ goodAll 1000 ds = true ∧ wtAll ds + 5 ≤ 4000000 ∧
  ∀ H' u e, Exx p H H' → PenAt H' p c (T + 10 * ((n + 1 : Nat) : Int) + 20) → Th K H' u e → Bent (.list ds) e → Q u H'
section
variable {K : PySem.W.Frag} {H : Hp} {Q : VK} {a b : Addr} {xs ys : List V}
theorem sl_lst {lo hi : Option Int} (ha : H a = some (.lst xs)) (q : ∀ H' z, H z = none → Evl.Ex H H' → H' z = some (.lst (cutV xs lo hi)) → Q (.ref z) H') : rSlL K (.ref a) lo hi H Q :=
  ⟨a, xs, rfl, SqL.of ha, fun t nt => q _ t nt (Evl.Ex.new nt) upd_same⟩
theorem cat_lst (ha : H a = some (.lst xs)) (hb : H b = some (.lst ys)) (hz : xs.length + ys.length ≤ sizeLine) (q : ∀ H' z, H z = none → Evl.Ex H H' → H' z = some (.lst (xs ++ ys)) → Q (.ref z) H') : rCat (.ref a) (.ref b) H Q :=
  ⟨a, b, xs, ys, rfl, rfl, ha, hb, hz, fun t nt => q _ t nt (Evl.Ex.new nt) upd_same⟩
end
section
variable {P : Program} {w : World} {K : PySem.W.Frag} {mg : Str → Option Value} {base : Heap}
theorem ok_bentL {f f1 f2 f3 : Addr} {fd fd1 fd2 fd3 : FuncData} {ks m n : Nat} (F : Fun K "_law_bent" "_law_bent" sBent f fd) (bb : Binds K fd ["_law_pen_here", "_law_thing"] []) (gb : mg "_law_bent" = some (.ref f))
    (F1 : Fun K "_law_draw" "_law_draw" sDraw f1 fd1) (b1 : Binds K fd1 ["_law_pen_here", "_law_many"] []) (g1 : mg "_law_draw" = some (.ref f1))
    (F2 : Fun K "_law_pick" "_law_pick" sPick f2 fd2) (b2 : Binds K fd2 ["_law_pen_here", "_law_some"] []) (g2 : mg "_law_pick" = some (.ref f2))
    (F3 : Fun K "_law_odd" "_law_odd" sOdd f3 fd3) (b3 : Binds K fd3 ["_law_pen_here"] []) (g3 : mg "_law_odd" = some (.ref f3))
    (str_ : mg "str" = none) (B : Bi mg) (GI : FnOk P w K mg base CX0 ks f fd ["_law_pen_here", "_law_thing"] (spBent K n)) (hks : ks ≤ m) (h3 : 3 ≤ m) :
    FnOk P w K mg base CX0 (m + 1) f fd ["_law_pen_here", "_law_thing"] (spBentL K n) := by
  have G1 : FnOk P w K mg base CX0 1 f1 fd1 ["_law_pen_here", "_law_many"] spDraw := ok_draw F1 B
  have G2 : FnOk P w K mg base CX0 2 f2 fd2 ["_law_pen_here", "_law_some"] (spPick K) := ok_pick F2 F1 b1 g1 B
  have G3 : FnOk P w K mg base CX0 3 f3 fd3 ["_law_pen_here"] (spOdd K) := ok_odd F3 F1 b1 g1 F2 b2 g2 B
  refine F.ok scBent (fun vs H Q E h => ?_) (fun cdv A outer s H vs Q E hr h => ?_)
  · obtain ⟨p, c, a, xs, ds, T, rfl, _⟩ := h; rfl
  · obtain ⟨p, c, a, xs, ds, T, rfl, hp, T9, ha, hds, n1, dn, gd, wd, q⟩ := h
    have hr1 : Room 1 _ := hr.mono (by omega)
    have hr2 : Room 2 _ := hr.mono (by omega)
    have hr3 : Room 3 _ := hr.mono h3
    have hrI : Room ks _ := hr.mono hks
    refine ⟨_, Evl.pss_cut (ps_if (PW.pt (pw_and (pt_val (pe_callB call_isiT (by rfl) B.isi boot_isinstance (pa_cons (pv 1) (pa_cons (pe_tup (pa_cons (pe_bltn (v := .ty "tuple") (by rfl) B.tuple (by decide +kernel) rfl) (pa_cons (pe_bltn (v := .ty "list") (by rfl) B.list (by decide +kernel) rfl) pa_nil))) pa_nil))))
          (pw_and (pt_cmpR op_gt (pe_callB call_len_seq (by rfl) B.len PySem.boot_len (pa_cons (pv 1) pa_nil)) pe_int (nomark _))
            (pw_and1 (pt_cmpR op_gt (pe_call G1 hr1 (by rfl) g1 F1.kp b1 .nil pass0 (pa_cons (pv 0) (pa_cons pe_int pa_nil))) pe_int (nomark _))))))
        (pss_cons (ps_par (by rfl) scBent.nd (i := 2) (j := 3) rfl rfl (by decide) rfl rfl (pa_cons (pe_call G1 hr1 (by rfl) g1 F1.kp b1 .nil pass0 (pa_cons (pv 0) (pa_cons (pe_callB call_len_seq (by rfl) B.len PySem.boot_len (pa_cons (pv 1) pa_nil)) pa_nil)))
            (pa_cons (pe_call G1 hr1 (by rfl) g1 F1.kp b1 .nil pass0 (pa_cons (pv 0) (pa_cons pe_int pa_nil))) pa_nil)) (by rfl))
        (pss_cons (ps_if (pt_cmpR op_lt (pv 3) pe_int (nomark _))
            (pss_cons (ps_set (i := 4) scBent.nd rfl (.inl rfl) (pe_lst (pa_cons (pe_call GI hrI (by rfl) gb F.kp bb .nil pass0 (pa_cons (pv 0) (pa_cons (pe_ix ix_list (pv 1) (pv 2) (fun _ _ => rfl)) pa_nil))) pa_nil)))
            (pss_cons (ps_set (i := 4) scBent.nd rfl (.inl rfl) (pe_ifExp (pt_val (pe_callB call_isi (by rfl) B.isi boot_isinstance (pa_cons (pv 1) (pa_cons (pe_bltn (v := .ty "list") (by rfl) B.list (by decide +kernel) rfl) pa_nil)))) (pv 4) (pe_callTy (r := rTupK K) call_tupK (by rfl) B.tuple PyProof.Rows.boot_tuple (pa_cons (pv 4) pa_nil))))
            (pss_one (ps_ret (pe_op op_cat (pe_op op_cat (pe_slice (r := rSlL K) sl_list (pv 1) po_none (po_some (pv 2))) (pv 4)) (pe_slice (r := rSlL K) sl_list (pv 1) (po_some (pe_op op_add (pv 2) pe_int)) po_none)))))) pss_nil)
        (pss_cons (ps_set (i := 5) scBent.nd rfl (.inl rfl) (pe_lst (pa_cons (pe_op op_cat (pe_slice (r := rSlL K) sl_list (pv 1) po_none (po_some (pv 2))) (pe_slice (r := rSlL K) sl_list (pv 1) (po_some (pe_op op_add (pv 2) pe_int)) po_none))
            (pa_cons (pe_op op_cat (pe_slice (r := rSlL K) sl_list (pv 1) po_none (po_some (pe_op op_add (pv 2) pe_int))) (pe_slice (r := rSlL K) sl_list (pv 1) (po_some (pv 2)) po_none)) pa_nil))))
        (pss_cons (ps_expr (pe_bm PySem.F.plainAttrs_list PySem.F.slot_list_append PySem.F.type_list_append mt_append (pv 5) (pa_cons (pe_op op_cat (pe_op op_cat (pe_slice (r := rSlL K) sl_list (pv 1) po_none (po_some (pv 2)))
            (pe_revL (pe_slice (r := rSlL K) sl_list (pv 1) (po_some (pv 2)) (po_some (pe_op op_add (pv 2) pe_int))))) (pe_slice (r := rSlL K) sl_list (pv 1) (po_some (pe_op op_add (pv 2) pe_int)) po_none)) pa_nil)))
        (pss_one (ps_ret (pe_ix ix_list (pe_op op_cat (pv 5) (pe_lst (pa_cons (pe_ifExp (pt_val (pe_callB call_isi (by rfl) B.isi boot_isinstance (pa_cons (pv 1) (pa_cons (pe_bltn (v := .ty "tuple") (by rfl) B.tuple (by decide +kernel) rfl) pa_nil))))
            (pe_callTy call_list_of (by rfl) B.list PyProof.Rows.boot_list (pa_cons (pv 1) pa_nil)) (pe_callTy (r := rTupK K) call_tupK (by rfl) B.tuple PyProof.Rows.boot_tuple (pa_cons (pv 1) pa_nil))) pa_nil))) (pe_op op_sub (pv 3) pe_int) (fun _ _ => rfl)))))))) pss_nil)
      (Evl.pss_cut (ps_if (PW.pt (pw_and (pt_val (pe_callB call_isi (by rfl) B.isi boot_isinstance (pa_cons (pv 1) (pa_cons (pe_bltn (v := .ty "int") (by rfl) B.int (by decide +kernel) rfl) pa_nil)))) (pw_and1 (pt_cmpR op_gt (pe_call G1 hr1 (by rfl) g1 F1.kp b1 .nil pass0 (pa_cons (pv 0) (pa_cons pe_int pa_nil))) pe_int (nomark _)))))
        (pss_cons (ps_set (i := 5) scBent.nd rfl (.inl rfl) (pe_lst (pa_cons (pe_op op_add (pv 1) pe_int) (pa_cons (pe_op op_sub (pv 1) pe_int) (pa_cons (pe_op op_sub pe_int (pv 1)) (pa_cons (pe_cmpR op_eq (pv 1) pe_int (nomark _)) (pa_cons (pe_callTy call_strO (by rfl) str_ PyProof.Rows.boot_str (pa_cons (pv 1) pa_nil))
            (pa_cons (pe_op op_mul (pv 1) (pe_op op_pow pe_int pe_int)) (pa_cons pe_non (pa_cons (pe_tup (pa_cons (pv 1) pa_nil)) pa_nil))))))))))
        (pss_one (ps_ret (pe_call G2 hr2 (by rfl) g2 F2.kp b2 .nil pass0 (pa_cons (pv 0) (pa_cons (pv 5) pa_nil)))))) pss_nil)
      (pss_cons (ps_if (PW.pt (pw_and (pt_val (pe_callB call_isi (by rfl) B.isi boot_isinstance (pa_cons (pv 1) (pa_cons (pe_bltn (v := .ty "str") (by rfl) str_ (by decide +kernel) rfl) pa_nil)))) (pw_and1 (pt_cmpR op_gt (pe_call G1 hr1 (by rfl) g1 F1.kp b1 .nil pass0 (pa_cons (pv 0) (pa_cons pe_int pa_nil))) pe_int (nomark _)))))
        pss_never pss_nil)
      (pss_one (ps_ret (pe_call G3 hr3 (by rfl) g3 F3.kp b3 .nil pass0 (pa_cons (pv 0) pa_nil)))))), ?_⟩
    have xl : xs.length = ds.length := Paired.len hds
    have len6 := wtAll_len ds
    have nap : a ≠ p := fun z => by
      obtain ⟨cells, t, d, hpp, _⟩ := hp
      rw [z, hpp] at ha
      cases ha
    have q2 : Seq2 (.list ds) ds := .inr rfl
    refine ⟨fun σ' H' => σ' = [some (.ref p), some (.ref a), none, none, none, none] ∧ Exx p H H' ∧ PenAt H' p c (T + 1), ?_, ?_⟩
    · refine ⟨.ref a, rfl, (by show 2 ≤ sizeLine; decide), fun tp ntp => ?_⟩
      have e1 := Evl.Ex.new (o := .tup [.ty "tuple", .ty "list"]) ntp
      refine ⟨.ref a, tp, _, .type (tyS (.list ds)), _, (isTup (.list ds) || isLst (.list ds)), rfl, upd_same, .cons (.ty _) (.cons (.ty _) .nil), (Th.lst (e1 _ _ ha) (thAll (Paired.imp (fun _ _ h => h.ex e1) hds))).ty, kit_seq (.list ds), _, rfl, ?_⟩
      refine iteT ?_
      have hp1 := hp.ex e1
      have ha1 := e1 _ _ ha
      have hd1 : Paired (Th K (upd H tp (.tup [.ty "tuple", .ty "list"]))) xs ds := Paired.imp (fun _ _ h => h.ex e1) hds
      generalize upd H tp (.tup [.ty "tuple", .ty "list"]) = H1 at e1 hp1 ha1 hd1
      refine ⟨.ref a, rfl, a, xs, rfl, .inl (SqL.of ha1), (xs.length : Nat), 0, rfl, rfl, _, rfl, ?_⟩
      refine ite2 (fun _ => ?_) (fun z => absurd (decide_eq_true (by omega)) z)
      refine ⟨.ref p, rfl, p, c, 8, _, rfl, hp1, by decide, by decide, by omega, fun r H2 r0 r8 x2 hp2 => ⟨r, 0, rfl, rfl, _, rfl, ?_⟩⟩
      refine ite2 (fun _ => ?_) (fun _ => ⟨rfl, (Exx.ex e1).trans x2, hp2.mono (by omega)⟩)
      have ha2 := x2 _ _ nap ha1
      refine ⟨.ref p, rfl, .ref a, rfl, a, xs, rfl, .inl (SqL.of ha2), p, c, (xs.length : Nat), _, rfl, hp2, by omega, by omega, by omega, fun at' H3 at0 at1 x3 hp3 => ?_⟩
      obtain ⟨i, rfl⟩ : ∃ n : Nat, at' = (n : Int) := ⟨at'.toNat, by omega⟩
      refine ⟨.ref p, rfl, p, c, 9, _, rfl, hp3, by decide, by decide, by omega, fun way H4 w0 w9 x4 hp4 => ?_⟩
      refine ⟨.int (i : Nat), .int way, rfl, ?_⟩
      have ha4 := x4 _ _ nap (x3 _ _ nap ha2)
      have x14 : Exx p H1 H4 := x2.trans (x3.trans x4)
      have x04 : Exx p H H4 := (Exx.ex e1).trans x14
      have hd4 : Paired (Th K H4) xs ds := Paired.imp (fun _ _ h => h.keep (hp1.tk x14)) hd1
      have il : i < xs.length := by omega
      refine ⟨.int way, rfl, way, 5, rfl, rfl, _, rfl, ?_⟩
      refine ite2 (fun _ => ?_) (fun hw => ?_)
      · -- a thing of it bent
        obtain ⟨dx, hdx⟩ : ∃ dx, ds[i]? = some dx := ⟨ds[i], List.getElem?_eq_getElem (by omega)⟩
        obtain ⟨x, hx, hth⟩ := Paired.get2 hd4 hdx
        have hdm := List.mem_of_getElem? hdx
        have w1 := wtAll_mem hdm
        refine ⟨.ref p, rfl, .ref a, rfl, .int (i : Nat), rfl, a, xs, (i : Nat), x, rfl, rfl, SqL.of ha4, atI_nat hx, ?_⟩
        refine ⟨p, c, x, dx, _, rfl, hp4, by omega, hth, Nat.le_trans (depth_mem hdm) dn, goodAll_mem.mp gd dx hdm, by omega, fun H5 v e x5 hp5 hv be => ?_⟩
        have ha5 := x5 _ _ nap ha4
        have hd5 : Paired (Th K H5) xs ds := Paired.imp (fun _ _ h => h.keep (hp4.tk x5)) hd4
        refine ⟨(by show 1 ≤ sizeLine; decide), fun l nl => ?_⟩
        have e6 := Evl.Ex.new (o := .lst [v]) nl
        have g6 : (upd H5 l (.lst [v])) l = some (.lst [v]) := upd_same
        generalize upd H5 l (.lst [v]) = H6 at e6 g6
        have ha6 := e6 _ _ ha5
        refine ⟨.ref a, rfl, .ref a, .ty "list", .type "list", .type "list", true, rfl, .ty _, tyx_lst (SqL.of ha6), kit_ty (by decide +kernel), true, rfl, ?_⟩
        refine iteT ?_
        refine ⟨.ref l, rfl, ?_⟩
        refine ⟨.ref a, rfl, .int (i : Nat), rfl, (i : Nat), rfl, ?_⟩
        refine sl_lst (K := K) (lo := none) (hi := some (i : Nat)) ha6 fun H8 z8 nz8 e8 s8 => ?_
        rw [cut_take] at s8
        refine ⟨.ref l, rfl, ?_⟩
        refine cat_lst s8 (e8 _ _ g6) (Nat.le_trans (by rw [List.length_take, List.length_singleton]; omega : (xs.take i).length + [v].length ≤ 1000000) (by decide)) fun H9 z9 nz9 e9 s9 => ?_
        refine ⟨.ref a, rfl, .int (i : Nat), rfl, (i : Nat), 1, rfl, rfl, ((i + 1 : Nat) : Int), by rw [Int.natCast_add]; rfl, ?_⟩
        refine nopart1 ?_
        refine sl_lst (K := K) (lo := some ((i + 1 : Nat) : Int)) (hi := none) ((e8.trans e9) _ _ ha6) fun H10 z10 nz10 e10 s10 => ?_
        rw [cut_far] at s10
        refine cat_lst (e10 _ _ s9) s10 (Nat.le_trans (by simp only [List.length_append, List.length_take, List.length_singleton, List.length_drop]; omega : (xs.take i ++ [v]).length + (xs.drop (i + 1)).length ≤ 2000000) (by decide)) fun H11 z11 nz11 e11 s11 => ?_
        have e511 : Evl.Ex H5 H11 := e6.trans (e8.trans (e9.trans (e10.trans e11)))
        have hd11 : Paired (Th K H11) xs ds := Paired.imp (fun _ _ h => h.ex e511) hd5
        exact q H11 (.ref z11) (.list (ds.take i ++ [e] ++ ds.drop (i + 1))) (x04.trans (x5.trans (Exx.ex e511))) ((hp5.ex e511).mono (by omega)) (Th.lst s11 (thAll (Paired.app (Paired.app (Paired.takeN i hd11) (.cons (hv.ex e511) .nil)) (paired_drop (i + 1) hd11)))) (bent_at q2 hdx be (.inr rfl))
      · have way5 : 5 ≤ way := Int.not_lt.mp fun z => hw (decide_eq_true z)
        have small : xs.length ≤ 700000 := by omega
        obtain ⟨in1, in2, in3⟩ := cuts_in ds i
        obtain ⟨wt1, wt2, wt3⟩ := cuts_wt ds i
        -- the first
        refine ⟨.ref a, rfl, .int (i : Nat), rfl, (i : Nat), rfl, ?_⟩
        refine sl_lst (K := K) (lo := none) (hi := some (i : Nat)) ha4 fun H5 z5 nz5 e5 s5 => ?_
        rw [cut_take] at s5
        refine ⟨.ref a, rfl, .int (i : Nat), rfl, (i : Nat), 1, rfl, rfl, ((i + 1 : Nat) : Int), by rw [Int.natCast_add]; rfl, ?_⟩
        refine nopart1 ?_
        refine sl_lst (K := K) (lo := some ((i + 1 : Nat) : Int)) (hi := none) (e5 _ _ ha4) fun H6 z6 nz6 e6 s6 => ?_
        rw [cut_far] at s6
        refine cat_lst (e6 _ _ s5) s6 (Nat.le_trans (by simp only [List.length_take, List.length_drop]; omega : (xs.take i).length + (xs.drop (i + 1)).length ≤ 2000000) (by decide)) fun H7 y1 ny1 e7 s7 => ?_
        have e47 := e5.trans (e6.trans e7)
        -- the second
        refine ⟨.ref a, rfl, .int (i : Nat), rfl, (i : Nat), 1, rfl, rfl, ((i + 1 : Nat) : Int), by rw [Int.natCast_add]; rfl, ?_⟩
        refine sl_lst (K := K) (lo := none) (hi := some ((i + 1 : Nat) : Int)) (e47 _ _ ha4) fun H8 z8 nz8 e8 s8 => ?_
        rw [cut_take] at s8
        refine ⟨.ref a, rfl, .int (i : Nat), rfl, (i : Nat), rfl, ?_⟩
        refine nopart1 ?_
        refine sl_lst (K := K) (lo := some (i : Nat)) (hi := none) ((e47.trans e8) _ _ ha4) fun H9 z9 nz9 e9 s9 => ?_
        rw [cut_far] at s9
        refine cat_lst (e9 _ _ s8) s9 (Nat.le_trans (by simp only [List.length_take, List.length_drop]; omega : (xs.take (i + 1)).length + (xs.drop i).length ≤ 2000000) (by decide)) fun H10 y2 ny2 e10 s10 => ?_
        have e410 := e47.trans (e8.trans (e9.trans e10))
        refine ⟨(by show 2 ≤ sizeLine; decide), fun l nl => ?_⟩
        have e11 := Evl.Ex.new (o := .lst [.ref y1, .ref y2]) nl
        have g11 : (upd H10 l (.lst [.ref y1, .ref y2])) l = some (.lst [.ref y1, .ref y2]) := upd_same
        generalize upd H10 l (.lst [.ref y1, .ref y2]) = H11 at e11 g11
        have e411 := e410.trans e11
        -- the third
        refine ⟨.ref l, rfl, .inl ⟨rfl, _, SqL.of g11⟩, ?_⟩
        refine ⟨.ref a, rfl, .int (i : Nat), rfl, (i : Nat), rfl, ?_⟩
        refine sl_lst (K := K) (lo := none) (hi := some (i : Nat)) (e411 _ _ ha4) fun H12 z12 nz12 e12 s12 => ?_
        rw [cut_take] at s12
        refine ⟨.ref a, rfl, .int (i : Nat), rfl, (i : Nat), rfl, .int (i : Nat), rfl, (i : Nat), 2, rfl, rfl, ((i : Nat) : Int) + 2, rfl, ?_⟩
        refine sl_lst (K := K) (lo := some (i : Nat)) (hi := some (((i : Nat) : Int) + 2)) ((e411.trans e12) _ _ ha4) fun H13 z13 nz13 e13 s13 => ?_
        rw [cut_mid xs (by omega)] at s13
        refine ⟨z13, _, rfl, SqL.of s13, fun z14 n14 => ?_⟩
        have e14 := Evl.Ex.new (o := .lst ((xs.drop i).take 2).reverse) n14
        have s14 : (upd H13 z14 (.lst ((xs.drop i).take 2).reverse)) z14 = some (.lst ((xs.drop i).take 2).reverse) := upd_same
        generalize upd H13 z14 (.lst ((xs.drop i).take 2).reverse) = H14 at e14 s14
        refine cat_lst ((e13.trans e14) _ _ s12) s14 (Nat.le_trans (by simp only [List.length_take, List.length_drop, List.length_reverse]; omega : (xs.take i).length + ((xs.drop i).take 2).reverse.length ≤ 2000000) (by decide)) fun H15 z15 nz15 e15 s15 => ?_
        have e415 := e411.trans (e12.trans (e13.trans (e14.trans e15)))
        refine ⟨.ref a, rfl, .int (i : Nat), rfl, (i : Nat), 2, rfl, rfl, ((i + 2 : Nat) : Int), by rw [Int.natCast_add]; rfl, ?_⟩
        refine nopart1 ?_
        refine sl_lst (K := K) (lo := some ((i + 2 : Nat) : Int)) (hi := none) (e415 _ _ ha4) fun H16 z16 nz16 e16 s16 => ?_
        rw [cut_far] at s16
        refine cat_lst (e16 _ _ s15) s16 (Nat.le_trans (by simp only [List.length_append, List.length_take, List.length_drop, List.length_reverse]; omega : (xs.take i ++ ((xs.drop i).take 2).reverse).length + (xs.drop (i + 2)).length ≤ 3000000) (by decide)) fun H17 y3 ny3 e17 s17 => ?_
        have e1117 := e12.trans (e13.trans (e14.trans (e15.trans (e16.trans e17))))
        have nl4 : H4 l = none := Evl.fresh_back e410 nl
        have hl17 := e1117 _ _ g11
        refine ⟨l, [.ref y1, .ref y2], _, rfl, rfl, hl17, (by show 2 < sizeLine; decide), ?_⟩
        have e4l : Evl.Ex H4 (upd H17 l (.lst ([.ref y1, .ref y2] ++ [.ref y3]))) := (e411.trans e1117).mut nl4
        have old10 : ∀ {b : Addr} {zs : List V}, H10 b = some (.lst zs) → b ≠ l := fun {b zs} hz z => by
          rw [z, nl] at hz
          cases hz
        have keepT : ∀ {b : Addr} {zs : List V}, b ≠ l → H17 b = some (.lst zs) → (upd H17 l (.lst ([.ref y1, .ref y2] ++ [.ref y3]))) b = some (.lst zs) := fun {b zs} nb hz => by
          rw [upd_ne nb]
          exact hz
        have ny3l : y3 ≠ l := fun z => by
          have z16 := (e12.trans (e13.trans (e14.trans (e15.trans e16)))) _ _ g11
          rw [z, z16] at ny3
          cases ny3
        have t1 := keepT (old10 ((e8.trans (e9.trans e10)) _ _ s7)) ((e8.trans (e9.trans (e10.trans (e11.trans e1117)))) _ _ s7)
        have t2 := keepT (old10 s10) ((e11.trans e1117) _ _ s10)
        have t3 := keepT ny3l s17
        have ta := keepT (old10 (e410 _ _ ha4)) ((e411.trans e1117) _ _ ha4)
        have gl : (upd H17 l (.lst ([.ref y1, .ref y2] ++ [.ref y3]))) l = some (.lst ([.ref y1, .ref y2] ++ [.ref y3])) := upd_same
        generalize upd H17 l (.lst ([.ref y1, .ref y2] ++ [.ref y3])) = H18 at e4l t1 t2 t3 ta gl
        refine ⟨.ref l, rfl, ?_⟩
        refine ⟨.ref a, rfl, .ref a, .ty "tuple", .type "list", .type "tuple", false, rfl, .ty _, tyx_lst (SqL.of ta), kit_ty (by decide +kernel), false, rfl, ?_⟩
        refine iteF ?_
        refine ⟨.ref a, rfl, a, xs, rfl, .inl ⟨SqL.of ta, fun y4 n4 => ?_⟩⟩
        have e19 := Evl.Ex.new (o := .tup xs) n4
        have g19 : (upd H18 y4 (.tup xs)) y4 = some (.tup xs) := upd_same
        generalize upd H18 y4 (.tup xs) = H19 at e19 g19
        refine ⟨(by show 1 ≤ sizeLine; decide), fun l2 nl2 => ?_⟩
        have e20 := Evl.Ex.new (o := .lst [.ref y4]) nl2
        have g20 : (upd H19 l2 (.lst [.ref y4])) l2 = some (.lst [.ref y4]) := upd_same
        generalize upd H19 l2 (.lst [.ref y4]) = H20 at e20 g20
        refine ⟨l, l2, _, _, rfl, rfl, e20 _ _ (e19 _ _ gl), g20, (by show 4 ≤ sizeLine; decide), fun l3 nl3 => ?_⟩
        have e21 := Evl.Ex.new (o := .lst (([.ref y1, .ref y2] ++ [.ref y3]) ++ [.ref y4])) nl3
        have g21 : (upd H20 l3 (.lst (([.ref y1, .ref y2] ++ [.ref y3]) ++ [.ref y4]))) l3 = some (.lst (([.ref y1, .ref y2] ++ [.ref y3]) ++ [.ref y4])) := upd_same
        generalize upd H20 l3 (.lst (([.ref y1, .ref y2] ++ [.ref y3]) ++ [.ref y4])) = H21 at e21 g21
        have e1821 := e19.trans (e20.trans e21)
        have hp21 := hp4.ex (e4l.trans e1821)
        have x21 : Exx p H H21 := x04.trans (Exx.ex (e4l.trans e1821))
        have hd21 : Paired (Th K H21) xs ds := Paired.imp (fun _ _ h => h.ex (e4l.trans e1821)) hd4
        have k1 : Th K H21 (.ref y1) (.list (ds.take i ++ ds.drop (i + 1))) := .lst (e1821 _ _ t1) (thAll (Paired.app (Paired.takeN i hd21) (paired_drop (i + 1) hd21)))
        have k2 : Th K H21 (.ref y2) (.list (ds.take (i + 1) ++ ds.drop i)) := .lst (e1821 _ _ t2) (thAll (Paired.app (Paired.takeN (i + 1) hd21) (paired_drop i hd21)))
        have k3 : Th K H21 (.ref y3) (.list (ds.take i ++ ((ds.drop i).take 2).reverse ++ ds.drop (i + 2))) := .lst (e1821 _ _ t3) (thAll (Paired.app (Paired.app (Paired.takeN i hd21) (paired_rev (Paired.takeN 2 (paired_drop i hd21)))) (paired_drop (i + 2) hd21)))
        have k4 : Th K H21 (.ref y4) (.tuple ds) := Th.tupI (e21 _ _ (e20 _ _ g19)) hd21
        have fin : ∀ v e, Th K H21 v e → Bent (.list ds) e → Q v H21 := fun v e hv be => q H21 v e x21 (hp21.mono (by omega)) hv be
        obtain rfl | rfl | rfl | rfl : way = 5 ∨ way = 6 ∨ way = 7 ∨ way = 8 := by omega
        · exact ⟨.int 5, rfl, 5, 5, rfl, rfl, l3, _, 5 - 5, .ref y1, rfl, rfl, SqL.of g21, rfl, fin _ _ k1 (bent_parts q2 (.inr rfl) in1 wt1)⟩
        · exact ⟨.int 6, rfl, 6, 5, rfl, rfl, l3, _, 6 - 5, .ref y2, rfl, rfl, SqL.of g21, rfl, fin _ _ k2 (bent_parts q2 (.inr rfl) in2 wt2)⟩
        · exact ⟨.int 7, rfl, 7, 5, rfl, rfl, l3, _, 7 - 5, .ref y3, rfl, rfl, SqL.of g21, rfl, fin _ _ k3 (bent_parts q2 (.inr rfl) in3 wt3)⟩
        · exact ⟨.int 8, rfl, 8, 5, rfl, rfl, l3, _, 8 - 5, .ref y4, rfl, rfl, SqL.of g21, rfl, fin _ _ k4 (bent_parts q2 (.inl rfl) (fun x hx => hx) (by omega))⟩
    · rintro σ' H1 ⟨rfl, x1, hp1⟩
      have ha1 := x1 _ _ nap ha
      have hd1 : Paired (Th K H1) xs ds := Paired.imp (fun _ _ h => h.keep (hp.tk x1)) hds
      have ty1 : TyX K H1 (.ref a) (.type (tyS (.list ds))) := (Th.lst ha1 (thAll hd1)).ty
      refine ⟨fun σ' H' => σ' = [some (.ref p), some (.ref a), none, none, none, none] ∧ Exx p H H' ∧ PenAt H' p c (T + 2), ?_, ?_⟩
      · refine ⟨.ref a, rfl, .ref a, .ty "int", .type (tyS (.list ds)), .type "int", isInt (.list ds), rfl, .ty _, ty1, kit_ty (kit_int (.list ds)), isInt (.list ds), rfl, ?_⟩
        refine iteF (iteF ?_)
        exact ⟨rfl, x1, hp1.mono (by omega)⟩
      · rintro σ' H2 ⟨rfl, x2, hp2⟩
        have ha2 := x2 _ _ nap ha
        have hd2 : Paired (Th K H2) xs ds := Paired.imp (fun _ _ h => h.keep (hp.tk x2)) hds
        refine ⟨.ref a, rfl, .ref a, .ty "str", .type (tyS (.list ds)), .type "str", isStr (.list ds), rfl, .ty _, (Th.lst ha2 (thAll hd2)).ty, kit_ty (kit_str (.list ds)), isStr (.list ds), rfl, ?_⟩
        refine iteF (iteF ?_)
        exact ⟨.ref p, rfl, p, c, _, rfl, hp2, by omega, fun H3 v d x3 hp3 ho hm => q H3 v d (x2.trans x3) (hp3.mono (by omega)) ho (bent_odd hm)⟩
end
end Wb

set_option Elab.async false
set_option linter.all false
set_option maxRecDepth 100000
set_option maxHeartbeats 4000000
set_option pp.maxSteps 600
set_option pp.deepTerms false
namespace Wb
open PySem PySem.Spec PyProof.Rows L2
/-- of a thing with nothing in it, no number, no text -/
def spBentO (K : PySem.W.Frag) : Sp := fun vs H Q _ => ∃ (p c : Addr) (v : V) (d : PyData) (T : Int), vs = [.ref p, v] ∧ PenAt H p c T ∧ T ≤ 9000000 ∧ Th K H v d ∧ isInt d = false ∧ isStr d = false ∧ itemsS d = [] ∧
  ∀ H' u e, Exx p H H' → PenAt H' p c (T + 20) → Th K H' u e → Bent d e → Q u H'
theorem th_empty {K : PySem.W.Frag} {H : Hp} {v : V} {d : PyData} (h : Th K H v d) (e : itemsS d = []) (s : (isTup d || isLst d) = true) : ∃ a, v = .ref a ∧ (SqL K H a [] ∨ SqT K H a []) := by
  cases h with
  | @lst a xs ds h t =>
    obtain rfl : ds = [] := e
    cases t
    exact ⟨_, rfl, .inl (SqL.of h)⟩
  | @tup a xs ds h t =>
    obtain rfl : ds = [] := e
    cases t
    exact ⟨_, rfl, .inr (.inl (.inl h))⟩
  | _ => cases s
section
variable {P : Program} {w : World} {K : PySem.W.Frag} {mg : Str → Option Value} {base : Heap}
theorem ok_bentO {f f1 f2 f3 : Addr} {fd fd1 fd2 fd3 : FuncData} {m : Nat} (F : Fun K "_law_bent" "_law_bent" sBent f fd) (bb : Binds K fd ["_law_pen_here", "_law_thing"] []) (gb : mg "_law_bent" = some (.ref f))
    (F1 : Fun K "_law_draw" "_law_draw" sDraw f1 fd1) (b1 : Binds K fd1 ["_law_pen_here", "_law_many"] []) (g1 : mg "_law_draw" = some (.ref f1))
    (F2 : Fun K "_law_pick" "_law_pick" sPick f2 fd2) (b2 : Binds K fd2 ["_law_pen_here", "_law_some"] []) (g2 : mg "_law_pick" = some (.ref f2))
    (F3 : Fun K "_law_odd" "_law_odd" sOdd f3 fd3) (b3 : Binds K fd3 ["_law_pen_here"] []) (g3 : mg "_law_odd" = some (.ref f3))
    (str_ : mg "str" = none) (B : Bi mg) (h3 : 3 ≤ m) :
    FnOk P w K mg base CX0 (m + 1) f fd ["_law_pen_here", "_law_thing"] (spBentO K) := by
  have G1 : FnOk P w K mg base CX0 1 f1 fd1 ["_law_pen_here", "_law_many"] spDraw := ok_draw F1 B
  have G2 : FnOk P w K mg base CX0 2 f2 fd2 ["_law_pen_here", "_law_some"] (spPick K) := ok_pick F2 F1 b1 g1 B
  have G3 : FnOk P w K mg base CX0 3 f3 fd3 ["_law_pen_here"] (spOdd K) := ok_odd F3 F1 b1 g1 F2 b2 g2 B
  refine F.ok scBent (fun vs H Q E h => ?_) (fun cdv A outer s H vs Q E hr h => ?_)
  · obtain ⟨p, c, v, d, T, rfl, _⟩ := h; rfl
  · obtain ⟨p, c, v, d, T, rfl, hp, T9, hv, ni, ns, em, q⟩ := h
    have hr1 : Room 1 _ := hr.mono (by omega)
    have hr3 : Room 3 _ := hr.mono h3
    refine ⟨_, Evl.pss_cut (ps_if (PW.pt (pw_and (pt_val (pe_callB call_isiT (by rfl) B.isi boot_isinstance (pa_cons (pv 1) (pa_cons (pe_tup (pa_cons (pe_bltn (v := .ty "tuple") (by rfl) B.tuple (by decide +kernel) rfl) (pa_cons (pe_bltn (v := .ty "list") (by rfl) B.list (by decide +kernel) rfl) pa_nil))) pa_nil))))
          (pw_and (pt_cmpR op_gt (pe_callB call_len_seq (by rfl) B.len PySem.boot_len (pa_cons (pv 1) pa_nil)) pe_int (nomark _))
            (pw_and1 (pt_cmpR op_gt (pe_call G1 hr1 (by rfl) g1 F1.kp b1 .nil pass0 (pa_cons (pv 0) (pa_cons pe_int pa_nil))) pe_int (nomark _)))))) pss_never pss_nil)
      (Evl.pss_cut (ps_if (PW.pt (pw_and (pt_val (pe_callB call_isi (by rfl) B.isi boot_isinstance (pa_cons (pv 1) (pa_cons (pe_bltn (v := .ty "int") (by rfl) B.int (by decide +kernel) rfl) pa_nil)))) (pw_and1 (pt_cmpR op_gt (pe_call G1 hr1 (by rfl) g1 F1.kp b1 .nil pass0 (pa_cons (pv 0) (pa_cons pe_int pa_nil))) pe_int (nomark _))))) pss_never pss_nil)
      (pss_cons (ps_if (PW.pt (pw_and (pt_val (pe_callB call_isi (by rfl) B.isi boot_isinstance (pa_cons (pv 1) (pa_cons (pe_bltn (v := .ty "str") (by rfl) str_ (by decide +kernel) rfl) pa_nil)))) (pw_and1 (pt_cmpR op_gt (pe_call G1 hr1 (by rfl) g1 F1.kp b1 .nil pass0 (pa_cons (pv 0) (pa_cons pe_int pa_nil))) pe_int (nomark _))))) pss_never pss_nil)
      (pss_one (ps_ret (pe_call G3 hr3 (by rfl) g3 F3.kp b3 .nil pass0 (pa_cons (pv 0) pa_nil)))))), ?_⟩
    refine ⟨fun σ' H' => σ' = [some (.ref p), some v, none, none, none, none] ∧ Evl.Ex H H', ?_, ?_⟩
    · refine ⟨v, rfl, (by show 2 ≤ sizeLine; decide), fun tp ntp => ?_⟩
      have e1 := Evl.Ex.new (o := .tup [.ty "tuple", .ty "list"]) ntp
      refine ⟨v, tp, _, .type (tyS d), _, (isTup d || isLst d), rfl, upd_same, .cons (.ty _) (.cons (.ty _) .nil), (hv.ex e1).ty, kit_seq d, _, rfl, ?_⟩
      cases hs : (isTup d || isLst d) with
      | false =>
        refine iteF (iteF ?_)
        exact ⟨rfl, e1⟩
      | true =>
        refine iteT ?_
        obtain ⟨a, rfl, ha⟩ := th_empty (hv.ex e1) em hs
        refine ⟨.ref a, rfl, a, [], rfl, ha, (0 : Nat), 0, rfl, rfl, _, rfl, ?_⟩
        refine iteF (iteF ?_)
        exact ⟨rfl, e1⟩
    · rintro σ' H1 ⟨rfl, e1⟩
      refine ⟨fun σ' H' => σ' = [some (.ref p), some v, none, none, none, none] ∧ Evl.Ex H H', ?_, ?_⟩
      · refine ⟨v, rfl, v, .ty "int", .type (tyS d), .type "int", isInt d, rfl, .ty _, (hv.ex e1).ty, kit_ty (kit_int d), isInt d, rfl, ?_⟩
        rw [ni]
        refine iteF (iteF ?_)
        exact ⟨rfl, e1⟩
      · rintro σ' H2 ⟨rfl, e2⟩
        refine ⟨v, rfl, v, .ty "str", .type (tyS d), .type "str", isStr d, rfl, .ty _, (hv.ex e2).ty, kit_ty (kit_str d), isStr d, rfl, ?_⟩
        rw [ns]
        refine iteF (iteF ?_)
        exact ⟨.ref p, rfl, p, c, _, rfl, hp.ex e2, by omega, fun H3 u e x3 hp3 ho hm => q H3 u e ((Exx.ex e2).trans x3) (hp3.mono (by omega)) ho (bent_odd hm)⟩
end
end Wb

set_option Elab.async false
set_option linter.all false
set_option maxRecDepth 100000
set_option maxHeartbeats 4000000
set_option pp.maxSteps 600
set_option pp.deepTerms false
namespace Wb
open PySem PySem.Spec PyProof.Rows L2
/-! ### numbers bent -/
theorem lg_lt {n a : Nat} (h : n.log2 ≤ a) : n < 2 ^ (a + 1) := Nat.lt_of_lt_of_le Nat.lt_log2_self (Nat.pow_le_pow_right (by decide) (by omega))
theorem lg_le {n a : Nat} (h : n < 2 ^ (a + 1)) : n.log2 ≤ a := by
  by_cases z : n = 0
  · subst z
    exact Nat.zero_le _
  · have := (Nat.log2_lt z).mpr h
    omega
theorem lg_up {n m k : Nat} (h : m ≤ n * 2 ^ k + 2 ^ k) : m.log2 ≤ n.log2 + k + 1 := by
  refine lg_le ?_
  have h1 : n + 1 ≤ 2 ^ (n.log2 + 1) := Nat.lt_log2_self
  have h2 : (n + 1) * 2 ^ k ≤ 2 ^ (n.log2 + 1) * 2 ^ k := Nat.mul_le_mul_right _ h1
  rw [← Nat.pow_add] at h2
  have h3 : 2 ^ (n.log2 + 1 + k) < 2 ^ (n.log2 + k + 1 + 1) := Nat.pow_lt_pow_right (by decide) (by omega)
  have h4 : (n + 1) * 2 ^ k = n * 2 ^ k + 2 ^ k := Nat.succ_mul n (2 ^ k)
  omega
/-- another number, of some figures more -/
theorem bent_num {d : PyData} {i j : Int} {k : Nat} (gi : ∀ a, good a d = true → i.natAbs.log2 ≤ a) (wi : i.natAbs.log2 ≤ wt d) (hk : k ≤ 20) (h : j.natAbs ≤ i.natAbs * 2 ^ k + 2 ^ k) : Bent d (.int j) := by
  have z := lg_up h
  refine ⟨fun a _ hg => ?_, ?_, by simp only [PyData.depth]; omega, [], Nat.zero_le _, fun x hx => (by cases hx)⟩
  · have := gi a hg
    simp only [good, decide_eq_true_eq]
    omega
  · simp only [wt]
    omega
theorem digits_low (i : Int) : ∀ c ∈ (Str.ofString (toString i)).cps.toList, c < 128 := fun c hc => by
  refine Classical.byContradiction fun n => ?_
  exact PyProof.Rows.int_text_free' c ⟨by omega, by omega⟩ i hc
theorem bent_str {d : PyData} {i : Int} (gi : ∀ a, good a d = true → i.natAbs.log2 ≤ a) (small : i.natAbs.log2 ≤ 1000) : Bent d (.str (Str.ofString (toString i))) := by
  have l := int_text i
  have e : (Str.ofString (toString i)).length = (toString i).length := PySem.ofString_length _
  refine ⟨fun a _ hg => ?_, ?_, by simp only [PyData.depth]; omega, [], Nat.zero_le _, fun x hx => (by cases hx)⟩
  · have := gi a hg
    simp only [good, Bool.and_eq_true, decide_eq_true_eq, List.all_eq_true]
    exact ⟨by omega, digits_low i⟩
  · simp only [wt]
    omega
theorem bent_bl {d : PyData} (b : Bool) : Bent d (.bool b) := ⟨fun a _ _ => by simp only [good], by simp only [wt]; omega, by simp only [PyData.depth]; omega, [], Nat.zero_le _, fun x hx => (by cases hx)⟩
theorem bent_non {d : PyData} : Bent d .none := ⟨fun a _ _ => by simp only [good], by simp only [wt]; omega, by simp only [PyData.depth]; omega, [], Nat.zero_le _, fun x hx => (by cases hx)⟩
theorem bent_tup1 {d : PyData} (dn : d.depth ≤ 0) : Bent d (.tuple [d]) := by
  refine ⟨fun a _ hg => ?_, ?_, ?_, [d], by simp, fun x hx => .inr (.inl hx)⟩
  · rw [good_seq.1, goodAll_mem]
    intro x hx
    rw [List.mem_singleton.mp hx]
    exact good_mono (by omega) d hg
  · rw [(wt_seq [d]).1]
    simp only [wtAll]
    omega
  · rw [(depth_seq [d]).1]
    simp only [PyData.depthAll]
    omega
/-- of a whole number -/
def spBentI (K : PySem.W.Frag) : Sp := fun vs H Q _ => ∃ (p c : Addr) (i T : Int), vs = [.ref p, .int i] ∧ PenAt H p c T ∧ T ≤ 9000000 ∧ i.natAbs.log2 ≤ 1000 ∧
  ∀ H' u e, Exx p H H' → PenAt H' p c (T + 20) → Th K H' u e → Bent (.int i) e → Q u H'
section
variable {P : Program} {w : World} {K : PySem.W.Frag} {mg : Str → Option Value} {base : Heap}
theorem ok_bentI {f f1 f2 f3 : Addr} {fd fd1 fd2 fd3 : FuncData} {m : Nat} (F : Fun K "_law_bent" "_law_bent" sBent f fd) (bb : Binds K fd ["_law_pen_here", "_law_thing"] []) (gb : mg "_law_bent" = some (.ref f))
    (F1 : Fun K "_law_draw" "_law_draw" sDraw f1 fd1) (b1 : Binds K fd1 ["_law_pen_here", "_law_many"] []) (g1 : mg "_law_draw" = some (.ref f1))
    (F2 : Fun K "_law_pick" "_law_pick" sPick f2 fd2) (b2 : Binds K fd2 ["_law_pen_here", "_law_some"] []) (g2 : mg "_law_pick" = some (.ref f2))
    (F3 : Fun K "_law_odd" "_law_odd" sOdd f3 fd3) (b3 : Binds K fd3 ["_law_pen_here"] []) (g3 : mg "_law_odd" = some (.ref f3))
    (str_ : mg "str" = none) (B : Bi mg) (h3 : 3 ≤ m) :
    FnOk P w K mg base CX0 (m + 1) f fd ["_law_pen_here", "_law_thing"] (spBentI K) := by
  have G1 : FnOk P w K mg base CX0 1 f1 fd1 ["_law_pen_here", "_law_many"] spDraw := ok_draw F1 B
  have G2 : FnOk P w K mg base CX0 2 f2 fd2 ["_law_pen_here", "_law_some"] (spPick K) := ok_pick F2 F1 b1 g1 B
  have G3 : FnOk P w K mg base CX0 3 f3 fd3 ["_law_pen_here"] (spOdd K) := ok_odd F3 F1 b1 g1 F2 b2 g2 B
  refine F.ok scBent (fun vs H Q E h => ?_) (fun cdv A outer s H vs Q E hr h => ?_)
  · obtain ⟨p, c, i, T, rfl, _⟩ := h; rfl
  · obtain ⟨p, c, i, T, rfl, hp, T9, small, q⟩ := h
    have hr1 : Room 1 _ := hr.mono (by omega)
    have hr2 : Room 2 _ := hr.mono (by omega)
    have hr3 : Room 3 _ := hr.mono h3
    refine ⟨_, Evl.pss_cut (ps_if (PW.pt (pw_and (pt_val (pe_callB call_isiT (by rfl) B.isi boot_isinstance (pa_cons (pv 1) (pa_cons (pe_tup (pa_cons (pe_bltn (v := .ty "tuple") (by rfl) B.tuple (by decide +kernel) rfl) (pa_cons (pe_bltn (v := .ty "list") (by rfl) B.list (by decide +kernel) rfl) pa_nil))) pa_nil))))
          (pw_and (pt_cmpR op_gt (pe_callB call_len_seq (by rfl) B.len PySem.boot_len (pa_cons (pv 1) pa_nil)) pe_int (nomark _))
            (pw_and1 (pt_cmpR op_gt (pe_call G1 hr1 (by rfl) g1 F1.kp b1 .nil pass0 (pa_cons (pv 0) (pa_cons pe_int pa_nil))) pe_int (nomark _)))))) pss_never pss_nil)
      (Evl.pss_cut (ps_if (PW.pt (pw_and (pt_val (pe_callB call_isi (by rfl) B.isi boot_isinstance (pa_cons (pv 1) (pa_cons (pe_bltn (v := .ty "int") (by rfl) B.int (by decide +kernel) rfl) pa_nil)))) (pw_and1 (pt_cmpR op_gt (pe_call G1 hr1 (by rfl) g1 F1.kp b1 .nil pass0 (pa_cons (pv 0) (pa_cons pe_int pa_nil))) pe_int (nomark _)))))
        (pss_cons (ps_set (i := 5) scBent.nd rfl (.inl rfl) (pe_lst (pa_cons (pe_op op_add (pv 1) pe_int) (pa_cons (pe_op op_sub (pv 1) pe_int) (pa_cons (pe_op op_sub pe_int (pv 1)) (pa_cons (pe_cmpR op_eq (pv 1) pe_int (nomark _)) (pa_cons (pe_callTy call_strO (by rfl) str_ PyProof.Rows.boot_str (pa_cons (pv 1) pa_nil))
            (pa_cons (pe_op op_mul (pv 1) (pe_op op_pow pe_int pe_int)) (pa_cons pe_non (pa_cons (pe_tup (pa_cons (pv 1) pa_nil)) pa_nil))))))))))
        (pss_one (ps_ret (pe_call G2 hr2 (by rfl) g2 F2.kp b2 .nil pass0 (pa_cons (pv 0) (pa_cons (pv 5) pa_nil)))))) pss_nil)
      (pss_cons (ps_if (PW.pt (pw_and (pt_val (pe_callB call_isi (by rfl) B.isi boot_isinstance (pa_cons (pv 1) (pa_cons (pe_bltn (v := .ty "str") (by rfl) str_ (by decide +kernel) rfl) pa_nil)))) (pw_and1 (pt_cmpR op_gt (pe_call G1 hr1 (by rfl) g1 F1.kp b1 .nil pass0 (pa_cons (pv 0) (pa_cons pe_int pa_nil))) pe_int (nomark _))))) pss_never pss_nil)
      (pss_one (ps_ret (pe_call G3 hr3 (by rfl) g3 F3.kp b3 .nil pass0 (pa_cons (pv 0) pa_nil)))))), ?_⟩
    have gi : ∀ a, good a (.int i) = true → i.natAbs.log2 ≤ a := fun a hg => by
      simp only [good, decide_eq_true_eq] at hg
      exact hg
    have wi : i.natAbs.log2 ≤ wt (.int i) := by
      simp only [wt]
      omega
    refine ⟨fun σ' H' => σ' = [some (.ref p), some (.int i), none, none, none, none] ∧ Exx p H H' ∧ PenAt H' p c (T + 1), ?_, ?_⟩
    · refine ⟨.int i, rfl, (by show 2 ≤ sizeLine; decide), fun tp ntp => ?_⟩
      have e1 := Evl.Ex.new (o := .tup [.ty "tuple", .ty "list"]) ntp
      refine ⟨.int i, tp, _, .type (tyS (.int i)), _, (isTup (.int i) || isLst (.int i)), rfl, upd_same, .cons (.ty _) (.cons (.ty _) .nil), (Th.int i).ty, kit_seq (.int i), _, rfl, ?_⟩
      refine iteF (iteF ?_)
      exact ⟨rfl, Exx.ex e1, (hp.ex e1).mono (by omega)⟩
    · rintro σ' H1 ⟨rfl, x1, hp1⟩
      refine ⟨fun σ' H' => σ' = [some (.ref p), some (.int i), none, none, none, none] ∧ Exx p H H' ∧ PenAt H' p c (T + 2), ?_, ?_⟩
      · refine ⟨.int i, rfl, .int i, .ty "int", .type (tyS (.int i)), .type "int", isInt (.int i), rfl, .ty _, (Th.int (K := K) (H := H1) i).ty, kit_ty (kit_int (.int i)), isInt (.int i), rfl, ?_⟩
        refine iteT ?_
        refine ⟨.ref p, rfl, p, c, 6, _, rfl, hp1, by decide, by decide, by omega, fun r H2 r0 r6 x2 hp2 => ⟨r, 0, rfl, rfl, _, rfl, ?_⟩⟩
        refine ite2 (fun _ => ?_) (fun _ => ⟨rfl, x1.trans x2, hp2.mono (by omega)⟩)
        refine ⟨.int i, rfl, i, 1, rfl, rfl, ?_⟩
        refine ⟨.int i, rfl, i, 1, rfl, rfl, ?_⟩
        refine ⟨.int i, rfl, 0, i, rfl, rfl, ?_⟩
        refine ⟨.int i, rfl, rfl, ?_⟩
        refine ⟨.int i, rfl, .inl ⟨i, rfl, by omega, ?_⟩⟩
        refine ⟨.int i, rfl, 10, 6, rfl, rfl, ⟨by decide, by decide, by decide⟩, i, _, rfl, rfl, .inr ⟨by decide, by decide⟩, ?_⟩
        refine ⟨.int i, rfl, (by show 1 ≤ sizeLine; decide), fun t nt => ?_⟩
        have e3 := Evl.Ex.new (o := .tup [.int i]) nt
        have g3 : (upd H2 t (.tup [.int i])) t = some (.tup [.int i]) := upd_same
        generalize upd H2 t (.tup [.int i]) = H3 at e3 g3
        have six : (10 : Int) ^ (6 : Int).toNat = 1000000 := by decide
        refine ⟨(by show 8 ≤ sizeLine; decide), fun l nl => ?_⟩
        have e4 := Evl.Ex.new (o := .lst [.int (i + 1), .int (i - 1), .int (0 - i), .bl (decide (V.int i = V.int 1)), .str (toString i), .int (i * 10 ^ (6 : Int).toNat), .non, .ref t]) nl
        have g4 : (upd H3 l (.lst [.int (i + 1), .int (i - 1), .int (0 - i), .bl (decide (V.int i = V.int 1)), .str (toString i), .int (i * 10 ^ (6 : Int).toNat), .non, .ref t])) l = some (.lst [.int (i + 1), .int (i - 1), .int (0 - i), .bl (decide (V.int i = V.int 1)), .str (toString i), .int (i * 10 ^ (6 : Int).toNat), .non, .ref t]) := upd_same
        generalize upd H3 l (.lst [.int (i + 1), .int (i - 1), .int (0 - i), .bl (decide (V.int i = V.int 1)), .str (toString i), .int (i * 10 ^ (6 : Int).toNat), .non, .ref t]) = H4 at e4 g4
        have hp4 := hp2.ex (e3.trans e4)
        have p20 : (2 : Nat) ^ 20 = 1048576 := by decide
        have each : ∀ x ∈ ([.int (i + 1), .int (i - 1), .int (0 - i), .bl (decide (V.int i = V.int 1)), .str (toString i), .int (i * 10 ^ (6 : Int).toNat), .non, .ref t] : List V), ∃ d, Th K H4 x d ∧ Bent (.int i) d := by
          intro x hx
          simp only [List.mem_cons, List.not_mem_nil, or_false] at hx
          rcases hx with rfl | rfl | rfl | rfl | rfl | rfl | rfl | rfl
          · exact ⟨_, .int _, bent_num gi wi (k := 0) (by omega) (by omega)⟩
          · exact ⟨_, .int _, bent_num gi wi (k := 0) (by omega) (by omega)⟩
          · exact ⟨_, .int _, bent_num gi wi (k := 0) (by omega) (by omega)⟩
          · exact ⟨_, .bl _, bent_bl _⟩
          · exact ⟨_, .str _, bent_str gi small⟩
          · refine ⟨_, .int _, bent_num gi wi (k := 20) (by omega) ?_⟩
            rw [six, p20]
            omega
          · exact ⟨_, .non, bent_non⟩
          · exact ⟨_, Th.tupI (e4 _ _ g3) (.cons (.int i) .nil), bent_tup1 (by simp only [PyData.depth]; omega)⟩
        refine ⟨.ref p, rfl, .ref l, rfl, p, c, l, _, _, rfl, hp4, by omega, .inl (.inl g4), (hp2.ex e3).new1 nl, (fun z => nomatch z), (by show 8 ≤ 1000000; decide), fun x H5 hx x5 hp5 => ?_⟩
        obtain ⟨d, ho, hm⟩ := each x hx
        exact q H5 x d (x1.trans (x2.trans ((Exx.ex (e3.trans e4)).trans x5))) (hp5.mono (by omega)) (ho.keep (hp4.tk x5)) hm
      · rintro σ' H2 ⟨rfl, x2, hp2⟩
        refine ⟨.int i, rfl, .int i, .ty "str", .type (tyS (.int i)), .type "str", isStr (.int i), rfl, .ty _, (Th.int (K := K) (H := H2) i).ty, kit_ty (kit_str (.int i)), isStr (.int i), rfl, ?_⟩
        refine iteF (iteF ?_)
        exact ⟨.ref p, rfl, p, c, _, rfl, hp2, by omega, fun H3 v d x3 hp3 ho hm => q H3 v d (x2.trans x3) (hp3.mono (by omega)) ho (bent_odd hm)⟩
end
end Wb

set_option Elab.async false
set_option linter.all false
set_option maxRecDepth 100000
set_option maxHeartbeats 4000000
set_option pp.maxSteps 600
set_option pp.deepTerms false
namespace Wb
open PySem PySem.Spec PyProof.Rows L2
/-! ### truths bent -/
def nB (b : Bool) : Int := if b = true then 1 else 0
section
variable {X : Cx}
theorem op_addB : OpR X (binaryOp .Add) (fun x y H Q => ∃ a b, x = .bl a ∧ y = .int b ∧ Q (.int (nB a + b)) H) := by
  intro pins s σ H x y v u Q I rx ry h
  obtain ⟨a, b, rfl, rfl, q⟩ := h
  cases rx
  obtain ⟨t, rfl⟩ := ry
  exact PySem.IntBool.add_bool_int ⟨.int _, H, I.tok _, ⟨_, rfl⟩, q⟩
theorem op_subB : OpR X (binaryOp .Sub) (fun x y H Q => ∃ a b, x = .bl a ∧ y = .int b ∧ Q (.int (nB a - b)) H) := by
  intro pins s σ H x y v u Q I rx ry h
  obtain ⟨a, b, rfl, rfl, q⟩ := h
  cases rx
  obtain ⟨t, rfl⟩ := ry
  exact PySem.IntBool.sub_bool_int ⟨.int _, H, I.tok _, ⟨_, rfl⟩, q⟩
theorem op_mulB : OpR X (binaryOp .Mult) (fun x y H Q => ∃ a b, x = .bl a ∧ y = .int b ∧ Q (.int (nB a * b)) H) := by
  intro pins s σ H x y v u Q I rx ry h
  obtain ⟨a, b, rfl, rfl, q⟩ := h
  cases rx
  obtain ⟨t, rfl⟩ := ry
  exact PySem.IntBool.mul_bool_int ⟨.int _, H, I.tok _, ⟨_, rfl⟩, q⟩
theorem op_subIB : OpR X (binaryOp .Sub) (fun x y H Q => ∃ a b, y = .bl a ∧ x = .int b ∧ Q (.int (b - nB a)) H) := by
  intro pins s σ H x y v u Q I rx ry h
  obtain ⟨a, b, rfl, rfl, q⟩ := h
  cases ry
  obtain ⟨t, rfl⟩ := rx
  exact PySem.IntBool.sub_int_bool ⟨.int _, H, I.tok _, ⟨_, rfl⟩, q⟩
theorem call_strB : CallR X (.type "str") (fun xs H Q => ∃ b, xs = [.bl b] ∧ Q (.str (if b then "True" else "False")) H) := by
  intro pins s σ H xs us Q I r h
  obtain ⟨b, rfl, q⟩ := h
  cases r with
  | cons r1 r2 =>
    cases r2
    cases r1
    exact PySem.P.str_of_bool ⟨.str _, H, I.tok _, ⟨_, rfl⟩, q⟩
end
/-- of a truth -/
def spBentB (K : PySem.W.Frag) : Sp := fun vs H Q _ => ∃ (p c : Addr) (b : Bool) (T : Int), vs = [.ref p, .bl b] ∧ PenAt H p c T ∧ T ≤ 9000000 ∧
  ∀ H' u e, Exx p H H' → PenAt H' p c (T + 20) → Th K H' u e → Bent (.bool b) e → Q u H'
section
variable {P : Program} {w : World} {K : PySem.W.Frag} {mg : Str → Option Value} {base : Heap}
theorem ok_bentB {f f1 f2 f3 : Addr} {fd fd1 fd2 fd3 : FuncData} {m : Nat} (F : Fun K "_law_bent" "_law_bent" sBent f fd) (bb : Binds K fd ["_law_pen_here", "_law_thing"] []) (gb : mg "_law_bent" = some (.ref f))
    (F1 : Fun K "_law_draw" "_law_draw" sDraw f1 fd1) (b1 : Binds K fd1 ["_law_pen_here", "_law_many"] []) (g1 : mg "_law_draw" = some (.ref f1))
    (F2 : Fun K "_law_pick" "_law_pick" sPick f2 fd2) (b2 : Binds K fd2 ["_law_pen_here", "_law_some"] []) (g2 : mg "_law_pick" = some (.ref f2))
    (F3 : Fun K "_law_odd" "_law_odd" sOdd f3 fd3) (b3 : Binds K fd3 ["_law_pen_here"] []) (g3 : mg "_law_odd" = some (.ref f3))
    (str_ : mg "str" = none) (B : Bi mg) (h3 : 3 ≤ m) :
    FnOk P w K mg base CX0 (m + 1) f fd ["_law_pen_here", "_law_thing"] (spBentB K) := by
  have G1 : FnOk P w K mg base CX0 1 f1 fd1 ["_law_pen_here", "_law_many"] spDraw := ok_draw F1 B
  have G2 : FnOk P w K mg base CX0 2 f2 fd2 ["_law_pen_here", "_law_some"] (spPick K) := ok_pick F2 F1 b1 g1 B
  have G3 : FnOk P w K mg base CX0 3 f3 fd3 ["_law_pen_here"] (spOdd K) := ok_odd F3 F1 b1 g1 F2 b2 g2 B
  refine F.ok scBent (fun vs H Q E h => ?_) (fun cdv A outer s H vs Q E hr h => ?_)
  · obtain ⟨p, c, bb_, T, rfl, _⟩ := h; rfl
  · obtain ⟨p, c, bb_, T, rfl, hp, T9, q⟩ := h
    have hr1 : Room 1 _ := hr.mono (by omega)
    have hr2 : Room 2 _ := hr.mono (by omega)
    have hr3 : Room 3 _ := hr.mono h3
    refine ⟨_, Evl.pss_cut (ps_if (PW.pt (pw_and (pt_val (pe_callB call_isiT (by rfl) B.isi boot_isinstance (pa_cons (pv 1) (pa_cons (pe_tup (pa_cons (pe_bltn (v := .ty "tuple") (by rfl) B.tuple (by decide +kernel) rfl) (pa_cons (pe_bltn (v := .ty "list") (by rfl) B.list (by decide +kernel) rfl) pa_nil))) pa_nil))))
          (pw_and (pt_cmpR op_gt (pe_callB call_len_seq (by rfl) B.len PySem.boot_len (pa_cons (pv 1) pa_nil)) pe_int (nomark _))
            (pw_and1 (pt_cmpR op_gt (pe_call G1 hr1 (by rfl) g1 F1.kp b1 .nil pass0 (pa_cons (pv 0) (pa_cons pe_int pa_nil))) pe_int (nomark _)))))) pss_never pss_nil)
      (Evl.pss_cut (ps_if (PW.pt (pw_and (pt_val (pe_callB call_isi (by rfl) B.isi boot_isinstance (pa_cons (pv 1) (pa_cons (pe_bltn (v := .ty "int") (by rfl) B.int (by decide +kernel) rfl) pa_nil)))) (pw_and1 (pt_cmpR op_gt (pe_call G1 hr1 (by rfl) g1 F1.kp b1 .nil pass0 (pa_cons (pv 0) (pa_cons pe_int pa_nil))) pe_int (nomark _)))))
        (pss_cons (ps_set (i := 5) scBent.nd rfl (.inl rfl) (pe_lst (pa_cons (pe_op op_addB (pv 1) pe_int) (pa_cons (pe_op op_subB (pv 1) pe_int) (pa_cons (pe_op op_subIB pe_int (pv 1)) (pa_cons (pe_cmpR (op_eqD hr.units) (pv 1) pe_int (nomark _)) (pa_cons (pe_callTy call_strB (by rfl) str_ PyProof.Rows.boot_str (pa_cons (pv 1) pa_nil))
            (pa_cons (pe_op op_mulB (pv 1) (pe_op op_pow pe_int pe_int)) (pa_cons pe_non (pa_cons (pe_tup (pa_cons (pv 1) pa_nil)) pa_nil))))))))))
        (pss_one (ps_ret (pe_call G2 hr2 (by rfl) g2 F2.kp b2 .nil pass0 (pa_cons (pv 0) (pa_cons (pv 5) pa_nil)))))) pss_nil)
      (pss_cons (ps_if (PW.pt (pw_and (pt_val (pe_callB call_isi (by rfl) B.isi boot_isinstance (pa_cons (pv 1) (pa_cons (pe_bltn (v := .ty "str") (by rfl) str_ (by decide +kernel) rfl) pa_nil)))) (pw_and1 (pt_cmpR op_gt (pe_call G1 hr1 (by rfl) g1 F1.kp b1 .nil pass0 (pa_cons (pv 0) (pa_cons pe_int pa_nil))) pe_int (nomark _))))) pss_never pss_nil)
      (pss_one (ps_ret (pe_call G3 hr3 (by rfl) g3 F3.kp b3 .nil pass0 (pa_cons (pv 0) pa_nil)))))), ?_⟩
    have gi : ∀ a, good a (.bool bb_) = true → (nB bb_).natAbs.log2 ≤ a := fun a _ => by
      have z : (nB bb_).natAbs.log2 = 0 := by cases bb_ <;> decide
      rw [z]
      exact Nat.zero_le _
    have wi : (nB bb_).natAbs.log2 ≤ wt (.bool bb_) := by
      have z : (nB bb_).natAbs.log2 = 0 := by cases bb_ <;> decide
      rw [z]
      exact Nat.zero_le _
    refine ⟨fun σ' H' => σ' = [some (.ref p), some (.bl bb_), none, none, none, none] ∧ Exx p H H' ∧ PenAt H' p c (T + 1), ?_, ?_⟩
    · refine ⟨.bl bb_, rfl, (by show 2 ≤ sizeLine; decide), fun tp ntp => ?_⟩
      have e1 := Evl.Ex.new (o := .tup [.ty "tuple", .ty "list"]) ntp
      refine ⟨.bl bb_, tp, _, .type (tyS (.bool bb_)), _, (isTup (.bool bb_) || isLst (.bool bb_)), rfl, upd_same, .cons (.ty _) (.cons (.ty _) .nil), (Th.bl bb_).ty, kit_seq (.bool bb_), _, rfl, ?_⟩
      refine iteF (iteF ?_)
      exact ⟨rfl, Exx.ex e1, (hp.ex e1).mono (by omega)⟩
    · rintro σ' H1 ⟨rfl, x1, hp1⟩
      refine ⟨fun σ' H' => σ' = [some (.ref p), some (.bl bb_), none, none, none, none] ∧ Exx p H H' ∧ PenAt H' p c (T + 2), ?_, ?_⟩
      · refine ⟨.bl bb_, rfl, .bl bb_, .ty "int", .type (tyS (.bool bb_)), .type "int", isInt (.bool bb_), rfl, .ty _, (Th.bl (K := K) (H := H1) bb_).ty, kit_ty (kit_int (.bool bb_)), isInt (.bool bb_), rfl, ?_⟩
        refine iteT ?_
        refine ⟨.ref p, rfl, p, c, 6, _, rfl, hp1, by decide, by decide, by omega, fun r H2 r0 r6 x2 hp2 => ⟨r, 0, rfl, rfl, _, rfl, ?_⟩⟩
        refine ite2 (fun _ => ?_) (fun _ => ⟨rfl, x1.trans x2, hp2.mono (by omega)⟩)
        refine ⟨.bl bb_, rfl, bb_, 1, rfl, rfl, ?_⟩
        refine ⟨.bl bb_, rfl, bb_, 1, rfl, rfl, ?_⟩
        refine ⟨.bl bb_, rfl, bb_, 0, rfl, rfl, ?_⟩
        refine ⟨.bl bb_, rfl, .bool bb_, .int 1, .bl _, .int _, by cases bb_ <;> decide, by decide, ?_⟩
        refine ⟨.bl bb_, rfl, bb_, rfl, ?_⟩
        refine ⟨.bl bb_, rfl, 10, 6, rfl, rfl, ⟨by decide, by decide, by decide⟩, bb_, _, rfl, rfl, ?_⟩
        refine ⟨.bl bb_, rfl, (by show 1 ≤ sizeLine; decide), fun t nt => ?_⟩
        have e3 := Evl.Ex.new (o := .tup [.bl bb_]) nt
        have g3 : (upd H2 t (.tup [.bl bb_])) t = some (.tup [.bl bb_]) := upd_same
        generalize upd H2 t (.tup [.bl bb_]) = H3 at e3 g3
        have six : (10 : Int) ^ (6 : Int).toNat = 1000000 := by decide
        refine ⟨(by show 8 ≤ sizeLine; decide), fun l nl => ?_⟩
        have e4 := Evl.Ex.new (o := .lst [.int (nB bb_ + 1), .int (nB bb_ - 1), .int (0 - nB bb_), .bl (PyData.eqv (.bool bb_) (.int 1)), .str (if bb_ then "True" else "False"), .int (nB bb_ * 10 ^ (6 : Int).toNat), .non, .ref t]) nl
        have g4 : (upd H3 l (.lst [.int (nB bb_ + 1), .int (nB bb_ - 1), .int (0 - nB bb_), .bl (PyData.eqv (.bool bb_) (.int 1)), .str (if bb_ then "True" else "False"), .int (nB bb_ * 10 ^ (6 : Int).toNat), .non, .ref t])) l = some (.lst [.int (nB bb_ + 1), .int (nB bb_ - 1), .int (0 - nB bb_), .bl (PyData.eqv (.bool bb_) (.int 1)), .str (if bb_ then "True" else "False"), .int (nB bb_ * 10 ^ (6 : Int).toNat), .non, .ref t]) := upd_same
        generalize upd H3 l (.lst [.int (nB bb_ + 1), .int (nB bb_ - 1), .int (0 - nB bb_), .bl (PyData.eqv (.bool bb_) (.int 1)), .str (if bb_ then "True" else "False"), .int (nB bb_ * 10 ^ (6 : Int).toNat), .non, .ref t]) = H4 at e4 g4
        have hp4 := hp2.ex (e3.trans e4)
        have p20 : (2 : Nat) ^ 20 = 1048576 := by decide
        have each : ∀ x ∈ ([.int (nB bb_ + 1), .int (nB bb_ - 1), .int (0 - nB bb_), .bl (PyData.eqv (.bool bb_) (.int 1)), .str (if bb_ then "True" else "False"), .int (nB bb_ * 10 ^ (6 : Int).toNat), .non, .ref t] : List V), ∃ d, Th K H4 x d ∧ Bent (.bool bb_) d := by
          intro x hx
          simp only [List.mem_cons, List.not_mem_nil, or_false] at hx
          rcases hx with rfl | rfl | rfl | rfl | rfl | rfl | rfl | rfl
          · exact ⟨_, .int _, bent_num gi wi (k := 0) (by omega) (by cases bb_ <;> decide)⟩
          · exact ⟨_, .int _, bent_num gi wi (k := 0) (by omega) (by cases bb_ <;> decide)⟩
          · exact ⟨_, .int _, bent_num gi wi (k := 0) (by omega) (by cases bb_ <;> decide)⟩
          · exact ⟨_, .bl _, bent_bl _⟩
          · refine ⟨_, .str _, fun a _ _ => ?_, by cases bb_ <;> decide +kernel, by simp only [PyData.depth]; omega, [], Nat.zero_le _, fun x hx => (by cases hx)⟩
            have z : good 5 (.str (if bb_ then "True" else "False")) = true := by cases bb_ <;> decide +kernel
            exact good_mono (by omega) _ z
          · exact ⟨_, .int _, bent_num gi wi (k := 20) (by omega) (by cases bb_ <;> decide)⟩
          · exact ⟨_, .non, bent_non⟩
          · exact ⟨_, Th.tupI (e4 _ _ g3) (.cons (.bl bb_) .nil), bent_tup1 (by simp only [PyData.depth]; omega)⟩
        refine ⟨.ref p, rfl, .ref l, rfl, p, c, l, _, _, rfl, hp4, by omega, .inl (.inl g4), (hp2.ex e3).new1 nl, (fun z => nomatch z), (by show 8 ≤ 1000000; decide), fun x H5 hx x5 hp5 => ?_⟩
        obtain ⟨d, ho, hm⟩ := each x hx
        exact q H5 x d (x1.trans (x2.trans ((Exx.ex (e3.trans e4)).trans x5))) (hp5.mono (by omega)) (ho.keep (hp4.tk x5)) hm
      · rintro σ' H2 ⟨rfl, x2, hp2⟩
        refine ⟨.bl bb_, rfl, .bl bb_, .ty "str", .type (tyS (.bool bb_)), .type "str", isStr (.bool bb_), rfl, .ty _, (Th.bl (K := K) (H := H2) bb_).ty, kit_ty (kit_str (.bool bb_)), isStr (.bool bb_), rfl, ?_⟩
        refine iteF (iteF ?_)
        exact ⟨.ref p, rfl, p, c, _, rfl, hp2, by omega, fun H3 v d x3 hp3 ho hm => q H3 v d (x2.trans x3) (hp3.mono (by omega)) ho (bent_odd hm)⟩
end
end Wb

set_option Elab.async false
set_option linter.all false
set_option maxRecDepth 100000
set_option maxHeartbeats 4000000
set_option pp.maxSteps 600
set_option pp.deepTerms false
namespace Wb
open PySem PySem.Spec PyProof.Rows L2
/-! ### texts bent -/
def low (z : Str) : Prop := ∀ c ∈ z.cps.toList, c < 128
theorem bent_txt {z y : Str} (hl : y.length ≤ z.length + 1) (small : z.length ≤ 1000) (hc : low y) : Bent (.str z) (.str y) := by
  refine ⟨fun a _ hg => ?_, ?_, by simp only [PyData.depth]; omega, [], Nat.zero_le _, fun x hx => (by cases hx)⟩
  · simp only [good, Bool.and_eq_true, decide_eq_true_eq, List.all_eq_true] at hg ⊢
    exact ⟨by omega, hc⟩
  · simp only [wt]
    omega
theorem low_app {z y : Str} (h1 : low z) (h2 : low y) : low (z ++ y) := fun c hc => by
  have e : (z ++ y).cps.toList = z.cps.toList ++ y.cps.toList := by
    show (z.cps ++ y.cps).toList = _
    rw [Array.toList_append]
  rw [e] at hc
  exact (List.mem_append.mp hc).elim (h1 c) (h2 c)
theorem low_cut {z : Str} (h : low z) (lo hi : Option Int) : low (cutS z lo hi) ∧ (cutS z lo hi).length ≤ z.length := by
  unfold cutS
  refine ⟨fun c hc => h c (List.mem_of_mem_drop (List.mem_of_mem_take hc)), ?_⟩
  show (List.toArray _).size ≤ z.cps.size
  rw [List.size_toArray, List.length_take, List.length_drop, ← Array.length_toList]
  omega
theorem low_up {z : Str} (h : low z) : low (Txt.upper z) ∧ (Txt.upper z).length = z.length := by
  have e : z = SX.S z.cps.toList := by
    cases z
    simp [SX.S]
  have u := SX.upper_S (a := z.cps.toList) (List.all_eq_true.mpr fun c hc => decide_eq_true (h c hc))
  rw [← e] at u
  rw [u]
  refine ⟨fun c hc => ?_, ?_⟩
  · obtain ⟨x, hx, rfl⟩ := List.mem_map.mp hc
    have := h x hx
    unfold PyProof.Rows.up1
    split <;> omega
  · show (List.toArray _).size = z.cps.size
    rw [List.size_toArray, List.length_map, Array.length_toList]
/-- of a text -/
def spBentS (K : PySem.W.Frag) : Sp := fun vs H Q _ => ∃ (p c : Addr) (z : Str) (T : Int), vs = [.ref p, .str z] ∧ PenAt H p c T ∧ T ≤ 9000000 ∧ z.length ≤ 1000 ∧ low z ∧
  ∀ H' u e, Exx p H H' → PenAt H' p c (T + 20) → Th K H' u e → Bent (.str z) e → Q u H'
section
variable {P : Program} {w : World} {K : PySem.W.Frag} {mg : Str → Option Value} {base : Heap}
theorem ok_bentS {f f1 f2 f3 : Addr} {fd fd1 fd2 fd3 : FuncData} {m : Nat} (F : Fun K "_law_bent" "_law_bent" sBent f fd) (bb : Binds K fd ["_law_pen_here", "_law_thing"] []) (gb : mg "_law_bent" = some (.ref f))
    (F1 : Fun K "_law_draw" "_law_draw" sDraw f1 fd1) (b1 : Binds K fd1 ["_law_pen_here", "_law_many"] []) (g1 : mg "_law_draw" = some (.ref f1))
    (F2 : Fun K "_law_pick" "_law_pick" sPick f2 fd2) (b2 : Binds K fd2 ["_law_pen_here", "_law_some"] []) (g2 : mg "_law_pick" = some (.ref f2))
    (F3 : Fun K "_law_odd" "_law_odd" sOdd f3 fd3) (b3 : Binds K fd3 ["_law_pen_here"] []) (g3 : mg "_law_odd" = some (.ref f3))
    (str_ : mg "str" = none) (B : Bi mg) (h3 : 3 ≤ m) :
    FnOk P w K mg base CX0 (m + 1) f fd ["_law_pen_here", "_law_thing"] (spBentS K) := by
  have G1 : FnOk P w K mg base CX0 1 f1 fd1 ["_law_pen_here", "_law_many"] spDraw := ok_draw F1 B
  have G2 : FnOk P w K mg base CX0 2 f2 fd2 ["_law_pen_here", "_law_some"] (spPick K) := ok_pick F2 F1 b1 g1 B
  have G3 : FnOk P w K mg base CX0 3 f3 fd3 ["_law_pen_here"] (spOdd K) := ok_odd F3 F1 b1 g1 F2 b2 g2 B
  refine F.ok scBent (fun vs H Q E h => ?_) (fun cdv A outer s H vs Q E hr h => ?_)
  · obtain ⟨p, c, z, T, rfl, _⟩ := h; rfl
  · obtain ⟨p, c, z, T, rfl, hp, T9, small, hlow, q⟩ := h
    have hr1 : Room 1 _ := hr.mono (by omega)
    have hr2 : Room 2 _ := hr.mono (by omega)
    have hr3 : Room 3 _ := hr.mono h3
    refine ⟨_, Evl.pss_cut (ps_if (PW.pt (pw_and (pt_val (pe_callB call_isiT (by rfl) B.isi boot_isinstance (pa_cons (pv 1) (pa_cons (pe_tup (pa_cons (pe_bltn (v := .ty "tuple") (by rfl) B.tuple (by decide +kernel) rfl) (pa_cons (pe_bltn (v := .ty "list") (by rfl) B.list (by decide +kernel) rfl) pa_nil))) pa_nil))))
          (pw_and (pt_cmpR op_gt (pe_callB call_len_seq (by rfl) B.len PySem.boot_len (pa_cons (pv 1) pa_nil)) pe_int (nomark _))
            (pw_and1 (pt_cmpR op_gt (pe_call G1 hr1 (by rfl) g1 F1.kp b1 .nil pass0 (pa_cons (pv 0) (pa_cons pe_int pa_nil))) pe_int (nomark _)))))) pss_never pss_nil)
      (Evl.pss_cut (ps_if (PW.pt (pw_and (pt_val (pe_callB call_isi (by rfl) B.isi boot_isinstance (pa_cons (pv 1) (pa_cons (pe_bltn (v := .ty "int") (by rfl) B.int (by decide +kernel) rfl) pa_nil)))) (pw_and1 (pt_cmpR op_gt (pe_call G1 hr1 (by rfl) g1 F1.kp b1 .nil pass0 (pa_cons (pv 0) (pa_cons pe_int pa_nil))) pe_int (nomark _))))) pss_never pss_nil)
      (pss_cons (ps_if (PW.pt (pw_and (pt_val (pe_callB call_isi (by rfl) B.isi boot_isinstance (pa_cons (pv 1) (pa_cons (pe_bltn (v := .ty "str") (by rfl) str_ (by decide +kernel) rfl) pa_nil)))) (pw_and1 (pt_cmpR op_gt (pe_call G1 hr1 (by rfl) g1 F1.kp b1 .nil pass0 (pa_cons (pv 0) (pa_cons pe_int pa_nil))) pe_int (nomark _))))) (pss_one (ps_ret (pe_call G2 hr2 (by rfl) g2 F2.kp b2 .nil pass0 (pa_cons (pv 0) (pa_cons (pe_lst (pa_cons (pe_op op_add_str (pv 1) pe_str) (pa_cons (pe_slice sl_str (pv 1) po_none (po_some (pe_un un_neg pe_int))) (pa_cons (pe_upper (pv 1)) (pa_cons (pe_op op_add_str (pv 1) pe_str) pa_nil))))) pa_nil))))) pss_nil)
      (pss_one (ps_ret (pe_call G3 hr3 (by rfl) g3 F3.kp b3 .nil pass0 (pa_cons (pv 0) pa_nil)))))), ?_⟩
    refine ⟨fun σ' H' => σ' = [some (.ref p), some (.str z), none, none, none, none] ∧ Evl.Ex H H', ?_, ?_⟩
    · refine ⟨.str z, rfl, (by show 2 ≤ sizeLine; decide), fun tp ntp => ?_⟩
      have e1 := Evl.Ex.new (o := .tup [.ty "tuple", .ty "list"]) ntp
      refine ⟨.str z, tp, _, .type (tyS (.str z)), _, (isTup (.str z) || isLst (.str z)), rfl, upd_same, .cons (.ty _) (.cons (.ty _) .nil), (Th.str z).ty, kit_seq (.str z), _, rfl, ?_⟩
      refine iteF (iteF ?_)
      exact ⟨rfl, e1⟩
    · rintro σ' H1 ⟨rfl, e1⟩
      refine ⟨fun σ' H' => σ' = [some (.ref p), some (.str z), none, none, none, none] ∧ Evl.Ex H H', ?_, ?_⟩
      · refine ⟨.str z, rfl, .str z, .ty "int", .type (tyS (.str z)), .type "int", isInt (.str z), rfl, .ty _, (Th.str (K := K) (H := H1) z).ty, kit_ty (kit_int (.str z)), isInt (.str z), rfl, ?_⟩
        refine iteF (iteF ?_)
        exact ⟨rfl, e1⟩
      · rintro σ' H2 ⟨rfl, e2⟩
        have hp2 := hp.ex e2
        refine ⟨.str z, rfl, .str z, .ty "str", .type (tyS (.str z)), .type "str", isStr (.str z), rfl, .ty _, (Th.str (K := K) (H := H2) z).ty, kit_ty (kit_str (.str z)), isStr (.str z), rfl, ?_⟩
        refine iteT ?_
        refine ⟨.ref p, rfl, p, c, 4, _, rfl, hp2, by decide, by decide, by omega, fun r H3 r0 r4 x3 hp3 => ⟨r, 0, rfl, rfl, _, rfl, ?_⟩⟩
        have x03 : Exx p H H3 := (Exx.ex e2).trans x3
        refine ite2 (fun _ => ?_) (fun _ => ⟨.ref p, rfl, p, c, _, rfl, hp3, by omega, fun H4 u e x4 hp4 ho hm => q H4 u e (x03.trans x4) (hp4.mono (by omega)) ho (bent_odd hm)⟩)
        have l1 : (z.length + 1) ≤ sizeLine := Nat.le_trans (by omega : z.length + 1 ≤ 1001) (by decide)
        refine ⟨.ref p, rfl, .str z, rfl, z, "x", rfl, rfl, l1, ?_⟩
        refine ⟨.str z, rfl, 1, rfl, -1, rfl, z, rfl, Nat.le_trans (Nat.le_succ _) l1, ?_⟩
        refine ⟨.str z, rfl, ⟨z, rfl⟩, z, rfl, rfl, by omega, ?_⟩
        refine ⟨.str z, rfl, z, " ", rfl, rfl, l1, ?_⟩
        obtain ⟨c1, c2⟩ := low_cut hlow none (some (-1))
        obtain ⟨u1, u2⟩ := low_up hlow
        have lx : low "x" := by unfold low; decide +kernel
        have lb : low " " := by unfold low; decide +kernel
        have ex_ : (z ++ "x" : Str).length = z.length + 1 := strLen_append z "x"
        have eb_ : (z ++ " " : Str).length = z.length + 1 := strLen_append z " "
        refine ⟨(by show 4 ≤ sizeLine; decide), fun l nl => ?_⟩
        have e4 := Evl.Ex.new (o := .lst [.str (z ++ "x"), .str (cutS z none (some (-1))), .str (Txt.upper z), .str (z ++ " ")]) nl
        have g4 : (upd H3 l (.lst [.str (z ++ "x"), .str (cutS z none (some (-1))), .str (Txt.upper z), .str (z ++ " ")])) l = some (.lst [.str (z ++ "x"), .str (cutS z none (some (-1))), .str (Txt.upper z), .str (z ++ " ")]) := upd_same
        generalize upd H3 l (.lst [.str (z ++ "x"), .str (cutS z none (some (-1))), .str (Txt.upper z), .str (z ++ " ")]) = H4 at e4 g4
        have hp4 := hp3.ex e4
        have each : ∀ x ∈ ([.str (z ++ "x"), .str (cutS z none (some (-1))), .str (Txt.upper z), .str (z ++ " ")] : List V), ∃ d, Th K H4 x d ∧ Bent (.str z) d := by
          intro x hx
          simp only [List.mem_cons, List.not_mem_nil, or_false] at hx
          rcases hx with rfl | rfl | rfl | rfl
          · exact ⟨_, .str _, bent_txt (by omega) small (low_app hlow lx)⟩
          · exact ⟨_, .str _, bent_txt (by omega) small c1⟩
          · exact ⟨_, .str _, bent_txt (by omega) small u1⟩
          · exact ⟨_, .str _, bent_txt (by omega) small (low_app hlow lb)⟩
        refine ⟨p, c, l, _, _, rfl, hp4, by omega, .inl (.inl g4), hp3.new1 nl, (fun z => nomatch z), (by show 4 ≤ 1000000; decide), fun x H5 hx x5 hp5 => ?_⟩
        obtain ⟨d, ho, hm⟩ := each x hx
        exact q H5 x d (x03.trans ((Exx.ex e4).trans x5)) (hp5.mono (by omega)) (ho.keep (hp4.tk x5)) hm
end
end Wb

set_option Elab.async false
set_option linter.all false
set_option maxRecDepth 100000
set_option maxHeartbeats 4000000
set_option pp.maxSteps 600
set_option pp.deepTerms false
namespace Wb
open PySem PySem.Spec PyProof.Rows L2
section
variable {P : Program} {w : World} {K : PySem.W.Frag} {mg : Str → Option Value} {base : Heap}
/-- bent, of anything that is no deeper than n -/
theorem ok_bent {f f1 f2 f3 : Addr} {fd fd1 fd2 fd3 : FuncData} (F : Fun K "_law_bent" "_law_bent" sBent f fd) (bb : Binds K fd ["_law_pen_here", "_law_thing"] []) (gb : mg "_law_bent" = some (.ref f))
    (F1 : Fun K "_law_draw" "_law_draw" sDraw f1 fd1) (b1 : Binds K fd1 ["_law_pen_here", "_law_many"] []) (g1 : mg "_law_draw" = some (.ref f1))
    (F2 : Fun K "_law_pick" "_law_pick" sPick f2 fd2) (b2 : Binds K fd2 ["_law_pen_here", "_law_some"] []) (g2 : mg "_law_pick" = some (.ref f2))
    (F3 : Fun K "_law_odd" "_law_odd" sOdd f3 fd3) (b3 : Binds K fd3 ["_law_pen_here"] []) (g3 : mg "_law_odd" = some (.ref f3))
    (str_ : mg "str" = none) (B : Bi mg) : ∀ n : Nat, FnOk P w K mg base CX0 (n + 4) f fd ["_law_pen_here", "_law_thing"] (spBent K n) := by
  have GO : FnOk P w K mg base CX0 4 f fd ["_law_pen_here", "_law_thing"] (spBentO K) := ok_bentO F bb gb F1 b1 g1 F2 b2 g2 F3 b3 g3 str_ B (Nat.le_refl 3)
  have GN : FnOk P w K mg base CX0 4 f fd ["_law_pen_here", "_law_thing"] (spBentI K) := ok_bentI F bb gb F1 b1 g1 F2 b2 g2 F3 b3 g3 str_ B (Nat.le_refl 3)
  have GB : FnOk P w K mg base CX0 4 f fd ["_law_pen_here", "_law_thing"] (spBentB K) := ok_bentB F bb gb F1 b1 g1 F2 b2 g2 F3 b3 g3 str_ B (Nat.le_refl 3)
  have GS : FnOk P w K mg base CX0 4 f fd ["_law_pen_here", "_law_thing"] (spBentS K) := ok_bentS F bb gb F1 b1 g1 F2 b2 g2 F3 b3 g3 str_ B (Nat.le_refl 3)
  -- all but tuples and lists with things in them
  have flat : ∀ (n : Nat) (A : Around) (outer : List Env) (s : Shared) (H : Hp) (args : Args) (us : List Value) (vs : List V) (Q : VK) (E : XK), Room (n + 4) A → Env0 P w K mg base A outer s H → BindsTo s fd args ((["_law_pen_here", "_law_thing"] : List Str).zip us) → Vals vs us →
      ∀ (p c : Addr) (v : V) (d : PyData) (T : Int), vs = [.ref p, v] → PenAt H p c T → T + 100 * (n : Nat) ≤ 9000000 → Th K H v d → itemsS d = [] → good 1000 d = true →
      (∀ H' u e, Exx p H H' → PenAt H' p c (T + 10 * (n : Nat) + 20) → Th K H' u e → Bent d e → Q u H') → codeAny (model P w) A (.call (.ref f) args) (CR CX0 outer P w H s Q E) s := by
    intro n A outer s H args us vs Q E hr env bt rv p c v d T e hp T9 hv em gd q
    have hr4 : Room 4 A := hr.mono (by omega)
    have q' : ∀ H' u e, Exx p H H' → PenAt H' p c (T + 20) → Th K H' u e → Bent d e → Q u H' := fun H' u e x hp' hv' be => q H' u e x (hp'.mono (by omega)) hv' be
    have T9' : T ≤ 9000000 := by omega
    cases hv with
    | int i =>
      refine GN.run A outer s H args us vs Q E hr4 env bt rv ⟨p, c, i, T, e, hp, T9', ?_, q'⟩
      simpa only [good, decide_eq_true_eq] using gd
    | bl b => exact GB.run A outer s H args us vs Q E hr4 env bt rv ⟨p, c, b, T, e, hp, T9', q'⟩
    | str z =>
      simp only [good, Bool.and_eq_true, decide_eq_true_eq, List.all_eq_true] at gd
      exact GS.run A outer s H args us vs Q E hr4 env bt rv ⟨p, c, z, T, e, hp, T9', gd.1, gd.2, q'⟩
    | non => exact GO.run A outer s H args us vs Q E hr4 env bt rv ⟨p, c, _, _, T, e, hp, T9', .non, rfl, rfl, rfl, q'⟩
    | d0 h => exact GO.run A outer s H args us vs Q E hr4 env bt rv ⟨p, c, _, _, T, e, hp, T9', .d0 h, rfl, rfl, rfl, q'⟩
    | d1 h => exact GO.run A outer s H args us vs Q E hr4 env bt rv ⟨p, c, _, _, T, e, hp, T9', .d1 h, rfl, rfl, rfl, q'⟩
    | lst h a => exact GO.run A outer s H args us vs Q E hr4 env bt rv ⟨p, c, _, _, T, e, hp, T9', .lst h a, rfl, rfl, em, q'⟩
    | tup h a => exact GO.run A outer s H args us vs Q E hr4 env bt rv ⟨p, c, _, _, T, e, hp, T9', .tup h a, rfl, rfl, em, q'⟩
  intro n
  induction n with
  | zero =>
    refine ⟨fun vs H Q E h => ?_, fun A outer s H args us vs Q E hr env bt rv h => ?_⟩
    · obtain ⟨p, c, v, d, T, rfl, _⟩ := h; rfl
    · obtain ⟨p, c, v, d, T, e, hp, T9, hv, dn, gd, wd, q⟩ := h
      refine flat 0 A outer s H args us vs Q E hr env bt rv p c v d T e hp T9 hv ?_ gd q
      cases d with
      | tuple ds =>
        simp only [PyData.depth] at dn
        omega
      | list ds =>
        simp only [PyData.depth] at dn
        omega
      | _ => rfl
  | succ n ih =>
    have GT : FnOk P w K mg base CX0 (n + 4 + 1) f fd ["_law_pen_here", "_law_thing"] (spBentT K n) := ok_bentT F bb gb F1 b1 g1 F2 b2 g2 F3 b3 g3 str_ B ih (Nat.le_refl _) (by omega)
    have GL : FnOk P w K mg base CX0 (n + 4 + 1) f fd ["_law_pen_here", "_law_thing"] (spBentL K n) := ok_bentL F bb gb F1 b1 g1 F2 b2 g2 F3 b3 g3 str_ B ih (Nat.le_refl _) (by omega)
    refine ⟨fun vs H Q E h => ?_, fun A outer s H args us vs Q E hr env bt rv h => ?_⟩
    · obtain ⟨p, c, v, d, T, rfl, _⟩ := h; rfl
    · obtain ⟨p, c, v, d, T, e, hp, T9, hv, dn, gd, wd, q⟩ := h
      by_cases em : itemsS d = []
      · exact flat (n + 1) A outer s H args us vs Q E hr env bt rv p c v d T e hp T9 hv em gd q
      · cases hv with
        | @lst a xs ds h t =>
          have n1 : 1 ≤ ds.length := by
            cases ds with
            | nil => exact absurd rfl em
            | cons _ _ => simp
          simp only [PyData.depth] at dn
          simp only [wt] at wd
          exact GL.run A outer s H args us vs Q E (hr.mono (by omega)) env bt rv ⟨p, c, a, xs, ds, T, e, hp, T9, h, t.paired, n1, by omega, good_seq.2.mp gd, wd, q⟩
        | @tup a xs ds h t =>
          have n1 : 1 ≤ ds.length := by
            cases ds with
            | nil => exact absurd rfl em
            | cons _ _ => simp
          simp only [PyData.depth] at dn
          simp only [wt] at wd
          exact GT.run A outer s H args us vs Q E (hr.mono (by omega)) env bt rv ⟨p, c, a, xs, ds, T, e, hp, T9, h, t.paired, n1, by omega, good_seq.1.mp gd, wd, q⟩
        | _ => exact absurd rfl em
end
end Wb

set_option Elab.async false
set_option linter.all false
set_option maxRecDepth 100000
set_option maxHeartbeats 4000000
set_option pp.maxSteps 600
set_option pp.deepTerms false
namespace Wb
open PySem PySem.Spec PyProof.Rows L2
/-! ### a lock is a thing -/
section
variable {K : PySem.W.Frag} {H : Hp}
theorem th_ints_of (u : Word) : ThAll K H (u.map V.int) (u.map PyData.int) := by
  induction u with
  | nil => exact .nil
  | cons x u ih => exact .cons (.int x) ih
theorem th_word {v : V} {u : Word} (h : Wd K H v u) : Th K H v (dW u) := by
  obtain ⟨a, rfl, ha⟩ := h
  exact .tup ha (th_ints_of u)
theorem th_allOf {α : Type} {F : V → α → Prop} {f : α → PyData} (h : ∀ v x, F v x → Th K H v (f x)) : ∀ {vs : List V} {xs : List α}, Paired F vs xs → ThAll K H vs (xs.map f)
  | _, _, .nil => .nil
  | _, _, .cons r t => .cons (h _ _ r) (th_allOf h t)
theorem th_gapS {v : V} {g : Gap} (h : GapS K H v g) : Th K H v (dG g) := by
  obtain ⟨a, b, ws, rfl, h1, h2, h3⟩ := h
  exact .tup h1 (.cons (.int _) (.cons (.int _) (.cons (.int _) (.cons (.tup h2 (th_allOf (F := Wd K H) (f := dW) (fun _ _ => th_word) h3)) .nil))))
theorem th_boltS {v : V} {b : Bolt} (h : BoltS K H v b) : Th K H v (dB b) := by
  obtain ⟨a, c, gs, rfl, h1, h2, h3⟩ := h
  exact .tup h1 (.cons (.int _) (.cons (.tup h2 (th_allOf (F := GapS K H) (f := dG) (fun _ _ => th_gapS) h3)) .nil))
theorem th_lockS {v : V} {l : Lock} (h : LockS K H v l) : Th K H v (dL l) := by
  obtain ⟨a, bs, rfl, h1, h2⟩ := h
  exact .tup h1 (th_allOf (F := BoltS K H) (f := dB) (fun _ _ => th_boltS) h2)
end
theorem small_good {x : Int} (h0 : 0 ≤ x) (h1 : x ≤ 1000000) : good 200 (.int x) = true ∧ wt (.int x) ≤ 30 := by
  have z : x.natAbs < 2 ^ (25 + 1) := Nat.lt_of_le_of_lt (show x.natAbs ≤ 1000000 by omega) (by decide)
  have := lg_le z
  simp only [good, wt, decide_eq_true_eq]
  omega
theorem goodAll_map {α : Type} {f : α → PyData} {a : Nat} {xs : List α} (h : ∀ x ∈ xs, good a (f x) = true) : goodAll a (xs.map f) = true := by
  rw [goodAll_mem]
  intro d hd
  obtain ⟨x, hx, rfl⟩ := List.mem_map.mp hd
  exact h x hx
theorem wtAll_map {α : Type} {f : α → PyData} {c : Nat} : ∀ {xs : List α}, (∀ x ∈ xs, wt (f x) ≤ c) → wtAll (xs.map f) ≤ (c + 2) * xs.length
  | [], _ => by simp [wtAll]
  | x :: xs, h => by
    have h1 := h x List.mem_cons_self
    have h2 := wtAll_map (xs := xs) fun y hy => h y (List.mem_cons_of_mem _ hy)
    rw [List.map_cons, wtAll, List.length_cons, Nat.mul_succ]
    omega
theorem good_way {l : Lock} (ok : LockDr l) {k : Nat} {b : Bolt} {g : Gap} {u : Word} (hb : l[k]? = some b) (hg : g ∈ b.gaps) (hu : u ∈ g.ways) : good 200 (dW u) = true ∧ wt (dW u) ≤ 2000 := by
  obtain ⟨h1, h2⟩ := ((ok.bolts k b hb).gaps g hg).words u hu
  have kl : k < l.length := (List.getElem?_eq_some_iff.mp hb).1
  have l60 := ok.n1
  have ml : (manysOf (l.take k)).length = k := by
    unfold manysOf
    rw [List.length_map, List.length_take]
    omega
  have each : ∀ x ∈ u, 0 ≤ x ∧ x ≤ 1000000 := fun x hx => by
    obtain ⟨i, hi⟩ := List.mem_iff_getElem?.mp hx
    have il : i < u.length := (List.getElem?_eq_some_iff.mp hi).1
    have hl : i < l.length := by omega
    have hm : (manysOf (l.take k))[i]? = some l[i].many := by
      unfold manysOf
      rw [List.getElem?_map, List.getElem?_take, if_pos (by omega), List.getElem?_eq_getElem hl]
      rfl
    have z1 := h2 i x _ hi hm
    have z2 := manys_le ok (List.getElem?_eq_getElem hl)
    omega
  unfold dW
  rw [good_seq.1, (wt_seq _).1]
  refine ⟨goodAll_map fun x hx => (small_good (each x hx).1 (each x hx).2).1, ?_⟩
  have z := wtAll_map (f := PyData.int) (c := 30) (xs := u) fun x hx => (small_good (each x hx).1 (each x hx).2).2
  omega
theorem good_gap {l : Lock} (ok : LockDr l) {k : Nat} {b : Bolt} {g : Gap} (hb : l[k]? = some b) (hg : g ∈ b.gaps) : good 200 (dG g) = true ∧ wt (dG g) ≤ 120 + 2002 * g.ways.length := by
  have BO := ok.bolts k b hb
  have G := BO.gaps g hg
  have m1 := BO.m1
  have f0 := G.f0
  have f1 := G.f1
  have t0 := G.t0
  have t1 := G.t1
  have p0 := G.p0
  have p1 := G.p1
  obtain ⟨a1, a2⟩ := small_good (x := g.frm) f0 (by omega)
  obtain ⟨b1, b2⟩ := small_good (x := g.to_) t0 (by omega)
  obtain ⟨c1, c2⟩ := small_good (x := g.price) (by omega) p1
  have w1 : goodAll 200 (g.ways.map dW) = true := goodAll_map fun u hu => (good_way ok hb hg hu).1
  have w2 := wtAll_map (f := dW) (c := 2000) (xs := g.ways) fun u hu => (good_way ok hb hg hu).2
  unfold dG dWs
  rw [good_seq.1, (wt_seq _).1]
  constructor
  · simp only [goodAll, a1, b1, c1, Bool.true_and, Bool.and_true]
    rw [good_seq.1]
    exact w1
  · simp only [wtAll]
    rw [(wt_seq _).1]
    omega
theorem wt_gaps {l : Lock} (ok : LockDr l) {k : Nat} {b : Bolt} (hb : l[k]? = some b) : ∀ gs : List Gap, (∀ g ∈ gs, g ∈ b.gaps) → wtAll (gs.map dG) ≤ 122 * gs.length + 2002 * (gs.map fun g => g.ways.length).sum
  | [], _ => by simp [wtAll]
  | g :: gs, h => by
    have h1 := (good_gap ok hb (h g List.mem_cons_self)).2
    have h2 := wt_gaps ok hb gs fun x hx => h x (List.mem_cons_of_mem _ hx)
    rw [List.map_cons, List.map_cons, List.sum_cons, wtAll, List.length_cons]
    omega
theorem good_bolt {l : Lock} (ok : LockDr l) {k : Nat} {b : Bolt} (hb : l[k]? = some b) : good 200 (dB b) = true ∧ wt (dB b) ≤ 20000 := by
  have BO := ok.bolts k b hb
  have m0 := BO.m0
  have m1 := BO.m1
  obtain ⟨a1, a2⟩ := small_good (x := b.many) (by omega) (by omega)
  have g16 := gaps_16 ok hb
  have few := BO.few
  have w1 : goodAll 200 (b.gaps.map dG) = true := goodAll_map fun g hg => (good_gap ok hb hg).1
  have w2 := wt_gaps ok hb b.gaps fun g hg => hg
  unfold dB dGs
  rw [good_seq.1, (wt_seq _).1]
  constructor
  · simp only [goodAll, a1, Bool.true_and, Bool.and_true]
    rw [good_seq.1]
    exact w1
  · simp only [wtAll]
    rw [(wt_seq _).1]
    omega
theorem good_lock {l : Lock} (ok : LockDr l) : good 200 (dL l) = true ∧ wt (dL l) ≤ 1300000 ∧ (dL l).depth ≤ 6 := by
  have l60 := ok.n1
  have each : ∀ b ∈ l, good 200 (dB b) = true ∧ wt (dB b) ≤ 20000 := fun b hb => by
    obtain ⟨k, hk⟩ := List.mem_iff_getElem?.mp hb
    exact good_bolt ok hk
  refine ⟨?_, ?_, (fine_L ok).dep⟩
  · unfold dL
    rw [good_seq.1]
    exact goodAll_map fun b hb => (each b hb).1
  · unfold dL
    rw [(wt_seq _).1]
    have := wtAll_map (f := dB) (c := 20000) (xs := l) fun b hb => (each b hb).2
    have h2 : (20000 + 2) * l.length ≤ (20000 + 2) * 61 := Nat.mul_le_mul_left _ l60
    omega
end Wb

set_option Elab.async false
set_option linter.all false
set_option maxRecDepth 100000
set_option maxHeartbeats 4000000
set_option pp.maxSteps 600
set_option pp.deepTerms false
namespace Wb
open PySem PySem.Spec PyProof.Rows L2
/-! ### things that are mostly a lock: no part is long, few words are unlike -/
theorem wt_item {d x : PyData} (h : x ∈ itemsD d) : wt x ≤ wt d := by
  cases d with
  | tuple ds =>
    have z : x ∈ ds := h
    have := wtAll_mem z
    simp only [wt]
    omega
  | _ => exact absurd h List.not_mem_nil
theorem wt_itD {d : PyData} (i : Nat) : wt (itD d i) ≤ wt d + 4 := by
  unfold itD
  rw [List.getD_eq_getElem?_getD]
  cases h : (itemsD d)[i]? with
  | none =>
    simp only [Option.getD_none, wt]
    omega
  | some x =>
    have := wt_item (List.mem_of_getElem? h)
    simp only [Option.getD_some]
    omega
theorem wt_len6 {d : PyData} : 6 * (itemsD d).length ≤ wt d := by
  cases d with
  | tuple ds =>
    have := wtAll_len ds
    simp only [itemsD, wt]
    omega
  | _ => simp [itemsD]
theorem sz_of {d : PyData} (h : wt d ≤ 5900000) : Sz d := by
  intro e he m g ee
  have w1 := wt_item he
  subst ee
  have w2 : wt (.tuple g) ≤ wt (.tuple [m, .tuple g]) := wt_item (d := .tuple [m, .tuple g]) (by simp [itemsD])
  have w3 := wt_len6 (d := .tuple g)
  have w3' : 6 * g.length ≤ wt (.tuple g) := w3
  refine ⟨by omega, fun x hx => ?_⟩
  have w4 : wt x ≤ wt (.tuple g) := wt_item (d := .tuple g) hx
  have w5 := wt_itD (d := x) 3
  have w6 := wt_len6 (d := itD x 3)
  omega
/-! what data of words, gaps, bolts tell -/
theorem wdG_dW (u : Word) : wdG (dW u) = u := ints_back u
theorem gapD_dG (g : Gap) : gapD (dG g) = g := by
  obtain ⟨f, t, p, ws⟩ := g
  show (⟨f, t, p, (ws.map dW).map wdG⟩ : Gap) = ⟨f, t, p, ws⟩
  rw [List.map_map]
  have z : ws.map (wdG ∘ dW) = ws := by
    induction ws with
    | nil => rfl
    | cons w ws ih =>
      rw [List.map_cons, ih]
      show wdG (dW w) :: ws = w :: ws
      rw [wdG_dW]
  rw [z]
theorem boltD_dB (b : Bolt) : boltD (dB b) = b := by
  obtain ⟨m, gs⟩ := b
  show (⟨m, (gs.map dG).map gapD⟩ : Bolt) = ⟨m, gs⟩
  rw [List.map_map]
  have z : gs.map (gapD ∘ dG) = gs := by
    induction gs with
    | nil => rfl
    | cons w ws ih =>
      rw [List.map_cons, ih]
      show gapD (dG w) :: ws = w :: ws
      rw [gapD_dG]
  rw [z]
theorem itemsD_S {d x : PyData} (h : x ∈ itemsD d) : x ∈ itemsS d := by
  cases d with
  | tuple ds => exact h
  | _ => exact absurd h List.not_mem_nil
/-- each of its things is the lock's, one of a few, or brings no words -/
def Mostly (l : Lock) (odd : List PyData) (d : PyData) : Prop := ∀ x ∈ itemsS d, (∃ b ∈ l, x = dB b) ∨ x ∈ odd ∨ noW x = true
theorem mostly_lock (l : Lock) : Mostly l [] (dL l) := by
  intro x hx
  obtain ⟨b, hb, rfl⟩ := List.mem_map.mp (show x ∈ l.map dB from hx)
  exact .inl ⟨b, hb, rfl⟩
theorem Mostly.bent {l : Lock} {odd : List PyData} {d e : PyData} (h : Mostly l odd d) (b : Bent d e) : ∃ odd', odd'.length ≤ odd.length + 1 ∧ Mostly l odd' e := by
  obtain ⟨o, ho, hn⟩ := b.new
  refine ⟨odd ++ o, by rw [List.length_append]; omega, fun x hx => ?_⟩
  rcases hn x hx with z | z | z
  · rcases h x z with k | k | k
    · exact .inl k
    · exact .inr (.inl (List.mem_append_left _ k))
    · exact .inr (.inr k)
  · exact .inr (.inl (List.mem_append_right _ z))
  · exact .inr (.inr z)
def cutsOf (k : Nat) (x : PyData) : List Word := if ((boltD x).gaps.map fun g => g.ways.length).sum ≤ 8 then (boltD x).gaps.flatMap fun g => g.ways.map fun u => u.take k else []
theorem cutsOf_len (k : Nat) (x : PyData) : (cutsOf k x).length ≤ 8 := by
  unfold cutsOf
  split
  · rw [bolt_len]
    assumption
  · exact Nat.zero_le _
theorem cuts_few {l : Lock} (ok : LockDr l) (k : Nat) : (dedW (cutList l k)).length ≤ 12 := by
  have nd : (dedW (cutList l k)).Nodup := ded_nodup _ _ List.nodup_nil
  have mm : ∀ u, u ∈ dedW (cutList l k) → cutsFrom l k u := fun u hu => by
    unfold dedW at hu
    rw [ded_mem] at hu
    exact mem_cutList.mp (hu.resolve_left List.not_mem_nil)
  by_cases h : k < l.length
  · exact ok.words k _ h nd mm
  · have z : dedW (cutList l k) = [] := by
      rw [List.eq_nil_iff_forall_not_mem]
      intro u hu
      obtain ⟨j, b, g, u', hj, hb, _⟩ := mm u hu
      have := (List.getElem?_eq_some_iff.mp hb).1
      omega
    rw [z]
    exact Nat.zero_le _
theorem few_mostly {l : Lock} (ok : LockDr l) {odd : List PyData} {d : PyData} (h : Mostly l odd d) (ho : odd.length ≤ 5) : FewW d := by
  intro all k
  generalize hds : itemsD d = ds at all
  have mem : ∀ x ∈ ds, (∃ b ∈ l, x = dB b) ∨ x ∈ odd ∨ noW x = true := fun x hx => h x (itemsD_S (by rw [hds]; exact hx))
  have lo : (odd.flatMap (cutsOf k)).length ≤ 8 * odd.length := by
    clear all mem hds h ho
    induction odd with
    | nil => exact Nat.zero_le _
    | cons x odd ih =>
      rw [List.flatMap_cons, List.length_append, List.length_cons]
      have := cutsOf_len k x
      omega
  have sub : (dedW (cutList (lockD ds) k)).length ≤ (dedW (cutList l k) ++ odd.flatMap (cutsOf k)).length := by
    refine nodup_le (ded_nodup _ _ List.nodup_nil) fun w hw => ?_
    unfold dedW at hw
    rw [ded_mem] at hw
    obtain ⟨j, b, g, u, hj, hb, hg, hu, rfl⟩ := mem_cutList.mp (hw.resolve_left List.not_mem_nil)
    unfold lockD at hb
    rw [List.getElem?_map] at hb
    obtain ⟨x, hx, rfl⟩ := Option.map_eq_some_iff.mp hb
    have jl := (List.getElem?_eq_some_iff.mp hx).1
    have bj := all j jl
    unfold boltsAt at bj
    rw [getD_of hx] at bj
    have BO := bolt_ok bj
    have ul : u.length = j := by
      have := ((BO.gaps g hg).words u hu).1
      unfold manysOf lockD at this
      rw [List.length_map, List.length_map, List.length_take] at this
      omega
    rcases mem x (List.mem_of_getElem? hx) with ⟨b', hb', rfl⟩ | ho' | nw
    · rw [boltD_dB] at hg
      obtain ⟨i, hi⟩ := List.mem_iff_getElem?.mp hb'
      have il := (List.getElem?_eq_some_iff.mp hi).1
      have ul2 : u.length = i := by
        have := (((ok.bolts i b' hi).gaps g hg).words u hu).1
        unfold manysOf at this
        rw [List.length_map, List.length_take] at this
        omega
      refine List.mem_append_left _ ?_
      unfold dedW
      rw [ded_mem]
      exact .inr (mem_cutList.mpr ⟨i, b', g, u, by omega, hi, hg, hu, rfl⟩)
    · refine List.mem_append_right _ (List.mem_flatMap.mpr ⟨x, ho', ?_⟩)
      unfold cutsOf
      rw [if_pos BO.few]
      exact List.mem_flatMap.mpr ⟨g, hg, List.mem_map.mpr ⟨u, hu, rfl⟩⟩
    · exfalso
      have hg' : g ∈ (itemsD (itD x 1)).map gapD := hg
      obtain ⟨y, hy, rfl⟩ := List.mem_map.mp hg'
      unfold noW at nw
      have z := List.all_eq_true.mp nw y hy
      have hu' : u ∈ (itemsD (itD y 3)).map wdG := hu
      rw [List.isEmpty_iff.mp z] at hu'
      exact absurd hu' List.not_mem_nil
  have c12 := cuts_few ok k
  rw [List.length_append] at sub
  unfold wordsN
  omega
end Wb

set_option Elab.async false
set_option linter.all false
set_option maxRecDepth 100000
set_option maxHeartbeats 4000000
namespace L2
open PySem PySem.Spec PyProof.Rows
/-! ### tuple * int, for none and one too -/
theorem tuple_mul1 (l : Addr) (items : Array Value) (n : Nat) (dd : Option Addr) (sl : Array (Option Value)) (u : Tok) :
    Meets (Builtin.«tuple.__mul__» ⟨[.ref l, .int 1 u], []⟩) (fun _ R s => s.heap.get? l = some { cls := .type "tuple", dict := dd, data := .seq items n, slots := sl } ∧ R (.ok (.ret (Value.ref l))) s) :=
  .of_wp fun prog w A R s h => by
    obtain ⟨hp, g, d, tk, os⟩ := s
    obtain ⟨hl, h⟩ := h
    have f1 := AutoSeq1.idx_int
    have c1 : (items.isEmpty || (1 : Int) == 1) = true := by rw [Bool.or_eq_true]; exact .inr rfl
    wp_walk using wpAny_loadPart' hl
    repeat (first
      | (refine wpAny_ite_true (decide_eq_true c1) ?_; wp_walk using wpAny_loadPart' hl)
      | (refine wpAny_ite_false (decide_eq_false (by decide)) ?_; wp_walk using wpAny_loadPart' hl))
    exact ⟨_, rfl, h⟩
theorem tuple_mul0 (l : Addr) (items : Array Value) (n : Nat) (dd : Option Addr) (sl : Array (Option Value)) (u : Tok) (c1 : (items.isEmpty || (0 : Int) == 1) = false) :
    Meets (Builtin.«tuple.__mul__» ⟨[.ref l, .int 0 u], []⟩) (fun _ R s => s.heap.get? l = some { cls := .type "tuple", dict := dd, data := .seq items n, slots := sl } ∧
      R (.ok (.ret (Value.ref s.heap.objs.size))) { s with heap := s.heap.push { cls := Value.type "tuple", data := Data.seq #[] }, toks := s.toks }) :=
  .of_wp fun prog w A R s h => by
    obtain ⟨hp, g, d, tk, os⟩ := s
    obtain ⟨hl, h⟩ := h
    have f1 := AutoSeq1.idx_int
    have c2 : (decide ((0 : Int) ≤ 0) || items.isEmpty) = true := by rw [Bool.or_eq_true]; exact .inl (by decide)
    have c3 : (#[] : Array Value).size ≤ sizeLine := Nat.zero_le _
    wp_walk using wpAny_loadPart' hl
    repeat (first
      | (refine wpAny_ite_false (decide_eq_false (by decide)) ?_; wp_walk using wpAny_loadPart' hl)
      | (refine wpAny_ite_false (decide_eq_false (by rw [c1]; exact Bool.false_ne_true)) ?_; wp_walk using wpAny_loadPart' hl)
      | (refine wpAny_ite_true (decide_eq_true c2) ?_; wp_walk using wpAny_loadPart' hl)
      | (refine wpAny_ite_false (decide_eq_false (Nat.not_lt.mpr c3)) ?_; wp_walk using wpAny_loadPart' hl))
    exact ⟨_, rfl, h⟩
def rRepN (K : PySem.W.Frag) : R2 := fun x y H Q => ∃ l k xs, x = .ref l ∧ y = .int k ∧ SqT K H l xs ∧ xs ≠ [] ∧ 0 ≤ k ∧ k ≤ 1000 ∧ xs.length ≤ 1000 ∧ (k = 1 → Q (.ref l) H) ∧ (k ≠ 1 → ∀ p, H p = none → Q (.ref p) (upd H p (.tup (List.replicate k.toNat xs).flatten)))
section
variable {X : Cx}
theorem op_repN : OpR X (binaryOp .Mult) (rRepN X.K) := by
  intro pins s σ H x y v u Q I rx ry h
  obtain ⟨l, k, xs, rfl, rfl, hT, hne, h1, h2, hz, q1, q⟩ := h
  by_cases k2 : 2 ≤ k
  · exact op_repT pins s σ H _ _ v u Q I rx ry ⟨l, k, xs, rfl, rfl, hT, hne, k2, h2, hz, q (by omega)⟩
  cases rx
  obtain ⟨t, rfl⟩ := ry
  obtain ⟨its, r, ⟨⟨cls, dd, data, sl⟩, ho, hc, n, hd⟩, hs⟩ := I.tuple hT
  simp only at hc hd
  subst hc hd
  have hle : its.length = xs.length := r.length.symm
  have hn : its ≠ [] := fun e => hne (by
    rw [e] at hle
    exact List.eq_nil_of_length_eq_zero hle.symm)
  have hi : its.toArray.isEmpty = false := by
    cases its with
    | nil => exact absurd rfl hn
    | cons a b => rfl
  by_cases k1 : k = 1
  · subst k1
    refine wpAny_binaryOp_repeat_ref (T := "tuple") (U := "int") (by decide) ⟨_, ho, rfl⟩ (fun s' => typeIs_int s' 1 t) noFill_tuple_mul F.fills_int_mul F.slot_int_rmul repeat_tuple F.slot_int_index.lookup
      (call_meets F.slot_int_rmul (typeIs_int s 1 t) F.entry_int_rmul (F.args_int_rmul_2 _ _) (int_rmul_tuple 1 t l its.toArray n dd sl)
        ⟨ho, rfl, ⟨_, ho, rfl⟩, call_meets F.slot_tuple_mul ⟨_, ho, rfl⟩ F.entry_tuple_mul (F.args_tuple_mul_2 _ _) (tuple_mul1 l its.toArray n dd sl t) ⟨ho, ?_⟩⟩)
    exact ⟨.ref l, H, I, rfl, q1 rfl⟩
  · have k0 : k = 0 := by omega
    subst k0
    refine wpAny_binaryOp_repeat_ref (T := "tuple") (U := "int") (by decide) ⟨_, ho, rfl⟩ (fun s' => typeIs_int s' 0 t) noFill_tuple_mul F.fills_int_mul F.slot_int_rmul repeat_tuple F.slot_int_index.lookup
      (call_meets F.slot_int_rmul (typeIs_int s 0 t) F.entry_int_rmul (F.args_int_rmul_2 _ _) (int_rmul_tuple 0 t l its.toArray n dd sl)
        ⟨ho, rfl, ⟨_, ho, rfl⟩, call_meets F.slot_tuple_mul ⟨_, ho, rfl⟩ F.entry_tuple_mul (F.args_tuple_mul_2 _ _) (tuple_mul0 l its.toArray n dd sl t (by rw [hi]; rfl)) ⟨ho, ?_⟩⟩)
    refine ⟨.ref s.heap.objs.size, _, I.laid (t' := s.toks) (o := .tup (List.replicate (0 : Int).toNat xs).flatten) (fun b ob q => Heap.get?_push_of_some _ q) (Nat.le_refl _) ?_, rfl, q (by decide) _ (I.hok.fresh (Nat.le_refl _))⟩
    exact ⟨Nat.zero_le _, [], .nil, IsTup.new _ _⟩
end
end L2

set_option Elab.async false
set_option linter.all false
set_option maxRecDepth 100000
set_option maxHeartbeats 4000000
set_option pp.maxSteps 600
set_option pp.deepTerms false
namespace Wb
open PySem PySem.Spec PyProof.Rows L2
/-! ### what expressions tell: data, whatever more stands in the heap -/
/-- from H1 to H2 the heap grows, and so does what things lean on, G to G2: by new things alone -/
structure Fr (G H1 G2 H2 : Hp) : Prop where
  g : Evl.Ex G G2
  gh : Evl.Ex G2 H2
  h : Evl.Ex H1 H2
  new : ∀ a, G a = none → H1 a ≠ none → G2 a = none
section
variable {G H1 G2 H2 G3 H3 : Hp}
theorem Fr.refl (e : Evl.Ex G H1) : Fr G H1 G H1 := ⟨Evl.Ex.refl G, e, Evl.Ex.refl H1, fun _ h _ => h⟩
theorem Fr.trans (a : Fr G H1 G2 H2) (b : Fr G2 H2 G3 H3) : Fr G H1 G3 H3 := ⟨a.g.trans b.g, b.gh, a.h.trans b.h, fun x h n => b.new x (a.new x h n) fun z => n (by
  cases e : H1 x with
  | none => rfl
  | some o => rw [a.h x o e] at z; cases z)⟩
theorem ex_none {p : Addr} (e : Evl.Ex G H1) (n : H1 p = none) : G p = none := by
  cases z : G p with
  | none => rfl
  | some o => rw [e p o z] at n; cases n
theorem Fr.put {p : Addr} {o : HO} (e : Evl.Ex G H1) (n : H1 p = none) : Fr G H1 (upd G p o) (upd H1 p o) := by
  have gp := ex_none e n
  refine ⟨Evl.Ex.new gp, fun a u h => ?_, Evl.Ex.new n, fun a h k => ?_⟩
  · by_cases z : a = p
    · subst z
      rw [upd_same] at h ⊢
      exact h
    · rw [upd_ne z] at h ⊢
      exact e a u h
  · have z : a ≠ p := fun z => k (by rw [z]; exact n)
    rw [upd_ne z]
    exact h
end
def YS (K : PySem.W.Frag) (t : TE) (σ : L2.St) (H : Hp) (d : PyData) : Prop := ∀ G H1, Evl.Ex H G → Evl.Ex G H1 → ∀ Q : VK, (∀ v G2 H2, Fr G H1 G2 H2 → Th K G2 v d → Q v H2) → t σ H1 Q
def YL (K : PySem.W.Frag) (t : TA) (σ : L2.St) (H : Hp) (ds : List PyData) : Prop := ∀ G H1, Evl.Ex H G → Evl.Ex G H1 → ∀ Q : List V → Hp → Prop, (∀ vs G2 H2, Fr G H1 G2 H2 → ThAll K G2 vs ds → Q vs H2) → t σ H1 Q
section
variable {K : PySem.W.Frag} {σ : L2.St} {H H' : Hp} {t ta tb tc : TE} {d : PyData} {ds es : List PyData}
theorem ThAll.ex (e : Evl.Ex H H') {vs : List V} (h : ThAll K H vs ds) : ThAll K H' vs ds := h.keep (TK.ex e)
theorem YS.ex (h : YS K t σ H d) (e : Evl.Ex H H') : YS K t σ H' d := fun G H1 e1 => h G H1 (e.trans e1)
theorem YS.run (h : YS K t σ H d) {Q : VK} (q : ∀ v H2, Evl.Ex H H2 → Th K H2 v d → Q v H2) : t σ H Q := h H H (Evl.Ex.refl H) (Evl.Ex.refl H) Q fun v _ H2 f hv => q v H2 f.h (hv.ex f.gh)
theorem y_int (i : Int) : YS K (tC (.int i)) σ H (.int i) := fun _ _ _ e Q q => q _ _ _ (Fr.refl e) (.int i)
theorem y_bl (b : Bool) : YS K (tC (.bl b)) σ H (.bool b) := fun _ _ _ e Q q => q _ _ _ (Fr.refl e) (.bl b)
theorem y_non : YS K (tC .non) σ H .none := fun _ _ _ e Q q => q _ _ _ (Fr.refl e) .non
theorem y_str (x : Str) : YS K (tC (.str x)) σ H (.str x) := fun _ _ _ e Q q => q _ _ _ (Fr.refl e) (.str x)
theorem y_var {i : Nat} {v : V} (h : σ[i]? = some (some v)) (hd : Th K H v d) : YS K (tVar i) σ H d := fun _ _ e0 e Q q => ⟨v, h, q _ _ _ (Fr.refl e) (hd.ex e0)⟩
theorem yl_nil : YL K tNil σ H [] := fun _ _ _ e Q q => q _ _ _ (Fr.refl e) .nil
theorem yl_cons {tr : TA} (a : YS K ta σ H d) (b : YL K tr σ H ds) : YL K (tCons ta tr) σ H (d :: ds) := fun G H1 e0 e Q q =>
  a G H1 e0 e _ fun v G2 H2 f2 hv => b G2 H2 (e0.trans f2.g) f2.gh _ fun vs G3 H3 f3 hvs => q _ _ _ (f2.trans f3) (.cons (hv.ex f3.g) hvs)
theorem ThAll.len {vs : List V} (h : ThAll K H vs ds) : vs.length = ds.length := Paired.len h.paired
theorem y_tup {tr : TA} (h : YL K tr σ H ds) (n : ds.length ≤ sizeLine := by decide) : YS K (tTup tr) σ H (.tuple ds) := fun G H1 e0 e Q q =>
  h G H1 e0 e _ fun vs G2 H2 f2 hvs => ⟨by rw [hvs.len]; exact n, fun p np => q _ _ _ (f2.trans (Fr.put f2.gh np)) (.tup upd_same (hvs.ex (Fr.put f2.gh np).g))⟩
theorem y_lst {tr : TA} (h : YL K tr σ H ds) (n : ds.length ≤ sizeLine := by decide) : YS K (tLst tr) σ H (.list ds) := fun G H1 e0 e Q q =>
  h G H1 e0 e _ fun vs G2 H2 f2 hvs => ⟨by rw [hvs.len]; exact n, fun p np => q _ _ _ (f2.trans (Fr.put f2.gh np)) (.lst upd_same (hvs.ex (Fr.put f2.gh np).g))⟩
theorem th_int {v : V} {i : Int} (h : Th K H v (.int i)) : v = .int i := by cases h; rfl
theorem y_neg {i : Int} (h : YS K t σ H (.int i)) : YS K (tUn (rU fun i => .int (-i)) t) σ H (.int (-i)) := fun G H1 e0 e Q q =>
  h G H1 e0 e _ fun v G2 H2 f2 hv => ⟨i, th_int hv, q _ _ _ f2 (.int _)⟩
theorem y_op {C : Int → Int → Prop} {g : Int → Int → Int} {i j : Int} (a : YS K ta σ H (.int i)) (b : YS K tb σ H (.int j)) (c : C i j) : YS K (tOp (rI C fun i j => .int (g i j)) ta tb) σ H (.int (g i j)) := fun G H1 e0 e Q q =>
  a G H1 e0 e _ fun v G2 H2 f2 hv => b G2 H2 (e0.trans f2.g) f2.gh _ fun u G3 H3 f3 hu => ⟨i, j, th_int hv, th_int hu, c, q _ _ _ (f2.trans f3) (.int _)⟩
theorem y_op0 {g : Int → Int → Int} {i j : Int} (a : YS K ta σ H (.int i)) (b : YS K tb σ H (.int j)) : YS K (tOp (rI0 fun i j => .int (g i j)) ta tb) σ H (.int (g i j)) := fun G H1 e0 e Q q =>
  a G H1 e0 e _ fun v G2 H2 f2 hv => b G2 H2 (e0.trans f2.g) f2.gh _ fun u G3 H3 f3 hu => ⟨i, j, th_int hv, th_int hu, q _ _ _ (f2.trans f3) (.int _)⟩
theorem y_pow {i j : Int} (a : YS K ta σ H (.int i)) (b : YS K tb σ H (.int j)) (c : CPow i j) : YS K (tOp (rI CPow fun i j => .int (i ^ j.toNat)) ta tb) σ H (.int (i ^ j.toNat)) := y_op (g := fun i j => i ^ j.toNat) a b c
theorem y_add {i j : Int} (a : YS K ta σ H (.int i)) (b : YS K tb σ H (.int j)) : YS K (tOp (rI0 fun i j => .int (i + j)) ta tb) σ H (.int (i + j)) := y_op0 (g := fun i j => i + j) a b
theorem y_sub {i j : Int} (a : YS K ta σ H (.int i)) (b : YS K tb σ H (.int j)) : YS K (tOp (rI0 fun i j => .int (i - j)) ta tb) σ H (.int (i - j)) := y_op0 (g := fun i j => i - j) a b
theorem y_fdiv {i j : Int} (a : YS K ta σ H (.int i)) (b : YS K tb σ H (.int j)) (c : CDiv i j) : YS K (tOp (rI CDiv fun i j => .int (i / j)) ta tb) σ H (.int (i / j)) := y_op (g := fun i j => i / j) a b c
theorem y_mod {i j : Int} (a : YS K ta σ H (.int i)) (b : YS K tb σ H (.int j)) (c : 0 < j) : YS K (tOp (rI (fun _ j => 0 < j) fun i j => .int (i % j)) ta tb) σ H (.int (i % j)) := y_op (C := fun _ j => 0 < j) (g := fun i j => i % j) a b c
theorem y_mul {i j : Int} (a : YS K ta σ H (.int i)) (b : YS K tb σ H (.int j)) (c : CMul i j) : YS K (tOp (rI CMul fun i j => .int (i * j)) ta tb) σ H (.int (i * j)) := y_op (g := fun i j => i * j) a b c
theorem Th.lstS {v : V} (h : Th K H v (.list ds)) : ∃ a xs, v = .ref a ∧ H a = some (.lst xs) ∧ ThAll K H xs ds := by
  cases h with
  | lst h a => exact ⟨_, _, rfl, h, a⟩
theorem Th.tupS {v : V} (h : Th K H v (.tuple ds)) : ∃ a xs, v = .ref a ∧ H a = some (.tup xs) ∧ ThAll K H xs ds := by
  cases h with
  | tup h a => exact ⟨_, _, rfl, h, a⟩
theorem ThAll.app {xs ys : List V} (a : ThAll K H xs ds) (b : ThAll K H ys es) : ThAll K H (xs ++ ys) (ds ++ es) := thAll (Paired.app a.paired b.paired)
theorem y_cat (a : YS K ta σ H (.list ds)) (b : YS K tb σ H (.list es)) (n : ds.length + es.length ≤ sizeLine := by decide) : YS K (tOp rCat ta tb) σ H (.list (ds ++ es)) := fun G H1 e0 e Q q =>
  a G H1 e0 e _ fun v G2 H2 f2 hv => b G2 H2 (e0.trans f2.g) f2.gh _ fun u G3 H3 f3 hu => by
    obtain ⟨x, xs, rfl, hx, hxs⟩ := (hv.ex f3.g).lstS
    obtain ⟨y, ys, rfl, hy, hys⟩ := hu.lstS
    exact ⟨x, y, xs, ys, rfl, rfl, f3.gh _ _ hx, f3.gh _ _ hy, by rw [hxs.len, hys.len]; exact n, fun p np => q _ _ _ ((f2.trans f3).trans (Fr.put f3.gh np)) (.lst upd_same ((hxs.app hys).ex (Fr.put f3.gh np).g))⟩
theorem y_catA (a : YS K ta σ H (.tuple ds)) (b : YS K tb σ H (.tuple es)) (n : ds.length + es.length ≤ sizeLine := by decide) : YS K (tOp (rCatA K) ta tb) σ H (.tuple (ds ++ es)) := fun G H1 e0 e Q q =>
  a G H1 e0 e _ fun v G2 H2 f2 hv => b G2 H2 (e0.trans f2.g) f2.gh _ fun u G3 H3 f3 hu => by
    obtain ⟨x, xs, rfl, hx, hxs⟩ := (hv.ex f3.g).tupS
    obtain ⟨y, ys, rfl, hy, hys⟩ := hu.tupS
    refine ⟨x, y, xs, ys, rfl, rfl, .inl (.inl (f3.gh _ _ hx)), .inl (.inl (f3.gh _ _ hy)), by rw [hxs.len, hys.len]; exact n, fun z => ?_, fun _ z => ?_, fun _ _ p np => ?_⟩
    · subst z
      cases hxs
      exact q _ _ _ (f2.trans f3) (.tup hy hys)
    · subst z
      cases hys
      rw [List.append_nil] at q
      exact q _ _ _ (f2.trans f3) (.tup hx hxs)
    · exact q _ _ _ ((f2.trans f3).trans (Fr.put f3.gh np)) (.tup upd_same ((hxs.app hys).ex (Fr.put f3.gh np).g))
theorem ThAll.reps {xs : List V} (h : ThAll K H xs ds) : ∀ m : Nat, ThAll K H (List.replicate m xs).flatten (List.replicate m ds).flatten
  | 0 => .nil
  | m + 1 => by
    rw [List.replicate_succ, List.replicate_succ, List.flatten_cons, List.flatten_cons]
    exact h.app (ThAll.reps h m)
theorem y_rep {k : Int} (a : YS K ta σ H (.list ds)) (b : YS K tb σ H (.int k)) (h0 : -(2 ^ 63) ≤ k) (h1 : k < 2 ^ 63) (n : ds.length * k.toNat ≤ sizeLine) : YS K (tOp rRep ta tb) σ H (.list (List.replicate k.toNat ds).flatten) := fun G H1 e0 e Q q =>
  a G H1 e0 e _ fun v G2 H2 f2 hv => b G2 H2 (e0.trans f2.g) f2.gh _ fun u G3 H3 f3 hu => by
    obtain ⟨x, xs, rfl, hx, hxs⟩ := (hv.ex f3.g).lstS
    exact ⟨x, k, xs, rfl, th_int hu, f3.gh _ _ hx, h0, h1, by rw [hxs.len]; exact n, fun p np => q _ _ _ ((f2.trans f3).trans (Fr.put f3.gh np)) (.lst upd_same ((hxs.reps _).ex (Fr.put f3.gh np).g))⟩
theorem y_repN {k : Int} (a : YS K ta σ H (.tuple ds)) (b : YS K tb σ H (.int k)) (ne : ds ≠ []) (h0 : 0 ≤ k) (h1 : k ≤ 1000) (n : ds.length ≤ 1000) : YS K (tOp (rRepN K) ta tb) σ H (.tuple (List.replicate k.toNat ds).flatten) := fun G H1 e0 e Q q =>
  a G H1 e0 e _ fun v G2 H2 f2 hv => b G2 H2 (e0.trans f2.g) f2.gh _ fun u G3 H3 f3 hu => by
    obtain ⟨x, xs, rfl, hx, hxs⟩ := (hv.ex f3.g).tupS
    refine ⟨x, k, xs, rfl, th_int hu, .inl (.inl (f3.gh _ _ hx)), fun z => ne ?_, h0, h1, by rw [hxs.len]; exact n, fun z => ?_, fun _ p np => q _ _ _ ((f2.trans f3).trans (Fr.put f3.gh np)) (.tup upd_same ((hxs.reps _).ex (Fr.put f3.gh np).g))⟩
    · subst z
      cases hxs
      rfl
    · subst z
      have e1 : (List.replicate (1 : Int).toNat ds).flatten = ds := by
        show ds ++ [] = ds
        exact List.append_nil ds
      rw [e1] at q
      exact q _ _ _ (f2.trans f3) (.tup hx hxs)
/-- a part of a tuple's data -/
def cutD (ds : List PyData) (lo hi : Option Int) : List PyData := (ds.drop (HT.sIx ds.length 0 lo)).take (HT.sIx ds.length ds.length hi - HT.sIx ds.length 0 lo)
theorem cut_paired {α β : Type} {R : α → β → Prop} {xs : List α} {ys : List β} (h : Paired R xs ys) (a b : Nat) : Paired R ((xs.drop a).take b) ((ys.drop a).take b) := Paired.takeN b (paired_drop a h)
theorem ThAll.cut {xs : List V} (h : ThAll K H xs ds) (lo hi : Option Int) : ThAll K H (cutV xs lo hi) (cutD ds lo hi) := by
  unfold cutV cutD
  rw [h.len]
  exact thAll (cut_paired h.paired _ _)
/-- an end of a slice -/
def YO (K : PySem.W.Frag) (t : TO) (σ : L2.St) (H : Hp) (o : Option Int) : Prop := ∀ G H1, Evl.Ex H G → Evl.Ex G H1 → ∀ Q : Option Int → Hp → Prop, (∀ G2 H2, Fr G H1 G2 H2 → Q o H2) → t σ H1 Q
theorem yo_none : YO K tNoPart σ H none := fun _ _ _ e Q q => q _ _ (Fr.refl e)
theorem yo_some {i : Int} (h : YS K t σ H (.int i)) : YO K (tPart t) σ H (some i) := fun G H1 e0 e Q q => h G H1 e0 e _ fun v G2 H2 f2 hv => ⟨i, th_int hv, q G2 H2 f2⟩
theorem y_slice {lo hi : Option Int} {tl th : TO} (a : YS K t σ H (.tuple ds)) (b : YO K tl σ H lo) (c : YO K th σ H hi) : YS K (tSl (rSlA K) t tl th) σ H (.tuple (cutD ds lo hi)) := fun G H1 e0 e Q q =>
  a G H1 e0 e _ fun v G2 H2 f2 hv => b G2 H2 (e0.trans f2.g) f2.gh _ fun G3 H3 f3 => c G3 H3 ((e0.trans f2.g).trans f3.g) f3.gh _ fun G4 H4 f4 => by
    obtain ⟨x, xs, rfl, hx, hxs⟩ := (hv.ex (f3.g.trans f4.g)).tupS
    have f14 := f2.trans (f3.trans f4)
    refine ⟨x, xs, rfl, .inl (.inl (f4.gh _ _ hx)), fun z => ?_, fun _ p np => ?_⟩
    · have zz := hxs.cut lo hi
      rw [cutV_whole z] at zz
      exact q _ _ _ f14 (.tup hx zz)
    · exact q _ _ _ (f14.trans (Fr.put f4.gh np)) (.tup upd_same ((hxs.cut lo hi).ex (Fr.put f4.gh np).g))
theorem ThAll.rev {xs : List V} (h : ThAll K H xs ds) : ThAll K H xs.reverse ds.reverse := by
  have aux : ∀ {xs : List V} {ds : List PyData}, Paired (Th K H) xs ds → Paired (Th K H) xs.reverse ds.reverse := by
    intro xs ds p
    induction p with
    | nil => exact .nil
    | cons r _ ih =>
      rw [List.reverse_cons, List.reverse_cons]
      exact Paired.app ih (.cons r .nil)
  exact thAll (aux h.paired)
theorem y_back (a : YS K t σ H (.tuple ds)) : YS K (tBack K t) σ H (.tuple ds.reverse) := fun G H1 e0 e Q q =>
  a G H1 e0 e _ fun v G2 H2 f2 hv => by
    obtain ⟨x, xs, rfl, hx, hxs⟩ := hv.tupS
    exact ⟨x, xs, rfl, .inl (.inl (f2.gh _ _ hx)), fun p np => q _ _ _ (f2.trans (Fr.put f2.gh np)) (.tup upd_same (hxs.rev.ex (Fr.put f2.gh np).g))⟩
def rListOf (K : PySem.W.Frag) : List V → Hp → VK → Prop := fun xs H Q => ∃ p ys, xs = [.ref p] ∧ (SqL K H p ys ∨ SqT K H p ys) ∧ ∀ l, H l = none → Q (.ref l) (upd H l (.lst ys))
theorem call_listOf {X : Cx} : CallR X (.type "list") (rListOf X.K) := call_list_of
theorem y_list (a : YS K t σ H (.tuple ds)) : YS K (tCB (rListOf K) (tCons t tNil)) σ H (.list ds) := fun G H1 e0 e Q q =>
  a G H1 e0 e _ fun v G2 H2 f2 hv => by
    obtain ⟨x, xs, rfl, hx, hxs⟩ := hv.tupS
    exact ⟨x, xs, rfl, .inr (.inl (.inl (f2.gh _ _ hx))), fun p np => q _ _ _ (f2.trans (Fr.put f2.gh np)) (.lst upd_same (hxs.ex (Fr.put f2.gh np).g))⟩
theorem y_tupOf (a : YS K t σ H (.list ds)) : YS K (tCB (rTupK K) (tCons t tNil)) σ H (.tuple ds) := fun G H1 e0 e Q q =>
  a G H1 e0 e _ fun v G2 H2 f2 hv => by
    obtain ⟨x, xs, rfl, hx, hxs⟩ := hv.lstS
    exact ⟨x, xs, rfl, .inl ⟨.inl (.inl (f2.gh _ _ hx)), fun p np => q _ _ _ (f2.trans (Fr.put f2.gh np)) (.tup upd_same (hxs.ex (Fr.put f2.gh np).g))⟩⟩
/-- [e for x in a list] -/
theorem y_lc {i : Nat} {vs : List Nat} {te : TE} {f : PyData → PyData} (a : YS K ta σ H (.list ds)) (hw : ∀ x, wipe ((wipe σ vs).set i (some x)) vs = wipe σ vs) (n : ds.length ≤ sizeLine)
    (b : ∀ v d H1, d ∈ ds → Evl.Ex H H1 → Th K H1 v d → YS K te ((wipe σ vs).set i (some v)) H1 (f d)) : YS K (tLc (iList K ta) (gName i) tYes te vs) σ H (.list (ds.map f)) := fun G H1 e0 e Q q =>
  a G H1 e0 e _ fun v G2 H2 f2 hv => by
    obtain ⟨x, xs, rfl, hx, hxs⟩ := hv.lstS
    have hx2 := f2.gh _ _ hx
    refine ⟨x, rfl, ⟨xs, .inl (.inl hx2)⟩, fun D hD => ?_⟩
    have gD := ex_none f2.gh hD
    refine lc_list (K := K) (a := x) (xs := xs) (fun m H' => ∃ G' ys, Evl.Ex H2 H' ∧ Evl.Ex G2 G' ∧ Evl.Ex G' H' ∧ G' D = none ∧ (∀ a, G2 a = none → H2 a ≠ none → G' a = none) ∧ H' D = some (.lst ys) ∧ ThAll K G' ys ((ds.take m).map f))
      ⟨G2, [], Evl.Ex.new hD, Evl.Ex.refl G2, f2.gh.trans (Evl.Ex.new hD), gD, fun a h _ => h, upd_same, .nil⟩ ?_ ?_ ?_
    · rintro m H' _ ⟨_, _, e', _⟩
      exact .inl (.inl (e' _ _ hx2))
    · rintro m v H3 hm ⟨G3, ys, h23, g23, gh3, g3D, nw3, hy, hys⟩
      obtain ⟨d, hd, hth⟩ := Paired.get1 hxs.paired hm
      refine ⟨hw v, ?_⟩
      refine tyes1 ?_
      have ml : m < ds.length := (List.getElem?_eq_some_iff.mp hd).1
      refine b v d G3 (List.mem_of_getElem? hd) ((e0.trans f2.g).trans g23) (hth.ex g23) G3 H3 (Evl.Ex.refl G3) gh3 _ fun y G4 H4 f4 hy4 => ?_
      have yl : ys.length = m := by
        rw [hys.len, List.length_map, List.length_take]
        omega
      have hD4 := f4.h _ _ hy
      have g4D : G4 D = none := f4.new D g3D (by rw [hy]; exact fun z => nomatch z)
      refine ⟨ys, hD4, by rw [yl]; exact Nat.lt_of_lt_of_le ml n, G4, ys ++ [y], (h23.trans f4.h).mut hD, g23.trans f4.g, fun a o h => ?_, g4D, fun a h k => ?_, upd_same, ?_⟩
      · have z : a ≠ D := fun z => by rw [z, g4D] at h; cases h
        rw [upd_ne z]
        exact f4.gh a o h
      · refine f4.new a (nw3 a h k) fun z => k ?_
        cases ea : H2 a with
        | none => rfl
        | some o => rw [h23 a o ea] at z; cases z
      · rw [take_succ_get hd, List.map_append]
        exact (hys.ex f4.g).app (.cons hy4 .nil)
    · rintro H3 ⟨G3, ys, h23, g23, gh3, g3D, nw3, hy, hys⟩
      rw [hxs.len, List.take_length] at hys
      refine q _ (upd G3 D (.lst ys)) H3 (f2.trans ⟨g23.trans (Evl.Ex.new g3D), fun a o h => ?_, h23, fun a h k => ?_⟩) (.lst upd_same (hys.ex (Evl.Ex.new g3D)))
      · by_cases z : a = D
        · subst z
          rw [upd_same] at h
          cases h
          exact hy
        · rw [upd_ne z] at h
          exact gh3 a o h
      · have z : a ≠ D := fun z => k (by rw [z]; exact hD)
        rw [upd_ne z]
        exact nw3 a h k
/-! ### a list of things that is still made longer -/
def Raw (K : PySem.W.Frag) (B H : Hp) (a : Addr) (ds : List PyData) : Prop := ∃ G vs, Evl.Ex B G ∧ Evl.Ex G H ∧ B a = none ∧ G a = none ∧ H a = some (.lst vs) ∧ ThAll K G vs ds
theorem raw_lst {B : Hp} {tr : TA} {Q : VK} (h : YL K tr σ B ds) (e : Evl.Ex B H) (n : ds.length ≤ sizeLine) (q : ∀ a H2, Evl.Ex H H2 → Raw K B H2 a ds → Q (.ref a) H2) : tLst tr σ H Q :=
  h B H (Evl.Ex.refl B) e _ fun vs G2 H2 f2 hvs => ⟨by rw [hvs.len]; exact n, fun p np => q p _ (f2.h.trans (Evl.Ex.new np)) ⟨G2, vs, f2.g, f2.gh.trans (Evl.Ex.new np), ex_none f2.g (ex_none f2.gh np), ex_none f2.gh np, upd_same, hvs⟩⟩
theorem Raw.base {B : Hp} {a : Addr} (h : Raw K B H a ds) : Evl.Ex B H := by
  obtain ⟨G, vs, h1, h2, _⟩ := h
  exact h1.trans h2
theorem Raw.ex {B : Hp} {a : Addr} (h : Raw K B H a ds) (e : Evl.Ex H H') : Raw K B H' a ds := by
  obtain ⟨G, vs, h1, h2, h3, h4, h5, h6⟩ := h
  exact ⟨G, vs, h1, h2.trans e, h3, h4, e _ _ h5, h6⟩
theorem Raw.th {B : Hp} {a : Addr} (h : Raw K B H a ds) : Th K H (.ref a) (.list ds) := by
  obtain ⟨G, vs, h1, h2, h3, h4, h5, h6⟩ := h
  exact .lst h5 (h6.ex h2)
/-- a thing told, and put to the list -/
theorem Raw.put {B : Hp} {a : Addr} {Q : VK} (h : Raw K B H a ds) (y : YS K t σ B d) (n : ds.length < sizeLine) (q : ∀ H2, Evl.Ex B H2 → Raw K B H2 a (ds ++ [d]) → Q .non H2) : t σ H fun v H2 => rAppend (.ref a) [v] H2 Q := by
  obtain ⟨G, vs, h1, h2, h3, h4, h5, h6⟩ := h
  refine y G H h1 h2 _ fun v G2 H2 f2 hv => ?_
  have g2 : G2 a = none := f2.new a h4 (by rw [h5]; exact fun z => nomatch z)
  have gh : Evl.Ex G2 (upd H2 a (.lst (vs ++ [v]))) := fun b o z => by
    have nb : b ≠ a := fun e => by rw [e, g2] at z; cases z
    rw [upd_ne nb]
    exact f2.gh b o z
  have bh := (h1.trans f2.g).trans gh
  exact ⟨a, vs, v, rfl, rfl, f2.h _ _ h5, by rw [h6.len]; exact n, q _ bh ⟨G2, vs ++ [v], h1.trans f2.g, gh, h3, g2, upd_same, (h6.ex f2.g).app (.cons hv .nil)⟩⟩
/-- the list and things more, a new one -/
theorem Raw.cat {B : Hp} {a : Addr} {i : Nat} {tr : TA} {Q : VK} (h : Raw K B H a ds) (hi : σ[i]? = some (some (.ref a))) (y : YL K tr σ B es) (m : es.length ≤ sizeLine) (n : ds.length + es.length ≤ sizeLine) (q : ∀ b H2, Evl.Ex H H2 → Raw K B H2 b (ds ++ es) → Q (.ref b) H2) : tOp rCat (tVar i) (tLst tr) σ H Q := by
  obtain ⟨G, vs, h1, h2, h3, h4, h5, h6⟩ := h
  refine ⟨.ref a, hi, ?_⟩
  refine y G H h1 h2 _ fun us G2 H2 f2 hus => ⟨by rw [hus.len]; exact m, fun p np => ?_⟩
  have e3 := Evl.Ex.new (o := .lst us) np
  refine ⟨a, p, vs, us, rfl, rfl, e3 _ _ (f2.h _ _ h5), upd_same, by rw [h6.len, hus.len]; exact n, fun r nr => ?_⟩
  have e4 := Evl.Ex.new (o := .lst (vs ++ us)) nr
  have gh := f2.gh.trans (e3.trans e4)
  refine q r _ (f2.h.trans (e3.trans e4)) ⟨G2, vs ++ us, h1.trans f2.g, gh, ex_none (h1.trans (f2.g.trans (f2.gh.trans e3))) nr, ex_none (f2.gh.trans e3) nr, upd_same, (h6.ex f2.g).app hus⟩
end
theorem Raw.at_ {K : PySem.W.Frag} {B H : Hp} {a : Addr} {ds : List PyData} (h : Raw K B H a ds) : ∃ vs, H a = some (.lst vs) := by
  obtain ⟨G, vs, h1, h2, h3, h4, h5, h6⟩ := h
  exact ⟨vs, h5⟩
/-- two tuples put together -/
theorem catA_th {K : PySem.W.Frag} {H : Hp} {v u : V} {ds es : List PyData} {Q : VK} (hv : Th K H v (.tuple ds)) (hu : Th K H u (.tuple es)) (n : ds.length + es.length ≤ sizeLine) (q : ∀ w H2, Evl.Ex H H2 → Th K H2 w (.tuple (ds ++ es)) → Q w H2) : rCatA K v u H Q := by
  obtain ⟨x, xs, rfl, hx, hxs⟩ := hv.tupS
  obtain ⟨y, ys, rfl, hy, hys⟩ := hu.tupS
  refine ⟨x, y, xs, ys, rfl, rfl, .inl (.inl hx), .inl (.inl hy), by rw [hxs.len, hys.len]; exact n, fun z => ?_, fun _ z => ?_, fun _ _ p np => ?_⟩
  · subst z
    cases hxs
    exact q _ _ (Evl.Ex.refl H) (.tup hy hys)
  · subst z
    cases hys
    rw [List.append_nil] at q
    exact q _ _ (Evl.Ex.refl H) (.tup hx hxs)
  · exact q _ _ (Evl.Ex.new np) (.tup upd_same ((hxs.app hys).ex (Evl.Ex.new np)))
theorem cutD_take (ds : List PyData) {k : Nat} (h : k ≤ ds.length) : cutD ds none (some (k : Int)) = ds.take k := by
  unfold cutD
  rw [HT.sIx_none, HT.sIx_nat, List.drop_zero, Nat.sub_zero, Nat.min_eq_left h]
theorem cutD_drop (ds : List PyData) {k : Nat} (h : k ≤ ds.length) : cutD ds (some (k : Int)) none = ds.drop k := by
  unfold cutD
  rw [HT.sIx_none, HT.sIx_nat, Nat.min_eq_left h, List.take_of_length_le]
  rw [List.length_drop]
  omega
/-! the shapes of statements -/
theorem op1 {r : R2} {ta tb : TE} {σ : L2.St} {H : Hp} {Q : VK} (h : ta σ H fun x H1 => tb σ H1 fun y H2 => r x y H2 Q) : tOp r ta tb σ H Q := h
theorem tup1 {t : TA} {σ : L2.St} {H : Hp} {Q : VK} (h : t σ H fun xs H1 => xs.length ≤ sizeLine ∧ ∀ p, H1 p = none → Q (.ref p) (upd H1 p (.tup xs))) : tTup t σ H Q := h
theorem ret1 {te : TE} {D : Ends} {σ : L2.St} {H : Hp} (h : te σ H D.rt) : tRet te D σ H := h
theorem st_set {i : Nat} {te : TE} {u : TS} {D : Ends} {σ : L2.St} {H : Hp} (h : te σ H fun x H1 => u D (σ.set i (some x)) H1) : tSeq (tAsg te (gName i)) u D σ H := h
theorem st_drop {te : TE} {u : TS} {D : Ends} {σ : L2.St} {H : Hp} (h : te σ H fun _ H1 => u D σ H1) : tSeq (tDrop te) u D σ H := h
end Wb

set_option Elab.async false
set_option linter.all false
set_option maxRecDepth 100000
set_option maxHeartbeats 4000000
set_option pp.maxSteps 600
set_option pp.deepTerms false
namespace Wb
open PySem PySem.Spec PyProof.Rows L2
/-! ### small things -/
structure Fd (n m : Nat) (d : PyData) : Prop where
  good : good 200 d = true
  wt : wt d ≤ n
  dep : d.depth ≤ m
structure FdL (n m : Nat) (ds : List PyData) : Prop where
  good : goodAll 200 ds = true
  wt : wtAll ds ≤ n
  dep : PyData.depthAll ds ≤ m
theorem fd_int {i : Int} (h0 : -100000000 ≤ i) (h1 : i ≤ 100000000) : Fd 40 0 (.int i) := by
  have z : i.natAbs < 2 ^ (30 + 1) := Nat.lt_of_le_of_lt (show i.natAbs ≤ 100000000 by omega) (by decide)
  have := lg_le z
  refine ⟨?_, ?_, by simp only [PyData.depth]; omega⟩
  · simp only [Wb.good, decide_eq_true_eq]
    omega
  · simp only [Wb.wt]
    omega
theorem fd_bl (b : Bool) : Fd 40 0 (.bool b) := ⟨by simp only [Wb.good], by simp only [Wb.wt]; omega, by simp only [PyData.depth]; omega⟩
theorem fd_non : Fd 40 0 .none := ⟨by simp only [Wb.good], by simp only [Wb.wt]; omega, by simp only [PyData.depth]; omega⟩
theorem fd_str {x : Str} (h : good 200 (.str x) = true) (n : wt (.str x) ≤ 40) : Fd 40 0 (.str x) := ⟨h, n, by simp only [PyData.depth]; omega⟩
theorem fdl_nil : FdL 0 0 [] := ⟨rfl, Nat.le_refl _, Nat.le_refl _⟩
theorem fdl_cons {n m n' m' : Nat} {d : PyData} {ds : List PyData} (h : Fd n m d) (t : FdL n' m' ds) : FdL (n + 2 + n') (max m m') (d :: ds) := by
  refine ⟨by simp only [goodAll, h.good, t.good, Bool.and_self], ?_, ?_⟩
  · have := h.wt
    have := t.wt
    simp only [wtAll]
    omega
  · have := h.dep
    have := t.dep
    simp only [PyData.depthAll]
    omega
theorem fd_tup {n m : Nat} {ds : List PyData} (h : FdL n m ds) : Fd (n + 5) (m + 1) (.tuple ds) := by
  refine ⟨by simp only [Wb.good]; exact h.good, ?_, ?_⟩
  · have := h.wt
    simp only [Wb.wt]
    omega
  · have := h.dep
    simp only [PyData.depth]
    omega
theorem fd_lst {n m : Nat} {ds : List PyData} (h : FdL n m ds) : Fd (n + 5) (m + 1) (.list ds) := by
  refine ⟨by simp only [Wb.good]; exact h.good, ?_, ?_⟩
  · have := h.wt
    simp only [Wb.wt]
    omega
  · have := h.dep
    simp only [PyData.depth]
    omega
theorem fd_ofT {n m : Nat} {ds : List PyData} (h : Fd n m (.tuple ds)) : Fd n m (.list ds) := by
  obtain ⟨h1, h2, h3⟩ := h
  simp only [Wb.good, Wb.wt, PyData.depth] at h1 h2 h3
  exact ⟨by simpa only [Wb.good] using h1, by simpa only [Wb.wt] using h2, by simpa only [PyData.depth] using h3⟩
theorem Fd.parts {n m : Nat} {ds : List PyData} (h : Fd n m (.tuple ds)) : goodAll 200 ds = true ∧ wtAll ds + 5 ≤ n ∧ PyData.depthAll ds + 1 ≤ m := by
  obtain ⟨h1, h2, h3⟩ := h
  simp only [Wb.good, Wb.wt, PyData.depth] at h1 h2 h3
  exact ⟨h1, h2, by omega⟩
theorem fd_sub {n m : Nat} {ds es : List PyData} (h : Fd n m (.tuple ds)) (sub : ∀ x ∈ es, x ∈ ds) (w : wtAll es ≤ wtAll ds) : Fd n m (.tuple es) := by
  obtain ⟨h1, h2, h3⟩ := h.parts
  refine ⟨?_, ?_, ?_⟩
  · simp only [Wb.good]
    rw [goodAll_mem] at h1 ⊢
    exact fun x hx => h1 x (sub x hx)
  · simp only [Wb.wt]
    omega
  · simp only [PyData.depth]
    have := depth_all (ds := es) (n := PyData.depthAll ds) fun x hx => depth_mem (sub x hx)
    omega
theorem fd_cut {n m : Nat} {ds : List PyData} {lo hi : Option Int} (h : Fd n m (.tuple ds)) : Fd n m (.tuple (cutD ds lo hi)) := by
  refine fd_sub h (fun x hx => List.mem_of_mem_drop (List.mem_of_mem_take hx)) ?_
  unfold cutD
  exact Nat.le_trans (wt_takeL _ _) (wt_dropL _ _)
theorem fd_back {n m : Nat} {ds : List PyData} (h : Fd n m (.tuple ds)) : Fd n m (.tuple ds.reverse) := fd_sub h (fun x hx => List.mem_reverse.mp hx) (by rw [wt_rev]; exact Nat.le_refl _)
theorem fd_catA {n m n' m' : Nat} {ds es : List PyData} (h : Fd n m (.tuple ds)) (h' : Fd n' m' (.tuple es)) : Fd (n + n') (max m m') (.tuple (ds ++ es)) := by
  obtain ⟨h1, h2, h3⟩ := h.parts
  obtain ⟨k1, k2, k3⟩ := h'.parts
  refine ⟨?_, ?_, ?_⟩
  · simp only [Wb.good]
    rw [goodAll_mem] at h1 k1 ⊢
    exact fun x hx => (List.mem_append.mp hx).elim (h1 x) (k1 x)
  · simp only [Wb.wt]
    rw [wtAll_append]
    omega
  · simp only [PyData.depth]
    have := depth_all (ds := ds ++ es) (n := max m m' - 1) fun x hx => by
      rcases List.mem_append.mp hx with z | z
      · have := depth_mem z
        omega
      · have := depth_mem z
        omega
    omega
theorem fd_nones {k : Int} (h0 : 0 ≤ k) (h1 : k ≤ 60) : Fd 400 1 (.tuple (List.replicate k.toNat [PyData.none]).flatten) := by
  have aux : ∀ m : Nat, goodAll 200 (List.replicate m [PyData.none]).flatten = true ∧ wtAll (List.replicate m [PyData.none]).flatten = 6 * m ∧ PyData.depthAll (List.replicate m [PyData.none]).flatten = 0 := by
    intro m
    induction m with
    | zero => exact ⟨rfl, rfl, rfl⟩
    | succ m ih =>
      rw [List.replicate_succ, List.flatten_cons]
      refine ⟨?_, ?_, ?_⟩
      · simp only [List.cons_append, List.nil_append, goodAll, Wb.good, ih.1, Bool.and_self]
      · simp only [List.cons_append, List.nil_append, wtAll, Wb.wt, ih.2.1]
        omega
      · simp only [List.cons_append, List.nil_append, PyData.depthAll, PyData.depth, ih.2.2]
        rfl
  obtain ⟨a, b, c⟩ := aux k.toNat
  refine ⟨by simp only [Wb.good]; exact a, ?_, ?_⟩
  · simp only [Wb.wt]
    omega
  · simp only [PyData.depth]
    omega
theorem fd_mono {n m n' m' : Nat} {d : PyData} (h : Fd n m d) (a : n ≤ n') (b : m ≤ m') : Fd n' m' d := ⟨h.good, Nat.le_trans h.wt a, Nat.le_trans h.dep b⟩
theorem fd_each {P : PyData → Prop} {d : PyData} {ds : List PyData} (h : P d) (t : ∀ x ∈ ds, P x) : ∀ x ∈ d :: ds, P x := fun x hx => (List.mem_cons.mp hx).elim (fun e => e ▸ h) (t x)
theorem fd_app {P : PyData → Prop} {ds es : List PyData} (h : ∀ x ∈ ds, P x) (t : ∀ x ∈ es, P x) : ∀ x ∈ ds ++ es, P x := fun x hx => (List.mem_append.mp hx).elim (h x) (t x)
theorem fdl_of {n m : Nat} : ∀ {ds : List PyData} {N : Nat}, (∀ x ∈ ds, Fd n m x) → ds.length * (n + 2) ≤ N → FdL N m ds
  | [], N, _, h => ⟨rfl, by simp [wtAll], by simp [PyData.depthAll]⟩
  | d :: ds, N, f, h => by
    rw [List.length_cons, Nat.succ_mul] at h
    have h1 := f d List.mem_cons_self
    have h2 := fdl_of (ds := ds) (N := ds.length * (n + 2)) (fun x hx => f x (List.mem_cons_of_mem _ hx)) (Nat.le_refl _)
    have z := fdl_cons h1 h2
    exact ⟨z.good, Nat.le_trans z.wt (by omega), Nat.le_trans z.dep (by omega)⟩
/-- a lock with one bolt otherwise -/
structure Near (l : Lock) (d : PyData) : Prop where
  good : good 200 d = true
  wt : wt d ≤ 1500000
  dep : d.depth ≤ 12
  most : ∃ y, Mostly l [y] d
theorem near_of {l : Lock} (ok : LockDr l) {d : PyData} (h : Fd 150000 10 d) (k : Nat) : Near l (.tuple ((l.map dB).take k ++ [d] ++ (l.map dB).drop (k + 1))) := by
  obtain ⟨g1, g2, g3⟩ := good_lock ok
  have h1 : goodAll 200 (l.map dB) = true := good_seq.1.mp g1
  have h2 : wt (dL l) = wtAll (l.map dB) + 5 := (wt_seq _).1
  have h3 : (dL l).depth = PyData.depthAll (l.map dB) + 1 := (depth_seq _).1
  have mem : ∀ x ∈ (l.map dB).take k ++ [d] ++ (l.map dB).drop (k + 1), x ∈ l.map dB ∨ x = d := fun x hx => by
    rcases List.mem_append.mp hx with z | z
    · rcases List.mem_append.mp z with z | z
      · exact .inl (List.mem_of_mem_take z)
      · exact .inr (List.mem_singleton.mp z)
    · exact .inl (List.mem_of_mem_drop z)
  refine ⟨?_, ?_, ?_, d, fun x hx => ?_⟩
  · rw [good_seq.1, goodAll_mem]
    rw [goodAll_mem] at h1
    intro x hx
    rcases mem x hx with z | rfl
    · exact h1 x z
    · exact h.good
  · rw [(wt_seq _).1, wtAll_append, wtAll_append]
    have w1 : wtAll [d] = Wb.wt d + 2 := by simp only [wtAll]
    have := wt_takeL (l.map dB) k
    have := wt_dropL (l.map dB) (k + 1)
    have a := wt_take (l.map dB) k
    have b : wtAll ((l.map dB).drop (k + 1)) ≤ wtAll ((l.map dB).drop k) := by
      have := wt_take ((l.map dB).drop k) 1
      rw [List.drop_drop] at this
      omega
    have := h.wt
    omega
  · rw [(depth_seq _).1]
    have := depth_all (ds := (l.map dB).take k ++ [d] ++ (l.map dB).drop (k + 1)) (n := 10) fun x hx => by
      rcases mem x hx with z | rfl
      · have := depth_mem z
        omega
      · exact h.dep
    omega
  · have hx' : x ∈ (l.map dB).take k ++ [d] ++ (l.map dB).drop (k + 1) := hx
    rcases mem x hx' with z | rfl
    · obtain ⟨b, hb, rfl⟩ := List.mem_map.mp z
      exact .inl ⟨b, hb, rfl⟩
    · exact .inr (.inl (by simp))
end Wb

set_option Elab.async false
set_option linter.all false
set_option maxRecDepth 100000
set_option maxHeartbeats 8000000
set_option pp.maxSteps 600
set_option pp.deepTerms false
namespace Wb
open PySem PySem.Spec PyProof.Rows L2
abbrev sEdged : Stmt := topS 33
abbrev nEdged : List Str := ["_law_pen_here", "_law_lock_here", "_law_k", "_law_wide", "_law_gaps_here", "_law_word", "_law_some", "_law_more", "_law_pairs", "_law_at", "_law_one"]
theorem scEdged : FnScope nEdged ["_law_pen_here", "_law_lock_here"] (defScope sEdged) := ⟨rfl, rfl, rfl, by decide +kernel, rfl, by decide +kernel, by decide +kernel⟩

def spEdged (K : PySem.W.Frag) : Sp := fun vs H Q _ => ∃ (p c : Addr) (v : V) (l : Lock) (T : Int), vs = [.ref p, v] ∧ PenAt H p c T ∧ T ≤ 8000000 ∧ LockS K H v l ∧ LockDr l ∧ ∀ H' u d, Exx p H H' → PenAt H' p c (T + 200) → Th K H' u d → Near l d → Q u H'
def pairD (u : List PyData) (i : Nat) : PyData := .tuple [.int ((0 + (i : Nat) : Int) / 4), .int ((0 + (i : Nat) : Int) % 4), .int (1 + (0 + (i : Nat) : Int)), .tuple [.tuple u]]
def pairsD (u : List PyData) : Nat → List PyData
  | 0 => []
  | i + 1 => if decide ((0 + (i : Nat) : Int) / 4 ≠ (0 + (i : Nat) : Int) % 4) = true then pairsD u i ++ [pairD u i] else pairsD u i
theorem pairs_len (u : List PyData) : ∀ i, (pairsD u i).length ≤ i
  | 0 => Nat.le_refl _
  | i + 1 => by
    have := pairs_len u i
    unfold pairsD
    split
    · rw [List.length_append]
      simp only [List.length_cons, List.length_nil]
      omega
    · omega
theorem pairs_fd {u : List PyData} (hu : Fd 2200 1 (.tuple u)) : ∀ i, i ≤ 16 → ∀ x ∈ pairsD u i, Fd 3000 3 x
  | 0, _, x, hx => absurd hx List.not_mem_nil
  | i + 1, h, x, hx => by
    unfold pairsD at hx
    split at hx
    · rcases List.mem_append.mp hx with z | z
      · exact pairs_fd hu i (by omega) x z
      · rw [List.mem_singleton.mp z]
        exact fd_mono (fd_tup (fdl_cons (fd_int (by omega) (by omega)) (fdl_cons (fd_int (by omega) (by omega)) (fdl_cons (fd_int (by omega) (by omega)) (fdl_cons (fd_tup (fdl_cons hu fdl_nil)) fdl_nil))))) (by decide) (by decide)
    · exact pairs_fd hu i (by omega) x hx
section
variable {P : Program} {w : World} {K : PySem.W.Frag} {mg : Str → Option Value} {base : Heap}
theorem ok_edged {f f1 f2 f3 f4 : Addr} {fd fd1 fd2 fd3 fd4 : FuncData} (F : Fun K "_law_edged" "_law_edged" sEdged f fd)
    (F1 : Fun K "_law_draw" "_law_draw" sDraw f1 fd1) (b1 : Binds K fd1 ["_law_pen_here", "_law_many"] []) (g1 : mg "_law_draw" = some (.ref f1))
    (F2 : Fun K "_law_pick" "_law_pick" sPick f2 fd2) (b2 : Binds K fd2 ["_law_pen_here", "_law_some"] []) (g2 : mg "_law_pick" = some (.ref f2))
    (F3 : Fun K "_law_stand" "_law_stand" sStand f3 fd3) (b3 : Binds K fd3 ["_law_pen_here", "_law_lock_here"] []) (g3 : mg "_law_stand" = some (.ref f3))
    (F4 : Fun K "_law_ways" "_law_ways" sAllWays f4 fd4) (b4 : Binds K fd4 ["_law_lock_here"] []) (g4 : mg "_law_ways" = some (.ref f4)) (B : Bi mg) :
    FnOk P w K mg base CX0 4 f fd ["_law_pen_here", "_law_lock_here"] (spEdged K) := by
  have G1 : FnOk P w K mg base CX0 1 f1 fd1 ["_law_pen_here", "_law_many"] spDraw := ok_draw F1 B
  have G2 : FnOk P w K mg base CX0 2 f2 fd2 ["_law_pen_here", "_law_some"] (spPick K) := ok_pick F2 F1 b1 g1 B
  have G3 : FnOk P w K mg base CX0 3 f3 fd3 ["_law_pen_here", "_law_lock_here"] (spStand K) := ok_stand F3 F1 b1 g1 F2 b2 g2 F4 b4 g4 B
  refine F.ok scEdged (fun vs H Q E h => ?_) (fun cdv A outer s H vs Q E hr h => ?_)
  · obtain ⟨p, c, v, l, T, rfl, _⟩ := h; rfl
  · obtain ⟨p, c, v, l, T, rfl, hp, T8, hL, ok, q⟩ := h
    have hr1 : Room 1 _ := hr.mono (by decide)
    have hr2 : Room 2 _ := hr.mono (by decide)
    refine ⟨_, (pss_cons (ps_set (i := 2) scEdged.nd rfl (.inl rfl) (pe_call G1 hr1 (by rfl) g1 F1.kp b1 .nil pass0 (pa_cons (pv 0) (pa_cons (pe_callB call_len_seq (by rfl) B.len PySem.boot_len (pa_cons (pv 1) pa_nil)) pa_nil))))
 (pss_cons (ps_asg (pe_tup (pa_cons (pe_ix (r := rIxT K) ix_tup (pv 1) (pv 2) (fun _ _ => rfl)) (pa_cons (pe_slice (r := rSlA K) sl_tupA (pe_call G3 hr (by rfl) g3 F3.kp b3 .nil pass0 (pa_cons (pv 0) (pa_cons (pv 1) pa_nil))) po_none (po_some (pv 2))) pa_nil))) (pg_tup rfl (pgs_cons (pg_tup rfl (pgs_cons (pg_name (i := 3) scEdged.nd rfl (.inr rfl)) (pgs_cons (pg_name (i := 4) scEdged.nd rfl (.inl rfl)) pgs_nil))) (pgs_cons (pg_name (i := 5) scEdged.nd rfl (.inr rfl)) pgs_nil))))
 (pss_cons (ps_set (i := 6) scEdged.nd rfl (.inl rfl) (pe_lst (pa_cons (pe_tup (pa_cons pe_int (pa_cons (pv 4) pa_nil))) (pa_cons (pe_tup (pa_cons pe_int (pa_cons (pv 4) pa_nil))) (pa_cons (pe_tup (pa_cons (pv 3) (pa_cons (pv 4) (pa_cons pe_int pa_nil)))) (pa_cons (pe_tup (pa_cons (pv 3) pa_nil)) (pa_cons (pe_lst (pa_cons (pv 3) (pa_cons (pv 4) pa_nil))) (pa_cons (pe_tup (pa_cons (pv 3) (pa_cons (pe_callTy (r := rListOf K) call_listOf (by rfl) B.list PyProof.Rows.boot_list (pa_cons (pv 4) pa_nil)) pa_nil))) (pa_cons (pe_tup (pa_cons pe_bl (pa_cons (pv 4) pa_nil))) (pa_cons (pe_tup (pa_cons pe_int (pa_cons (pv 4) pa_nil))) pa_nil))))))))))
 (pss_cons (ps_set (i := 6) scEdged.nd rfl (.inl rfl) (pe_op op_cat (pv 6) (pe_lst (pa_cons (pe_tup (pa_cons pe_int (pa_cons (pv 4) pa_nil))) (pa_cons (pe_tup (pa_cons (pv 3) (pa_cons (pe_op op_catA (pv 4) (pe_slice (r := rSlA K) sl_tupA (pv 4) po_none (po_some pe_int))) pa_nil))) (pa_cons (pe_tup (pa_cons (pv 3) (pa_cons (pe_back (pv 4)) pa_nil))) (pa_cons (pe_tup (pa_cons (pv 3) (pa_cons (pe_slice (r := rSlA K) sl_tupA (pv 4) po_none (po_some pe_int)) pa_nil))) (pa_cons (pe_tup (pa_cons (pv 3) (pa_cons (pe_tup pa_nil) pa_nil))) pa_nil))))))))
 (pss_cons (ps_set (i := 7) scEdged.nd rfl (.inl rfl) (pe_lst (pa_cons (pe_tup (pa_cons pe_int (pa_cons pe_int (pa_cons pe_int (pa_cons (pe_tup pa_nil) pa_nil))))) (pa_cons (pe_tup (pa_cons pe_int (pa_cons (pv 3) (pa_cons pe_int (pa_cons (pe_tup pa_nil) pa_nil))))) (pa_cons (pe_tup (pa_cons (pv 3) (pa_cons pe_int (pa_cons pe_int (pa_cons (pe_tup pa_nil) pa_nil))))) (pa_cons (pe_tup (pa_cons pe_int (pa_cons pe_int (pa_cons pe_int (pa_cons (pe_tup pa_nil) pa_nil))))) (pa_cons (pe_tup (pa_cons pe_int (pa_cons pe_int (pa_cons (pe_op op_pow pe_int pe_int) (pa_cons (pe_tup pa_nil) pa_nil))))) pa_nil)))))))
 (pss_cons (ps_expr (pe_bm PySem.F.plainAttrs_list PySem.F.slot_list_append PySem.F.type_list_append mt_append (pv 7) (pa_cons (pe_tup (pa_cons pe_int (pa_cons pe_int (pa_cons (pe_op op_add (pe_op op_pow pe_int pe_int) pe_int) (pa_cons (pe_tup pa_nil) pa_nil))))) pa_nil)))
 (pss_cons (ps_set (i := 7) scEdged.nd rfl (.inl rfl) (pe_op op_cat (pv 7) (pe_lst (pa_cons (pe_tup (pa_cons pe_int (pa_cons pe_int (pa_cons pe_bl (pa_cons (pe_tup pa_nil) pa_nil))))) (pa_cons (pe_tup (pa_cons pe_bl (pa_cons pe_int (pa_cons pe_int (pa_cons (pe_tup pa_nil) pa_nil))))) (pa_cons (pe_tup (pa_cons pe_int (pa_cons pe_int (pa_cons pe_int (pa_cons (pe_lst (pa_cons (pv 5) pa_nil)) pa_nil))))) (pa_cons (pe_tup (pa_cons pe_int (pa_cons pe_int (pa_cons pe_int (pa_cons (pe_tup (pa_cons (pv 5) (pa_cons (pv 5) pa_nil))) pa_nil))))) (pa_cons (pe_tup (pa_cons pe_int (pa_cons pe_int (pa_cons pe_int (pa_cons (pe_tup (pa_cons (pv 5) pa_nil)) pa_nil))))) pa_nil))))))))
 (pss_cons (ps_set (i := 7) scEdged.nd rfl (.inl rfl) (pe_op op_cat (pv 7) (pe_lst (pa_cons (pe_tup (pa_cons pe_int (pa_cons pe_int (pa_cons pe_int (pa_cons (pe_tup (pa_cons (pe_op op_catA (pv 5) (pe_tup (pa_cons pe_int pa_nil))) pa_nil)) pa_nil))))) (pa_cons (pe_tup (pa_cons pe_int (pa_cons pe_int (pa_cons pe_int (pa_cons (pe_tup (pa_cons (pe_callTy (r := rListOf K) call_listOf (by rfl) B.list PyProof.Rows.boot_list (pa_cons (pv 5) pa_nil)) pa_nil)) pa_nil))))) (pa_cons (pe_tup (pa_cons pe_int (pa_cons pe_int (pa_cons pe_int (pa_cons (pe_tup (pa_cons (pe_slice (r := rSlA K) sl_tupA (pv 5) po_none (po_some (pe_un un_neg pe_int))) pa_nil)) pa_nil))))) (pa_cons (pe_tup (pa_cons pe_int (pa_cons pe_int (pa_cons pe_int pa_nil)))) pa_nil)))))))
 (pss_cons (ps_expr (pe_bm PySem.F.plainAttrs_list PySem.F.slot_list_append PySem.F.type_list_append mt_append (pv 7) (pa_cons (pe_lst (pa_cons pe_int (pa_cons pe_int (pa_cons pe_int (pa_cons (pe_tup pa_nil) pa_nil))))) pa_nil)))
 (pss_cons (ps_set (i := 7) scEdged.nd rfl (.inl rfl) (pe_op op_cat (pv 7) (pe_lst (pa_cons (pe_tup (pa_cons (pe_un un_neg pe_int) (pa_cons pe_int (pa_cons pe_int (pa_cons (pe_tup pa_nil) pa_nil))))) (pa_cons (pe_tup (pa_cons pe_int (pa_cons pe_int (pa_cons pe_int (pa_cons pe_non pa_nil))))) (pa_cons (pe_tup (pa_cons pe_int (pa_cons pe_int (pa_cons pe_int (pa_cons (pe_tup (pa_cons (pe_op op_repN (pe_tup (pa_cons pe_non pa_nil)) (pv 2)) pa_nil)) pa_nil))))) (pa_cons (pe_tup (pa_cons pe_int (pa_cons pe_int (pa_cons pe_int (pa_cons (pe_tup (pa_cons (pv 5) pa_nil)) pa_nil))))) (pa_cons (pe_tup (pa_cons pe_int (pa_cons pe_int (pa_cons pe_str (pa_cons (pe_tup pa_nil) pa_nil))))) pa_nil))))))))
 (pss_cons (ps_setLc (i := 8) (own := [("_law_at", 9)]) (g := gName 9) rfl scEdged.nd rfl rfl (sw_true rfl rfl rfl (by decide +kernel)) (pi_range1 (by rfl) B.range (pa_cons pe_int pa_nil)) (blkOk_by (own := [("_law_at", 9)]) (N := nEdged) (sc := defScope sEdged) (by decide +kernel)) (fun _ _ _ _ _ => (pg_name (i := 9) scEdged.nd rfl (.inl rfl))) (fun _ _ _ _ _ => (pts_one (pt_cmpR op_ne (pe_op op_fdiv (pv 9) pe_int) (pe_op op_mod (pv 9) pe_int) (nomark _)))) (fun _ _ _ _ _ => (pe_tup (pa_cons (pe_op op_fdiv (pv 9) pe_int) (pa_cons (pe_op op_mod (pv 9) pe_int) (pa_cons (pe_op op_add pe_int (pv 9)) (pa_cons (pe_tup (pa_cons (pv 5) pa_nil)) pa_nil)))))))
 (pss_cons (ps_set (i := 6) scEdged.nd rfl (.inl rfl) (pe_op op_cat (pe_op op_cat (pv 6) (pe_lc (own := [("_law_one", 10)]) (wi := iList K (tVar 7)) (g := gName 10) rfl scEdged.nd (pi_list (pv 7)) (blkOk_by (own := [("_law_one", 10)]) (N := nEdged) (sc := defScope sEdged) (by decide +kernel)) (fun _ _ _ _ _ => (pg_name (i := 10) scEdged.nd rfl (.inl rfl))) (fun _ _ _ _ _ => pts_nil) (fun _ _ _ _ _ => (pe_tup (pa_cons (pv 3) (pa_cons (pe_tup (pa_cons (pv 10) pa_nil)) pa_nil)))))) (pe_op op_rep (pe_lst (pa_cons (pe_tup (pa_cons pe_int (pa_cons (pe_callTy (r := rTupK K) call_tupK (by rfl) B.tuple PyProof.Rows.boot_tuple (pa_cons (pe_slice sl_list (pv 8) po_none (po_some (pe_op op_add pe_int (pe_call G1 hr1 (by rfl) g1 F1.kp b1 .nil pass0 (pa_cons (pv 0) (pa_cons pe_int pa_nil)))))) pa_nil)) pa_nil))) pa_nil)) pe_int)))
 (pss_one (ps_ret (pe_op op_catA (pe_op op_catA (pe_slice (r := rSlA K) sl_tupA (pv 1) po_none (po_some (pv 2))) (pe_tup (pa_cons (pe_call G2 hr2 (by rfl) g2 F2.kp b2 .nil pass0 (pa_cons (pv 0) (pa_cons (pv 6) pa_nil))) pa_nil))) (pe_slice (r := rSlA K) sl_tupA (pv 1) (po_some (pe_op op_add (pv 2) pe_int)) po_none)))))))))))))))), ?_⟩
    obtain ⟨a, bs, rfl, ha, hbs⟩ := id hL
    have bl : bs.length = l.length := Paired.len hbs
    have l1 := ok.n0
    have l61 := ok.n1
    have nap : a ≠ p := fun z => by
      obtain ⟨cells, t, d, hpp, _⟩ := hp
      rw [z, hpp] at ha
      cases ha
    refine ⟨.ref p, rfl, .ref a, rfl, a, bs, rfl, .inr (.inl (.inl ha)), p, c, (bs.length : Nat), T, rfl, hp, by omega, by omega, by omega, fun r H1 r0 r1 x1 hp1 => ?_⟩
    -- the bolt, the word
    have hL1 : LockS K H1 (.ref a) l := hL.mono (hp.tx x1)
    obtain ⟨k, rfl⟩ : ∃ k : Nat, r = (k : Nat) := ⟨r.toNat, by omega⟩
    have kl : k < l.length := by omega
    obtain ⟨bb, hbb⟩ : ∃ bb, l[k]? = some bb := ⟨l[k], List.getElem?_eq_getElem kl⟩
    obtain ⟨vb, hvb, _⟩ := Paired.get2 hbs hbb
    have ha1 := x1 _ _ nap ha
    refine ⟨.ref a, rfl, .int (k : Nat), rfl, a, bs, (k : Nat), vb, rfl, rfl, .inl (.inl ha1), atI_nat hvb, ?_⟩
    refine ⟨.ref p, rfl, .ref a, rfl, p, c, .ref a, l, _, rfl, hp1, by omega, hL1.at_, ok, fun H2 u st x2 hp2 hu hin => ?_⟩
    obtain ⟨ua, rfl, hua⟩ := hu
    have stl : st.length = l.length := by
      have := hin.1
      unfold manysOf at this
      rwa [List.length_map] at this
    have ha2 := x2 _ _ nap ha1
    refine ⟨.int (k : Nat), rfl, (k : Nat), rfl, ua, _, rfl, .inl (.inl hua), fun z => absurd (slice_whole z.2) (by rw [List.length_map]; omega), fun _ t nt => ?_⟩
    rw [cut_take, ← List.map_take]
    have e3 := Evl.Ex.new (o := .tup ((st.take k).map V.int)) nt
    have ht3 : (upd H2 t (.tup ((st.take k).map V.int))) t = some (.tup ((st.take k).map V.int)) := upd_same
    generalize upd H2 t (.tup ((st.take k).map V.int)) = H3 at e3 ht3
    refine ⟨(by show 2 ≤ sizeLine; decide), fun t2 nt2 => ?_⟩
    have e4 := Evl.Ex.new (o := .tup [vb, .ref t]) nt2
    have ht4 : (upd H3 t2 (.tup [vb, .ref t])) t2 = some (.tup [vb, .ref t]) := upd_same
    generalize upd H3 t2 (.tup [vb, .ref t]) = H4 at e4 ht4
    have x4 : Exx p H H4 := x1.trans (x2.trans (Exx.ex (e3.trans e4)))
    have hp4 := hp2.ex (e3.trans e4)
    have hL4 : LockS K H4 (.ref a) l := hL.mono (hp.tx x4)
    obtain ⟨a', bs', ea, ha4, hbs4⟩ := hL4
    cases ea
    have ebs : bs' = bs := by
      have := x4 _ _ nap ha
      rw [ha4] at this
      cases this
      rfl
    subst ebs
    obtain ⟨vb', hvb', hB4⟩ := Paired.get2 hbs4 hbb
    rw [hvb] at hvb'
    cases hvb'
    obtain ⟨ab, ag, gvs, rfl, hab, hag, hgv⟩ := hB4
    have hG : Th K H4 (.ref ag) (dGs bb.gaps) := .tup hag (th_allOf (F := GapS K H4) (f := dG) (fun _ _ => th_gapS) hgv)
    have hU : Th K H4 (.ref t) (dW (st.take k)) := th_word ⟨t, rfl, e4 _ _ ht3⟩
    refine ⟨t2, _, rfl, .inl (.inl ht4), rfl, .ref ab, _, rfl, ⟨ab, _, rfl, .inl (.inl hab), rfl, .int bb.many, _, rfl, .ref ag, _, rfl, rfl, ?_⟩⟩
    refine ⟨.ref t, [], rfl, rfl, ?_⟩
    have BO := ok.bolts k bb hbb
    have m0 := BO.m0
    have m1 := BO.m1
    have fdW : Fd 40 0 (.int bb.many) := fd_int (by omega) (by omega)
    obtain ⟨gB1, gB2⟩ := good_bolt ok hbb
    have dB6 : (dB bb).depth ≤ 5 := (fine_B ok hbb).dep
    have fdG : Fd 20000 4 (dGs bb.gaps) := by
      unfold dB at gB1 gB2 dB6
      simp only [good, goodAll, wt, wtAll, PyData.depth, PyData.depthAll, Bool.and_eq_true] at gB1 gB2 dB6
      exact ⟨gB1.2.1, by omega, by omega⟩
    have fdU : Fd 2200 1 (dW (st.take k)) := by
      have each : ∀ x ∈ st.take k, good 200 (.int x) = true ∧ wt (.int x) ≤ 30 := fun x hx => by
        obtain ⟨i, hi⟩ := List.mem_iff_getElem?.mp (List.mem_of_mem_take hx)
        have il : i < l.length := by
          have := (List.getElem?_eq_some_iff.mp hi).1
          omega
        have hm : (manysOf l)[i]? = some l[i].many := by
          unfold manysOf
          rw [List.getElem?_map, List.getElem?_eq_getElem il]
          rfl
        have z1 := hin.2 i x _ hi hm
        have z2 := manys_le ok (List.getElem?_eq_getElem il)
        exact small_good (by omega) (by omega)
      refine ⟨?_, ?_, ?_⟩
      · unfold dW
        rw [good_seq.1]
        exact goodAll_map fun x hx => (each x hx).1
      · unfold dW
        rw [(wt_seq _).1]
        have z := wtAll_map (f := PyData.int) (c := 30) (xs := st.take k) fun x hx => (each x hx).2
        rw [List.length_take] at z
        have : (30 + 2) * min k st.length ≤ 32 * 61 := Nat.mul_le_mul_left _ (by omega)
        omega
      · unfold dW
        rw [(depth_seq _).1]
        have := depth_all (ds := (st.take k).map PyData.int) (n := 0) fun x hx => by
          obtain ⟨i, _, rfl⟩ := List.mem_map.mp hx
          exact Nat.le_refl _
        omega
    have gl16 := gaps_16 ok hbb
    have lG : (bb.gaps.map dG).length ≤ 16 := by rw [List.length_map]; exact gl16
    have lU : ((st.take k).map PyData.int).length ≤ 61 := by rw [List.length_map, List.length_take]; omega
    have kk0 : (0 : Int) ≤ (k : Nat) := by omega
    unfold dGs at hG fdG
    unfold dW at hU fdU
    generalize bb.gaps.map dG = gD at hG fdG lG
    generalize (st.take k).map PyData.int = uD at hU fdU lU
    generalize bb.many = wD at fdW m0 m1
    have r0 := kk0
    -- what stands for the bolt
    refine st_set (YS.run (K := K) (y_lst (yl_cons (y_tup (yl_cons (y_int 1) (yl_cons (y_var rfl hG) yl_nil)) (show 2 ≤ sizeLine by decide)) (yl_cons (y_tup (yl_cons (y_int 5) (yl_cons (y_var rfl hG) yl_nil)) (show 2 ≤ sizeLine by decide)) (yl_cons (y_tup (yl_cons (y_var rfl (.int _)) (yl_cons (y_var rfl hG) (yl_cons (y_int 0) yl_nil))) (show 3 ≤ sizeLine by decide)) (yl_cons (y_tup (yl_cons (y_var rfl (.int _)) yl_nil) (show 1 ≤ sizeLine by decide)) (yl_cons (y_lst (yl_cons (y_var rfl (.int _)) (yl_cons (y_var rfl hG) yl_nil)) (show 2 ≤ sizeLine by decide)) (yl_cons (y_tup (yl_cons (y_var rfl (.int _)) (yl_cons (y_list (y_var rfl hG)) yl_nil)) (show 2 ≤ sizeLine by decide)) (yl_cons (y_tup (yl_cons (y_bl _) (yl_cons (y_var rfl hG) yl_nil)) (show 2 ≤ sizeLine by decide)) (yl_cons (y_tup (yl_cons (y_int 4) (yl_cons (y_var rfl hG) yl_nil)) (show 2 ≤ sizeLine by decide)) yl_nil)))))))) (show 8 ≤ sizeLine by decide)) fun v1 H5 e5 h5 => ?_)
    obtain ⟨d5, hS, f5, n5⟩ : ∃ ds, Th K H5 v1 (.list ds) ∧ (∀ x ∈ ds, Fd 150000 10 x) ∧ ds.length ≤ 8 := ⟨_, h5, (fd_each (fd_mono (fd_tup (fdl_cons (fd_int (by decide) (by decide)) (fdl_cons fdG fdl_nil))) (by decide) (by decide))
 (fd_each (fd_mono (fd_tup (fdl_cons (fd_int (by decide) (by decide)) (fdl_cons fdG fdl_nil))) (by decide) (by decide))
 (fd_each (fd_mono (fd_tup (fdl_cons fdW (fdl_cons fdG (fdl_cons (fd_int (by decide) (by decide)) fdl_nil)))) (by decide) (by decide))
 (fd_each (fd_mono (fd_tup (fdl_cons fdW fdl_nil)) (by decide) (by decide))
 (fd_each (fd_mono (fd_lst (fdl_cons fdW (fdl_cons fdG fdl_nil))) (by decide) (by decide))
 (fd_each (fd_mono (fd_tup (fdl_cons fdW (fdl_cons (fd_ofT fdG) fdl_nil))) (by decide) (by decide))
 (fd_each (fd_mono (fd_tup (fdl_cons (fd_bl _) (fdl_cons fdG fdl_nil))) (by decide) (by decide))
 (fd_each (fd_mono (fd_tup (fdl_cons (fd_int (by decide) (by decide)) (fdl_cons fdG fdl_nil))) (by decide) (by decide))
 (fun _ h => absurd h List.not_mem_nil))))))))), Nat.le_refl 8⟩
    clear h5
    have hG := hG.ex e5
    have hU := hU.ex e5
    refine st_set (YS.run (K := K) (y_cat (y_var rfl hS) (y_lst (yl_cons (y_tup (yl_cons (y_int 2) (yl_cons (y_var rfl hG) yl_nil)) (show 2 ≤ sizeLine by decide)) (yl_cons (y_tup (yl_cons (y_var rfl (.int _)) (yl_cons (y_catA (y_var rfl hG) (y_slice (y_var rfl hG) yo_none (yo_some (y_int 1))) (Nat.le_trans (by simp only [List.length_append, List.length_cons, List.length_nil, cutD, List.length_take, List.length_drop]; omega) (by decide : 1000 ≤ sizeLine))) yl_nil)) (show 2 ≤ sizeLine by decide)) (yl_cons (y_tup (yl_cons (y_var rfl (.int _)) (yl_cons (y_back (y_var rfl hG)) yl_nil)) (show 2 ≤ sizeLine by decide)) (yl_cons (y_tup (yl_cons (y_var rfl (.int _)) (yl_cons (y_slice (y_var rfl hG) yo_none (yo_some (y_int 1))) yl_nil)) (show 2 ≤ sizeLine by decide)) (yl_cons (y_tup (yl_cons (y_var rfl (.int _)) (yl_cons (y_tup yl_nil (show 0 ≤ sizeLine by decide)) yl_nil)) (show 2 ≤ sizeLine by decide)) yl_nil))))) (show 5 ≤ sizeLine by decide)) (Nat.le_trans (Nat.add_le_add_right n5 5) (by decide))) fun v2 H6 e6 h6 => ?_)
    obtain ⟨d6, hS, f6, n6⟩ : ∃ ds, Th K H6 v2 (.list ds) ∧ (∀ x ∈ ds, Fd 150000 10 x) ∧ ds.length ≤ 13 := ⟨_, h6, fd_app f5 (fd_each (fd_mono (fd_tup (fdl_cons (fd_int (by decide) (by decide)) (fdl_cons fdG fdl_nil))) (by decide) (by decide))
 (fd_each (fd_mono (fd_tup (fdl_cons fdW (fdl_cons (fd_catA fdG (fd_cut fdG)) fdl_nil))) (by decide) (by decide))
 (fd_each (fd_mono (fd_tup (fdl_cons fdW (fdl_cons (fd_back fdG) fdl_nil))) (by decide) (by decide))
 (fd_each (fd_mono (fd_tup (fdl_cons fdW (fdl_cons (fd_cut fdG) fdl_nil))) (by decide) (by decide))
 (fd_each (fd_mono (fd_tup (fdl_cons fdW (fdl_cons (fd_tup fdl_nil) fdl_nil))) (by decide) (by decide))
 (fun _ h => absurd h List.not_mem_nil)))))), by rw [List.length_append]; exact Nat.add_le_add_right n5 5⟩
    clear h6
    have hG := hG.ex e6
    have hU := hU.ex e6
    -- gaps of all sorts
    refine st_set (raw_lst (K := K) (B := H6) (yl_cons (y_tup (yl_cons (y_int 0) (yl_cons (y_int 0) (yl_cons (y_int 1) (yl_cons (y_tup yl_nil (show 0 ≤ sizeLine by decide)) yl_nil)))) (show 4 ≤ sizeLine by decide)) (yl_cons (y_tup (yl_cons (y_int 0) (yl_cons (y_var rfl (.int _)) (yl_cons (y_int 1) (yl_cons (y_tup yl_nil (show 0 ≤ sizeLine by decide)) yl_nil)))) (show 4 ≤ sizeLine by decide)) (yl_cons (y_tup (yl_cons (y_var rfl (.int _)) (yl_cons (y_int 0) (yl_cons (y_int 1) (yl_cons (y_tup yl_nil (show 0 ≤ sizeLine by decide)) yl_nil)))) (show 4 ≤ sizeLine by decide)) (yl_cons (y_tup (yl_cons (y_int 0) (yl_cons (y_int 1) (yl_cons (y_int 0) (yl_cons (y_tup yl_nil (show 0 ≤ sizeLine by decide)) yl_nil)))) (show 4 ≤ sizeLine by decide)) (yl_cons (y_tup (yl_cons (y_int 0) (yl_cons (y_int 1) (yl_cons (y_pow (y_int 10) (y_int 6) (by exact ⟨by decide, by decide, by decide⟩)) (yl_cons (y_tup yl_nil (show 0 ≤ sizeLine by decide)) yl_nil)))) (show 4 ≤ sizeLine by decide)) yl_nil))))) (Evl.Ex.refl H6) (show 5 ≤ sizeLine by decide) fun a7 H7 e7 w7 => ?_)
    obtain ⟨d7, w7, f7, n7⟩ : ∃ ds, Raw K H6 H7 a7 ds ∧ (∀ x ∈ ds, Fd 100000 7 x) ∧ ds.length ≤ 5 := ⟨_, w7, (fd_each (fd_mono (fd_tup (fdl_cons (fd_int (by decide) (by decide)) (fdl_cons (fd_int (by decide) (by decide)) (fdl_cons (fd_int (by decide) (by decide)) (fdl_cons (fd_tup fdl_nil) fdl_nil))))) (by decide) (by decide))
 (fd_each (fd_mono (fd_tup (fdl_cons (fd_int (by decide) (by decide)) (fdl_cons fdW (fdl_cons (fd_int (by decide) (by decide)) (fdl_cons (fd_tup fdl_nil) fdl_nil))))) (by decide) (by decide))
 (fd_each (fd_mono (fd_tup (fdl_cons fdW (fdl_cons (fd_int (by decide) (by decide)) (fdl_cons (fd_int (by decide) (by decide)) (fdl_cons (fd_tup fdl_nil) fdl_nil))))) (by decide) (by decide))
 (fd_each (fd_mono (fd_tup (fdl_cons (fd_int (by decide) (by decide)) (fdl_cons (fd_int (by decide) (by decide)) (fdl_cons (fd_int (by decide) (by decide)) (fdl_cons (fd_tup fdl_nil) fdl_nil))))) (by decide) (by decide))
 (fd_each (fd_mono (fd_tup (fdl_cons (fd_int (by decide) (by decide)) (fdl_cons (fd_int (by decide) (by decide)) (fdl_cons (fd_int (by decide) (by decide)) (fdl_cons (fd_tup fdl_nil) fdl_nil))))) (by decide) (by decide))
 (fun _ h => absurd h List.not_mem_nil)))))), Nat.le_refl 5⟩
    refine st_drop ?_
    obtain ⟨vs7, at7⟩ := w7.at_
    refine ⟨.ref a7, rfl, .inl ⟨rfl, _, SqL.of at7⟩, ?_⟩
    refine tcons1 (Raw.put w7 (y_tup (yl_cons (y_int 0) (yl_cons (y_int 1) (yl_cons (y_add (y_pow (y_int 10) (y_int 6) (by exact ⟨by decide, by decide, by decide⟩)) (y_int 1)) (yl_cons (y_tup yl_nil (show 0 ≤ sizeLine by decide)) yl_nil)))) (show 4 ≤ sizeLine by decide)) (Nat.lt_of_le_of_lt n7 (by decide)) fun H8 e8 w8 => ?_)
    obtain ⟨d8, w8, f8, n8⟩ : ∃ ds, Raw K H6 H8 a7 ds ∧ (∀ x ∈ ds, Fd 100000 7 x) ∧ ds.length ≤ 6 := ⟨_, w8, fd_app f7 (fd_each (fd_mono (fd_tup (fdl_cons (fd_int (by decide) (by decide)) (fdl_cons (fd_int (by decide) (by decide)) (fdl_cons (fd_int (by decide) (by decide)) (fdl_cons (fd_tup fdl_nil) fdl_nil))))) (by decide) (by decide))
 (fun _ h => absurd h List.not_mem_nil)), by rw [List.length_append]; exact Nat.add_le_add_right n7 1⟩
    refine st_set (Raw.cat (i := 7) w8 rfl (yl_cons (y_tup (yl_cons (y_int 0) (yl_cons (y_int 1) (yl_cons (y_bl _) (yl_cons (y_tup yl_nil (show 0 ≤ sizeLine by decide)) yl_nil)))) (show 4 ≤ sizeLine by decide)) (yl_cons (y_tup (yl_cons (y_bl _) (yl_cons (y_int 1) (yl_cons (y_int 5) (yl_cons (y_tup yl_nil (show 0 ≤ sizeLine by decide)) yl_nil)))) (show 4 ≤ sizeLine by decide)) (yl_cons (y_tup (yl_cons (y_int 0) (yl_cons (y_int 1) (yl_cons (y_int 5) (yl_cons (y_lst (yl_cons (y_var rfl hU) yl_nil) (show 1 ≤ sizeLine by decide)) yl_nil)))) (show 4 ≤ sizeLine by decide)) (yl_cons (y_tup (yl_cons (y_int 0) (yl_cons (y_int 1) (yl_cons (y_int 5) (yl_cons (y_tup (yl_cons (y_var rfl hU) (yl_cons (y_var rfl hU) yl_nil)) (show 2 ≤ sizeLine by decide)) yl_nil)))) (show 4 ≤ sizeLine by decide)) (yl_cons (y_tup (yl_cons (y_int 0) (yl_cons (y_int 1) (yl_cons (y_int 5) (yl_cons (y_tup (yl_cons (y_var rfl hU) yl_nil) (show 1 ≤ sizeLine by decide)) yl_nil)))) (show 4 ≤ sizeLine by decide)) yl_nil))))) (show 5 ≤ sizeLine by decide) (Nat.le_trans (Nat.add_le_add_right n8 5) (by decide)) fun a9 H9 e9 w9 => ?_)
    obtain ⟨d9, w9, f9, n9⟩ : ∃ ds, Raw K H6 H9 a9 ds ∧ (∀ x ∈ ds, Fd 100000 7 x) ∧ ds.length ≤ 11 := ⟨_, w9, fd_app f8 (fd_each (fd_mono (fd_tup (fdl_cons (fd_int (by decide) (by decide)) (fdl_cons (fd_int (by decide) (by decide)) (fdl_cons (fd_bl _) (fdl_cons (fd_tup fdl_nil) fdl_nil))))) (by decide) (by decide))
 (fd_each (fd_mono (fd_tup (fdl_cons (fd_bl _) (fdl_cons (fd_int (by decide) (by decide)) (fdl_cons (fd_int (by decide) (by decide)) (fdl_cons (fd_tup fdl_nil) fdl_nil))))) (by decide) (by decide))
 (fd_each (fd_mono (fd_tup (fdl_cons (fd_int (by decide) (by decide)) (fdl_cons (fd_int (by decide) (by decide)) (fdl_cons (fd_int (by decide) (by decide)) (fdl_cons (fd_lst (fdl_cons fdU fdl_nil)) fdl_nil))))) (by decide) (by decide))
 (fd_each (fd_mono (fd_tup (fdl_cons (fd_int (by decide) (by decide)) (fdl_cons (fd_int (by decide) (by decide)) (fdl_cons (fd_int (by decide) (by decide)) (fdl_cons (fd_tup (fdl_cons fdU (fdl_cons fdU fdl_nil))) fdl_nil))))) (by decide) (by decide))
 (fd_each (fd_mono (fd_tup (fdl_cons (fd_int (by decide) (by decide)) (fdl_cons (fd_int (by decide) (by decide)) (fdl_cons (fd_int (by decide) (by decide)) (fdl_cons (fd_tup (fdl_cons fdU fdl_nil)) fdl_nil))))) (by decide) (by decide))
 (fun _ h => absurd h List.not_mem_nil)))))), by rw [List.length_append]; exact Nat.add_le_add_right n8 5⟩
    refine st_set (Raw.cat (i := 7) w9 rfl (yl_cons (y_tup (yl_cons (y_int 0) (yl_cons (y_int 1) (yl_cons (y_int 5) (yl_cons (y_tup (yl_cons (y_catA (y_var rfl hU) (y_tup (yl_cons (y_int 0) yl_nil) (show 1 ≤ sizeLine by decide)) (Nat.le_trans (by simp only [List.length_append, List.length_cons, List.length_nil, cutD, List.length_take, List.length_drop]; omega) (by decide : 1000 ≤ sizeLine))) yl_nil) (show 1 ≤ sizeLine by decide)) yl_nil)))) (show 4 ≤ sizeLine by decide)) (yl_cons (y_tup (yl_cons (y_int 0) (yl_cons (y_int 1) (yl_cons (y_int 5) (yl_cons (y_tup (yl_cons (y_list (y_var rfl hU)) yl_nil) (show 1 ≤ sizeLine by decide)) yl_nil)))) (show 4 ≤ sizeLine by decide)) (yl_cons (y_tup (yl_cons (y_int 0) (yl_cons (y_int 1) (yl_cons (y_int 5) (yl_cons (y_tup (yl_cons (y_slice (y_var rfl hU) yo_none (yo_some (y_neg (y_int 1)))) yl_nil) (show 1 ≤ sizeLine by decide)) yl_nil)))) (show 4 ≤ sizeLine by decide)) (yl_cons (y_tup (yl_cons (y_int 0) (yl_cons (y_int 1) (yl_cons (y_int 5) yl_nil))) (show 3 ≤ sizeLine by decide)) yl_nil)))) (show 4 ≤ sizeLine by decide) (Nat.le_trans (Nat.add_le_add_right n9 4) (by decide)) fun a10 H10 e10 w10 => ?_)
    obtain ⟨d10, w10, f10, n10⟩ : ∃ ds, Raw K H6 H10 a10 ds ∧ (∀ x ∈ ds, Fd 100000 7 x) ∧ ds.length ≤ 15 := ⟨_, w10, fd_app f9 (fd_each (fd_mono (fd_tup (fdl_cons (fd_int (by decide) (by decide)) (fdl_cons (fd_int (by decide) (by decide)) (fdl_cons (fd_int (by decide) (by decide)) (fdl_cons (fd_tup (fdl_cons (fd_catA fdU (fd_tup (fdl_cons (fd_int (by decide) (by decide)) fdl_nil))) fdl_nil)) fdl_nil))))) (by decide) (by decide))
 (fd_each (fd_mono (fd_tup (fdl_cons (fd_int (by decide) (by decide)) (fdl_cons (fd_int (by decide) (by decide)) (fdl_cons (fd_int (by decide) (by decide)) (fdl_cons (fd_tup (fdl_cons (fd_ofT fdU) fdl_nil)) fdl_nil))))) (by decide) (by decide))
 (fd_each (fd_mono (fd_tup (fdl_cons (fd_int (by decide) (by decide)) (fdl_cons (fd_int (by decide) (by decide)) (fdl_cons (fd_int (by decide) (by decide)) (fdl_cons (fd_tup (fdl_cons (fd_cut fdU) fdl_nil)) fdl_nil))))) (by decide) (by decide))
 (fd_each (fd_mono (fd_tup (fdl_cons (fd_int (by decide) (by decide)) (fdl_cons (fd_int (by decide) (by decide)) (fdl_cons (fd_int (by decide) (by decide)) fdl_nil)))) (by decide) (by decide))
 (fun _ h => absurd h List.not_mem_nil))))), by rw [List.length_append]; exact Nat.add_le_add_right n9 4⟩
    refine st_drop ?_
    obtain ⟨vs10, at10⟩ := w10.at_
    refine ⟨.ref a10, rfl, .inl ⟨rfl, _, SqL.of at10⟩, ?_⟩
    refine tcons1 (Raw.put w10 (y_lst (yl_cons (y_int 0) (yl_cons (y_int 1) (yl_cons (y_int 5) (yl_cons (y_tup yl_nil (show 0 ≤ sizeLine by decide)) yl_nil)))) (show 4 ≤ sizeLine by decide)) (Nat.lt_of_le_of_lt n10 (by decide)) fun H11 e11 w11 => ?_)
    obtain ⟨d11, w11, f11, n11⟩ : ∃ ds, Raw K H6 H11 a10 ds ∧ (∀ x ∈ ds, Fd 100000 7 x) ∧ ds.length ≤ 16 := ⟨_, w11, fd_app f10 (fd_each (fd_mono (fd_lst (fdl_cons (fd_int (by decide) (by decide)) (fdl_cons (fd_int (by decide) (by decide)) (fdl_cons (fd_int (by decide) (by decide)) (fdl_cons (fd_tup fdl_nil) fdl_nil))))) (by decide) (by decide))
 (fun _ h => absurd h List.not_mem_nil)), by rw [List.length_append]; exact Nat.add_le_add_right n10 1⟩
    refine st_set (Raw.cat (i := 7) w11 rfl (yl_cons (y_tup (yl_cons (y_neg (y_int 1)) (yl_cons (y_int 1) (yl_cons (y_int 5) (yl_cons (y_tup yl_nil (show 0 ≤ sizeLine by decide)) yl_nil)))) (show 4 ≤ sizeLine by decide)) (yl_cons (y_tup (yl_cons (y_int 0) (yl_cons (y_int 1) (yl_cons (y_int 5) (yl_cons y_non yl_nil)))) (show 4 ≤ sizeLine by decide)) (yl_cons (y_tup (yl_cons (y_int 0) (yl_cons (y_int 1) (yl_cons (y_int 5) (yl_cons (y_tup (yl_cons (y_repN (y_tup (yl_cons y_non yl_nil) (show 1 ≤ sizeLine by decide)) (y_var rfl (.int _)) (fun z => nomatch z) r0 (by omega) (by decide)) yl_nil) (show 1 ≤ sizeLine by decide)) yl_nil)))) (show 4 ≤ sizeLine by decide)) (yl_cons (y_tup (yl_cons (y_int 1) (yl_cons (y_int 0) (yl_cons (y_int 5) (yl_cons (y_tup (yl_cons (y_var rfl hU) yl_nil) (show 1 ≤ sizeLine by decide)) yl_nil)))) (show 4 ≤ sizeLine by decide)) (yl_cons (y_tup (yl_cons (y_int 0) (yl_cons (y_int 1) (yl_cons (y_str _) (yl_cons (y_tup yl_nil (show 0 ≤ sizeLine by decide)) yl_nil)))) (show 4 ≤ sizeLine by decide)) yl_nil))))) (show 5 ≤ sizeLine by decide) (Nat.le_trans (Nat.add_le_add_right n11 5) (by decide)) fun a12 H12 e12 w12 => ?_)
    obtain ⟨d12, w12, f12, n12⟩ : ∃ ds, Raw K H6 H12 a12 ds ∧ (∀ x ∈ ds, Fd 100000 7 x) ∧ ds.length ≤ 21 := ⟨_, w12, fd_app f11 (fd_each (fd_mono (fd_tup (fdl_cons (fd_int (by decide) (by decide)) (fdl_cons (fd_int (by decide) (by decide)) (fdl_cons (fd_int (by decide) (by decide)) (fdl_cons (fd_tup fdl_nil) fdl_nil))))) (by decide) (by decide))
 (fd_each (fd_mono (fd_tup (fdl_cons (fd_int (by decide) (by decide)) (fdl_cons (fd_int (by decide) (by decide)) (fdl_cons (fd_int (by decide) (by decide)) (fdl_cons fd_non fdl_nil))))) (by decide) (by decide))
 (fd_each (fd_mono (fd_tup (fdl_cons (fd_int (by decide) (by decide)) (fdl_cons (fd_int (by decide) (by decide)) (fdl_cons (fd_int (by decide) (by decide)) (fdl_cons (fd_tup (fdl_cons (fd_nones r0 (by omega)) fdl_nil)) fdl_nil))))) (by decide) (by decide))
 (fd_each (fd_mono (fd_tup (fdl_cons (fd_int (by decide) (by decide)) (fdl_cons (fd_int (by decide) (by decide)) (fdl_cons (fd_int (by decide) (by decide)) (fdl_cons (fd_tup (fdl_cons fdU fdl_nil)) fdl_nil))))) (by decide) (by decide))
 (fd_each (fd_mono (fd_tup (fdl_cons (fd_int (by decide) (by decide)) (fdl_cons (fd_int (by decide) (by decide)) (fdl_cons (fd_str (by decide) (by decide)) (fdl_cons (fd_tup fdl_nil) fdl_nil))))) (by decide) (by decide))
 (fun _ h => absurd h List.not_mem_nil)))))), by rw [List.length_append]; exact Nat.add_le_add_right n11 5⟩
    have b612 := w12.base
    have hS := hS.ex b612
    have hG := hG.ex b612
    have hU := hU.ex b612
    have hM := w12.th
    clear w7 w8 w9 w10 w11 w12
    -- pairs of places
    refine st_set ?_
    refine ⟨16, rfl, by decide, by decide, fun D nD => ?_⟩
    refine lc_range (lo := 0) (n := 16) (fun i H' => ∃ G ys, Evl.Ex H12 G ∧ Evl.Ex G H' ∧ G D = none ∧ H' D = some (.lst ys) ∧ ThAll K G ys (pairsD uD i)) ⟨H12, [], Evl.Ex.refl _, Evl.Ex.new nD, nD, upd_same, .nil⟩ ?_ ?_
    · rintro i H' hi ⟨G, ys, g1, g2, gD, hD, hys⟩
      refine ⟨rfl, ?_⟩
      refine ⟨.int (0 + (i : Nat)), rfl, (0 + (i : Nat)), 4, rfl, rfl, ⟨by decide, by decide⟩, .int (0 + (i : Nat)), rfl, (0 + (i : Nat)), 4, rfl, rfl, (show (0 : Int) < 4 by decide), rfl, _, rfl, ?_⟩
      have yl : ys.length = (pairsD uD i).length := hys.len
      have pl := pairs_len uD i
      refine ite2 (fun hc => ?_) (fun hc => ?_)
      · refine (y_tup (yl_cons (y_fdiv (y_var rfl (.int _)) (y_int 4) ⟨by decide, by decide⟩) (yl_cons (y_mod (y_var rfl (.int _)) (y_int 4) (by decide)) (yl_cons (y_add (y_int 1) (y_var rfl (.int _))) (yl_cons (y_tup (yl_cons (y_var rfl (hU.ex g1)) yl_nil) (show 1 ≤ sizeLine by decide)) yl_nil)))) (show 4 ≤ sizeLine by decide) : YS K _ _ G _) G H' (Evl.Ex.refl G) g2 _ fun y G4 H4 f4 hy4 => ?_
        have g4D : G4 D = none := f4.new D gD (by rw [hD]; exact fun z => nomatch z)
        refine ⟨ys, f4.h _ _ hD, Nat.lt_of_le_of_lt (show ys.length ≤ 16 by omega) (by decide), G4, ys ++ [y], g1.trans f4.g, fun b o z => ?_, g4D, upd_same, ?_⟩
        · have nb : b ≠ D := fun e => by rw [e, g4D] at z; cases z
          rw [upd_ne nb]
          exact f4.gh b o z
        · have ee : pairsD uD (i + 1) = pairsD uD i ++ [pairD uD i] := by
            show (if decide ((0 + (i : Nat) : Int) / 4 ≠ (0 + (i : Nat) : Int) % 4) = true then pairsD uD i ++ [pairD uD i] else pairsD uD i) = _
            have hc' : (!decide (V.int ((0 + (i : Nat) : Int) / 4) = V.int ((0 + (i : Nat) : Int) % 4))) = true := hc
            rw [dec_int] at hc'
            rw [if_pos]
            refine decide_eq_true fun z => ?_
            rw [z] at hc'
            simp at hc'
          rw [ee]
          exact (hys.ex f4.g).app (.cons hy4 .nil)
      · refine ⟨G, ys, g1, g2, gD, hD, ?_⟩
        have ee : pairsD uD (i + 1) = pairsD uD i := by
          show (if decide ((0 + (i : Nat) : Int) / 4 ≠ (0 + (i : Nat) : Int) % 4) = true then pairsD uD i ++ [pairD uD i] else pairsD uD i) = _
          have hc' : ¬ (!decide (V.int ((0 + (i : Nat) : Int) / 4) = V.int ((0 + (i : Nat) : Int) % 4))) = true := hc
          rw [dec_int] at hc'
          rw [if_neg]
          intro z
          rw [decide_eq_true_eq] at z
          refine hc' ?_
          rw [Bool.not_eq_true', beq_eq_false_iff_ne]
          exact z
        rw [ee]
        exact hys
    · rintro H13 ⟨G13, ys, g1, g2, gD, hD, hys⟩
      have e13 : Evl.Ex H12 H13 := g1.trans g2
      have hS := hS.ex e13
      have hG := hG.ex e13
      have hU := hU.ex e13
      have hM := hM.ex e13
      have hys13 := hys.ex g2
      have hp13 := hp4.ex (e5.trans (e6.trans (b612.trans e13)))
      -- all together
      refine st_set (op1 ?_)
      refine YS.run (K := K) (y_cat (y_var rfl hS) (y_lc (f := fun x => .tuple [.int wD, .tuple [x]]) (y_var rfl hM) (fun _ => rfl) (Nat.le_trans n12 (by decide)) fun v d H1 hd e1 hv => y_tup (yl_cons (y_var rfl (.int _)) (yl_cons (y_tup (yl_cons (y_var rfl hv) yl_nil) (show 1 ≤ sizeLine by decide)) yl_nil)) (show 2 ≤ sizeLine by decide)) (by rw [List.length_map]; exact Nat.le_trans (Nat.add_le_add n6 n12) (by decide))) fun v14 H14 e14 h14 => ?_
      have f14 : ∀ x ∈ d6 ++ d12.map (fun x => PyData.tuple [.int wD, .tuple [x]]), Fd 150000 10 x := fd_app f6 fun x hx => by
        obtain ⟨y, hy, rfl⟩ := List.mem_map.mp hx
        exact fd_mono (fd_tup (fdl_cons fdW (fdl_cons (fd_tup (fdl_cons (f12 y hy) fdl_nil)) fdl_nil))) (by decide) (by decide)
      have n14 : (d6 ++ d12.map (fun x => PyData.tuple [.int wD, .tuple [x]])).length ≤ 34 := by
        rw [List.length_append, List.length_map]
        omega
      generalize d6 ++ d12.map (fun x => PyData.tuple [.int wD, .tuple [x]]) = d14 at h14 f14 n14
      have hD14 := e14 _ _ hD
      have hp14 := hp13.ex e14
      have nDp : D ≠ p := fun z => by
        obtain ⟨cells, t, d, hpp, _⟩ := hp14
        rw [z, hpp] at hD14
        cases hD14
      refine ⟨.ref D, rfl, .ref p, rfl, p, c, 6, _, rfl, hp14, by decide, by decide, by omega, fun r2 H15 r20 r21 x15 hp15 => ⟨7, r2, rfl, rfl, _, rfl, D, ys, rfl, .inl (.inl (x15 _ _ nDp hD14)), fun S nS => ?_⟩⟩
      have tk15 := hp14.tk (K := K) x15
      have h15 := h14.keep tk15
      have hys15 := (hys13.ex e14).keep tk15
      have cut16 : ∃ cs, ThAll K H15 (cutV ys none (some (7 + r2))) cs ∧ (∀ x ∈ cs, x ∈ pairsD uD 16) := ⟨cutD (pairsD uD 16) none (some (7 + r2)), hys15.cut _ _, fun x hx => List.mem_of_mem_drop (List.mem_of_mem_take hx)⟩
      obtain ⟨cs, hcs, csub⟩ := cut16
      have csl : cs.length ≤ 16 := by
        have h1 := hcs.len
        have h2 := cutV_length ys none (some (7 + r2))
        have h3 := hys13.len
        have h4 := pairs_len uD 16
        omega
      generalize cutV ys none (some (7 + r2)) = cvs at hcs
      have e16 := Evl.Ex.new (o := .lst cvs) nS
      refine ⟨S, cvs, rfl, .inl ⟨.inl (.inl upd_same), fun t17 nt17 => ?_⟩⟩
      have e17 := e16.trans (Evl.Ex.new (o := .tup cvs) nt17)
      have ht17 : (upd (upd H15 S (.lst cvs)) t17 (.tup cvs)) t17 = some (.tup cvs) := upd_same
      generalize upd (upd H15 S (.lst cvs)) t17 (.tup cvs) = H17 at e17 ht17
      have hT17 : Th K H17 (.ref t17) (.tuple cs) := .tup ht17 (hcs.ex e17)
      refine ⟨(show 2 ≤ sizeLine by decide), fun t18 nt18 => ?_⟩
      have e18 := Evl.Ex.new (o := .tup [.int 4, .ref t17]) nt18
      have ht18 : (upd H17 t18 (.tup [.int 4, .ref t17])) t18 = some (.tup [.int 4, .ref t17]) := upd_same
      generalize upd H17 t18 (.tup [.int 4, .ref t17]) = H18 at e18 ht18
      have hT18 : Th K H18 (.ref t18) (.tuple [.int 4, .tuple cs]) := .tup ht18 (.cons (.int _) (.cons (hT17.ex e18) .nil))
      have f18 : Fd 150000 10 (.tuple [.int 4, .tuple cs]) := by
        have fl : FdL 60000 3 cs := fdl_of (n := 3000) (fun x hx => pairs_fd fdU 16 (by decide) x (csub x hx)) (by omega)
        exact fd_mono (fd_tup (fdl_cons (fd_int (by decide) (by decide)) (fdl_cons (fd_tup fl) fdl_nil))) (by decide) (by decide)
      refine ⟨(show 1 ≤ sizeLine by decide), fun l19 nl19 => ?_⟩
      have e19 := Evl.Ex.new (o := .lst [.ref t18]) nl19
      have hl19 : (upd H18 l19 (.lst [.ref t18])) l19 = some (.lst [.ref t18]) := upd_same
      generalize upd H18 l19 (.lst [.ref t18]) = H19 at e19 hl19
      refine ⟨l19, 4, [.ref t18], rfl, rfl, hl19, by decide, by decide, (show 4 ≤ sizeLine by decide), fun l20 nl20 => ?_⟩
      have e20 := Evl.Ex.new (o := .lst [.ref t18, .ref t18, .ref t18, .ref t18]) nl20
      have hl20 : (upd H19 l20 (.lst [.ref t18, .ref t18, .ref t18, .ref t18])) l20 = some (.lst [.ref t18, .ref t18, .ref t18, .ref t18]) := upd_same
      change rCat v14 (.ref l20) (upd H19 l20 (.lst [.ref t18, .ref t18, .ref t18, .ref t18])) _
      generalize upd H19 l20 (.lst [.ref t18, .ref t18, .ref t18, .ref t18]) = H20 at e20 hl20
      have e1520 : Evl.Ex H15 H20 := e17.trans (e18.trans (e19.trans e20))
      obtain ⟨s14, svs, rfl, hs14, hsvs⟩ := (h15.ex e1520).lstS
      have svl := hsvs.len
      refine ⟨s14, l20, svs, _, rfl, rfl, hs14, hl20, Nat.le_trans (show svs.length + 4 ≤ 100 by omega) (by decide), fun l21 nl21 => ?_⟩
      have hT20 := hT18.ex (e19.trans e20)
      have hall : ThAll K H20 (svs ++ [.ref t18, .ref t18, .ref t18, .ref t18]) (d14 ++ [.tuple [.int 4, .tuple cs], .tuple [.int 4, .tuple cs], .tuple [.int 4, .tuple cs], .tuple [.int 4, .tuple cs]]) := hsvs.app (.cons hT20 (.cons hT20 (.cons hT20 (.cons hT20 .nil))))
      have fall : ∀ x ∈ d14 ++ [.tuple [.int 4, .tuple cs], .tuple [.int 4, .tuple cs], .tuple [.int 4, .tuple cs], .tuple [.int 4, .tuple cs]], Fd 150000 10 x := fd_app f14 (fd_each f18 (fd_each f18 (fd_each f18 (fd_each f18 fun _ h => absurd h List.not_mem_nil))))
      have nall : (svs ++ [V.ref t18, .ref t18, .ref t18, .ref t18]).length ≤ 100 := by
        rw [List.length_append]
        show svs.length + 4 ≤ 100
        omega
      have neall : svs ++ [V.ref t18, .ref t18, .ref t18, .ref t18] ≠ [] := by simp
      generalize svs ++ [V.ref t18, .ref t18, .ref t18, .ref t18] = avs at hall nall neall
      generalize d14 ++ [.tuple [.int 4, .tuple cs], .tuple [.int 4, .tuple cs], .tuple [.int 4, .tuple cs], .tuple [.int 4, .tuple cs]] = ads at hall fall
      have e21 := Evl.Ex.new (o := .lst avs) nl21
      have hl21 : (upd H20 l21 (.lst avs)) l21 = some (.lst avs) := upd_same
      generalize upd H20 l21 (.lst avs) = H21 at e21 hl21
      have hp21 := hp15.ex (e1520.trans e21)
      have x21 : Exx p H H21 := x4.trans ((Exx.ex (e5.trans (e6.trans (b612.trans (e13.trans e14))))).trans (x15.trans (Exx.ex (e1520.trans e21))))
      have hall21 := hall.ex e21
      have hLk : Th K H21 (.ref a) (.tuple (l.map dB)) := th_lockS (hL.mono (hp.tx x21))
      have lml : (l.map dB).length = l.length := List.length_map ..
      -- the lock with it
      refine ret1 (op1 (op1 ?_))
      refine YS.run (K := K) (y_slice (y_var rfl hLk) yo_none (yo_some (y_var rfl (.int (k : Nat))))) fun v22 H22 e22 h22 => ?_
      rw [cutD_take _ (by omega)] at h22
      have hp22 := hp21.ex e22
      have nl21p : l21 ≠ p := fun z => by
        obtain ⟨cells, t, d, hpp, _⟩ := hp21
        rw [z, hpp] at hl21
        cases hl21
      refine tup1 (tcons1 ?_)
      refine ⟨.ref p, rfl, .ref l21, rfl, p, c, l21, _, avs, rfl, hp22, by omega, .inl (.inl (e22 _ _ hl21)), nl21p, neall, by omega, fun x H23 hx x23 hp23 => ?_⟩
      obtain ⟨i23, hi23⟩ := List.mem_iff_getElem?.mp hx
      obtain ⟨dx, hdx, hthx⟩ := Paired.get1 hall21.paired hi23
      have tk23 := hp22.tk (K := K) x23
      have hx23 := (hthx.ex e22).keep tk23
      have h23 := h22.keep tk23
      refine ⟨(show 1 ≤ sizeLine by decide), fun t24 nt24 => ?_⟩
      have e24 := Evl.Ex.new (o := .tup [x]) nt24
      have ht24 : (upd H23 t24 (.tup [x])) t24 = some (.tup [x]) := upd_same
      generalize upd H23 t24 (.tup [x]) = H24 at e24 ht24
      have hT24 : Th K H24 (.ref t24) (.tuple [dx]) := .tup ht24 (.cons (hx23.ex e24) .nil)
      have tkl : ((l.map dB).take k).length = k := by rw [List.length_take]; omega
      refine catA_th (K := K) (h23.ex e24) hT24 (Nat.le_trans (show ((l.map dB).take k).length + 1 ≤ 100 by omega) (by decide)) fun v25 H25 e25 h25 => ?_
      have x25 : Exx p H H25 := x21.trans ((Exx.ex e22).trans (x23.trans (Exx.ex (e24.trans e25))))
      have hLk25 : Th K H25 (.ref a) (.tuple (l.map dB)) := th_lockS (hL.mono (hp.tx x25))
      refine YS.run (K := K) (y_slice (y_var rfl hLk25) (yo_some (y_add (y_var rfl (.int (k : Nat))) (y_int 1))) yo_none) fun v26 H26 e26 h26 => ?_
      have ek : (((k : Nat) : Int) + 1) = ((k + 1 : Nat) : Int) := by omega
      rw [ek, cutD_drop _ (by omega)] at h26
      refine catA_th (K := K) (h25.ex e26) h26 (Nat.le_trans (show (((l.map dB).take k) ++ [dx]).length + ((l.map dB).drop (k + 1)).length ≤ 200 by rw [List.length_append, List.length_drop]; simp only [List.length_cons, List.length_nil]; omega) (by decide)) fun v27 H27 e27 h27 => ?_
      exact q H27 v27 _ (x25.trans (Exx.ex (e26.trans e27))) ((hp23.ex (e24.trans (e25.trans (e26.trans e27)))).mono (by omega)) h27 (near_of ok (fall dx (List.mem_of_getElem? hdx)) k)
end
end Wb

set_option Elab.async false
set_option linter.all false
set_option maxRecDepth 100000
set_option maxHeartbeats 8000000
set_option pp.maxSteps 600
set_option pp.deepTerms false
namespace Wb
open PySem PySem.Spec PyProof.Rows L2
abbrev sWorded : Stmt := topS 34
abbrev nWorded : List Str := ["_law_pen_here", "_law_first", "_law_by", "_law_many", "_law_numbers", "_law_words", "_law_at", "_law_above", "_law_floor", "_law_some", "_law_j", "_law_one", "_law_word", "_law_k"]
theorem scWorded : FnScope nWorded ["_law_pen_here"] (defScope sWorded) := ⟨rfl, rfl, rfl, by decide +kernel, rfl, by decide +kernel, by decide +kernel⟩

/-- a thing with two bolts that bring words -/
structure Worded (d : PyData) : Prop where
  good : good 200 d = true
  wt : wt d ≤ 1500000
  dep : d.depth ≤ 12
  most : ∃ odd : List PyData, odd.length ≤ 2 ∧ ∀ x ∈ itemsS d, x ∈ odd ∨ noW x = true
def spWorded (K : PySem.W.Frag) : Sp := fun vs H Q _ => ∃ (p c : Addr) (T : Int), vs = [.ref p] ∧ PenAt H p c T ∧ T ≤ 8000000 ∧ ∀ H' u d, Exx p H H' → PenAt H' p c (T + 200) → Th K H' u d → Worded d → Q u H'
/-- the numbers, the words -/
def nmW (f b : Int) (j : Nat) : Int := (f + b * (0 + (j : Nat))) % 256
def w4 (n : Int) : Word := [n / 64, n / 16 % 4, n / 4 % 4, n % 4]
theorem nmW_bd (f b : Int) (j : Nat) : 0 ≤ nmW f b j ∧ nmW f b j < 256 := by
  unfold nmW
  omega
theorem nmW_ne {f b : Int} (hb : b % 2 = 1) {i j : Nat} (h : i < j) (h9 : j ≤ 9) : nmW f b i ≠ nmW f b j := by
  unfold nmW
  intro e
  have hd : (b * ((j : Int) - i)) % 256 = 0 := by
    have e2 : b * ((j : Int) - i) = (f + b * (0 + (j : Nat))) - (f + b * (0 + (i : Nat))) := by
      rw [Int.mul_sub, Int.zero_add, Int.zero_add]
      omega
    rw [e2]
    omega
  obtain ⟨c, hc⟩ : ∃ c, b = 2 * c + 1 := ⟨b / 2, by omega⟩
  have d8 : (j : Int) - i = 1 ∨ (j : Int) - i = 2 ∨ (j : Int) - i = 3 ∨ (j : Int) - i = 4 ∨ (j : Int) - i = 5 ∨ (j : Int) - i = 6 ∨ (j : Int) - i = 7 ∨ (j : Int) - i = 8 ∨ (j : Int) - i = 9 := by omega
  rw [hc] at hd
  rcases d8 with z | z | z | z | z | z | z | z | z <;> rw [z] at hd <;> omega
theorem w4_inj {m n : Int} (hm : 0 ≤ m ∧ m < 256) (hn : 0 ≤ n ∧ n < 256) (h : w4 m = w4 n) : m = n := by
  unfold w4 at h
  simp only [List.cons.injEq, and_true] at h
  omega
theorem w4_bd {n : Int} (hn : 0 ≤ n ∧ n < 256) : (w4 n).length = 4 ∧ TS.Bd 4 (w4 n) := by
  refine ⟨rfl, fun x hx => ?_⟩
  unfold w4 at hx
  simp only [List.mem_cons, List.not_mem_nil, or_false] at hx
  rcases hx with rfl | rfl | rfl | rfl <;> omega
def wsW (f b : Int) (m : Nat) : List Word := (List.range m).map fun j => w4 (nmW f b j)
theorem wsW_nodup {f b : Int} (hb : b % 2 = 1) {m : Nat} (h : m ≤ 9) : (wsW f b m).Nodup := by
  unfold wsW
  rw [List.Nodup, List.pairwise_map]
  refine List.Pairwise.imp_of_mem ?_ (List.pairwise_lt_range (n := m))
  intro i j hi hj hl e
  rw [List.mem_range] at hi hj
  exact nmW_ne hb hl (by omega) (w4_inj (nmW_bd f b i) (nmW_bd f b j) e)
theorem wsW_mem {f b : Int} {m : Nat} {w : Word} (h : w ∈ wsW f b m) : w.length = 4 ∧ TS.Bd 4 w := by
  obtain ⟨j, _, rfl⟩ := List.mem_map.mp h
  exact w4_bd (nmW_bd f b j)
theorem wsW_succ (f b : Int) (m : Nat) : wsW f b (m + 1) = wsW f b m ++ [w4 (nmW f b m)] := by
  unfold wsW
  rw [List.range_succ, List.map_append]
  rfl
theorem wsW_len (f b : Int) (m : Nat) : (wsW f b m).length = m := by
  unfold wsW
  rw [List.length_map, List.length_range]
theorem fd_word {u : Word} (n : u.length ≤ 5) (h : TS.Bd 4 u) : Fd 300 1 (dW u) := by
  have each : ∀ x ∈ u.map PyData.int, Fd 40 0 x := fun x hx => by
    obtain ⟨i, hi, rfl⟩ := List.mem_map.mp hx
    have := h i hi
    exact fd_int (by omega) (by omega)
  have z := fd_tup (fdl_of (N := 210) each (by rw [List.length_map]; omega))
  exact fd_mono z (by decide) (by decide)
theorem fd_words {us : List Word} (n : us.length ≤ 9) (h : ∀ u ∈ us, u.length ≤ 5 ∧ TS.Bd 4 u) : Fd 3000 2 (dWs us) := by
  have each : ∀ x ∈ us.map dW, Fd 300 1 x := fun x hx => by
    obtain ⟨u, hu, rfl⟩ := List.mem_map.mp hx
    exact fd_word (h u hu).1 (h u hu).2
  have z := fd_tup (fdl_of (N := 2718) each (by rw [List.length_map]; omega))
  exact fd_mono z (by decide) (by decide)
theorem th_wordsT {K : PySem.W.Frag} {H : Hp} {t : Addr} {ys : List V} {us : List Word} (h : H t = some (.tup ys)) (p : Paired (Wd K H) ys us) : Th K H (.ref t) (dWs us) := .tup h (th_allOf (F := Wd K H) (f := dW) (fun _ _ => th_word) p)
theorem wd_all {d4 a b d3 : PyData} (h4 : Fd 5000 6 d4) (ha : Fd 5000 6 a) (hb : Fd 5000 6 b) (h3 : Fd 5000 6 d3) : ∀ x ∈ List.replicate 4 d4 ++ [a, b, d3], Fd 5000 6 x := fd_app (fun x hx => by rw [List.eq_of_mem_replicate hx]; exact h4) (fd_each ha (fd_each hb (fd_each h3 fun _ h => absurd h List.not_mem_nil)))
section
variable {P : Program} {w : World} {K : PySem.W.Frag} {mg : Str → Option Value} {base : Heap}
theorem ok_worded {f f1 : Addr} {fd fd1 : FuncData} (F : Fun K "_law_worded" "_law_worded" sWorded f fd)
    (F1 : Fun K "_law_draw" "_law_draw" sDraw f1 fd1) (b1 : Binds K fd1 ["_law_pen_here", "_law_many"] []) (g1 : mg "_law_draw" = some (.ref f1)) (B : Bi mg) :
    FnOk P w K mg base CX0 2 f fd ["_law_pen_here"] (spWorded K) := by
  have G1 : FnOk P w K mg base CX0 1 f1 fd1 ["_law_pen_here", "_law_many"] spDraw := ok_draw F1 B
  refine F.ok scWorded (fun vs H Q E h => ?_) (fun cdv A outer s H vs Q E hr h => ?_)
  · obtain ⟨p, c, T, rfl, _⟩ := h; rfl
  · obtain ⟨p, c, T, rfl, hp, T8, q⟩ := h
    refine ⟨_, (pss_cons (ps_asg (pe_tup (pa_cons (pe_call G1 hr (by rfl) g1 F1.kp b1 .nil pass0 (pa_cons (pv 0) (pa_cons pe_int pa_nil))) (pa_cons (pe_op op_add pe_int (pe_op op_mul pe_int (pe_call G1 hr (by rfl) g1 F1.kp b1 .nil pass0 (pa_cons (pv 0) (pa_cons pe_int pa_nil))))) (pa_cons (pe_op op_add pe_int (pe_call G1 hr (by rfl) g1 F1.kp b1 .nil pass0 (pa_cons (pv 0) (pa_cons pe_int pa_nil)))) pa_nil)))) (pg_tup rfl (pgs_cons (pg_name (i := 1) scWorded.nd rfl (.inr rfl)) (pgs_cons (pg_name (i := 2) scWorded.nd rfl (.inr rfl)) (pgs_cons (pg_name (i := 3) scWorded.nd rfl (.inl rfl)) pgs_nil)))))
 (pss_cons (ps_setLc (i := 4) (own := [("_law_j", 10)]) (g := gName 10) rfl scWorded.nd rfl rfl (sw_true rfl rfl rfl (by decide +kernel)) (pi_range1 (by rfl) B.range (pa_cons (pv 3) pa_nil)) (blkOk_by (own := [("_law_j", 10)]) (N := nWorded) (sc := defScope sWorded) (by decide +kernel)) (fun _ _ _ _ _ => (pg_name (i := 10) scWorded.nd rfl (.inl rfl))) (fun _ _ _ _ _ => pts_nil) (fun _ _ _ _ _ => (pe_op op_mod (pe_op op_add (pv 1) (pe_op op_mul (pv 2) (pv 10))) pe_int)))
 (pss_cons (ps_setLc (i := 5) (own := [("_law_one", 11)]) (g := gName 11) rfl scWorded.nd rfl rfl (sw_true rfl rfl rfl (by decide +kernel)) (pi_list (pv 4)) (blkOk_by (own := [("_law_one", 11)]) (N := nWorded) (sc := defScope sWorded) (by decide +kernel)) (fun _ _ _ _ _ => (pg_name (i := 11) scWorded.nd rfl (.inl rfl))) (fun _ _ _ _ _ => pts_nil) (fun _ _ _ _ _ => (pe_tup (pa_cons (pe_op op_fdiv (pv 11) pe_int) (pa_cons (pe_op op_mod (pe_op op_fdiv (pv 11) pe_int) pe_int) (pa_cons (pe_op op_mod (pe_op op_fdiv (pv 11) pe_int) pe_int) (pa_cons (pe_op op_mod (pv 11) pe_int) pa_nil)))))))
 (pss_cons (ps_set (i := 6) scWorded.nd rfl (.inl rfl) (pe_op op_sub (pe_op op_add (pe_call G1 hr (by rfl) g1 F1.kp b1 .nil pass0 (pa_cons (pv 0) (pa_cons pe_int pa_nil))) (pv 3)) pe_int))
 (pss_cons (ps_set (i := 7) scWorded.nd rfl (.inl rfl) (pe_callTy (r := rTupK K) call_tupK (by rfl) B.tuple PyProof.Rows.boot_tuple (pa_cons (pe_callB (r := rSortW K) cr_sortW (by rfl) B.sorted boot_sorted (pa_cons (pe_lc (own := [("_law_word", 12)]) (g := gName 12) rfl scWorded.nd (pi_list (pe_slice sl_list (pv 5) (po_some (pv 6)) po_none)) (blkOk_by (own := [("_law_word", 12)]) (N := nWorded) (sc := defScope sWorded) (by decide +kernel)) (fun _ _ _ _ _ => (pg_name (i := 12) scWorded.nd rfl (.inl rfl))) (fun _ _ _ _ _ => pts_nil) (fun _ _ _ _ _ => (pe_op (r := rCatA K) op_catA (pv 12) (pe_tup (pa_cons (pe_call G1 hr (by rfl) g1 F1.kp b1 .nil pass0 (pa_cons (pv 0) (pa_cons pe_int pa_nil))) pa_nil))))) pa_nil)) pa_nil)))
 (pss_cons (ps_setLc (i := 8) (own := [("_law_k", 13)]) (g := gName 13) rfl scWorded.nd rfl rfl (sw_true rfl rfl rfl (by decide +kernel)) (pi_range1 (by rfl) B.range (pa_cons pe_int pa_nil)) (blkOk_by (own := [("_law_k", 13)]) (N := nWorded) (sc := defScope sWorded) (by decide +kernel)) (fun _ _ _ _ _ => (pg_name (i := 13) scWorded.nd rfl (.inl rfl))) (fun _ _ _ _ _ => pts_nil) (fun _ _ _ _ _ => (pe_tup (pa_cons pe_int (pa_cons (pe_tup pa_nil) pa_nil)))))
 (pss_cons (ps_set (i := 9) scWorded.nd rfl (.inl rfl) (pe_tup (pa_cons pe_int (pa_cons (pe_tup (pa_cons (pe_tup (pa_cons pe_int (pa_cons pe_int (pa_cons pe_int (pa_cons (pe_callTy (r := rTupK K) call_tupK (by rfl) B.tuple PyProof.Rows.boot_tuple (pa_cons (pe_callB (r := rSortW K) cr_sortW (by rfl) B.sorted boot_sorted (pa_cons (pe_slice sl_list (pv 5) po_none (po_some (pv 6))) pa_nil)) pa_nil)) pa_nil))))) pa_nil)) pa_nil))))
 (pss_one (ps_ret (pe_callTy (r := rTupK K) call_tupK (by rfl) B.tuple PyProof.Rows.boot_tuple (pa_cons (pe_op op_cat (pv 8) (pe_lst (pa_cons (pv 9) (pa_cons (pe_tup (pa_cons pe_int (pa_cons (pe_tup (pa_cons (pe_tup (pa_cons pe_int (pa_cons pe_int (pa_cons pe_int (pa_cons (pv 7) pa_nil))))) pa_nil)) pa_nil))) (pa_cons (pe_tup (pa_cons pe_int (pa_cons (pe_tup pa_nil) pa_nil))) pa_nil))))) pa_nil))))))))))), ?_⟩
    refine ⟨.ref p, rfl, p, c, 256, T, rfl, hp, by decide, by decide, by omega, fun r H1 r0 r1 x1 hp1 => ?_⟩
    refine ⟨.ref p, rfl, p, c, 128, _, rfl, hp1, by decide, by decide, by omega, fun s2 H2 s0 s1 x2 hp2 => ⟨2, s2, rfl, rfl, .inl ⟨by decide, by decide⟩, 1, 2 * s2, rfl, rfl, ?_⟩⟩
    refine ⟨.ref p, rfl, p, c, 2, _, rfl, hp2, by decide, by decide, by omega, fun m3 H3 m0 m1 x3 hp3 => ⟨8, m3, rfl, rfl, (show 3 ≤ sizeLine by decide), fun t nt => ?_⟩⟩
    have e4 := Evl.Ex.new (o := .tup [.int r, .int (1 + 2 * s2), .int (8 + m3)]) nt
    have ht4 : (upd H3 t (.tup [.int r, .int (1 + 2 * s2), .int (8 + m3)])) t = some (.tup [.int r, .int (1 + 2 * s2), .int (8 + m3)]) := upd_same
    generalize upd H3 t (.tup [.int r, .int (1 + 2 * s2), .int (8 + m3)]) = H4 at e4 ht4
    have x4 : Exx p H H4 := x1.trans (x2.trans (x3.trans (Exx.ex e4)))
    have hp4 := hp3.ex e4
    refine ⟨t, _, rfl, .inl (.inl ht4), rfl, _, _, rfl, _, _, rfl, _, _, rfl, rfl, ?_⟩
    have odd2 : (1 + 2 * s2) % 2 = 1 := by omega
    have bl2 : 0 ≤ 1 + 2 * s2 ∧ 1 + 2 * s2 ≤ 1000 := by omega
    obtain ⟨m, hm⟩ : ∃ m : Nat, 8 + m3 = (m : Nat) := ⟨(8 + m3).toNat, by omega⟩
    rw [hm]
    have m89 : 8 ≤ m ∧ m ≤ 9 := by omega
    generalize 1 + 2 * s2 = b at odd2 bl2
    -- the numbers
    dsimp only
    refine st_set ?_
    refine ⟨.int (m : Nat), rfl, (m : Nat), rfl, by omega, by omega, fun D nD => ?_⟩
    have nDp : D ≠ p := hp4.new1 nD
    refine lc_range (lo := 0) (n := ((m : Nat) : Int).toNat) (fun i H' => Evl.Ex H4 H' ∧ H' D = some (.lst ((List.range i).map fun j => V.int (nmW r b j)))) ⟨Evl.Ex.new nD, upd_same⟩ ?_ ?_
    · rintro i H' hi ⟨e', hD⟩
      refine ⟨rfl, ?_⟩
      refine ⟨.int r, rfl, .int b, rfl, .int (0 + (i : Nat)), rfl, b, (0 + (i : Nat)), rfl, rfl, .inl ⟨by omega, by omega⟩, r, b * (0 + (i : Nat)), rfl, rfl, r + b * (0 + (i : Nat)), 256, rfl, rfl, (show (0 : Int) < 256 by decide), ?_⟩
      refine ⟨_, hD, by rw [List.length_map, List.length_range]; exact Nat.lt_of_lt_of_le (show i < 10 by omega) (by decide), e'.mut nD, ?_⟩
      rw [upd_same, List.range_succ, List.map_append]
      rfl
    rintro H5 ⟨e5, hD5⟩
    have em : (((m : Nat) : Int).toNat) = m := by omega
    rw [em] at hD5
    have hp5 := hp4.ex e5
    have x5 := x4.trans (Exx.ex e5)
    -- the words
    refine st_set ?_
    refine ⟨.ref D, rfl, D, rfl, ⟨_, .inl (.inl hD5)⟩, fun D2 nD2 => ?_⟩
    have nD2p : D2 ≠ p := hp5.new1 nD2
    refine lc_list (K := K) (a := D) (xs := (List.range m).map fun j => V.int (nmW r b j)) (fun i H' => Evl.Ex H5 H' ∧ ∃ vs, H' D2 = some (.lst vs) ∧ Paired (Wd K H') vs (wsW r b i)) ⟨Evl.Ex.new nD2, [], upd_same, .nil⟩ ?_ ?_ ?_
    · rintro i H' _ ⟨e', _⟩
      exact .inl (.inl (e' _ _ hD5))
    · rintro i x H' hx ⟨e', vs, hD2, hvs⟩
      rw [List.getElem?_map] at hx
      obtain ⟨j, hj, rfl⟩ := Option.map_eq_some_iff.mp hx
      obtain ⟨il, hj2⟩ := List.getElem?_eq_some_iff.mp hj
      rw [List.length_range] at il
      rw [List.getElem_range] at hj2
      subst hj2
      refine ⟨rfl, ?_⟩
      refine tyes1 ?_
      refine YS.run (K := K) (y_tup (ds := (w4 (nmW r b i)).map PyData.int) (yl_cons (y_fdiv (y_var rfl (.int _)) (y_int 64) ⟨by decide, by decide⟩) (yl_cons (y_mod (y_fdiv (y_var rfl (.int _)) (y_int 16) ⟨by decide, by decide⟩) (y_int 4) (by decide)) (yl_cons (y_mod (y_fdiv (y_var rfl (.int _)) (y_int 4) ⟨by decide, by decide⟩) (y_int 4) (by decide)) (yl_cons (y_mod (y_var rfl (.int _)) (y_int 4) (by decide)) yl_nil)))) (show 4 ≤ sizeLine by decide)) fun v H6 e6 h6 => ?_
      obtain ⟨va, rfl, hva⟩ := ints_thS h6
      have vl : vs.length = i := by rw [Paired.len hvs, wsW_len]
      have hD26 := e6 _ _ hD2
      refine ⟨vs, hD26, by rw [vl]; exact Nat.lt_of_lt_of_le (show i < 10 by omega) (by decide), (e'.trans e6).mut nD2, vs ++ [.ref va], upd_same, ?_⟩
      rw [wsW_succ]
      exact Paired.imp (fun _ _ => Wd.mono (TX.put hD26)) (paired_app1 (Paired.imp (fun _ _ => wd_ex e6) hvs) ⟨va, rfl, hva⟩)
    rintro H6 ⟨e6, vs, hD6, hvs⟩
    rw [List.length_map, List.length_range] at hvs
    have hp6 := hp5.ex e6
    have x6 := x5.trans (Exx.ex e6)
    have vsl : vs.length = m := by rw [Paired.len hvs, wsW_len]
    -- where they are parted
    refine st_set ?_
    refine ⟨.ref p, rfl, p, c, 6, _, rfl, hp6, by decide, by decide, by omega, fun a6 H7 a60 a61 x7 hp7 => ⟨.int (m : Nat), rfl, a6, (m : Nat), rfl, rfl, a6 + (m : Nat), 8, rfl, rfl, ?_⟩⟩
    obtain ⟨k, hk⟩ : ∃ k : Nat, a6 + (m : Nat) - 8 = (k : Nat) := ⟨(a6 + (m : Nat) - 8).toNat, by omega⟩
    dsimp only
    rw [hk]
    have k6 : k ≤ m := by omega
    have tx7 : TX K H6 H7 := hp6.tx x7
    have hvs7 : Paired (Wd K H7) vs (wsW r b m) := Paired.imp (fun _ _ => Wd.mono tx7) hvs
    have hD7 := x7 _ _ nD2p hD6
    have nodW := wsW_nodup (f := r) odd2 m89.2
    have bdW : ∀ w ∈ wsW r b m, w.length = 4 ∧ TS.Bd 4 w := fun w hw => wsW_mem hw
    have lenW := wsW_len r b m
    generalize wsW r b m = ws at hvs7 nodW bdW lenW
    -- the words above
    refine st_set ?_
    refine ⟨.ref D2, rfl, .int (k : Nat), rfl, (k : Nat), rfl, D2, vs, rfl, .inl (.inl hD7), fun S nS => ?_⟩
    rw [cut_drop vs (k := k) (by omega)]
    have e8 := Evl.Ex.new (o := .lst (vs.drop k)) nS
    have hS8 : (upd H7 S (.lst (vs.drop k))) S = some (.lst (vs.drop k)) := upd_same
    generalize upd H7 S (.lst (vs.drop k)) = H8 at e8 hS8
    have hp8 := hp7.ex e8
    have hvs8 : Paired (Wd K H8) (vs.drop k) (ws.drop k) := paired_drop k (Paired.imp (fun _ _ => wd_ex e8) hvs7)
    have nSp : S ≠ p := hp7.new1 nS
    refine ⟨S, rfl, ⟨_, .inl (.inl hS8)⟩, fun D3 nD3 => ?_⟩
    have nD3p : D3 ≠ p := hp8.new1 nD3
    have nD3c : D3 ≠ c := hp8.new2 nD3
    refine lc_list (K := K) (a := S) (xs := vs.drop k) (fun i H' => ∃ (ys : List V) (us : List Word), Exx p H8 H' ∧ PenAt H' p c (T + 4 + (i : Nat)) ∧ H' D3 = some (.lst ys) ∧ Paired (Wd K H') ys us ∧ us.map (fun u => u.take 4) = (ws.drop k).take i ∧ ∀ u ∈ us, u.length = 5 ∧ TS.Bd 4 u)
      ⟨[], [], Exx.ex (Evl.Ex.new nD3), (hp8.put nD3p nD3c).mono (by omega), upd_same, .nil, rfl, fun u hu => (by cases hu)⟩ ?_ ?_ ?_
    · rintro i H' _ ⟨_, _, x', _⟩
      exact .inl (.inl (x' _ _ nSp hS8))
    · rintro i x H' hx ⟨ys, us, x', hp', hD3, hys, hmap, hbd⟩
      obtain ⟨u, hu, ⟨ua, rfl, hua⟩⟩ := Paired.get1 hvs8 hx
      have um : u ∈ ws := List.mem_of_mem_drop (List.mem_of_getElem? hu)
      obtain ⟨u4, ub⟩ := bdW u um
      have il : i < (ws.drop k).length := (List.getElem?_eq_some_iff.mp hu).1
      rw [List.length_drop] at il
      have usl : us.length = i := by
        have := congrArg List.length hmap
        rw [List.length_map, List.length_take, List.length_drop] at this
        omega
      refine ⟨rfl, ?_⟩
      refine ⟨.ref ua, rfl, .ref p, rfl, p, c, 2, _, rfl, hp', by decide, by decide, by omega, fun d H9 d0 d1 x9 hp9 => ⟨(show 1 ≤ sizeLine by decide), fun t nt => ?_⟩⟩
      have e10 := Evl.Ex.new (o := .tup [.int d]) nt
      have tx8 : TX K H8 H' := hp8.tx x'
      have hua9 : H9 ua = some (.tup (u.map V.int)) := (hp'.tx (K := K) x9).2 _ _ (tx8.2 _ _ hua)
      refine ⟨ua, t, u.map V.int, [.int d], rfl, rfl, .inl (.inl (e10 _ _ hua9)), .inl (.inl upd_same), Nat.le_trans (show (u.map V.int).length + 1 ≤ 10 by rw [List.length_map]; omega) (by decide), fun z => absurd (congrArg List.length z) (by rw [List.length_map, u4]; decide), (fun _ z => nomatch z), fun _ _ t2 nt2 => ?_⟩
      have e11 := e10.trans (Evl.Ex.new (o := .tup (u.map V.int ++ [.int d])) nt2)
      have ht2 : (upd (upd H9 t (.tup [.int d])) t2 (.tup (u.map V.int ++ [.int d]))) t2 = some (.tup ((u ++ [d]).map V.int)) := by rw [upd_same, List.map_append]; rfl
      generalize upd (upd H9 t (.tup [.int d])) t2 (.tup (u.map V.int ++ [.int d])) = H11 at e11 ht2
      have hD311 := e11 _ _ (x9 _ _ nD3p hD3)
      have ysl : ys.length = i := by rw [Paired.len hys, usl]
      refine ⟨ys, hD311, by rw [ysl]; exact Nat.lt_of_lt_of_le (show i < 10 by omega) (by decide), ys ++ [.ref t2], us ++ [u ++ [d]], (x'.trans (x9.trans (Exx.ex e11))).mut nD3, ((hp9.ex e11).put nD3p nD3c).mono (by omega), upd_same, ?_, ?_, ?_⟩
      · exact Paired.imp (fun _ _ => Wd.mono (TX.put hD311)) (paired_app1 (Paired.imp (fun _ _ => Wd.mono ((hp'.tx x9).trans (TX.ex e11))) hys) ⟨t2, rfl, ht2⟩)
      · rw [take_succ_get hu, List.map_append, hmap]
        congr 1
        show [(u ++ [d]).take 4] = [u]
        rw [List.take_append_of_le_length (by omega), List.take_of_length_le (by omega)]
      · intro v hv
        rcases List.mem_append.mp hv with z | z
        · exact hbd v z
        · rw [List.mem_singleton.mp z]
          refine ⟨by rw [List.length_append, u4]; rfl, fun y hy => ?_⟩
          rcases List.mem_append.mp hy with z | z
          · exact ub y z
          · rw [List.mem_singleton.mp z]
            omega
    rintro H9 ⟨ys, us, x9, hp9, hD9, hys, hmap, hbd⟩
    rw [List.length_drop] at hmap hp9
    have dl : (ws.drop k).length = vs.length - k := by rw [List.length_drop]; omega
    rw [← dl, List.take_length] at hmap
    have usl : us.length = (ws.drop k).length := by
      have := congrArg List.length hmap
      rwa [List.length_map] at this
    have nodU : us.Nodup := by
      have z : (us.map fun u => u.take 4).Nodup := by
        rw [hmap]
        exact nodW.sublist (List.drop_sublist _ _)
      rw [List.Nodup, List.pairwise_map] at z
      exact z.imp fun h e => h (by rw [e])
    have ysl : ys.length = us.length := Paired.len hys
    refine ⟨D3, ys, us, 5, rfl, .inl (.inl hD9), by omega, hys, hbd, nodU, fun ys2 us2 p2 l2 pr2 perm2 _ np2 => ?_⟩
    have e10 := Evl.Ex.new (o := .lst ys2) np2
    refine ⟨p2, ys2, rfl, .inl ⟨.inl (.inl upd_same), fun t11 nt11 => ?_⟩⟩
    have e11 := e10.trans (Evl.Ex.new (o := .tup ys2) nt11)
    have ht11 : (upd (upd H9 p2 (.lst ys2)) t11 (.tup ys2)) t11 = some (.tup ys2) := upd_same
    generalize upd (upd H9 p2 (.lst ys2)) t11 (.tup ys2) = H11 at e11 ht11
    have pr11 : Paired (Wd K H11) ys2 us2 := Paired.imp (fun _ _ => wd_ex e11) pr2
    have hAb : Th K H11 (.ref t11) (dWs us2) := th_wordsT ht11 pr11
    have fAb : Fd 3000 2 (dWs us2) := fd_words (by rw [perm2.length_eq]; omega) fun u hu => by
      have := hbd u (perm2.mem_iff.mp hu)
      exact ⟨by omega, this.2⟩
    have hp11 := hp9.ex e11
    have x711 : Exx p H7 H11 := (Exx.ex e8).trans (x9.trans (Exx.ex e11))
    have hvs11 : Paired (Wd K H11) vs ws := Paired.imp (fun _ _ => Wd.mono (hp7.tx x711)) hvs7
    have hD11 := x711 _ _ nD2p hD7
    have x11 := x6.trans (x7.trans x711)
    -- the floor
    refine st_set ?_
    refine ⟨4, rfl, by decide, by decide, fun D4 nD4 => ?_⟩
    refine lc_range (lo := 0) (n := 4) (fun i H' => ∃ G ys, Evl.Ex H11 G ∧ Evl.Ex G H' ∧ G D4 = none ∧ H' D4 = some (.lst ys) ∧ ThAll K G ys (List.replicate i (.tuple [.int 4, .tuple []]))) ⟨H11, [], Evl.Ex.refl _, Evl.Ex.new nD4, nD4, upd_same, .nil⟩ ?_ ?_
    · rintro i H' hi ⟨G, ys, g1, g2, gD, hD, hys⟩
      refine ⟨rfl, ?_⟩
      refine tyes1 ?_
      refine (y_tup (yl_cons (y_int 4) (yl_cons (y_tup yl_nil (show 0 ≤ sizeLine by decide)) yl_nil)) (show 2 ≤ sizeLine by decide) : YS K _ _ G _) G H' (Evl.Ex.refl G) g2 _ fun y G4 H4 f4 hy4 => ?_
      have g4D : G4 D4 = none := f4.new D4 gD (by rw [hD]; exact fun z => nomatch z)
      have yl : ys.length = i := by rw [hys.len, List.length_replicate]
      refine ⟨ys, f4.h _ _ hD, Nat.lt_of_le_of_lt (show ys.length ≤ 4 by omega) (by decide), G4, ys ++ [y], g1.trans f4.g, fun b o z => ?_, g4D, upd_same, ?_⟩
      · have nb : b ≠ D4 := fun e => by rw [e, g4D] at z; cases z
        rw [upd_ne nb]
        exact f4.gh b o z
      · rw [List.replicate_succ']
        exact (hys.ex f4.g).app (.cons hy4 .nil)
    rintro H12 ⟨G12, fs, g1, g2, gD, hD12, hfs⟩
    have e12 : Evl.Ex H11 H12 := g1.trans g2
    have hFl : Th K H12 (.ref D4) (.list (List.replicate 4 (.tuple [.int 4, .tuple []]))) := .lst hD12 (hfs.ex g2)
    have hp12 := hp11.ex e12
    have hvs12 : Paired (Wd K H12) vs ws := Paired.imp (fun _ _ => wd_ex e12) hvs11
    have hD212 := e12 _ _ hD11
    have hAb := hAb.ex e12
    -- the words below
    refine st_set ?_
    refine ⟨.ref D2, rfl, .int (k : Nat), rfl, (k : Nat), rfl, D2, vs, rfl, .inl (.inl hD212), fun S2 nS2 => ?_⟩
    rw [cut_take]
    have e13 := Evl.Ex.new (o := .lst (vs.take k)) nS2
    have hS13 : (upd H12 S2 (.lst (vs.take k))) S2 = some (.lst (vs.take k)) := upd_same
    generalize upd H12 S2 (.lst (vs.take k)) = H13 at e13 hS13
    have hvs13 : Paired (Wd K H13) (vs.take k) (ws.take k) := Paired.takeN k (Paired.imp (fun _ _ => wd_ex e13) hvs12)
    refine ⟨S2, vs.take k, ws.take k, 4, rfl, .inl (.inl hS13), by rw [List.length_take]; omega, hvs13, fun u hu => bdW u (List.mem_of_mem_take hu), nodW.sublist (List.take_sublist _ _), fun ys3 us3 p3 l3 pr3 perm3 _ np3 => ?_⟩
    have e14 := Evl.Ex.new (o := .lst ys3) np3
    refine ⟨p3, ys3, rfl, .inl ⟨.inl (.inl upd_same), fun t15 nt15 => ?_⟩⟩
    have e15 := e14.trans (Evl.Ex.new (o := .tup ys3) nt15)
    have ht15 : (upd (upd H13 p3 (.lst ys3)) t15 (.tup ys3)) t15 = some (.tup ys3) := upd_same
    generalize upd (upd H13 p3 (.lst ys3)) t15 (.tup ys3) = H15 at e15 ht15
    have hBe : Th K H15 (.ref t15) (dWs us3) := th_wordsT ht15 (Paired.imp (fun _ _ => wd_ex e15) pr3)
    have fBe : Fd 3000 2 (dWs us3) := fd_words (by rw [perm3.length_eq, List.length_take]; omega) fun u hu => by
      have := bdW u (List.mem_of_mem_take (perm3.mem_iff.mp hu))
      exact ⟨by omega, this.2⟩
    refine ⟨(show 4 ≤ sizeLine by decide), fun t16 nt16 => ?_⟩
    have e16 := Evl.Ex.new (o := .tup [.int 0, .int 1, .int 7, .ref t15]) nt16
    have ht16 : (upd H15 t16 (.tup [.int 0, .int 1, .int 7, .ref t15])) t16 = some (.tup [.int 0, .int 1, .int 7, .ref t15]) := upd_same
    generalize upd H15 t16 (.tup [.int 0, .int 1, .int 7, .ref t15]) = H16 at e16 ht16
    refine ⟨(show 1 ≤ sizeLine by decide), fun t17 nt17 => ?_⟩
    have e17 := Evl.Ex.new (o := .tup [.ref t16]) nt17
    have ht17 : (upd H16 t17 (.tup [.ref t16])) t17 = some (.tup [.ref t16]) := upd_same
    generalize upd H16 t17 (.tup [.ref t16]) = H17 at e17 ht17
    refine ⟨(show 2 ≤ sizeLine by decide), fun t18 nt18 => ?_⟩
    have e18 := Evl.Ex.new (o := .tup [.int 2, .ref t17]) nt18
    have ht18 : (upd H17 t18 (.tup [.int 2, .ref t17])) t18 = some (.tup [.int 2, .ref t17]) := upd_same
    generalize upd H17 t18 (.tup [.int 2, .ref t17]) = H18 at e18 ht18
    have e1218 : Evl.Ex H12 H18 := e13.trans (e15.trans (e16.trans (e17.trans e18)))
    have hSo : Th K H18 (.ref t18) (.tuple [.int 2, .tuple [.tuple [.int 0, .int 1, .int 7, dWs us3]]]) := .tup ht18 (.cons (.int _) (.cons (.tup (e18 _ _ ht17) (.cons (.tup (e18 _ _ (e17 _ _ ht16)) (.cons (.int _) (.cons (.int _) (.cons (.int _) (.cons (hBe.ex (e16.trans (e17.trans e18))) .nil))))) .nil)) .nil))
    have fSo : Fd 5000 6 (.tuple [.int 2, .tuple [.tuple [.int 0, .int 1, .int 7, dWs us3]]]) := fd_mono (fd_tup (fdl_cons (fd_int (by decide) (by decide)) (fdl_cons (fd_tup (fdl_cons (fd_tup (fdl_cons (fd_int (by decide) (by decide)) (fdl_cons (fd_int (by decide) (by decide)) (fdl_cons (fd_int (by decide) (by decide)) (fdl_cons fBe fdl_nil))))) fdl_nil)) fdl_nil))) (by decide) (by decide)
    have fUp : Fd 5000 6 (.tuple [.int 2, .tuple [.tuple [.int 1, .int 0, .int 9, dWs us2]]]) := fd_mono (fd_tup (fdl_cons (fd_int (by decide) (by decide)) (fdl_cons (fd_tup (fdl_cons (fd_tup (fdl_cons (fd_int (by decide) (by decide)) (fdl_cons (fd_int (by decide) (by decide)) (fdl_cons (fd_int (by decide) (by decide)) (fdl_cons fAb fdl_nil))))) fdl_nil)) fdl_nil))) (by decide) (by decide)
    have f4 : Fd 5000 6 (.tuple [.int 4, .tuple []]) := fd_mono (fd_tup (fdl_cons (fd_int (by decide) (by decide)) (fdl_cons (fd_tup fdl_nil) fdl_nil))) (by decide) (by decide)
    have f3 : Fd 5000 6 (.tuple [.int 3, .tuple []]) := fd_mono (fd_tup (fdl_cons (fd_int (by decide) (by decide)) (fdl_cons (fd_tup fdl_nil) fdl_nil))) (by decide) (by decide)
    have hFl := hFl.ex e1218
    have hAb := hAb.ex e1218
    refine ret1 ?_
    refine YS.run (K := K) (y_tupOf (y_cat (y_var rfl hFl) (y_lst (yl_cons (y_var rfl hSo) (yl_cons (y_tup (yl_cons (y_int 2) (yl_cons (y_tup (yl_cons (y_tup (yl_cons (y_int 1) (yl_cons (y_int 0) (yl_cons (y_int 9) (yl_cons (y_var rfl hAb) yl_nil)))) (show 4 ≤ sizeLine by decide)) yl_nil) (show 1 ≤ sizeLine by decide)) yl_nil)) (show 2 ≤ sizeLine by decide)) (yl_cons (y_tup (yl_cons (y_int 3) (yl_cons (y_tup yl_nil (show 0 ≤ sizeLine by decide)) yl_nil)) (show 2 ≤ sizeLine by decide)) yl_nil))) (show 3 ≤ sizeLine by decide)) (show 4 + 3 ≤ sizeLine by decide))) fun v19 H19 e19 h19 => ?_
    refine q H19 v19 _ (x11.trans (Exx.ex (e12.trans (e1218.trans e19)))) ((hp12.ex (e1218.trans e19)).mono (by omega)) h19 ⟨?_, ?_, ?_, [.tuple [.int 2, .tuple [.tuple [.int 0, .int 1, .int 7, dWs us3]]], .tuple [.int 2, .tuple [.tuple [.int 1, .int 0, .int 9, dWs us2]]]], Nat.le_refl 2, ?_⟩
    · rw [good_seq.1, goodAll_mem]
      exact fun x hx => (wd_all f4 fSo fUp f3 x hx).good
    · rw [(wt_seq _).1]
      have := (fdl_of (N := 40000) (wd_all f4 fSo fUp f3) (by show 7 * 5002 ≤ 40000; decide)).wt
      omega
    · rw [(depth_seq _).1]
      have := (fdl_of (N := 40000) (wd_all f4 fSo fUp f3) (by show 7 * 5002 ≤ 40000; decide)).dep
      omega
    · intro x hx
      have hx' : x ∈ List.replicate 4 (PyData.tuple [.int 4, .tuple []]) ++ [_, _, .tuple [.int 3, .tuple []]] := hx
      rcases List.mem_append.mp hx' with z | z
      · rw [List.eq_of_mem_replicate z]
        exact .inr rfl
      · simp only [List.mem_cons, List.not_mem_nil, or_false] at z
        rcases z with rfl | rfl | rfl
        · exact .inl (by simp)
        · exact .inl (by simp)
        · exact .inr rfl
end
end Wb

set_option Elab.async false
set_option linter.all false
set_option maxRecDepth 100000
set_option maxHeartbeats 8000000
set_option pp.maxSteps 600
set_option pp.deepTerms false
namespace Wb
open PySem PySem.Spec PyProof.Rows L2
abbrev sLaw : Stmt := topS 35
abbrev nLaw : List Str := ["_law_script", "_law_pen_here", "_law_turn", "_law_some", "_law_many", "_law_lock_here", "_law_bent_here", "_law_things", "_law_thing", "_law_held", "_law_due"]
theorem scLaw : FnScope nLaw ["_law_script"] (defScope sLaw) := ⟨rfl, rfl, rfl, by decide +kernel, rfl, by decide +kernel, by decide +kernel⟩
/-- the law's own defs -/
structure Ld (K : PySem.W.Frag) (mg : Str → Option Value) where
  f20 : Addr
  d20 : FuncData
  F20 : Fun K "_law_pen" "_law_pen" sPen f20 d20
  b20 : Binds K d20 ["_law_script"] []
  g20 : mg "_law_pen" = some (.ref f20)
  f21 : Addr
  d21 : FuncData
  F21 : Fun K "_law_draw" "_law_draw" sDraw f21 d21
  b21 : Binds K d21 ["_law_pen_here", "_law_many"] []
  g21 : mg "_law_draw" = some (.ref f21)
  f22 : Addr
  d22 : FuncData
  F22 : Fun K "_law_pick" "_law_pick" sPick f22 d22
  b22 : Binds K d22 ["_law_pen_here", "_law_some"] []
  g22 : mg "_law_pick" = some (.ref f22)
  f23 : Addr
  d23 : FuncData
  F23 : Fun K "_law_gaps" "_law_gaps" sGaps f23 d23
  b23 : Binds K d23 ["_law_pen_here", "_law_wide", "_law_words"] []
  g23 : mg "_law_gaps" = some (.ref f23)
  f24 : Addr
  d24 : FuncData
  F24 : Fun K "_law_lock" "_law_lock" sLock f24 d24
  b24 : Binds K d24 ["_law_pen_here", "_law_many", "_law_wide", "_law_more"] []
  g24 : mg "_law_lock" = some (.ref f24)
  f25 : Addr
  d25 : FuncData
  F25 : Fun K "_law_ways" "_law_ways" sAllWays f25 d25
  b25 : Binds K d25 ["_law_lock_here"] []
  g25 : mg "_law_ways" = some (.ref f25)
  f26 : Addr
  d26 : FuncData
  F26 : Fun K "_law_stand" "_law_stand" sStand f26 d26
  b26 : Binds K d26 ["_law_pen_here", "_law_lock_here"] []
  g26 : mg "_law_stand" = some (.ref f26)
  f27 : Addr
  d27 : FuncData
  F27 : Fun K "_law_whole" "_law_whole" sLWhole f27 d27
  b27 : Binds K d27 ["_law_thing", "_law_least_one", "_law_most_one"] []
  g27 : mg "_law_whole" = some (.ref f27)
  f28 : Addr
  d28 : FuncData
  F28 : Fun K "_law_odd" "_law_odd" sOdd f28 d28
  b28 : Binds K d28 ["_law_pen_here"] []
  g28 : mg "_law_odd" = some (.ref f28)
  f29 : Addr
  d29 : FuncData
  F29 : Fun K "_law_bent" "_law_bent" sBent f29 d29
  b29 : Binds K d29 ["_law_pen_here", "_law_thing"] []
  g29 : mg "_law_bent" = some (.ref f29)
  f30 : Addr
  d30 : FuncData
  F30 : Fun K "_law_is_bolt" "_law_is_bolt" sLBolt f30 d30
  b30 : Binds K d30 ["_law_under", "_law_thing"] []
  g30 : mg "_law_is_bolt" = some (.ref f30)
  f31 : Addr
  d31 : FuncData
  F31 : Fun K "_law_is_word" "_law_is_word" sLIsWord f31 d31
  b31 : Binds K d31 ["_law_lock_here", "_law_thing", "_law_is_wish_like"] []
  g31 : mg "_law_is_word" = some (.ref f31)
  f32 : Addr
  d32 : FuncData
  F32 : Fun K "_law_fault" "_law_fault" sLFault f32 d32
  b32 : Binds K d32 ["_law_thing"] []
  g32 : mg "_law_fault" = some (.ref f32)
  f33 : Addr
  d33 : FuncData
  F33 : Fun K "_law_edged" "_law_edged" sEdged f33 d33
  b33 : Binds K d33 ["_law_pen_here", "_law_lock_here"] []
  g33 : mg "_law_edged" = some (.ref f33)
  f34 : Addr
  d34 : FuncData
  F34 : Fun K "_law_worded" "_law_worded" sWorded f34 d34
  b34 : Binds K d34 ["_law_pen_here"] []
  g34 : mg "_law_worded" = some (.ref f34)
  str_ : mg "str" = none
  sum_ : mg "sum" = none
def spLaw (K : PySem.W.Frag) : Sp := fun vs H Q _ => ∃ (a : Addr) (ns : List Int), vs = [.ref a] ∧ SqL K H a (ns.map V.int) ∧ One K H ∧ ∀ H', Q (.bl true) H'
/-- what the law asks of -/
structure Okd (l : Lock) (d : PyData) : Prop where
  good : good 300 d = true
  wt : wt d ≤ 5400000
  dep : d.depth ≤ 16
  most : ∃ odd : List PyData, odd.length ≤ 2 ∧ Mostly l odd d
theorem okd_lock {l : Lock} (ok : LockDr l) : Okd l (dL l) := by
  obtain ⟨h1, h2, h3⟩ := good_lock ok
  exact ⟨good_mono (by decide) _ h1, by omega, by omega, [], Nat.zero_le _, mostly_lock l⟩
theorem okd_bent {l : Lock} (ok : LockDr l) {d : PyData} (b : Bent (dL l) d) : Okd l d ∧ good 224 d = true ∧ wt d ≤ 2620000 ∧ d.depth ≤ 10 ∧ ∃ odd : List PyData, odd.length ≤ 1 ∧ Mostly l odd d := by
  obtain ⟨h1, h2, h3⟩ := good_lock ok
  have g1 := b.good 200 (by decide) h1
  have w1 := b.wt
  have d1 := b.dep
  obtain ⟨odd, ho, hm⟩ := (mostly_lock l).bent b
  have ho' : odd.length ≤ 1 := ho
  exact ⟨⟨good_mono (by decide) _ g1, by omega, by omega, odd, by omega, hm⟩, g1, by omega, by omega, odd, ho', hm⟩
theorem okd_bent2 {l : Lock} (ok : LockDr l) {d e : PyData} (b : Bent (dL l) d) (b2 : Bent d e) : Okd l e := by
  obtain ⟨_, g1, w1, d1, odd, ho, hm⟩ := okd_bent ok b
  have g2 := b2.good 224 (by decide) g1
  have w2 := b2.wt
  have d2 := b2.dep
  obtain ⟨odd2, ho2, hm2⟩ := hm.bent b2
  exact ⟨good_mono (by decide) _ g2, by omega, by omega, odd2, by omega, hm2⟩
theorem okd_near {l : Lock} {d : PyData} (h : Near l d) : Okd l d := by
  obtain ⟨y, hy⟩ := h.most
  have := h.wt
  have := h.dep
  exact ⟨good_mono (by decide) _ h.good, by omega, by omega, [y], by simp, hy⟩
theorem okd_worded {l : Lock} {d : PyData} (h : Worded d) : Okd l d := by
  obtain ⟨odd, ho, hm⟩ := h.most
  have := h.wt
  have := h.dep
  exact ⟨good_mono (by decide) _ h.good, by omega, by omega, odd, ho, fun x hx => .inr (hm x hx)⟩
theorem okd_odd {l : Lock} {d : PyData} (h : d ∈ oddData) : Okd l d := by
  obtain ⟨h1, h2, h3, h4⟩ := odd_good d h
  have b := bent_odd (d := .none) h
  obtain ⟨odd, ho, hn⟩ := b.new
  refine ⟨good_mono (by decide) _ h1, by omega, by omega, odd, by omega, fun x hx => ?_⟩
  rcases hn x hx with z | z | z
  · exact absurd z List.not_mem_nil
  · exact .inr (.inl z)
  · exact .inr (.inr z)
theorem Okd.text {l : Lock} {d : PyData} (h : Okd l d) : d.showable = true ∧ d.depth ≤ 20 ∧ d.shown.length ≤ sizeLine := by
  obtain ⟨h1, h2⟩ := good_text (a := 300) (by decide) d h.good
  have := h.wt
  have := h.dep
  exact ⟨h1, by omega, Nat.le_trans (show d.shown.length ≤ 5400000 by omega) (by decide)⟩
theorem fault_good (d : PyData) : (faultD d).showable = true ∧ (faultD d).depth ≤ 20 ∧ (faultD d).shown.length ≤ sizeLine := by
  have aux : ∀ e : PyData, Fd 200 2 e → e.showable = true ∧ e.depth ≤ 20 ∧ e.shown.length ≤ sizeLine := fun e h => by
    obtain ⟨h1, h2⟩ := good_text (a := 200) (by decide) e h.good
    have := h.wt
    have := h.dep
    exact ⟨h1, by omega, Nat.le_trans (show e.shown.length ≤ 200 by omega) (by decide)⟩
  have tw : ∀ (x : Str) (k : Nat), good 200 (.str x) = true → Wb.wt (.str x) ≤ 100 → k ≤ 60 → Fd 200 2 (.tuple [.str x, .int (k : Nat)]) := fun x k hg hw hk => by
    have hx : Fd 100 0 (.str x) := ⟨hg, hw, by simp only [PyData.depth]; omega⟩
    exact fd_mono (fd_tup (fdl_cons hx (fdl_cons (fd_int (by omega) (by omega)) fdl_nil))) (by decide) (by decide)
  refine aux _ ?_
  unfold faultD
  split
  · rename_i hc
    rw [Bool.and_eq_true, Bool.and_eq_true, decide_eq_true_eq, decide_eq_true_eq] at hc
    split
    · rename_i k hk
      have := List.mem_range.mp (List.mem_of_find?_eq_some hk)
      exact tw _ k (by decide +kernel) (by decide +kernel) (by omega)
    · split
      · rename_i k hk
        have := List.mem_range.mp (List.mem_of_find?_eq_some hk)
        exact tw _ k (by decide +kernel) (by decide +kernel) (by omega)
      · exact fd_mono fd_non (by decide) (by decide)
  · have hx : Fd 100 0 (.str "lock") := ⟨by decide +kernel, by decide +kernel, by simp only [PyData.depth]; omega⟩
    exact fd_mono (fd_tup (fdl_cons hx fdl_nil)) (by decide) (by decide)
theorem bool_good (b : Bool) : (PyData.bool b).showable = true ∧ (PyData.bool b).depth ≤ 20 ∧ (PyData.bool b).shown.length ≤ sizeLine := by
  cases b <;> exact ⟨by decide +kernel, by decide +kernel, by decide +kernel⟩
section
variable {P : Program} {w : World} {K : PySem.W.Frag} {mg : Str → Option Value} {base : Heap}
theorem ok_law {f : Addr} {fd : FuncData} (F : Fun K "law" "law" sLaw f fd) (D : Pr K mg) (L : Ld K mg) : FnG P w K mg base 17 f fd ["_law_script"] (spLaw K) := by
  have G20 : FnOk P w K mg base CX0 1 L.f20 L.d20 ["_law_script"] (spPen K) := ok_pen L.F20 D.B
  have G21 : FnOk P w K mg base CX0 1 L.f21 L.d21 ["_law_pen_here", "_law_many"] spDraw := ok_draw L.F21 D.B
  have G22 : FnOk P w K mg base CX0 2 L.f22 L.d22 ["_law_pen_here", "_law_some"] (spPick K) := ok_pick L.F22 L.F21 L.b21 L.g21 D.B
  have G24 : FnOk P w K mg base CX0 4 L.f24 L.d24 ["_law_pen_here", "_law_many", "_law_wide", "_law_more"] (spLock K) := ok_lock L.F24 L.F21 L.b21 L.g21 L.F22 L.b22 L.g22 L.F23 L.b23 L.g23 D.B
  have G29 : FnOk P w K mg base CX0 16 L.f29 L.d29 ["_law_pen_here", "_law_thing"] (spBent K 12) := ok_bent L.F29 L.b29 L.g29 L.F21 L.b21 L.g21 L.F22 L.b22 L.g22 L.F28 L.b28 L.g28 L.str_ D.B 12
  have G33 : FnOk P w K mg base CX0 4 L.f33 L.d33 ["_law_pen_here", "_law_lock_here"] (spEdged K) := ok_edged L.F33 L.F21 L.b21 L.g21 L.F22 L.b22 L.g22 L.F26 L.b26 L.g26 L.F25 L.b25 L.g25 D.B
  have G34 : FnOk P w K mg base CX0 2 L.f34 L.d34 ["_law_pen_here"] (spWorded K) := ok_worded L.F34 L.F21 L.b21 L.g21 D.B
  have G28 : FnOk P w K mg base CX0 3 L.f28 L.d28 ["_law_pen_here"] (spOdd K) := ok_odd L.F28 L.F21 L.b21 L.g21 L.F22 L.b22 L.g22 D.B
  have G32 : FnOk P w K mg base CX0 4 L.f32 L.d32 ["_law_thing"] (spLFault K) := ok_lfault L.F32 L.F27 L.b27 L.g27 L.F31 L.b31 L.g31 L.F30 L.b30 L.g30 L.sum_ D.B
  have GB : FnOk P w K mg base CX0 6 D.f15 D.d15 ["thing"] (spFaultG K) := ok_faultG D
  have GC : FnOk P w K mg base CX0 7 D.f14 D.d14 ["thing"] (spIsLockG K) := ok_isLock D
  refine fnG_ok F scLaw (fun vs H Q E h => ?_) (fun cdv A outer s H vs Q E hgd hr h => ?_)
  · obtain ⟨a, ns, rfl, _⟩ := h; rfl
  · obtain ⟨a, ns, rfl, hS, one, q⟩ := h
    have hr1 : Room 1 _ := hr.mono (by decide)
    have hr2 : Room 2 _ := hr.mono (by decide)
    have hr3 : Room 3 _ := hr.mono (by decide)
    have hr4 : Room 4 _ := hr.mono (by decide)
    have hr6 : Room 6 _ := hr.mono (by decide)
    have hr7 : Room 7 _ := hr.mono (by decide)
    have hg2 : (A.deeper (envOfC "law" (defScope sLaw) s.heap.objs.size f cdv)).guards = some [] := hgd
    refine ⟨_, (pss_cons (ps_set (i := 1) scLaw.nd rfl (.inl rfl) (pe_call G20 hr1 (by rfl) L.g20 L.F20.kp L.b20 .nil pass0 (pa_cons (pv 0) pa_nil)))
 (pss_cons (ps_for PassesOwn.never rfl (pi_range1 (by rfl) D.B.range (pa_cons pe_int pa_nil)) (pg_name (i := 2) scLaw.nd rfl (.inl rfl))
 (pss_cons (ps_set (i := 3) scLaw.nd rfl (.inl rfl) (pe_lst (pa_cons pe_int (pa_cons pe_int (pa_cons pe_int (pa_cons (pe_op op_add pe_int (pe_call G21 hr1 (by rfl) L.g21 L.F21.kp L.b21 .nil pass0 (pa_cons (pv 1) (pa_cons pe_int pa_nil)))) (pa_cons (pe_op op_add pe_int (pe_call G21 hr1 (by rfl) L.g21 L.F21.kp L.b21 .nil pass0 (pa_cons (pv 1) (pa_cons pe_int pa_nil)))) pa_nil)))))))
 (pss_cons (ps_set (i := 4) scLaw.nd rfl (.inl rfl) (pe_call G22 hr2 (by rfl) L.g22 L.F22.kp L.b22 .nil pass0 (pa_cons (pv 1) (pa_cons (pe_op op_cat (pv 3) (pe_op op_rep (pe_lst (pa_cons (pe_op op_add pe_int (pe_call G21 hr1 (by rfl) L.g21 L.F21.kp L.b21 .nil pass0 (pa_cons (pv 1) (pa_cons pe_int pa_nil)))) pa_nil)) (pe_callTy call_int1 (by rfl) D.B.int PyProof.Rows.boot_int (pa_cons (pe_cmpR op_eq (pv 2) pe_int (nomark _)) pa_nil)))) pa_nil))))
 (pss_cons (ps_set (i := 5) scLaw.nd rfl (.inl rfl) (pe_call G24 hr4 (by rfl) L.g24 L.F24.kp L.b24 .nil pass0 (pa_cons (pv 1) (pa_cons (pv 4) (pa_cons pe_int (pa_cons (pe_call G22 hr2 (by rfl) L.g22 L.F22.kp L.b22 .nil pass0 (pa_cons (pv 1) (pa_cons (pe_lst (pa_cons pe_int (pa_cons pe_int (pa_cons pe_int pa_nil)))) pa_nil))) pa_nil))))))
 (pss_cons (ps_set (i := 6) scLaw.nd rfl (.inl rfl) (pe_call G29 hr (by rfl) L.g29 L.F29.kp L.b29 .nil pass0 (pa_cons (pv 1) (pa_cons (pv 5) pa_nil))))
 (pss_cons (ps_set (i := 7) scLaw.nd rfl (.inl rfl) (pe_lst (pa_cons (pv 5) (pa_cons (pv 6) (pa_cons (pe_call G29 hr (by rfl) L.g29 L.F29.kp L.b29 .nil pass0 (pa_cons (pv 1) (pa_cons (pv 6) pa_nil))) (pa_cons (pe_call G33 hr4 (by rfl) L.g33 L.F33.kp L.b33 .nil pass0 (pa_cons (pv 1) (pa_cons (pv 5) pa_nil))) (pa_cons (pe_call G34 hr2 (by rfl) L.g34 L.F34.kp L.b34 .nil pass0 (pa_cons (pv 1) pa_nil)) (pa_cons (pe_call G28 hr3 (by rfl) L.g28 L.F28.kp L.b28 .nil pass0 (pa_cons (pv 1) pa_nil)) pa_nil))))))))
 (pss_one (ps_for PassesOwn.never rfl (pi_list (pv 7)) (pg_name (i := 8) scLaw.nd rfl (.inl rfl))
 (pss_cons (ps_par (by rfl) scLaw.nd (i := 9) (j := 10) rfl rfl (by decide) rfl rfl (pa_cons (pe_callB (call_repr_th hr.units hg2) (by rfl) D.B.repr boot_repr (pa_cons (pv 8) pa_nil)) (pa_cons (pe_call G32 hr4 (by rfl) L.g32 L.F32.kp L.b32 .nil pass0 (pa_cons (pv 8) pa_nil)) pa_nil)) (by rfl))
 (pss_one (ps_if (PW.pt (pw_or (pt_cmpR op_ne (pe_callB (call_repr_th hr.units hg2) (by rfl) D.B.repr boot_repr (pa_cons (pe_call GB hr6 (by rfl) D.g15 D.F15.kp D.b15 .nil pass0 (pa_cons (pv 8) pa_nil)) pa_nil)) (pe_callB (call_repr_th hr.units hg2) (by rfl) D.B.repr boot_repr (pa_cons (pv 10) pa_nil)) (nomark _)) (pw_or (pt_cmpR op_ne (pe_callB (call_repr_th hr.units hg2) (by rfl) D.B.repr boot_repr (pa_cons (pe_call GC hr7 (by rfl) D.g14 D.F14.kp D.b14 .nil pass0 (pa_cons (pv 8) pa_nil)) pa_nil)) (pe_callB (call_repr_th hr.units hg2) (by rfl) D.B.repr boot_repr (pa_cons (pe_cmpR op_isN (pv 10) pe_non (nomark _)) pa_nil)) (nomark _)) (pw_or1 (pt_cmpR op_ne (pe_callB (call_repr_th hr.units hg2) (by rfl) D.B.repr boot_repr (pa_cons (pv 8) pa_nil)) (pv 9) (nomark _))))))
 (pss_one (ps_ret pe_bl))
 pss_nil)))))))))))
 (pss_one (ps_ret pe_bl)))), ?_⟩
    refine ⟨.ref a, rfl, a, ns, rfl, hS, fun H1 p e1 np hpc => ?_⟩
    obtain ⟨c, hp1⟩ := hpc
    refine ⟨6, rfl, by decide, by decide, ?_⟩
    refine for_range (lo := 0) (n := 6) (fun t σ H' => ∃ y2 y3 y4 y5 y6 y7 y8 y9 y10 : Option V, σ = [some (.ref a), some (.ref p), y2, y3, y4, y5, y6, y7, y8, y9, y10] ∧ PenAt H' p c (100000 * (t : Nat)) ∧ One K H')
      ⟨none, none, none, none, none, none, none, none, none, rfl, by simpa using hp1, one.ex e1⟩ ?_ ?_
    · rintro t σ H2 ht ⟨y2, y3, y4, y5, y6, y7, y8, y9, y10, rfl, hp2, one2⟩
      -- how many bolts
      refine st_set ?_
      refine ⟨.ref p, rfl, p, c, 9, _, rfl, hp2, by decide, by decide, by omega, fun r1 H3 r10 r11 x3 hp3 => ⟨1, r1, rfl, rfl, ?_⟩⟩
      refine ⟨.ref p, rfl, p, c, 12, _, rfl, hp3, by decide, by decide, by omega, fun r2 H4 r20 r21 x4 hp4 => ⟨1, r2, rfl, rfl, (show 5 ≤ sizeLine by decide), fun s5 ns5 => ?_⟩⟩
      have e5 := Evl.Ex.new (o := .lst [.int 1, .int 2, .int 3, .int (1 + r1), .int (1 + r2)]) ns5
      have hs5 : (upd H4 s5 (.lst [.int 1, .int 2, .int 3, .int (1 + r1), .int (1 + r2)])) s5 = some (.lst [.int 1, .int 2, .int 3, .int (1 + r1), .int (1 + r2)]) := upd_same
      generalize upd H4 s5 (.lst [.int 1, .int 2, .int 3, .int (1 + r1), .int (1 + r2)]) = H5 at e5 hs5
      have hp5 := hp4.ex e5
      have ns5p : s5 ≠ p := hp4.new1 ns5
      refine st_set ?_
      refine ⟨.ref p, rfl, .ref s5, rfl, .ref p, rfl, p, c, 3, _, rfl, hp5, by decide, by decide, by omega, fun r3 H6 r30 r31 x6 hp6 => ⟨59, r3, rfl, rfl, (show 1 ≤ sizeLine by decide), fun l7 nl7 => ?_⟩⟩
      have e7 := Evl.Ex.new (o := .lst [.int (59 + r3)]) nl7
      have hl7 : (upd H6 l7 (.lst [.int (59 + r3)])) l7 = some (.lst [.int (59 + r3)]) := upd_same
      generalize upd H6 l7 (.lst [.int (59 + r3)]) = H7 at e7 hl7
      refine ⟨.int (0 + (t : Nat)), rfl, rfl, .inr ⟨_, rfl, ?_⟩⟩
      generalize hk : (if decide (V.int (0 + (t : Nat)) = V.int 0) = true then (1 : Int) else 0) = k
      have k01 : k = 0 ∨ k = 1 := by
        rw [← hk]
        split
        · exact .inr rfl
        · exact .inl rfl
      refine ⟨l7, k, [.int (59 + r3)], rfl, rfl, hl7, by omega, by omega, Nat.le_trans (show 1 * k.toNat ≤ 10 by omega) (by decide), fun l8 nl8 => ?_⟩
      have rep : ∀ x ∈ (List.replicate k.toNat [V.int (59 + r3)]).flatten, x = .int (59 + r3) := fun x hx => by
        obtain ⟨ys, hy, hx⟩ := List.mem_flatten.mp hx
        rw [List.eq_of_mem_replicate hy] at hx
        exact List.mem_singleton.mp hx
      have repl : (List.replicate k.toNat [V.int (59 + r3)]).flatten.length ≤ 1 := by
        rcases k01 with z | z <;> rw [z] <;> simp
      generalize (List.replicate k.toNat [V.int (59 + r3)]).flatten = rs at rep repl
      have e8 := Evl.Ex.new (o := .lst rs) nl8
      have hl8 : (upd H7 l8 (.lst rs)) l8 = some (.lst rs) := upd_same
      generalize upd H7 l8 (.lst rs) = H8 at e8 hl8
      have hs8 := e8 _ _ (e7 _ _ (x6 _ _ ns5p hs5))
      refine ⟨s5, l8, _, rs, rfl, rfl, hs8, hl8, Nat.le_trans (show 5 + rs.length ≤ 6 by omega) (by decide), fun l9 nl9 => ?_⟩
      have hp8 := hp6.ex (e7.trans e8)
      have nl9p : l9 ≠ p := hp8.new1 nl9
      have e9 := Evl.Ex.new (o := .lst ([.int 1, .int 2, .int 3, .int (1 + r1), .int (1 + r2)] ++ rs)) nl9
      have hl9 : (upd H8 l9 (.lst ([.int 1, .int 2, .int 3, .int (1 + r1), .int (1 + r2)] ++ rs))) l9 = some (.lst ([.int 1, .int 2, .int 3, .int (1 + r1), .int (1 + r2)] ++ rs)) := upd_same
      generalize upd H8 l9 (.lst ([.int 1, .int 2, .int 3, .int (1 + r1), .int (1 + r2)] ++ rs)) = H9 at e9 hl9
      have hp9 := hp8.ex e9
      refine ⟨p, c, l9, _, _, rfl, hp9, by omega, .inl (.inl hl9), nl9p, (fun z => nomatch z), by rw [List.length_append]; show 5 + rs.length ≤ 1000000; omega, fun x H10 hx x10 hp10 => ?_⟩
      obtain ⟨m, rfl, m1, m61⟩ : ∃ m : Int, x = .int m ∧ 1 ≤ m ∧ m ≤ 61 := by
        rcases List.mem_append.mp hx with z | z
        · simp only [List.mem_cons, List.not_mem_nil, or_false] at z
          rcases z with rfl | rfl | rfl | rfl | rfl
          · exact ⟨_, rfl, by decide, by decide⟩
          · exact ⟨_, rfl, by decide, by decide⟩
          · exact ⟨_, rfl, by decide, by decide⟩
          · exact ⟨_, rfl, by omega, by omega⟩
          · exact ⟨_, rfl, by omega, by omega⟩
        · exact ⟨_, rep x z, by omega, by omega⟩
      have one10 : One K H10 := One.exx hp9 x10 ((One.exx hp5 x6 ((One.exx hp3 x4 (One.exx hp2 x3 one2)).ex e5)).ex (e7.trans (e8.trans e9)))
      -- the lock
      refine st_set ?_
      refine ⟨.ref p, rfl, .int m, rfl, .ref p, rfl, (show 3 ≤ sizeLine by decide), fun l11 nl11 => ?_⟩
      have e11 := Evl.Ex.new (o := .lst [.int 5, .int 5, .int 9]) nl11
      have hl11 : (upd H10 l11 (.lst [.int 5, .int 5, .int 9])) l11 = some (.lst [.int 5, .int 5, .int 9]) := upd_same
      have nl11p : l11 ≠ p := hp10.new1 nl11
      generalize upd H10 l11 (.lst [.int 5, .int 5, .int 9]) = H11 at e11 hl11
      have hp11 := hp10.ex e11
      refine ⟨p, c, l11, _, _, rfl, hp11, by omega, .inl (.inl hl11), nl11p, (fun z => nomatch z), (show 3 ≤ 1000000 by decide), fun x H12 hx x12 hp12 => ?_⟩
      obtain ⟨mr, rfl, mr0, mr9⟩ : ∃ m : Int, x = .int m ∧ 0 ≤ m ∧ m ≤ 9 := by
        simp only [List.mem_cons, List.not_mem_nil, or_false] at hx
        rcases hx with rfl | rfl | rfl <;> exact ⟨_, rfl, by decide, by decide⟩
      have one12 : One K H12 := One.exx hp11 x12 (one10.ex e11)
      refine ⟨p, c, m, mr, _, rfl, hp12, by omega, m1, m61, mr0, mr9, fun H13 v l x13 hp13 hL ok hl => ?_⟩
      have one13 := One.exx hp12 x13 one12
      have tL := th_lockS hL
      obtain ⟨gl1, gl2, gl3⟩ := good_lock ok
      -- the things
      refine st_set ?_
      refine ⟨.ref p, rfl, v, rfl, p, c, v, dL l, _, rfl, hp13, by omega, tL, by omega, good_mono (by decide) _ gl1, by omega, fun H14 u d x14 hp14 hu bu => ?_⟩
      obtain ⟨od, gd, wd, dd, _⟩ := okd_bent ok bu
      have one14 := One.exx hp13 x14 one13
      have tL14 := tL.keep (hp13.tk (K := K) x14)
      refine st_set ?_
      refine ⟨v, rfl, u, rfl, .ref p, rfl, u, rfl, p, c, u, d, _, rfl, hp14, by omega, hu, by omega, good_mono (by decide) _ gd, by omega, fun H15 u2 d2 x15 hp15 hu2 bu2 => ?_⟩
      have od2 := okd_bent2 ok bu bu2
      have one15 := One.exx hp14 x15 one14
      have tk15 := hp14.tk (K := K) x15
      have tL15 := tL14.keep tk15
      have hu15 := hu.keep tk15
      have hL15 : LockS K H15 v l := (hL.mono (hp13.tx x14)).mono (hp14.tx x15)
      refine ⟨.ref p, rfl, v, rfl, p, c, v, l, _, rfl, hp15, by omega, hL15, ok, fun H16 u3 d3 x16 hp16 hu3 od3 => ?_⟩
      have one16 := One.exx hp15 x16 one15
      have tk16 := hp15.tk (K := K) x16
      refine ⟨.ref p, rfl, p, c, _, rfl, hp16, by omega, fun H17 u4 d4 x17 hp17 hu4 od4 => ?_⟩
      have one17 := One.exx hp16 x17 one16
      have tk17 := hp16.tk (K := K) x17
      refine ⟨.ref p, rfl, p, c, _, rfl, hp17, by omega, fun H18 u5 d5 x18 hp18 hu5 od5 => ⟨(show 6 ≤ sizeLine by decide), fun l19 nl19 => ?_⟩⟩
      have one18 := One.exx hp17 x18 one17
      have tk18 := hp17.tk (K := K) x18
      have e19 := Evl.Ex.new (o := .lst [v, u, u2, u3, u4, u5]) nl19
      have hl19 : (upd H18 l19 (.lst [v, u, u2, u3, u4, u5])) l19 = some (.lst [v, u, u2, u3, u4, u5]) := upd_same
      generalize upd H18 l19 (.lst [v, u, u2, u3, u4, u5]) = H19 at e19 hl19
      have all : ∀ x ∈ [v, u, u2, u3, u4, u5], ∃ d, Th K H19 x d ∧ Okd l d := by
        intro x hx
        simp only [List.mem_cons, List.not_mem_nil, or_false] at hx
        rcases hx with rfl | rfl | rfl | rfl | rfl | rfl
        · exact ⟨_, (((tL15.keep tk16).keep tk17).keep tk18).ex e19, okd_lock ok⟩
        · exact ⟨_, (((hu15.keep tk16).keep tk17).keep tk18).ex e19, od⟩
        · exact ⟨_, (((hu2.keep tk16).keep tk17).keep tk18).ex e19, od2⟩
        · exact ⟨_, ((hu3.keep tk17).keep tk18).ex e19, okd_near od3⟩
        · exact ⟨_, (hu4.keep tk18).ex e19, okd_worded od4⟩
        · exact ⟨_, hu5.ex e19, okd_odd od5⟩
      have one19 := one18.ex e19
      have hp19 := hp18.ex e19
      refine ⟨.ref l19, rfl, l19, rfl, ⟨_, .inl (.inl hl19)⟩, ?_⟩
      refine for_list (K := K) (a := l19) (xs := [v, u, u2, u3, u4, u5]) (fun j σ H' => ∃ w8 w9 w10 : Option V, σ = [some (.ref a), some (.ref p), some (.int (0 + (t : Nat))), some (.ref s5), some (.int m), some v, some u, some (.ref l19), w8, w9, w10] ∧ Evl.Ex H19 H')
        ⟨_, _, _, rfl, Evl.Ex.refl _⟩ ?_ ?_ ?_
      · rintro j σ H' _ ⟨_, _, _, _, e⟩
        exact .inl (.inl (e _ _ hl19))
      · rintro j x σ H20 hx ⟨w8, w9, w10, rfl, e20⟩
        obtain ⟨d, hd, od⟩ := all x (List.mem_of_getElem? hx)
        have hd20 := hd.ex e20
        have one20 := one19.ex e20
        obtain ⟨t1, t2, t3⟩ := od.text
        obtain ⟨f1, f2, f3⟩ := fault_good d
        have few : FewW d := by
          obtain ⟨odd, ho, hm⟩ := od.most
          exact few_mostly ok hm (by omega)
        refine ⟨x, rfl, x, d, rfl, one20, hd20, t1, t2, t3, ?_⟩
        refine ⟨x, rfl, x, d, rfl, hd20, sz_of (by have := od.wt; omega), few, fun H21 v21 e21 h21 => ⟨.str d.shown, v21, rfl, ?_⟩⟩
        have e2022 := e21
        have h22 := h21
        have one22 := one20.ex e2022
        have hd22 := hd20.ex e2022
        refine ⟨x, rfl, x, d, rfl, hd22, fun H23 v23 e23 h23 => ?_⟩
        have one23 := one22.ex e23
        refine ⟨v23, _, rfl, one23, h23, f1, f2, f3, ?_⟩
        refine ⟨v21, rfl, v21, _, rfl, one23, h22.ex e23, f1, f2, f3, ?_⟩
        refine ⟨rfl, _, rfl, ?_⟩
        refine ite2 (fun hc => absurd hc (by simp)) (fun _ => ?_)
        have hd23 := hd22.ex e23
        refine ⟨x, rfl, x, d, rfl, hd23, fun H24 e24 => ?_⟩
        have one24 := one23.ex e24
        obtain ⟨b1, b2, b3⟩ := bool_good (isNon (faultD d))
        refine ⟨.bl (isNon (faultD d)), .bool (isNon (faultD d)), rfl, one24, .bl _, b1, b2, b3, ?_⟩
        refine ⟨v21, rfl, rfl, ?_⟩
        have en : decide (v21 = .non) = isNon (faultD d) := h21.non_iff
        rw [en]
        refine ⟨.bl (isNon (faultD d)), .bool (isNon (faultD d)), rfl, one24, .bl _, b1, b2, b3, ?_⟩
        refine ⟨rfl, _, rfl, ?_⟩
        refine ite2 (fun hc => absurd hc (by simp)) (fun _ => ?_)
        refine ⟨x, rfl, x, d, rfl, one24, hd23.ex e24, t1, t2, t3, ?_⟩
        refine ⟨.str d.shown, rfl, rfl, _, rfl, ?_⟩
        refine ite2 (fun hc => absurd hc (by simp)) (fun _ => ?_)
        exact ⟨_, _, _, rfl, e20.trans (e2022.trans (e23.trans e24))⟩
      · rintro σ H20 ⟨w8, w9, w10, rfl, e20⟩
        exact ⟨_, _, _, _, _, _, _, _, _, rfl, (hp19.ex e20).mono (by omega), one19.ex e20⟩
    · rintro σ H2 ⟨y2, y3, y4, y5, y6, y7, y8, y9, y10, rfl, hp2, one2⟩
      exact q _
end
end Wb

set_option Elab.async false
set_option linter.all false
set_option maxRecDepth 100000
set_option maxHeartbeats 4000000
set_option pp.maxSteps 600
set_option pp.deepTerms false
namespace Wb
open PySem PySem.Spec PyProof.Rows L2
section
variable {P : Program} {w : World} {K : PySem.W.Frag} {mg mb : Str → Option Value} {k : Nat} {fa a : Addr} {fd : FuncData} {x : Str} {sp : Sp} {t : Shared} {vs : List Value} {ns : List Int}
/-- from a heap that tracks at most the script, and what stands where sys.modules does -/
theorem top_core (kin : K.In t.heap) (mns : t.heap.Ns mainGlobals mg) (bns : t.heap.Ns builtinsNs mb)
    (bok : ∀ y : Str, y ≠ "__name__" → mb y = bootBuiltins y) (nol : t.heap.NoLimit) (gen0 : t.gens = #[])
    (oa : t.heap.get? a = some { cls := .type "list", data := .seq vs.toArray }) (rv : Vals (ns.map V.int) vs) (room : Room k callerA) (gu : callerA.guards = some [])
    (prom : ∀ bs : Heap, K.In bs → bs.Ns mainGlobals mg → FnG P w K mg bs k fa fd [x] sp) (bnd : ∀ (t' : Shared) (u : Value), BindsTo t' fd ⟨[u], []⟩ [(x, u)])
    (I : Hp) (only : ∀ b, I b = none ∨ ∃ o u, I b = some (.frz o u)) (due : sp [.ref a] I (fun v _ => v = .bl true) fun _ _ _ => False) (iok : HOk P w I t.heap) (at_a : ∀ b, I b ≠ none → b = a ∨ b = sysModules) (free_a : ∀ b, I b ≠ none → K.lookup b = none) :
    codeAny (model P w) callerA (.call (.ref fa) ⟨[.ref a], []⟩) (fun r t' => r = .ok (.ret (.bool true)) ∧ OldK t.heap t'.heap ∧ t'.os = t.os ∧ AllBare t'.gens) t := by
  have keep : ∀ {b : Addr} {o : Obj}, I b = none → t.heap.get? b = some o → (hidT t.heap I).get? b = some o := fun n e => hidT_get e n
  have nsI : ∀ {b : Addr} {m : Str → Option Value}, b ≠ sysModules → t.heap.Ns b m → (hidT t.heap I).Ns b m := by
    intro b m nb h
    obtain ⟨o, es, ep, e1, e2, e3⟩ := h
    refine ⟨o, es, ep, keep ?_ e1, e2, e3⟩
    refine Classical.byContradiction fun n => ?_
    rcases at_a b n with z | z
    · rw [z, oa] at e1
      cases e1
      have z2 : Data.seq vs.toArray _ = Data.dict es ep := e2
      cases z2
    · exact nb z
  have kinI : K.In (hidT t.heap I) := by
    intro b o e
    refine keep (Classical.byContradiction fun n => ?_) (kin b o e)
    have z := free_a b n
    rw [e] at z
    cases z
  have nolI : (hidT t.heap I).NoLimit := by
    obtain ⟨mc, h1, h2⟩ := nol
    exact ⟨mc, nsI (by decide) h1, h2⟩
  have mod : Mod K mg (hidT t.heap I) := ⟨kinI, nsI (by decide) mns, ⟨mb, nsI (by decide) bns, bok⟩, nolI⟩
  have env : Env0 P w K mg (hidT t.heap I) callerA [] t I :=
    ⟨rfl, mod, fun b o e => of_hidT e, Nat.le_of_eq (hidT_size _ _), trivial, (fun b hb => absurd hb (List.not_mem_nil)), iok, .of_eq gen0⟩
  refine codeAny_mono ((prom _ kinI (nsI (by decide) mns)).go callerA [] t I ⟨[.ref a], []⟩ [.ref a] [.ref a] _ _ gu room env (bnd t (.ref a)) (.cons rfl .nil) due) ?_
  intro r t' h
  cases r with
  | error e => exact False.elim h
  | ok fl =>
    cases fl with
    | next => exact False.elim h
    | brk => exact False.elim h
    | cont => exact False.elim h
    | ret u =>
      obtain ⟨v, I', eos, bare, un, iok', rr, hv⟩ := h
      have hv' : v = .bl true := hv
      rw [hv'] at rr
      have hu : u = Value.bool true := rr
      rw [hu]
      refine ⟨rfl, OldK.of_keep fun b o e => ?_, eos, bare⟩
      rcases only b with z | ⟨ob, xs, z⟩
      · exact un.keep b o e z (by intro h; exact absurd h List.not_mem_nil) (by simp)
      · obtain ⟨e1, _⟩ := iok b _ z
        obtain ⟨e2, _⟩ := iok' b _ (un.frzs b ob _ z)
        rw [e] at e1
        cases e1
        exact e2
theorem call_top (kin : K.In t.heap) (mns : t.heap.Ns mainGlobals mg) (bns : t.heap.Ns builtinsNs mb)
    (bok : ∀ y : Str, y ≠ "__name__" → mb y = bootBuiltins y) (nol : t.heap.NoLimit) (gen0 : t.gens = #[]) (see : t.heap.NoSeer) (k1 : K.lookup sysModules = none)
    (oa : t.heap.get? a = some { cls := .type "list", data := .seq vs.toArray }) (iv : IntsAre vs ns) (len : ns.length ≤ sizeLine) (room : Room k callerA) (gu : callerA.guards = some [])
    (prom : ∀ bs : Heap, K.In bs → bs.Ns mainGlobals mg → FnG P w K mg bs k fa fd [x] sp) (bnd : ∀ (t' : Shared) (u : Value), BindsTo t' fd ⟨[u], []⟩ [(x, u)])
    (due : ∀ I : Hp, SqL K I a (ns.map V.int) → One K I → sp [.ref a] I (fun v _ => v = .bl true) fun _ _ _ => False) :
    codeAny (model P w) callerA (.call (.ref fa) ⟨[.ref a], []⟩) (fun r t' => r = .ok (.ret (.bool true)) ∧ OldK t.heap t'.heap ∧ t'.os = t.os ∧ AllBare t'.gens) t := by
  have rv := vals_ints iv
  have lv := iv.length
  obtain ⟨om, hom, na⟩ : ∃ om, t.heap.get? sysModules = some om ∧ a ≠ sysModules := by
    obtain ⟨mm, ⟨o, es, ep, e1, e2, e3⟩, _⟩ := see.mods
    refine ⟨o, e1, fun z => ?_⟩
    rw [z, e1] at oa
    cases oa
    have z2 : Data.seq vs.toArray _ = Data.dict es ep := e2
    cases z2
  cases hk : K.lookup a with
  | some o =>
    have e := kin a o hk
    rw [oa] at e
    cases e
    have one : ∀ b, b ≠ sysModules → (fun b => if b = sysModules then some (HO.frz om (.own 0)) else none : Hp) b = none := fun b n => if_neg n
    have two : (fun b => if b = sysModules then some (HO.frz om (.own 0)) else none : Hp) sysModules = some (HO.frz om (.own 0)) := if_pos rfl
    generalize (fun b => if b = sysModules then some (HO.frz om (.own 0)) else none : Hp) = I at one two
    have at1 : ∀ b, I b ≠ none → b = sysModules := fun b n => Classical.byContradiction fun z => n (one b z)
    have hS : SqL K I a (ns.map V.int) := .inr ⟨_, vs.toArray, _, hk, rfl, rfl, rfl, (by rw [List.size_toArray, lv]; exact len), (by simpa using rv)⟩
    refine top_core kin mns bns bok nol gen0 oa rv room gu prom bnd I (fun b => ?_) (due _ hS ⟨k1, _, _, two⟩) (fun b u z => ?_) (fun b n => .inr (at1 b n)) (fun b n => by rw [at1 b n]; exact k1)
    · by_cases z : b = sysModules
      · rw [z]
        exact .inr ⟨_, _, two⟩
      · exact .inl (one b z)
    · have e := at1 b (by rw [z]; exact fun y => nomatch y)
      subst e
      rw [two] at z
      cases z
      exact ⟨hom, ⟨_, hom⟩⟩
  | none =>
    have one : ∀ b, b ≠ a → b ≠ sysModules → (fun b => if b = a then some (HO.frz { cls := .type "list", data := .seq vs.toArray } (.lst (ns.map V.int))) else if b = sysModules then some (HO.frz om (.own 0)) else none : Hp) b = none := fun b n n2 => (if_neg n).trans (if_neg n2)
    have two : (fun b => if b = a then some (HO.frz { cls := .type "list", data := .seq vs.toArray } (.lst (ns.map V.int))) else if b = sysModules then some (HO.frz om (.own 0)) else none : Hp) a = some (HO.frz { cls := .type "list", data := .seq vs.toArray } (.lst (ns.map V.int))) := if_pos rfl
    have three : (fun b => if b = a then some (HO.frz { cls := .type "list", data := .seq vs.toArray } (.lst (ns.map V.int))) else if b = sysModules then some (HO.frz om (.own 0)) else none : Hp) sysModules = some (HO.frz om (.own 0)) := (if_neg (fun z => na z.symm)).trans (if_pos rfl)
    generalize (fun b => if b = a then some (HO.frz { cls := .type "list", data := .seq vs.toArray } (.lst (ns.map V.int))) else if b = sysModules then some (HO.frz om (.own 0)) else none : Hp) = I at one two three
    have hS : SqL K I a (ns.map V.int) := .inl (.inr ⟨_, two⟩)
    have at_a : ∀ b, I b ≠ none → b = a ∨ b = sysModules := fun b n => Classical.byContradiction fun z => n (one b (fun q => z (.inl q)) fun q => z (.inr q))
    refine top_core kin mns bns bok nol gen0 oa rv room gu prom bnd I (fun b => ?_) (due I hS ⟨k1, _, _, three⟩) (fun b u z => ?_) at_a (fun b n => ?_)
    · by_cases z : b = a
      · rw [z]
        exact .inr ⟨_, _, two⟩
      · by_cases z1 : b = sysModules
        · rw [z1]
          exact .inr ⟨_, _, three⟩
        · exact .inl (one b z z1)
    · rcases at_a b (by rw [z]; exact fun y => nomatch y) with e | e
      · subst e
        rw [two] at z
        cases z
        exact ⟨oa, (by rw [List.length_map]; exact len), vs, _, rv, oa⟩
      · subst e
        rw [three] at z
        cases z
        exact ⟨hom, ⟨_, hom⟩⟩
    · rcases at_a b n with e | e
      · rw [e]; exact hk
      · rw [e]; exact k1
end
theorem walk_top {l : PySem.W.OpenLaw} {n k : Nat} {q : Program} {loose : List Str} {XP : (Str → Option Value) → Heap → Prop} {YP : World → Heap → Prop} {d : DefRec} {K : Params → PySem.W.Frag} {sp : World → Sp} {x : Str}
    (hn : l.most = some n) (hn2 : n ≤ sizeLine) (hd : d.params.defaults = []) (room : Room k callerA) (gu : callerA.guards = some [])
    (hY : ∀ (w : World) (h : Heap), YP w h → (K w.params).In h)
    (F : ∀ (w : World) (mg : Str → Option Value) (fa : Addr) (h : Heap), (K w.params).In h → h.Ns mainGlobals mg → mg d.name = some (.ref fa) → ∃ fd : FuncData,
      (∀ (t : Shared) (u : Value), BindsTo t fd ⟨[u], []⟩ [(x, u)]) ∧ ∀ bs : Heap, (K w.params).In bs → bs.Ns mainGlobals mg → FnG l.prog w (K w.params) mg bs k fa fd [x] (sp w))
    (due : ∀ (w : World) (I : Hp) (a : Addr) (ns : List Int), SqL (K w.params) I a (ns.map V.int) → One (K w.params) I → sp w [.ref a] I (fun v _ => v = .bl true) fun _ _ _ => False)
    (hq : importsNone q = true) (k1 : ∀ w : World, (K w.params).lookup sysModules = none) :
    PySem.W.WalkO q loose XP YP l.row.toRowW d [] (fun f vs => PySem.call f vs) := by
  refine Att.attach_call hn hd ?_
  intro w t0 t mg mb fa o pm cd doc a vs ns G Y ho hdt hcd hmg oa iv hl gen0
  obtain ⟨fd, hb, hF⟩ := F w mg fa _ (hY w _ Y) G.T.g hmg
  exact call_top (hY w _ Y) G.T.g G.T.b G.T.builtins G.T.nolimit gen0 (G.T.seer hq) (k1 w) oa iv (Nat.le_trans hl hn2) room gu hF hb fun I hS one => due w I a ns hS one
end Wb

set_option Elab.async false
set_option linter.all false
set_option maxRecDepth 100000
set_option maxHeartbeats 4000000
namespace Wb
open PySem PySem.Spec PyProof.Rows L2
theorem all_facts {pr : Program} {w : World} {K : PySem.W.Frag} {h : Heap} {mg : Str → Option Value} {fa : Addr} (X : K.In h) (G : h.Ns mainGlobals mg) (hfa : mg "law" = some (.ref fa))
    {fp1 : Addr} {ocp1 kVp1 dcp1 pmp1 cdp1 ctp1 : Value} {odp1 anp1 : Option Addr} {slp1 : Array (Option Value)}
    (ap1 : PySem.W.nsIn K mainGlobals "is_whole" = some (some (.ref fp1)))
    (lp1 : K.lookup fp1 = some ⟨ocp1, odp1, .func (PySem.W.fnOf "is_whole" "is_whole" (defArgs sWhole) (defBody sWhole) (defScope sWhole) .none kVp1 dcp1 pmp1 anp1 cdp1 ctp1), slp1⟩)
    (cp1 : PySem.W.codeIn K cdp1 "is_whole" = true) (kp1 : PySem.W.keepIn K (.ref fp1) = true)
    {fp2 : Addr} {ocp2 kVp2 dcp2 pmp2 cdp2 ctp2 : Value} {odp2 anp2 : Option Addr} {slp2 : Array (Option Value)}
    (ap2 : PySem.W.nsIn K mainGlobals "is_whole_in" = some (some (.ref fp2)))
    (lp2 : K.lookup fp2 = some ⟨ocp2, odp2, .func (PySem.W.fnOf "is_whole_in" "is_whole_in" (defArgs sWholeIn) (defBody sWholeIn) (defScope sWholeIn) .none kVp2 dcp2 pmp2 anp2 cdp2 ctp2), slp2⟩)
    (cp2 : PySem.W.codeIn K cdp2 "is_whole_in" = true) (kp2 : PySem.W.keepIn K (.ref fp2) = true)
    {fp3 : Addr} {ocp3 kVp3 dcp3 pmp3 cdp3 ctp3 : Value} {odp3 anp3 : Option Addr} {slp3 : Array (Option Value)}
    (ap3 : PySem.W.nsIn K mainGlobals "is_tuple_of" = some (some (.ref fp3)))
    (lp3 : K.lookup fp3 = some ⟨ocp3, odp3, .func (PySem.W.fnOf "is_tuple_of" "is_tuple_of" (defArgs sTupOf) (defBody sTupOf) (defScope sTupOf) .none kVp3 dcp3 pmp3 anp3 cdp3 ctp3), slp3⟩)
    (cp3 : PySem.W.codeIn K cdp3 "is_tuple_of" = true) (kp3 : PySem.W.keepIn K (.ref fp3) = true)
    {fp4 : Addr} {ocp4 kVp4 dcp4 pmp4 cdp4 ctp4 : Value} {odp4 anp4 : Option Addr} {slp4 : Array (Option Value)}
    (ap4 : PySem.W.nsIn K mainGlobals "are_places" = some (some (.ref fp4)))
    (lp4 : K.lookup fp4 = some ⟨ocp4, odp4, .func (PySem.W.fnOf "are_places" "are_places" (defArgs sPlaces) (defBody sPlaces) (defScope sPlaces) .none kVp4 dcp4 pmp4 anp4 cdp4 ctp4), slp4⟩)
    (cp4 : PySem.W.codeIn K cdp4 "are_places" = true) (kp4 : PySem.W.keepIn K (.ref fp4) = true)
    {fp6 : Addr} {ocp6 kVp6 dcp6 pmp6 cdp6 ctp6 : Value} {odp6 anp6 : Option Addr} {slp6 : Array (Option Value)}
    (ap6 : PySem.W.nsIn K mainGlobals "words_of" = some (some (.ref fp6)))
    (lp6 : K.lookup fp6 = some ⟨ocp6, odp6, .func (PySem.W.fnOf "words_of" "words_of" (defArgs sWords) (defBody sWords) (defScope sWords) .none kVp6 dcp6 pmp6 anp6 cdp6 ctp6), slp6⟩)
    (cp6 : PySem.W.codeIn K cdp6 "words_of" = true) (kp6 : PySem.W.keepIn K (.ref fp6) = true)
    {fp14 : Addr} {ocp14 kVp14 dcp14 pmp14 cdp14 ctp14 : Value} {odp14 anp14 : Option Addr} {slp14 : Array (Option Value)}
    (ap14 : PySem.W.nsIn K mainGlobals "is_lock" = some (some (.ref fp14)))
    (lp14 : K.lookup fp14 = some ⟨ocp14, odp14, .func (PySem.W.fnOf "is_lock" "is_lock" (defArgs sIsLock) (defBody sIsLock) (defScope sIsLock) .none kVp14 dcp14 pmp14 anp14 cdp14 ctp14), slp14⟩)
    (cp14 : PySem.W.codeIn K cdp14 "is_lock" = true) (kp14 : PySem.W.keepIn K (.ref fp14) = true)
    {fp15 : Addr} {ocp15 kVp15 dcp15 pmp15 cdp15 ctp15 : Value} {odp15 anp15 : Option Addr} {slp15 : Array (Option Value)}
    (ap15 : PySem.W.nsIn K mainGlobals "fault_of" = some (some (.ref fp15)))
    (lp15 : K.lookup fp15 = some ⟨ocp15, odp15, .func (PySem.W.fnOf "fault_of" "fault_of" (defArgs sFault) (defBody sFault) (defScope sFault) .none kVp15 dcp15 pmp15 anp15 cdp15 ctp15), slp15⟩)
    (cp15 : PySem.W.codeIn K cdp15 "fault_of" = true) (kp15 : PySem.W.keepIn K (.ref fp15) = true)
    {fp16 : Addr} {ocp16 kVp16 dcp16 pmp16 cdp16 ctp16 : Value} {odp16 anp16 : Option Addr} {slp16 : Array (Option Value)}
    (ap16 : PySem.W.nsIn K mainGlobals "is_bolt" = some (some (.ref fp16)))
    (lp16 : K.lookup fp16 = some ⟨ocp16, odp16, .func (PySem.W.fnOf "is_bolt" "is_bolt" (defArgs sBolt) (defBody sBolt) (defScope sBolt) .none kVp16 dcp16 pmp16 anp16 cdp16 ctp16), slp16⟩)
    (cp16 : PySem.W.codeIn K cdp16 "is_bolt" = true) (kp16 : PySem.W.keepIn K (.ref fp16) = true)
    {fp17 : Addr} {ocp17 kVp17 dcp17 pmp17 cdp17 ctp17 : Value} {odp17 anp17 : Option Addr} {slp17 : Array (Option Value)}
    (ap17 : PySem.W.nsIn K mainGlobals "is_gap" = some (some (.ref fp17)))
    (lp17 : K.lookup fp17 = some ⟨ocp17, odp17, .func (PySem.W.fnOf "is_gap" "is_gap" (defArgs sGap) (defBody sGap) (defScope sGap) .none kVp17 dcp17 pmp17 anp17 cdp17 ctp17), slp17⟩)
    (cp17 : PySem.W.codeIn K cdp17 "is_gap" = true) (kp17 : PySem.W.keepIn K (.ref fp17) = true)
    {fp18 : Addr} {ocp18 kVp18 dcp18 pmp18 cdp18 ctp18 : Value} {odp18 anp18 : Option Addr} {slp18 : Array (Option Value)}
    (ap18 : PySem.W.nsIn K mainGlobals "are_ways" = some (some (.ref fp18)))
    (lp18 : K.lookup fp18 = some ⟨ocp18, odp18, .func (PySem.W.fnOf "are_ways" "are_ways" (defArgs sWays) (defBody sWays) (defScope sWays) .none kVp18 dcp18 pmp18 anp18 cdp18 ctp18), slp18⟩)
    (cp18 : PySem.W.codeIn K cdp18 "are_ways" = true) (kp18 : PySem.W.keepIn K (.ref fp18) = true)
    {f20 : Addr} {oc20 kV20 dc20 pm20 cd20 ct20 : Value} {od20 an20 : Option Addr} {sl20 : Array (Option Value)}
    (a20 : PySem.W.nsIn K mainGlobals "_law_pen" = some (some (.ref f20)))
    (l20 : K.lookup f20 = some ⟨oc20, od20, .func (PySem.W.fnOf "_law_pen" "_law_pen" (defArgs sPen) (defBody sPen) (defScope sPen) .none kV20 dc20 pm20 an20 cd20 ct20), sl20⟩)
    (c20 : PySem.W.codeIn K cd20 "_law_pen" = true) (k20 : PySem.W.keepIn K (.ref f20) = true)
    {f21 : Addr} {oc21 kV21 dc21 pm21 cd21 ct21 : Value} {od21 an21 : Option Addr} {sl21 : Array (Option Value)}
    (a21 : PySem.W.nsIn K mainGlobals "_law_draw" = some (some (.ref f21)))
    (l21 : K.lookup f21 = some ⟨oc21, od21, .func (PySem.W.fnOf "_law_draw" "_law_draw" (defArgs sDraw) (defBody sDraw) (defScope sDraw) .none kV21 dc21 pm21 an21 cd21 ct21), sl21⟩)
    (c21 : PySem.W.codeIn K cd21 "_law_draw" = true) (k21 : PySem.W.keepIn K (.ref f21) = true)
    {f22 : Addr} {oc22 kV22 dc22 pm22 cd22 ct22 : Value} {od22 an22 : Option Addr} {sl22 : Array (Option Value)}
    (a22 : PySem.W.nsIn K mainGlobals "_law_pick" = some (some (.ref f22)))
    (l22 : K.lookup f22 = some ⟨oc22, od22, .func (PySem.W.fnOf "_law_pick" "_law_pick" (defArgs sPick) (defBody sPick) (defScope sPick) .none kV22 dc22 pm22 an22 cd22 ct22), sl22⟩)
    (c22 : PySem.W.codeIn K cd22 "_law_pick" = true) (k22 : PySem.W.keepIn K (.ref f22) = true)
    {f23 : Addr} {oc23 kV23 dc23 pm23 cd23 ct23 : Value} {od23 an23 : Option Addr} {sl23 : Array (Option Value)}
    (a23 : PySem.W.nsIn K mainGlobals "_law_gaps" = some (some (.ref f23)))
    (l23 : K.lookup f23 = some ⟨oc23, od23, .func (PySem.W.fnOf "_law_gaps" "_law_gaps" (defArgs sGaps) (defBody sGaps) (defScope sGaps) .none kV23 dc23 pm23 an23 cd23 ct23), sl23⟩)
    (c23 : PySem.W.codeIn K cd23 "_law_gaps" = true) (k23 : PySem.W.keepIn K (.ref f23) = true)
    {f24 : Addr} {oc24 kV24 dc24 pm24 cd24 ct24 : Value} {od24 an24 : Option Addr} {sl24 : Array (Option Value)}
    (a24 : PySem.W.nsIn K mainGlobals "_law_lock" = some (some (.ref f24)))
    (l24 : K.lookup f24 = some ⟨oc24, od24, .func (PySem.W.fnOf "_law_lock" "_law_lock" (defArgs sLock) (defBody sLock) (defScope sLock) .none kV24 dc24 pm24 an24 cd24 ct24), sl24⟩)
    (c24 : PySem.W.codeIn K cd24 "_law_lock" = true) (k24 : PySem.W.keepIn K (.ref f24) = true)
    {f25 : Addr} {oc25 kV25 dc25 pm25 cd25 ct25 : Value} {od25 an25 : Option Addr} {sl25 : Array (Option Value)}
    (a25 : PySem.W.nsIn K mainGlobals "_law_ways" = some (some (.ref f25)))
    (l25 : K.lookup f25 = some ⟨oc25, od25, .func (PySem.W.fnOf "_law_ways" "_law_ways" (defArgs sAllWays) (defBody sAllWays) (defScope sAllWays) .none kV25 dc25 pm25 an25 cd25 ct25), sl25⟩)
    (c25 : PySem.W.codeIn K cd25 "_law_ways" = true) (k25 : PySem.W.keepIn K (.ref f25) = true)
    {f26 : Addr} {oc26 kV26 dc26 pm26 cd26 ct26 : Value} {od26 an26 : Option Addr} {sl26 : Array (Option Value)}
    (a26 : PySem.W.nsIn K mainGlobals "_law_stand" = some (some (.ref f26)))
    (l26 : K.lookup f26 = some ⟨oc26, od26, .func (PySem.W.fnOf "_law_stand" "_law_stand" (defArgs sStand) (defBody sStand) (defScope sStand) .none kV26 dc26 pm26 an26 cd26 ct26), sl26⟩)
    (c26 : PySem.W.codeIn K cd26 "_law_stand" = true) (k26 : PySem.W.keepIn K (.ref f26) = true)
    {f27 : Addr} {oc27 kV27 dc27 pm27 cd27 ct27 : Value} {od27 an27 : Option Addr} {sl27 : Array (Option Value)}
    (a27 : PySem.W.nsIn K mainGlobals "_law_whole" = some (some (.ref f27)))
    (l27 : K.lookup f27 = some ⟨oc27, od27, .func (PySem.W.fnOf "_law_whole" "_law_whole" (defArgs sLWhole) (defBody sLWhole) (defScope sLWhole) .none kV27 dc27 pm27 an27 cd27 ct27), sl27⟩)
    (c27 : PySem.W.codeIn K cd27 "_law_whole" = true) (k27 : PySem.W.keepIn K (.ref f27) = true)
    {f28 : Addr} {oc28 kV28 dc28 pm28 cd28 ct28 : Value} {od28 an28 : Option Addr} {sl28 : Array (Option Value)}
    (a28 : PySem.W.nsIn K mainGlobals "_law_odd" = some (some (.ref f28)))
    (l28 : K.lookup f28 = some ⟨oc28, od28, .func (PySem.W.fnOf "_law_odd" "_law_odd" (defArgs sOdd) (defBody sOdd) (defScope sOdd) .none kV28 dc28 pm28 an28 cd28 ct28), sl28⟩)
    (c28 : PySem.W.codeIn K cd28 "_law_odd" = true) (k28 : PySem.W.keepIn K (.ref f28) = true)
    {f29 : Addr} {oc29 kV29 dc29 pm29 cd29 ct29 : Value} {od29 an29 : Option Addr} {sl29 : Array (Option Value)}
    (a29 : PySem.W.nsIn K mainGlobals "_law_bent" = some (some (.ref f29)))
    (l29 : K.lookup f29 = some ⟨oc29, od29, .func (PySem.W.fnOf "_law_bent" "_law_bent" (defArgs sBent) (defBody sBent) (defScope sBent) .none kV29 dc29 pm29 an29 cd29 ct29), sl29⟩)
    (c29 : PySem.W.codeIn K cd29 "_law_bent" = true) (k29 : PySem.W.keepIn K (.ref f29) = true)
    {f30 : Addr} {oc30 kV30 dc30 pm30 cd30 ct30 : Value} {od30 an30 : Option Addr} {sl30 : Array (Option Value)}
    (a30 : PySem.W.nsIn K mainGlobals "_law_is_bolt" = some (some (.ref f30)))
    (l30 : K.lookup f30 = some ⟨oc30, od30, .func (PySem.W.fnOf "_law_is_bolt" "_law_is_bolt" (defArgs sLBolt) (defBody sLBolt) (defScope sLBolt) .none kV30 dc30 pm30 an30 cd30 ct30), sl30⟩)
    (c30 : PySem.W.codeIn K cd30 "_law_is_bolt" = true) (k30 : PySem.W.keepIn K (.ref f30) = true)
    {f31 : Addr} {oc31 kV31 dc31 pm31 cd31 ct31 : Value} {od31 an31 : Option Addr} {sl31 : Array (Option Value)}
    (a31 : PySem.W.nsIn K mainGlobals "_law_is_word" = some (some (.ref f31)))
    (l31 : K.lookup f31 = some ⟨oc31, od31, .func (PySem.W.fnOf "_law_is_word" "_law_is_word" (defArgs sLIsWord) (defBody sLIsWord) (defScope sLIsWord) .none kV31 dc31 pm31 an31 cd31 ct31), sl31⟩)
    (c31 : PySem.W.codeIn K cd31 "_law_is_word" = true) (k31 : PySem.W.keepIn K (.ref f31) = true)
    {f32 : Addr} {oc32 kV32 dc32 pm32 cd32 ct32 : Value} {od32 an32 : Option Addr} {sl32 : Array (Option Value)}
    (a32 : PySem.W.nsIn K mainGlobals "_law_fault" = some (some (.ref f32)))
    (l32 : K.lookup f32 = some ⟨oc32, od32, .func (PySem.W.fnOf "_law_fault" "_law_fault" (defArgs sLFault) (defBody sLFault) (defScope sLFault) .none kV32 dc32 pm32 an32 cd32 ct32), sl32⟩)
    (c32 : PySem.W.codeIn K cd32 "_law_fault" = true) (k32 : PySem.W.keepIn K (.ref f32) = true)
    {f33 : Addr} {oc33 kV33 dc33 pm33 cd33 ct33 : Value} {od33 an33 : Option Addr} {sl33 : Array (Option Value)}
    (a33 : PySem.W.nsIn K mainGlobals "_law_edged" = some (some (.ref f33)))
    (l33 : K.lookup f33 = some ⟨oc33, od33, .func (PySem.W.fnOf "_law_edged" "_law_edged" (defArgs sEdged) (defBody sEdged) (defScope sEdged) .none kV33 dc33 pm33 an33 cd33 ct33), sl33⟩)
    (c33 : PySem.W.codeIn K cd33 "_law_edged" = true) (k33 : PySem.W.keepIn K (.ref f33) = true)
    {f34 : Addr} {oc34 kV34 dc34 pm34 cd34 ct34 : Value} {od34 an34 : Option Addr} {sl34 : Array (Option Value)}
    (a34 : PySem.W.nsIn K mainGlobals "_law_worded" = some (some (.ref f34)))
    (l34 : K.lookup f34 = some ⟨oc34, od34, .func (PySem.W.fnOf "_law_worded" "_law_worded" (defArgs sWorded) (defBody sWorded) (defScope sWorded) .none kV34 dc34 pm34 an34 cd34 ct34), sl34⟩)
    (c34 : PySem.W.codeIn K cd34 "_law_worded" = true) (k34 : PySem.W.keepIn K (.ref f34) = true)
    {f35 : Addr} {oc35 kV35 dc35 pm35 cd35 ct35 : Value} {od35 an35 : Option Addr} {sl35 : Array (Option Value)}
    (a35 : PySem.W.nsIn K mainGlobals "law" = some (some (.ref f35)))
    (l35 : K.lookup f35 = some ⟨oc35, od35, .func (PySem.W.fnOf "law" "law" (defArgs sLaw) (defBody sLaw) (defScope sLaw) .none kV35 dc35 pm35 an35 cd35 ct35), sl35⟩)
    (c35 : PySem.W.codeIn K cd35 "law" = true) (k35 : PySem.W.keepIn K (.ref f35) = true)
    {t0 : Tok} (n0 : PySem.W.nsIn K mainGlobals "MOST_BOLTS" = some (some (.int 60 t0)))
    {t1 : Tok} (n1 : PySem.W.nsIn K mainGlobals "FEWEST_PLACES" = some (some (.int 2 t1)))
    {t2 : Tok} (n2 : PySem.W.nsIn K mainGlobals "MOST_PLACES" = some (some (.int 4 t2)))
    {t3 : Tok} (n3 : PySem.W.nsIn K mainGlobals "MOST_WAYS" = some (some (.int 8 t3)))
    {t4 : Tok} (n4 : PySem.W.nsIn K mainGlobals "MOST_WORDS" = some (some (.int 8 t4)))
    {t5 : Tok} (n5 : PySem.W.nsIn K mainGlobals "MOST_PRICE" = some (some (.int 1000000 t5)))
    (z0 : PySem.W.nsIn K mainGlobals "isinstance" = some none)
    (z1 : PySem.W.nsIn K mainGlobals "int" = some none)
    (z2 : PySem.W.nsIn K mainGlobals "bool" = some none)
    (z3 : PySem.W.nsIn K mainGlobals "tuple" = some none)
    (z4 : PySem.W.nsIn K mainGlobals "list" = some none)
    (z5 : PySem.W.nsIn K mainGlobals "len" = some none)
    (z6 : PySem.W.nsIn K mainGlobals "zip" = some none)
    (z7 : PySem.W.nsIn K mainGlobals "all" = some none)
    (z8 : PySem.W.nsIn K mainGlobals "range" = some none)
    (z9 : PySem.W.nsIn K mainGlobals "reversed" = some none)
    (z10 : PySem.W.nsIn K mainGlobals "enumerate" = some none)
    (z11 : PySem.W.nsIn K mainGlobals "sorted" = some none)
    (z12 : PySem.W.nsIn K mainGlobals "set" = some none)
    (z13 : PySem.W.nsIn K mainGlobals "abs" = some none)
    (z14 : PySem.W.nsIn K mainGlobals "repr" = some none)
    (z15 : PySem.W.nsIn K mainGlobals "str" = some none)
    (z16 : PySem.W.nsIn K mainGlobals "sum" = some none) :
    ∃ fd : FuncData, (∀ (t : Shared) (u : Value), BindsTo t fd ⟨[u], []⟩ [("_law_script", u)]) ∧ ∀ bs : Heap, K.In bs → bs.Ns mainGlobals mg → FnG pr w K mg bs 17 fa fd ["_law_script"] (spLaw K) := by
  have e := hfa.symm.trans (PySem.W.mg_of X G a35)
  cases e
  have Fp1 := fun_mk (st := sWhole) lp1 cp1 kp1
  have Fp2 := fun_mk (st := sWholeIn) lp2 cp2 kp2
  have Fp3 := fun_mk (st := sTupOf) lp3 cp3 kp3
  have Fp4 := fun_mk (st := sPlaces) lp4 cp4 kp4
  have Fp6 := fun_mk (st := sWords) lp6 cp6 kp6
  have Fp14 := fun_mk (st := sIsLock) lp14 cp14 kp14
  have Fp15 := fun_mk (st := sFault) lp15 cp15 kp15
  have Fp16 := fun_mk (st := sBolt) lp16 cp16 kp16
  have Fp17 := fun_mk (st := sGap) lp17 cp17 kp17
  have Fp18 := fun_mk (st := sWays) lp18 cp18 kp18
  have F20 := fun_mk (st := sPen) l20 c20 k20
  have F21 := fun_mk (st := sDraw) l21 c21 k21
  have F22 := fun_mk (st := sPick) l22 c22 k22
  have F23 := fun_mk (st := sGaps) l23 c23 k23
  have F24 := fun_mk (st := sLock) l24 c24 k24
  have F25 := fun_mk (st := sAllWays) l25 c25 k25
  have F26 := fun_mk (st := sStand) l26 c26 k26
  have F27 := fun_mk (st := sLWhole) l27 c27 k27
  have F28 := fun_mk (st := sOdd) l28 c28 k28
  have F29 := fun_mk (st := sBent) l29 c29 k29
  have F30 := fun_mk (st := sLBolt) l30 c30 k30
  have F31 := fun_mk (st := sLIsWord) l31 c31 k31
  have F32 := fun_mk (st := sLFault) l32 c32 k32
  have F33 := fun_mk (st := sEdged) l33 c33 k33
  have F34 := fun_mk (st := sWorded) l34 c34 k34
  have F35 := fun_mk (st := sLaw) l35 c35 k35
  have bbp1 := Fp1.binds (ps := ["thing"]) fun _ _ _ _ _ _ us hl => match us, hl with | [_], _ => rfl
  have bbp2 := Fp2.binds (ps := ["thing", "low", "high"]) fun _ _ _ _ _ _ us hl => match us, hl with | [_, _, _], _ => rfl
  have bbp3 := Fp3.binds (ps := ["thing", "low", "high"]) fun _ _ _ _ _ _ us hl => match us, hl with | [_, _, _], _ => rfl
  have bbp4 := Fp4.binds (ps := ["thing", "manys"]) fun _ _ _ _ _ _ us hl => match us, hl with | [_, _], _ => rfl
  have bbp6 := Fp6.binds (ps := ["lock"]) fun _ _ _ _ _ _ us hl => match us, hl with | [_], _ => rfl
  have bbp14 := Fp14.binds (ps := ["thing"]) fun _ _ _ _ _ _ us hl => match us, hl with | [_], _ => rfl
  have bbp15 := Fp15.binds (ps := ["thing"]) fun _ _ _ _ _ _ us hl => match us, hl with | [_], _ => rfl
  have bbp16 := Fp16.binds (ps := ["thing", "below"]) fun _ _ _ _ _ _ us hl => match us, hl with | [_, _], _ => rfl
  have bbp17 := Fp17.binds (ps := ["thing", "many", "below"]) fun _ _ _ _ _ _ us hl => match us, hl with | [_, _, _], _ => rfl
  have bbp18 := Fp18.binds (ps := ["thing", "below"]) fun _ _ _ _ _ _ us hl => match us, hl with | [_, _], _ => rfl
  have bb20 := F20.binds (ps := ["_law_script"]) fun _ _ _ _ _ _ us hl => match us, hl with | [_], _ => rfl
  have bb21 := F21.binds (ps := ["_law_pen_here", "_law_many"]) fun _ _ _ _ _ _ us hl => match us, hl with | [_, _], _ => rfl
  have bb22 := F22.binds (ps := ["_law_pen_here", "_law_some"]) fun _ _ _ _ _ _ us hl => match us, hl with | [_, _], _ => rfl
  have bb23 := F23.binds (ps := ["_law_pen_here", "_law_wide", "_law_words"]) fun _ _ _ _ _ _ us hl => match us, hl with | [_, _, _], _ => rfl
  have bb24 := F24.binds (ps := ["_law_pen_here", "_law_many", "_law_wide", "_law_more"]) fun _ _ _ _ _ _ us hl => match us, hl with | [_, _, _, _], _ => rfl
  have bb25 := F25.binds (ps := ["_law_lock_here"]) fun _ _ _ _ _ _ us hl => match us, hl with | [_], _ => rfl
  have bb26 := F26.binds (ps := ["_law_pen_here", "_law_lock_here"]) fun _ _ _ _ _ _ us hl => match us, hl with | [_, _], _ => rfl
  have bb27 := F27.binds (ps := ["_law_thing", "_law_least_one", "_law_most_one"]) fun _ _ _ _ _ _ us hl => match us, hl with | [_, _, _], _ => rfl
  have bb28 := F28.binds (ps := ["_law_pen_here"]) fun _ _ _ _ _ _ us hl => match us, hl with | [_], _ => rfl
  have bb29 := F29.binds (ps := ["_law_pen_here", "_law_thing"]) fun _ _ _ _ _ _ us hl => match us, hl with | [_, _], _ => rfl
  have bb30 := F30.binds (ps := ["_law_under", "_law_thing"]) fun _ _ _ _ _ _ us hl => match us, hl with | [_, _], _ => rfl
  have bb31 := F31.binds (ps := ["_law_lock_here", "_law_thing", "_law_is_wish_like"]) fun _ _ _ _ _ _ us hl => match us, hl with | [_, _, _], _ => rfl
  have bb32 := F32.binds (ps := ["_law_thing"]) fun _ _ _ _ _ _ us hl => match us, hl with | [_], _ => rfl
  have bb33 := F33.binds (ps := ["_law_pen_here", "_law_lock_here"]) fun _ _ _ _ _ _ us hl => match us, hl with | [_, _], _ => rfl
  have bb34 := F34.binds (ps := ["_law_pen_here"]) fun _ _ _ _ _ _ us hl => match us, hl with | [_], _ => rfl
  have B : Bi mg := ⟨PySem.W.mg_none_of X G z0, PySem.W.mg_none_of X G z1, PySem.W.mg_none_of X G z2, PySem.W.mg_none_of X G z3, PySem.W.mg_none_of X G z4, PySem.W.mg_none_of X G z5, PySem.W.mg_none_of X G z6, PySem.W.mg_none_of X G z7, PySem.W.mg_none_of X G z8, PySem.W.mg_none_of X G z9, PySem.W.mg_none_of X G z10, PySem.W.mg_none_of X G z11, PySem.W.mg_none_of X G z12, PySem.W.mg_none_of X G z13, PySem.W.mg_none_of X G z14⟩
  have N : Nu mg := ⟨⟨_, PySem.W.mg_of X G n0⟩, ⟨_, PySem.W.mg_of X G n1⟩, ⟨_, PySem.W.mg_of X G n2⟩, ⟨_, PySem.W.mg_of X G n3⟩, ⟨_, PySem.W.mg_of X G n4⟩, ⟨_, PySem.W.mg_of X G n5⟩⟩
  have D : Pr K mg := ⟨_, _, Fp1, bbp1, PySem.W.mg_of X G ap1, _, _, Fp2, bbp2, PySem.W.mg_of X G ap2, _, _, Fp3, bbp3, PySem.W.mg_of X G ap3, _, _, Fp4, bbp4, PySem.W.mg_of X G ap4, _, _, Fp6, bbp6, PySem.W.mg_of X G ap6, _, _, Fp14, bbp14, PySem.W.mg_of X G ap14, _, _, Fp15, bbp15, PySem.W.mg_of X G ap15, _, _, Fp16, bbp16, PySem.W.mg_of X G ap16, _, _, Fp17, bbp17, PySem.W.mg_of X G ap17, _, _, Fp18, bbp18, PySem.W.mg_of X G ap18, B, N⟩
  have L : Ld K mg := ⟨_, _, F20, bb20, PySem.W.mg_of X G a20, _, _, F21, bb21, PySem.W.mg_of X G a21, _, _, F22, bb22, PySem.W.mg_of X G a22, _, _, F23, bb23, PySem.W.mg_of X G a23, _, _, F24, bb24, PySem.W.mg_of X G a24, _, _, F25, bb25, PySem.W.mg_of X G a25, _, _, F26, bb26, PySem.W.mg_of X G a26, _, _, F27, bb27, PySem.W.mg_of X G a27, _, _, F28, bb28, PySem.W.mg_of X G a28, _, _, F29, bb29, PySem.W.mg_of X G a29, _, _, F30, bb30, PySem.W.mg_of X G a30, _, _, F31, bb31, PySem.W.mg_of X G a31, _, _, F32, bb32, PySem.W.mg_of X G a32, _, _, F33, bb33, PySem.W.mg_of X G a33, _, _, F34, bb34, PySem.W.mg_of X G a34, PySem.W.mg_none_of X G z15, PySem.W.mg_none_of X G z16⟩
  exact ⟨_, fun t u => .of_eq rfl, fun bs _ _ => ok_law F35 D L⟩
end Wb

set_option Elab.async false
set_option linter.all false
set_option maxRecDepth 100000
open PySem PySem.W PyProof.Rows
set_option maxHeartbeats 0 in
theorem PySem.Challenge.cw_waitbolts_k01_what_is_a_lock_holds : PySem.Challenge.rw_waitbolts_k01_what_is_a_lock.Holds := by
  w_on; o_law; k_head; (case hw => w_witness2)
  k_fill
  refine Wb.walk_top (l := PySem.Challenge.rw_waitbolts_k01_what_is_a_lock) (n := 63) (k := 17) (x := "_law_script") (sp := fun w => Wb.spLaw _) rfl (by decide) rfl ⟨rfl, by decide, by decide⟩ rfl (fun w h Y => PySem.W.kIn_of Y) ?F (fun w I a ns hS one => ⟨a, ns, rfl, hS, one, fun _ => rfl⟩) (by decide +kernel) ?k1
  case k1 => exact fun w => rfl
  case F =>
    intro w mg fa h KX G hmg
    refine' Wb.all_facts KX G hmg ?ap1 ?lp1 ?cp1 ?kp1 ?ap2 ?lp2 ?cp2 ?kp2 ?ap3 ?lp3 ?cp3 ?kp3 ?ap4 ?lp4 ?cp4 ?kp4 ?ap6 ?lp6 ?cp6 ?kp6 ?ap14 ?lp14 ?cp14 ?kp14 ?ap15 ?lp15 ?cp15 ?kp15 ?ap16 ?lp16 ?cp16 ?kp16 ?ap17 ?lp17 ?cp17 ?kp17 ?ap18 ?lp18 ?cp18 ?kp18 ?a20 ?l20 ?c20 ?k20 ?a21 ?l21 ?c21 ?k21 ?a22 ?l22 ?c22 ?k22 ?a23 ?l23 ?c23 ?k23 ?a24 ?l24 ?c24 ?k24 ?a25 ?l25 ?c25 ?k25 ?a26 ?l26 ?c26 ?k26 ?a27 ?l27 ?c27 ?k27 ?a28 ?l28 ?c28 ?k28 ?a29 ?l29 ?c29 ?k29 ?a30 ?l30 ?c30 ?k30 ?a31 ?l31 ?c31 ?k31 ?a32 ?l32 ?c32 ?k32 ?a33 ?l33 ?c33 ?k33 ?a34 ?l34 ?c34 ?k34 ?a35 ?l35 ?c35 ?k35 ?n0 ?n1 ?n2 ?n3 ?n4 ?n5 ?z0 ?z1 ?z2 ?z3 ?z4 ?z5 ?z6 ?z7 ?z8 ?z9 ?z10 ?z11 ?z12 ?z13 ?z14 ?z15 ?z16
    (case ap1 => first | k_is | rfl)
    (case lp1 => first | k_is | rfl)
    (case cp1 => first | k_is | rfl)
    (case kp1 => first | k_is | rfl)
    (case ap2 => first | k_is | rfl)
    (case lp2 => first | k_is | rfl)
    (case cp2 => first | k_is | rfl)
    (case kp2 => first | k_is | rfl)
    (case ap3 => first | k_is | rfl)
    (case lp3 => first | k_is | rfl)
    (case cp3 => first | k_is | rfl)
    (case kp3 => first | k_is | rfl)
    (case ap4 => first | k_is | rfl)
    (case lp4 => first | k_is | rfl)
    (case cp4 => first | k_is | rfl)
    (case kp4 => first | k_is | rfl)
    (case ap6 => first | k_is | rfl)
    (case lp6 => first | k_is | rfl)
    (case cp6 => first | k_is | rfl)
    (case kp6 => first | k_is | rfl)
    (case ap14 => first | k_is | rfl)
    (case lp14 => first | k_is | rfl)
    (case cp14 => first | k_is | rfl)
    (case kp14 => first | k_is | rfl)
    (case ap15 => first | k_is | rfl)
    (case lp15 => first | k_is | rfl)
    (case cp15 => first | k_is | rfl)
    (case kp15 => first | k_is | rfl)
    (case ap16 => first | k_is | rfl)
    (case lp16 => first | k_is | rfl)
    (case cp16 => first | k_is | rfl)
    (case kp16 => first | k_is | rfl)
    (case ap17 => first | k_is | rfl)
    (case lp17 => first | k_is | rfl)
    (case cp17 => first | k_is | rfl)
    (case kp17 => first | k_is | rfl)
    (case ap18 => first | k_is | rfl)
    (case lp18 => first | k_is | rfl)
    (case cp18 => first | k_is | rfl)
    (case kp18 => first | k_is | rfl)
    (case a20 => first | k_is | rfl)
    (case l20 => first | k_is | rfl)
    (case c20 => first | k_is | rfl)
    (case k20 => first | k_is | rfl)
    (case a21 => first | k_is | rfl)
    (case l21 => first | k_is | rfl)
    (case c21 => first | k_is | rfl)
    (case k21 => first | k_is | rfl)
    (case a22 => first | k_is | rfl)
    (case l22 => first | k_is | rfl)
    (case c22 => first | k_is | rfl)
    (case k22 => first | k_is | rfl)
    (case a23 => first | k_is | rfl)
    (case l23 => first | k_is | rfl)
    (case c23 => first | k_is | rfl)
    (case k23 => first | k_is | rfl)
    (case a24 => first | k_is | rfl)
    (case l24 => first | k_is | rfl)
    (case c24 => first | k_is | rfl)
    (case k24 => first | k_is | rfl)
    (case a25 => first | k_is | rfl)
    (case l25 => first | k_is | rfl)
    (case c25 => first | k_is | rfl)
    (case k25 => first | k_is | rfl)
    (case a26 => first | k_is | rfl)
    (case l26 => first | k_is | rfl)
    (case c26 => first | k_is | rfl)
    (case k26 => first | k_is | rfl)
    (case a27 => first | k_is | rfl)
    (case l27 => first | k_is | rfl)
    (case c27 => first | k_is | rfl)
    (case k27 => first | k_is | rfl)
    (case a28 => first | k_is | rfl)
    (case l28 => first | k_is | rfl)
    (case c28 => first | k_is | rfl)
    (case k28 => first | k_is | rfl)
    (case a29 => first | k_is | rfl)
    (case l29 => first | k_is | rfl)
    (case c29 => first | k_is | rfl)
    (case k29 => first | k_is | rfl)
    (case a30 => first | k_is | rfl)
    (case l30 => first | k_is | rfl)
    (case c30 => first | k_is | rfl)
    (case k30 => first | k_is | rfl)
    (case a31 => first | k_is | rfl)
    (case l31 => first | k_is | rfl)
    (case c31 => first | k_is | rfl)
    (case k31 => first | k_is | rfl)
    (case a32 => first | k_is | rfl)
    (case l32 => first | k_is | rfl)
    (case c32 => first | k_is | rfl)
    (case k32 => first | k_is | rfl)
    (case a33 => first | k_is | rfl)
    (case l33 => first | k_is | rfl)
    (case c33 => first | k_is | rfl)
    (case k33 => first | k_is | rfl)
    (case a34 => first | k_is | rfl)
    (case l34 => first | k_is | rfl)
    (case c34 => first | k_is | rfl)
    (case k34 => first | k_is | rfl)
    (case a35 => first | k_is | rfl)
    (case l35 => first | k_is | rfl)
    (case c35 => first | k_is | rfl)
    (case k35 => first | k_is | rfl)
    (case n0 => first | k_is | rfl)
    (case n1 => first | k_is | rfl)
    (case n2 => first | k_is | rfl)
    (case n3 => first | k_is | rfl)
    (case n4 => first | k_is | rfl)
    (case n5 => first | k_is | rfl)
    (case z0 => first | k_is | rfl)
    (case z1 => first | k_is | rfl)
    (case z2 => first | k_is | rfl)
    (case z3 => first | k_is | rfl)
    (case z4 => first | k_is | rfl)
    (case z5 => first | k_is | rfl)
    (case z6 => first | k_is | rfl)
    (case z7 => first | k_is | rfl)
    (case z8 => first | k_is | rfl)
    (case z9 => first | k_is | rfl)
    (case z10 => first | k_is | rfl)
    (case z11 => first | k_is | rfl)
    (case z12 => first | k_is | rfl)
    (case z13 => first | k_is | rfl)
    (case z14 => first | k_is | rfl)
    (case z15 => first | k_is | rfl)
    (case z16 => first | k_is | rfl)

