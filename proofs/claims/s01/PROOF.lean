import PyProof.Rows.All
import Wide.All
import OpenK.AllK
import Wide.FinOn
import Open.SpecLaws
import KE.OsGo
import KE.DataFind
import HandS.ForMost
import HandS.ForSpec
import HandS.More
import HandS.Deep
import HandS.Zip
import HandS.Evl
import PySem.Challenge.RW_sharedspins_s01_answers
/-! The mirror: what each def of the program reckons, over plain lists; numbers are naturals but where one may fall below 0. -/
namespace Mir
open Su173 (Spin together)
open Su175 (blank okRow)
structure G where
  begun : Bool
  k : Nat
  q : Nat
  weights : List Nat
  wins : List Nat
  owners : List Nat
  links : List (Nat × Nat)
  sure : List Spin
  touched : Bool
  own : List Spin
def G.new : G := ⟨false, 0, 0, [], [], [], [], [], false, []⟩
def G.m (g : G) : Nat := g.owners.length
def G.asked (g : G) (x : List Nat) : Bool := okRow g.k g.q x
def place (q : Nat) (x : List Nat) : Nat := x.foldl (fun p v => p * q + v) 0
def onesF : Nat → Nat → Nat
  | 0, _ => 0
  | f + 1, n => if n = 0 then 0 else n % 2 + onesF f (n / 2)
def ones (n : Nat) : Nat := onesF n n
/-- rows_with_parity behind i turns -/
def parityTo (s : Nat) : Nat → Nat
  | 0 => 0
  | i + 1 => if ones i % 2 = s then parityTo s i ||| (1 * 2 ^ i) else parityTo s i
def rowsWithParity (k s : Nat) : Nat := parityTo s (2 ^ k)
/-- row_at behind i turns: the row, the place that is left -/
def rowAtTo (q p : Nat) : Nat → List Nat × Nat
  | 0 => ([], p)
  | i + 1 => ((rowAtTo q p i).2 % q :: (rowAtTo q p i).1, (rowAtTo q p i).2 / q)
def rowAt (k q p : Nat) : List Nat := (rowAtTo q p k).1
def countRows (k q : Nat) : Nat := q ^ k
def mayBegin (k q : Nat) : Bool := decide (2 ≤ k ∧ k ≤ 4 ∧ 1 ≤ q ∧ q ≤ 3 ∧ k * q ≤ 8)
/-! ### plans -/
def planAt (L p : Nat) : List Nat := (List.range L).map fun j => p / 2 ^ (L - 1 - j) % 2
def moreAnswers (ns own : List Nat) (i : Nat) : List Nat := ns.flatMap fun n => own.map fun a => n + a * 2 ^ i
def answeredTo (q : Nat) (f : List Nat) : Nat → List Nat
  | 0 => [0]
  | i + 1 => moreAnswers (answeredTo q f i) ((f.drop (i * q)).take q) i
def answered (k q : Nat) (f : List Nat) : List Nat := answeredTo q f k
def worthTo (ws cs ns : List Nat) : Nat → Nat
  | 0 => 0
  | i + 1 => if ws.getD i 0 / 2 ^ ns.getD i 0 % 2 = 1 then worthTo ws cs ns i + cs.getD i 0 else worthTo ws cs ns i
def G.worth (g : G) (f : List Nat) : Nat := worthTo g.wins g.weights (answered g.k g.q f) (answered g.k g.q f).length
def G.plan (g : G) (p : Nat) : List Nat := planAt (g.k * g.q) p
def G.bestTo (g : G) : Nat → Nat × List Nat
  | 0 => (g.worth (g.plan 0), g.plan 0)
  | i + 1 => if (g.bestTo i).1 < g.worth (g.plan (1 + i)) then (g.worth (g.plan (1 + i)), g.plan (1 + i)) else g.bestTo i
def G.best (g : G) : Nat × List Nat := g.bestTo (2 ^ (g.k * g.q) - 1)
def G.winTo (g : G) (t : Nat) : Nat → Nat
  | 0 => 0
  | i + 1 => if g.worth (g.plan i) = t then g.winTo t i + 1 else g.winTo t i
/-! ### measurements -/
def xorL (a b : List Nat) : List Nat := List.zipWith (fun x y => x ^^^ y) a b
def tn (a b : Nat) : Nat := (([[0, 0, 0, 0], [0, 0, 1, 3], [0, 3, 0, 1], [0, 1, 3, 0]] : List (List Nat)).getD a []).getD b 0
def turns (a b : List Nat) : Nat := (List.zipWith tn a b).sum
def mulP (p x : Spin) : Spin := ⟨(p.s + x.s + turns p.l x.l % 4 / 2) % 2, xorL p.l x.l⟩
def prods (m : Nat) (l : List Spin) : List Spin := l.foldl (fun ps x => ps ++ ps.map fun p => mulP p x) [blank m]
def lastSign (ps : List Spin) (l : List Nat) : Option Nat := ps.foldl (fun o p => if p.l = l then some p.s else o) none
def G.signs (g : G) (l : List Nat) : Option Nat := lastSign (prods g.m g.sure) l
def sureAt (links : List (Nat × Nat)) (m i : Nat) : Spin := ⟨0, (List.range m).map fun j => if links.contains (min i j, max i j) = true then 3 else if j = i then 1 else 0⟩
def firstSure (m : Nat) (links : List (Nat × Nat)) : List Spin := (List.range m).map (sureAt links m)
def besStep (x : Spin) (s : List Spin × Option Spin) (y : Spin) : List Spin × Option Spin :=
  if together y x = true then (s.1 ++ [y], s.2) else match s.2 with
    | none => (s.1 ++ [x], some y)
    | some p => (s.1 ++ [mulP y p], some p)
def letBeSure (l : List Spin) (x : Spin) : List Spin := (l.foldl (besStep x) ([], none)).1
/-! ### the chances -/
def G.ownRow (g : G) (x : List Nat) : List Spin := x.zipIdx.map fun p => g.own.getD (p.2 * g.q + p.1) (blank g.m)
def G.sumSure (g : G) (p : Spin) : Nat := match g.signs p.l with
  | none => 0
  | some c => 1 + (c + p.s) % 2
def G.sums (g : G) (x : List Nat) : List Nat := (prods g.m (g.ownRow x)).map g.sumSure
def code2 (l : List Nat) : Nat := l.foldr (fun x s => x + 2 * s) 0
def chanceTo (sums : List Nat) (n : Nat) : Nat → Int
  | 0 => 0
  | i + 1 => if sums.getD i 0 ≠ 0 then chanceTo sums n i + (if sums.getD i 0 = 1 + ones (i &&& n) % 2 then 1 else -1) else chanceTo sums n i
def chanceOf (sums : List Nat) (n : Nat) : Int := chanceTo sums n sums.length
def winsOf (sums : List Nat) (w : Nat) : Int := (((List.range sums.length).filter fun n => w / 2 ^ n % 2 = 1).map (chanceOf sums)).sum
def G.valueTo (g : G) : Nat → Int
  | 0 => 0
  | i + 1 => g.valueTo i + (g.weights.getD i 0 : Int) * winsOf (g.sums (rowAt g.k g.q i)) (g.wins.getD i 0)
def G.value (g : G) : Int := g.valueTo g.weights.length
/-! ### the calls -/
def pairOf (i j : Nat) : Nat × Nat := (min i j, max i j)
def G.setSpins (g : G) (o : List Nat) : G := { g with owners := o, links := [], sure := firstSure o.length [], touched := false, own := List.replicate (g.k * g.q) (blank o.length) }
def G.fresh (g : G) : G := { g with sure := firstSure g.m g.links, touched := false }
def beginM (g : G) (k q : Nat) : G × List Int :=
  if mayBegin k q = true then (G.setSpins { g with begun := true, k := k, q := q, weights := List.replicate (countRows k q) 1, wins := List.replicate (countRows k q) 0 } [], [0]) else (g, [-22])
def winsM (g : G) (w : Nat) (x : List Nat) : G × List Int :=
  if g.asked x = false ∨ 2 ^ 2 ^ g.k ≤ w then (g, [-22]) else ({ g with wins := g.wins.set (place g.q x) w }, [(g.wins.getD (place g.q x) 0 : Nat)])
def oddM (g : G) (s : Nat) (x : List Nat) : G × List Int :=
  if g.asked x = false ∨ 1 < s then (g, [-22]) else ({ g with wins := g.wins.set (place g.q x) (rowsWithParity g.k s) }, [(rowsWithParity g.k s : Nat)])
def countsM (g : G) (w : Nat) (x : List Nat) : G × List Int :=
  if g.asked x = false ∨ 99 < w then (g, [-22]) else ({ g with weights := g.weights.set (place g.q x) w }, [(g.weights.getD (place g.q x) 0 : Nat)])
def rowM (g : G) (x : List Nat) : List Int := if g.asked x = false then [-22] else [(g.weights.getD (place g.q x) 0 : Nat), (g.wins.getD (place g.q x) 0 : Nat)]
def stateM (g : G) : List Int := [(g.k : Int), (g.q : Int), (g.m : Int), (g.links.length : Int), if g.touched = true then 1 else 0] ++ List.map (fun (o : Nat) => (o : Int)) g.owners
def planM (g : G) (f : List Nat) : List Int := if okRow (g.k * g.q) 2 f = false then [-22] else [(g.worth f : Int), (g.weights.sum : Int)]
def bestM (g : G) : List Int := [(g.best.1 : Int), (g.weights.sum : Int)] ++ List.map (fun (o : Nat) => (o : Int)) g.best.2
def plansM (g : G) (t : Nat) : List Int := [(g.winTo t (2 ^ (g.k * g.q)) : Int), ((2 ^ (g.k * g.q) : Nat) : Int)]
def spinsM (g : G) (o : List Nat) : G × List Int := if 6 < o.length ∨ o.all (fun p => decide (p < g.k)) = false then (g, [-22]) else (g.setSpins o, [(o.length : Int)])
def linkM (g : G) (i j : Nat) : G × List Int :=
  if g.m ≤ i ∨ g.m ≤ j then (g, [-2]) else if i = j then (g, [-22]) else if g.touched = true then (g, [-16]) else
    let l := if g.links.contains (pairOf i j) = true then g.links.erase (pairOf i j) else g.links ++ [pairOf i j]
    (G.fresh { g with links := l }, [(l.length : Int)])
def freshM (g : G) : G × List Int := (g.fresh, [(g.m : Int)])
def sureM (g : G) (l : List Nat) : List Int := if okRow g.m 4 l = false then [-22] else match g.signs l with
  | none => [-33]
  | some c => [(c : Int)]
def measureM (g : G) (c : Nat) (l : List Nat) : G × List Int := if okRow g.m 4 l = false ∨ 1 < c then (g, [-22]) else match g.signs l with
  | none => ({ g with sure := letBeSure g.sure ⟨c, l⟩, touched := true }, [1])
  | some s => if s ≠ c then (g, [-33]) else (g, [2])
def ownLetters (g : G) (i : Nat) (l : List Nat) : Bool := okRow g.m 4 l && (l.zip g.owners).all fun p => p.1 == 0 || p.2 == i
def mineM (g : G) (i x s : Nat) (l : List Nat) : G × List Int := if g.k ≤ i ∨ g.q ≤ x then (g, [-2]) else if 1 < s ∨ ownLetters g i l = false then (g, [-22]) else ({ g with own := g.own.set (i * g.q + x) ⟨s, l⟩ }, [0])
def both (g : G) (l : List Nat) : Bool := decide (l.length = 2 * g.k) && (g.asked (l.take g.k) && (l.drop g.k).all fun b => decide (b ≤ 1))
def chanceM (g : G) (l : List Nat) : List Int := if both g l = false then [-22] else
  [chanceOf (g.sums (l.take g.k)) (code2 (l.drop g.k)), ((2 ^ g.k : Nat) : Int), ((g.wins.getD (place g.q (l.take g.k)) 0 / 2 ^ code2 (l.drop g.k) % 2 : Nat) : Int)]
def parityM (g : G) (l : List Nat) : List Int := if both g l = false then [-22] else [((g.sums (l.take g.k)).getD (code2 (l.drop g.k)) 0 : Int)]
def valueM (g : G) : List Int := [g.value, ((g.weights.sum * 2 ^ g.k : Nat) : Int), ((g.best.1 * 2 ^ g.k : Nat) : Int)]
/-- answer_call: a call's number, and all that stands behind it -/
def doM (g : G) (p : Nat) (l : List Nat) : G × List Int :=
  if p = 0 then beginM g (l.getD 0 0) (l.getD 1 0) else if g.begun = false then (g, [-11]) else
  match p with
  | 1 => winsM g (l.getD 0 0) (l.drop 2)
  | 2 => oddM g (l.getD 0 0) (l.drop 2)
  | 3 => countsM g (l.getD 0 0) (l.drop 2)
  | 4 => (g, planM g (l.drop 1))
  | 5 => (g, bestM g)
  | 6 => (g, plansM g (l.getD 0 0))
  | 7 => spinsM g (l.drop 1)
  | 8 => linkM g (l.getD 0 0) (l.getD 1 0)
  | 9 => freshM g
  | 10 => (g, sureM g (l.drop 1))
  | 11 => measureM g (l.getD 0 0) (l.drop 2)
  | 12 => mineM g (l.getD 0 0) (l.getD 1 0) (l.getD 2 0) (l.drop 4)
  | 13 => (g, chanceM g (l.drop 1))
  | 14 => (g, parityM g (l.drop 1))
  | 15 => (g, valueM g)
  | 16 => (g, rowM g (l.drop 1))
  | _ => (g, stateM g)
/-- all calls, one behind another -/
def runM : G → List (Nat × List Nat) → List (List Int)
  | _, [] => []
  | g, c :: r => (doM g c.1 c.2).2 :: runM (doM g c.1 c.2).1 r
end Mir
set_option Elab.async false
set_option maxRecDepth 100000
set_option maxHeartbeats 4000000
namespace My
open PySem PySem.Spec PyProof.Rows L2
/-! ### rules that the layer lacks -/
/-- xs.remove(y), xs and y read as data, y at the place j first -/
def rRemD (K : PySem.W.Frag) : V → List V → Hp → VK → Prop := fun x xs H Q => ∃ (a : Addr) (y : V) (d : PyData) (ys : List V) (ds : List PyData) (j : Nat) (z : PyData), x = V.ref a ∧ xs = [y] ∧ H a = some (.lst ys) ∧ DpAll K H ys ds ∧ Dp K H y d ∧
  SeqAt.shaped (.list ds) = true ∧ SeqAt.shaped d = true ∧ ds[j]? = some z ∧ PyData.eqv z d = true ∧ (∀ (m : Nat) (z' : PyData), m < j → ds[m]? = some z' → PyData.eqv z' d = false) ∧ Q .non (upd H a (.lst (ys.eraseIdx j)))
theorem len_erase_le {α : Type} (l : List α) (j : Nat) : (l.eraseIdx j).length ≤ l.length := by
  rw [List.length_eraseIdx]
  split <;> omega
section
variable {X : Cx}
theorem mt_removeD (hu : X.A.units + 65 < cLine) : MtR X "list.remove" (rRemD X.K) := by
  intro pins s σ H x xs v us Q I rx rxs h
  obtain ⟨a, y, d, ys, ds, j, z, rfl, rfl, hl, hall, hy, sl, sd, hz, hzj, hno, q⟩ := h
  cases rx
  cases rxs with
  | cons ry rt =>
    rename_i uy ut
    cases rt
    obtain ⟨bs, r1⟩ := Dp.reads I d y uy hy ry
    have hxs : PyData.canLayAll0 ds = true := SeqAt.canLay_of_shaped sl
    have hroom : X.A.units + 1 + min (PyData.depthAll ds) d.depth < cLine := room_in_shaped sd hu
    obtain ⟨zz, its, n, r, hlen, ho⟩ := I.lstM hl
    obtain ⟨as, h4⟩ := Dp.readsAll I ds _ its hall r
    have hn : its.length = ds.length := SeqAt.ReadsAll.length ds its as h4
    have hmap : its.map (SeqAt.readOf s.heap) = ds := SeqAt.readsAll_map ds its as hxs h4
    have hsl := sizeLine_eq
    obtain ⟨hjd, _⟩ := List.getElem?_eq_some_iff.mp hz
    have hj : j < its.toArray.size := by
      rw [List.size_toArray]
      omega
    have at_ : ∀ (m : Nat) (hm : m < its.toArray.size) (z' : PyData), ds[m]? = some z' → SeqAt.readOf s.heap its.toArray[m] = z' := by
      intro m hm z' hz'
      have hml : m < its.length := by simpa using hm
      rw [← hmap, List.getElem?_map, List.getElem?_eq_getElem hml] at hz'
      have e1 : SeqAt.readOf s.heap its[m] = z' := Option.some.inj (show some (SeqAt.readOf s.heap its[m]) = some z' from hz')
      simpa using e1
    have hvl := r.length
    refine call_meets PySem.F.slot_list_remove ⟨_, ho, rfl⟩ PySem.F.entry_list_remove (PySem.F.args_list_remove_2 _ _)
      (SeqAt.list_removeAt a its.toArray n none #[] uy (fun u => PyData.eqv (SeqAt.readOf s.heap u) d) j hj ?_ ?_ (by rw [List.size_toArray]; omega)) ⟨ho, SeqAt.items_eqAt (vs := its.toArray) (show ReadsAll s.heap its.toArray.toList ds as from h4) r1 hxs (SeqAt.canLay_of_shaped sd) hroom, ?_⟩
    · show PyData.eqv (SeqAt.readOf s.heap its.toArray[j]) d = true
      rw [at_ j hj z hz]
      exact hzj
    · intro m hm hmj
      have hmd : m < ds.length := by
        rw [List.size_toArray] at hm
        omega
      have hz' : ds[m]? = some ds[m] := List.getElem?_eq_getElem hmd
      show PyData.eqv (SeqAt.readOf s.heap its.toArray[m]) d = false
      rw [at_ m hm _ hz']
      exact hno m _ hmj hz'
    · refine ⟨.non, _, I.lset (its' := its.eraseIdx j) (t' := s.toks) hl ho ?_ (r.eraseIdx j) ?_, rfl, q⟩
      · show its.toArray.eraseIdxIfInBounds j = (its.eraseIdx j).toArray
        rw [List.eraseIdxIfInBounds_toArray]
      · have z2 := len_erase_le ys j
        omega
/-- a module's constant that is a whole number -/
theorem pe_gi {x : Str} {pos : Pos} {i : Int} (h : ∃ t, X.mg x = some (.int i t)) (hg : Gl X x) (hd : (x == ("__debug__" : Str)) = false := by decide)  : PE X (.Name x pos) (tC (.int i)) := by
  obtain ⟨t, e⟩ := h
  exact pe_glob (v := .int i) hg e ⟨t, rfl⟩ hd
/-- a module's constant that is an object -/
theorem pe_gr {x : Str} {pos : Pos} {a : Addr} (h : X.mg x = some (.ref a)) (hg : Gl X x) (hd : (x == ("__debug__" : Str)) = false := by decide)  : PE X (.Name x pos) (tC (.ref a)) :=
  pe_glob (v := .ref a) hg h rfl hd
end
/-! ### a def of the top that keeps a promise; a class that is made by one -/
structure Cal (P : Program) (w : World) (K : PySem.W.Frag) (mg : Str → Option Value) (base : Heap) (x : Str) (k : Nat) (ps : List Str) (sp : Sp) : Prop where
  ex : ∃ (f : Addr) (fd : FuncData), mg x = some (.ref f) ∧ PySem.W.keepIn K (.ref f) = true ∧ Binds K fd ps [] ∧ FnOk P w K mg base CX0 k f fd ps sp
structure MkC (P : Program) (w : World) (K : PySem.W.Frag) (mg : Str → Option Value) (base : Heap) (x : Str) (C : Addr) (k : Nat) (ps : List Str) (sp : Sp) : Prop where
  ex : ∃ (f : Addr) (fd : FuncData), mg x = some (.ref C) ∧ Mk K C f ∧ Binds K fd ps [] ∧ FnOk P w K mg base CX0 k f fd ps sp
section
variable {X : Cx}
theorem pe_cal {x : Str} {k : Nat} {ps : List Str} {sp : Sp} {e : Expr} {es : List Expr} {t : TA} {p pos : Pos} (c : Cal X.prog X.w X.K X.mg X.base x k ps sp) (hr : Room k X.A) (hg : Gl X x)
    (ha : PA X (e :: es) t) (hdb : (x == ("__debug__" : Str)) = false := by decide) (he : starEach (e :: es) X.env = (false, eval e X.env) :: starEach es X.env := by rfl) (hpl : (backTo pos (starEach es X.env)).any (·.1) = false := by rfl) :
    PE X (.Call (.Name x p) (e :: es) [] pos) (tCall sp [] E0 t) := by
  obtain ⟨f, fd, h1, h2, h3, h4⟩ := c.ex
  exact pe_call h4 hr hg h1 h2 h3 .nil pass0 ha hdb he hpl
theorem pe_mkc {x : Str} {C : Addr} {k : Nat} {ps : List Str} {sp : Sp} {e : Expr} {es : List Expr} {t : TA} {p pos : Pos} (c : MkC X.prog X.w X.K X.mg X.base x C k ps sp) (hr : Room (k + 1) X.A) (hg : Gl X x)
    (ha : PA X (e :: es) t) (hdb : (x == ("__debug__" : Str)) = false := by decide) (he : starEach (e :: es) X.env = (false, eval e X.env) :: starEach es X.env := by rfl) (hpl : (backTo pos (starEach es X.env)).any (·.1) = false := by rfl) :
    PE X (.Call (.Name x p) (e :: es) [] pos) (tMake C sp [] E0 t) := by
  obtain ⟨f, fd, h1, h2, h3, h4⟩ := c.ex
  exact pe_make h2 h4 hr hg h1 h3 .nil pass0 ha hdb he hpl
theorem pe_mkc0 {x : Str} {C : Addr} {k : Nat} {ps : List Str} {sp : Sp} {p pos : Pos} (c : MkC X.prog X.w X.K X.mg X.base x C k ps sp) (hr : Room (k + 1) X.A) (hg : Gl X x)
    (hdb : (x == ("__debug__" : Str)) = false := by decide) : PE X (.Call (.Name x p) [] [] pos) (tMake C sp [] E0 tNil) := by
  obtain ⟨f, fd, h1, h2, h3, h4⟩ := c.ex
  exact pe_make0 h2 h4 hr hg h1 h3 .nil pass0 hdb
end
/-! ### the operators' readings, named -/
def rSub' : R2 := rI0 fun i j => .int (i - j)
def rAdd' : R2 := rI0 fun i j => .int (i + j)
def rMul' : R2 := rI CMul fun i j => .int (i * j)
def rDiv' : R2 := rI CDivN fun i j => .int (i.fdiv j)
def rMod' : R2 := rI (fun _ j => j ≠ 0) fun i j => .int (i.fmod j)
def rShl' : R2 := rI CPow fun i j => .int (i * 2 ^ j.toNat)
def rShr' : R2 := rI (fun _ j => 0 ≤ j) fun i j => .int (i / 2 ^ j.toNat)
def rAnd' : R2 := rI0 fun i j => .int (Builtin.bitAnd i j)
def rOr' : R2 := rI0 fun i j => .int (Builtin.bitOr i j)
def rXor' : R2 := rI0 fun i j => .int (Builtin.bitXor i j)
def rLt' : R2 := rI0 fun i j => .bl (decide (i < j))
def rLe' : R2 := rI0 fun i j => .bl (decide (i ≤ j))
def rGt' : R2 := rI0 fun i j => .bl (decide (j < i))
def rGe' : R2 := rI0 fun i j => .bl (decide (j ≤ i))
def rIs' : R2 := fun x y H Q => y = .non ∧ Q (.bl (decide (x = .non))) H
def rLen' (K : PySem.W.Frag) : List V → Hp → VK → Prop := fun xs H Q => ∃ p ys, xs = [.ref p] ∧ (SqL K H p ys ∨ SqT K H p ys) ∧ Q (.int ys.length) H
def rList' (K : PySem.W.Frag) : List V → Hp → VK → Prop := fun xs H Q => ∃ p ys, xs = [.ref p] ∧ (SqL K H p ys ∨ SqT K H p ys) ∧ ∀ l, H l = none → Q (.ref l) (upd H l (.lst ys))
def rTuple' (K : PySem.W.Frag) : List V → Hp → VK → Prop := fun xs H Q => ∃ p ys, xs = [.ref p] ∧ ((SqL K H p ys ∧ ∀ l, H l = none → Q (.ref l) (upd H l (.tup ys))) ∨ (SqT K H p ys ∧ Q (.ref p) H))
def rMax' : List V → Hp → VK → Prop := fun xs H Q => ∃ i j, xs = [.int i, .int j] ∧ Q (.int (if j > i then j else i)) H
def rMin' : List V → Hp → VK → Prop := fun xs H Q => ∃ i j, xs = [.int i, .int j] ∧ Q (.int (if j < i then j else i)) H
def rIns' : V → List V → Hp → VK → Prop := fun x vs H Q => ∃ (l : Addr) (xs : List V) (i : Int) (y : V), x = .ref l ∧ vs = [.int i, y] ∧ H l = some (.lst xs) ∧ xs.length < sizeLine ∧ 0 ≤ i ∧ i < 2 ^ 63 ∧ Q .non (upd H l (.lst (xs.take i.toNat ++ [y] ++ xs.drop i.toNat)))
section
variable {X : Cx}
theorem o_add : OpR X (binaryOp .Add) rAdd' := op_add
theorem o_sub : OpR X (binaryOp .Sub) rSub' := op_sub
theorem o_mul : OpR X (binaryOp .Mult) rMul' := op_mul
theorem o_div : OpR X (binaryOp .FloorDiv) rDiv' := op_fdivN
theorem o_mod : OpR X (binaryOp .Mod) rMod' := op_modN
theorem o_shl : OpR X (binaryOp .LShift) rShl' := op_shl
theorem o_shr : OpR X (binaryOp .RShift) rShr' := op_shr
theorem o_and : OpR X (binaryOp .BitAnd) rAnd' := op_and
theorem o_or : OpR X (binaryOp .BitOr) rOr' := op_or
theorem o_xor : OpR X (binaryOp .BitXor) rXor' := op_xor
theorem o_lt : OpR X (compareOp .Lt) rLt' := op_lt
theorem o_le : OpR X (compareOp .LtE) rLe' := op_le
theorem o_gt : OpR X (compareOp .Gt) rGt' := op_gt
theorem o_ge : OpR X (compareOp .GtE) rGe' := op_ge
theorem o_is : OpR X (compareOp .Is) rIs' := op_isN
theorem c_len : CallR X (.builtin "len") (rLen' X.K) := call_len_seq
theorem c_list : CallR X (.type "list") (rList' X.K) := call_list_of
theorem c_tuple : CallR X (.type "tuple") (rTuple' X.K) := call_tuple_of
theorem c_max (hc : X.calm = true) : CallR X (.builtin "max") rMax' := call_max2 hc
theorem c_min (hc : X.calm = true) : CallR X (.builtin "min") rMin' := call_min2 hc
theorem m_insert : MtR X "list.insert" rIns' := mt_insert
end
end My
set_option Elab.async false
set_option linter.all false
set_option maxRecDepth 100000
set_option maxHeartbeats 4000000
namespace My
open PySem PySem.Spec PyProof.Rows L2
def topS (i : Nat) : Stmt := PySem.Challenge.pw_sharedspins_s01_answers.main.body.getD i (.Pass ⟨0, 0, 0, 0⟩)
theorem hu65 {k : Nat} {A : Around} (hr : Room k A) : A.units + 65 < cLine := by
  have := hr.un
  omega
/-- what the top has written of names and classes -/
structure Txt (K : PySem.W.Frag) (mg : Str → Option Value) (C CM aT aN aW : Addr) : Prop where
  clG : Cls K C
  clM : Cls K CM
  g_begun : NoAttr K C "begun"
  g_persons : NoAttr K C "persons"
  g_questions : NoAttr K C "questions"
  g_weights : NoAttr K C "weights"
  g_winning : NoAttr K C "winning"
  g_owners : NoAttr K C "owners"
  g_links : NoAttr K C "links"
  g_sure : NoAttr K C "sure"
  g_measured : NoAttr K C "measured"
  g_own : NoAttr K C "own"
  m_sign : NoAttr K CM "sign"
  m_letters : NoAttr K CM "letters"
  b_all : mg "all" = none
  b_enumerate : mg "enumerate" = none
  b_len : mg "len" = none
  b_list : mg "list" = none
  b_max : mg "max" = none
  b_min : mg "min" = none
  b_range : mg "range" = none
  b_sum : mg "sum" = none
  b_tuple : mg "tuple" = none
  b_zip : mg "zip" = none
  c_NONE_SUCH : ∃ t, mg "NONE_SUCH" = some (.int (-2) t)
  c_NOT_BEGUN : ∃ t, mg "NOT_BEGUN" = some (.int (-11) t)
  c_SOMETHING_MEASURED : ∃ t, mg "SOMETHING_MEASURED" = some (.int (-16) t)
  c_NOT_AS_TOLD : ∃ t, mg "NOT_AS_TOLD" = some (.int (-22) t)
  c_NOT_SURE_SO : ∃ t, mg "NOT_SURE_SO" = some (.int (-33) t)
  c_MOST_WEIGHT : ∃ t, mg "MOST_WEIGHT" = some (.int 99 t)
  c_NO_LETTER : ∃ t, mg "NO_LETTER" = some (.int 0 t)
  c_X : ∃ t, mg "X" = some (.int 1 t)
  c_Z : ∃ t, mg "Z" = some (.int 3 t)
  c_HAD_EVEN_CHANCE : ∃ t, mg "HAD_EVEN_CHANCE" = some (.int 1 t)
  c_WAS_SURE : ∃ t, mg "WAS_SURE" = some (.int 2 t)
  c_NOTHING_SURE : ∃ t, mg "NOTHING_SURE" = some (.int 0 t)
  c_SURELY_EVEN : ∃ t, mg "SURELY_EVEN" = some (.int 1 t)
  c_MOST_SPINS : ∃ t, mg "MOST_SPINS" = some (.int 6 t)
  c_BEGIN : ∃ t, mg "BEGIN" = some (.int 0 t)
  c_WINS : ∃ t, mg "WINS" = some (.int 1 t)
  c_ODD : ∃ t, mg "ODD" = some (.int 2 t)
  c_COUNTS : ∃ t, mg "COUNTS" = some (.int 3 t)
  c_PLAN : ∃ t, mg "PLAN" = some (.int 4 t)
  c_BEST : ∃ t, mg "BEST" = some (.int 5 t)
  c_PLANS : ∃ t, mg "PLANS" = some (.int 6 t)
  c_SPINS : ∃ t, mg "SPINS" = some (.int 7 t)
  c_LINK : ∃ t, mg "LINK" = some (.int 8 t)
  c_FRESH : ∃ t, mg "FRESH" = some (.int 9 t)
  c_SURE : ∃ t, mg "SURE" = some (.int 10 t)
  c_MEASURE : ∃ t, mg "MEASURE" = some (.int 11 t)
  c_MINE : ∃ t, mg "MINE" = some (.int 12 t)
  c_CHANCE : ∃ t, mg "CHANCE" = some (.int 13 t)
  c_PARITY : ∃ t, mg "PARITY" = some (.int 14 t)
  c_VALUE : ∃ t, mg "VALUE" = some (.int 15 t)
  c_ROW : ∃ t, mg "ROW" = some (.int 16 t)
  c_TURNS : mg "TURNS" = some (.ref aT)
  c_NUMBERS : mg "NUMBERS" = some (.ref aN)
  c_WITH_ROW : mg "WITH_ROW" = some (.ref aW)
  t_TURNS : ∃ a0 a1 a2 a3, SqT K (fun _ => none) aT [.ref a0, .ref a1, .ref a2, .ref a3] ∧ SqT K (fun _ => none) a0 [.int 0, .int 0, .int 0, .int 0] ∧ SqT K (fun _ => none) a1 [.int 0, .int 0, .int 1, .int 3] ∧ SqT K (fun _ => none) a2 [.int 0, .int 3, .int 0, .int 1] ∧ SqT K (fun _ => none) a3 [.int 0, .int 1, .int 3, .int 0]
  t_NUMBERS : SqT K (fun _ => none) aN (([2, 1, 1, 1, 0, 0, 1, 0, 2, 0, 0, 1, 3, 0, 0, 0, 0, 0] : List Int).map V.int)
  t_WITH_ROW : SqT K (fun _ => none) aW (([1, 2, 3, 4, 7, 10, 11, 12, 13, 14, 16] : List Int).map V.int)
section
variable {P : Program} {w : World} {K : PySem.W.Frag} {mg : Str → Option Value} {base : Heap} {C CM aT aN aW : Addr}
/-! ### is_asked, level 1, slots ['game', 'row', 'question'], cells ['game'] -/
abbrev s_is_asked : Stmt := topS 11
theorem sc_is_asked : FnScope ["game", "row", "question"] ["game", "row"] (defScope s_is_asked) := ⟨rfl, rfl, rfl, by decide +kernel, rfl, by decide +kernel, by decide +kernel⟩
def t_is_asked (K : PySem.W.Frag) : TS :=
  tSeq (tIfS (tTest (tOp rNe (tCB (rLen' K) (tCons (tVar 1) (tNil))) (tFld K (tVar 0) "persons"))) (tRet (tC (.bl false))) (tNext))
    (tRet (tCB (rAll K) (tCons (tLc (iList K (tVar 1)) (gName 2) (tYes) (tOp rLt' (tVar 2) (tFld K (tVar 0) "questions")) [2]) (tNil))))
theorem d_is_asked (T : Txt K mg C CM aT aN aW) {f : Addr} {cdv : Value} {A : Around} {outer : List Env} {s : Shared} {H : Hp} {E : XK}
    (hr : Room 0 (A.deeper (envOfC "is_asked" (defScope s_is_asked) s.heap.objs.size f cdv))) :
    PSs (cxOf CX0 P w K mg base ["game", "row", "question"] "is_asked" (defScope s_is_asked) f cdv A outer s H E).nox (defBody s_is_asked) (t_is_asked K) :=
  by exact pss_cons (ps_if (pt_cmpR op_ne (pe_callB c_len rfl T.b_len (by decide +kernel) (pa_cons (pv 1) (pa_nil))) (pe_fld (pv 0) rfl) (nomark _)) (pss_one (ps_ret (pe_bl))) (pss_nil))
      (pss_one (ps_ret (pe_callB (cr_all rfl) rfl T.b_all (by decide +kernel) (pa_cons (pe_lc (own := [("question", 2)]) rfl sc_is_asked.nd (pi_list (pv 1)) (blkOk_by (N := ["game", "row", "question"]) (sc := defScope s_is_asked) (by decide +kernel)) (fun _ _ _ _ _ => pg_name (i := 2) sc_is_asked.nd rfl (Or.inl rfl)) (fun _ _ _ _ _ => pts_nil) (fun _ _ _ _ _ => pe_cmpR o_lt (pv 2) (pe_fld (pv 0) rfl) (nomark _))) (pa_nil)))))
/-! ### place_of_row, level 1, slots ['game', 'row', 'place', 'question'], cells [] -/
abbrev s_place_of_row : Stmt := topS 12
theorem sc_place_of_row : FnScope ["game", "row", "place", "question"] ["game", "row"] (defScope s_place_of_row) := ⟨rfl, rfl, rfl, by decide +kernel, rfl, by decide +kernel, by decide +kernel⟩
def t_place_of_row (K : PySem.W.Frag) : TS :=
  tSeq (tAsg (tC (.int 0)) (gName 2))
    (tSeq (tFor (iList K (tVar 1)) (gName 3) (tAsg (tOp rAdd' (tOp rMul' (tVar 2) (tFld K (tVar 0) "questions")) (tVar 3)) (gName 2)))
    (tRet (tVar 2)))
theorem d_place_of_row (T : Txt K mg C CM aT aN aW) {f : Addr} {cdv : Value} {A : Around} {outer : List Env} {s : Shared} {H : Hp} {E : XK}
    (hr : Room 0 (A.deeper (envOfC "place_of_row" (defScope s_place_of_row) s.heap.objs.size f cdv))) :
    PSs (cxOf CX0 P w K mg base ["game", "row", "place", "question"] "place_of_row" (defScope s_place_of_row) f cdv A outer s H E).nox (defBody s_place_of_row) (t_place_of_row K) :=
  by exact pss_cons (ps_set (i := 2) sc_place_of_row.nd rfl (Or.inl rfl) (pe_int))
      (pss_cons (ps_for PassesOwn.never rfl (pi_list (pv 1)) (pg_name (i := 3) sc_place_of_row.nd rfl (Or.inl rfl)) (pss_one (ps_set (i := 2) sc_place_of_row.nd rfl (Or.inl rfl) (pe_op o_add (pe_op o_mul (pv 2) (pe_fld (pv 0) rfl)) (pv 3)))))
      (pss_one (ps_ret (pv 2))))
/-! ### row_at, level 1, slots ['game', 'place', 'row', 'person'], cells [] -/
abbrev s_row_at : Stmt := topS 13
theorem sc_row_at : FnScope ["game", "place", "row", "person"] ["game", "place"] (defScope s_row_at) := ⟨rfl, rfl, rfl, by decide +kernel, rfl, by decide +kernel, by decide +kernel⟩
def t_row_at (K : PySem.W.Frag) : TS :=
  tSeq (tAsg (tLst (tNil)) (gName 2))
    (tSeq (tFor (iRng1 (tCons (tFld K (tVar 0) "persons") (tNil))) (gName 3) (tSeq (tDrop (tBM K "list" rIns' (tVar 2) (tCons (tC (.int 0)) (tCons (tOp rMod' (tVar 1) (tFld K (tVar 0) "questions")) (tNil)))))
    (tAsg (tOp rDiv' (tVar 1) (tFld K (tVar 0) "questions")) (gName 1))))
    (tRet (tVar 2)))
theorem d_row_at (T : Txt K mg C CM aT aN aW) {f : Addr} {cdv : Value} {A : Around} {outer : List Env} {s : Shared} {H : Hp} {E : XK}
    (hr : Room 0 (A.deeper (envOfC "row_at" (defScope s_row_at) s.heap.objs.size f cdv))) :
    PSs (cxOf CX0 P w K mg base ["game", "place", "row", "person"] "row_at" (defScope s_row_at) f cdv A outer s H E).nox (defBody s_row_at) (t_row_at K) :=
  by exact pss_cons (ps_set (i := 2) sc_row_at.nd rfl (Or.inl rfl) (pe_lst (pa_nil)))
      (pss_cons (ps_for PassesOwn.never rfl (pi_range1 rfl T.b_range (pa_cons (pe_fld (pv 0) rfl) (pa_nil))) (pg_name (i := 3) sc_row_at.nd rfl (Or.inl rfl)) (pss_cons (ps_expr (pe_bm PySem.F.plainAttrs_list PySem.F.slot_list_insert PySem.F.type_list_insert m_insert (pv 2) (pa_cons (pe_int) (pa_cons (pe_op o_mod (pv 1) (pe_fld (pv 0) rfl)) (pa_nil)))))
      (pss_one (ps_set (i := 1) sc_row_at.nd rfl (Or.inl rfl) (pe_op o_div (pv 1) (pe_fld (pv 0) rfl))))))
      (pss_one (ps_ret (pv 2))))
/-! ### count_ones, level 1, slots ['number', 'ones'], cells [] -/
abbrev s_count_ones : Stmt := topS 15
theorem sc_count_ones : FnScope ["number", "ones"] ["number"] (defScope s_count_ones) := ⟨rfl, rfl, rfl, by decide +kernel, rfl, by decide +kernel, by decide +kernel⟩
def t_count_ones (K : PySem.W.Frag) : TS :=
  tSeq (tAsg (tC (.int 0)) (gName 1))
    (tSeq (tWhile (tTest (tOp rGt' (tVar 0) (tC (.int 0)))) (tSeq (tAug 1 (tOp rMod' (tVar 0) (tC (.int 2))) (ipI fun i j => i + j))
    (tAsg (tOp rDiv' (tVar 0) (tC (.int 2))) (gName 0))))
    (tRet (tVar 1)))
theorem d_count_ones (T : Txt K mg C CM aT aN aW) {f : Addr} {cdv : Value} {A : Around} {outer : List Env} {s : Shared} {H : Hp} {E : XK}
    (hr : Room 0 (A.deeper (envOfC "count_ones" (defScope s_count_ones) s.heap.objs.size f cdv))) :
    PSs (cxOf CX0 P w K mg base ["number", "ones"] "count_ones" (defScope s_count_ones) f cdv A outer s H E).nox (defBody s_count_ones) (t_count_ones K) :=
  by exact pss_cons (ps_set (i := 1) sc_count_ones.nd rfl (Or.inl rfl) (pe_int))
      (pss_cons (ps_while PassesOwn.never (pt_cmpR o_gt (pv 0) (pe_int) (nomark _)) (pss_cons (ps_aug (i := 1) sc_count_ones.nd rfl (Or.inl rfl) (pe_op o_mod (pv 0) (pe_int)) ip_add)
      (pss_one (ps_set (i := 0) sc_count_ones.nd rfl (Or.inl rfl) (pe_op o_div (pv 0) (pe_int))))))
      (pss_one (ps_ret (pv 1))))
/-! ### Measurement_init, level 1, slots ['self', 'sign', 'letters'], cells [] -/
abbrev s_Measurement_init : Stmt := inClass (topS 21) 0
theorem sc_Measurement_init : FnScope ["self", "sign", "letters"] ["self", "sign", "letters"] (defScope s_Measurement_init) := ⟨rfl, rfl, rfl, by decide +kernel, rfl, by decide +kernel, by decide +kernel⟩
def t_Measurement_init (K : PySem.W.Frag) : TS :=
  tSeq (sFld K (tVar 0) (tVar 1) "sign")
    (sFld K (tVar 0) (tVar 2) "letters")
theorem d_Measurement_init (T : Txt K mg C CM aT aN aW) {f : Addr} {cdv : Value} {A : Around} {outer : List Env} {s : Shared} {H : Hp} {E : XK}
    (hr : Room 0 (A.deeper (envOfC "Measurement.__init__" (defScope s_Measurement_init) s.heap.objs.size f cdv))) :
    PSs (cxOf CX0 P w K mg base ["self", "sign", "letters"] "Measurement.__init__" (defScope s_Measurement_init) f cdv A outer s H E).nox (defBody s_Measurement_init) (t_Measurement_init K) :=
  by exact pss_cons (ps_fld (pv 0) (pv 1) rfl)
      (pss_one (ps_fld (pv 0) (pv 2) rfl))
/-! ### are_letters, level 1, slots ['row', 'spins', 'letter'], cells [] -/
abbrev s_are_letters : Stmt := topS 22
theorem sc_are_letters : FnScope ["row", "spins", "letter"] ["row", "spins"] (defScope s_are_letters) := ⟨rfl, rfl, rfl, by decide +kernel, rfl, by decide +kernel, by decide +kernel⟩
def t_are_letters (K : PySem.W.Frag) : TS :=
  tSeq (tIfS (tTest (tOp rNe (tCB (rLen' K) (tCons (tVar 0) (tNil))) (tVar 1))) (tRet (tC (.bl false))) (tNext))
    (tRet (tCB (rAll K) (tCons (tLc (iList K (tVar 0)) (gName 2) (tYes) (tOp rLe' (tVar 2) (tC (.int 3))) [2]) (tNil))))
theorem d_are_letters (T : Txt K mg C CM aT aN aW) {f : Addr} {cdv : Value} {A : Around} {outer : List Env} {s : Shared} {H : Hp} {E : XK}
    (hr : Room 0 (A.deeper (envOfC "are_letters" (defScope s_are_letters) s.heap.objs.size f cdv))) :
    PSs (cxOf CX0 P w K mg base ["row", "spins", "letter"] "are_letters" (defScope s_are_letters) f cdv A outer s H E).nox (defBody s_are_letters) (t_are_letters K) :=
  by exact pss_cons (ps_if (pt_cmpR op_ne (pe_callB c_len rfl T.b_len (by decide +kernel) (pa_cons (pv 0) (pa_nil))) (pv 1) (nomark _)) (pss_one (ps_ret (pe_bl))) (pss_nil))
      (pss_one (ps_ret (pe_callB (cr_all rfl) rfl T.b_all (by decide +kernel) (pa_cons (pe_lc (own := [("letter", 2)]) rfl sc_are_letters.nd (pi_list (pv 0)) (blkOk_by (N := ["row", "spins", "letter"]) (sc := defScope s_are_letters) (by decide +kernel)) (fun _ _ _ _ _ => pg_name (i := 2) sc_are_letters.nd rfl (Or.inl rfl)) (fun _ _ _ _ _ => pts_nil) (fun _ _ _ _ _ => pe_cmpR o_le (pv 2) (pe_gi T.c_Z rfl) (nomark _))) (pa_nil)))))
/-! ### go_together, level 1, slots ['one', 'other', 'differing', 'first', 'second'], cells [] -/
abbrev s_go_together : Stmt := topS 24
theorem sc_go_together : FnScope ["one", "other", "differing", "first", "second"] ["one", "other"] (defScope s_go_together) := ⟨rfl, rfl, rfl, by decide +kernel, rfl, by decide +kernel, by decide +kernel⟩
def t_go_together (K : PySem.W.Frag) : TS :=
  tSeq (tAsg (tC (.int 0)) (gName 2))
    (tSeq (tFor (iZip K (tCons (tFld K (tVar 0) "letters") (tCons (tFld K (tVar 1) "letters") (tNil)))) (gTup K 2 (gCons (gName 3) (gCons (gName 4) (gNil)))) (tIfS (tAnd (tTest (tOp rNe (tVar 3) (tC (.int 0)))) (tAnd (tTest (tOp rNe (tVar 4) (tC (.int 0)))) (tTest (tOp rNe (tVar 3) (tVar 4))))) (tAug 2 (tC (.int 1)) (ipI fun i j => i + j)) (tNext)))
    (tRet (tOp rEq (tOp rMod' (tVar 2) (tC (.int 2))) (tC (.int 0)))))
theorem d_go_together (T : Txt K mg C CM aT aN aW) {f : Addr} {cdv : Value} {A : Around} {outer : List Env} {s : Shared} {H : Hp} {E : XK}
    (hr : Room 0 (A.deeper (envOfC "go_together" (defScope s_go_together) s.heap.objs.size f cdv))) :
    PSs (cxOf CX0 P w K mg base ["one", "other", "differing", "first", "second"] "go_together" (defScope s_go_together) f cdv A outer s H E).nox (defBody s_go_together) (t_go_together K) :=
  by exact pss_cons (ps_set (i := 2) sc_go_together.nd rfl (Or.inl rfl) (pe_int))
      (pss_cons (ps_for PassesOwn.never rfl (pi_zip (by rfl) T.b_zip (pa_cons (pe_fld (pv 0) rfl) (pa_cons (pe_fld (pv 1) rfl) (pa_nil)))) (pg_tup rfl (pgs_cons (pg_name (i := 3) sc_go_together.nd rfl (Or.inl rfl)) (pgs_cons (pg_name (i := 4) sc_go_together.nd rfl (Or.inl rfl)) (pgs_nil)))) (pss_one (ps_if (PW.pt (pw_and (pt_cmpR op_ne (pv 3) (pe_gi T.c_NO_LETTER rfl) (nomark _)) (pw_and (pt_cmpR op_ne (pv 4) (pe_gi T.c_NO_LETTER rfl) (nomark _)) (pw_and1 (pt_cmpR op_ne (pv 3) (pv 4) (nomark _)))))) (pss_one (ps_aug (i := 2) sc_go_together.nd rfl (Or.inl rfl) (pe_int) ip_add)) (pss_nil))))
      (pss_one (ps_ret (pe_cmpR op_eq (pe_op o_mod (pv 2) (pe_int)) (pe_int) (nomark _)))))
/-! ### is_plan, level 1, slots ['game', 'row', 'answer'], cells [] -/
abbrev s_is_plan : Stmt := topS 31
theorem sc_is_plan : FnScope ["game", "row", "answer"] ["game", "row"] (defScope s_is_plan) := ⟨rfl, rfl, rfl, by decide +kernel, rfl, by decide +kernel, by decide +kernel⟩
def t_is_plan (K : PySem.W.Frag) : TS :=
  tSeq (tIfS (tTest (tOp rNe (tCB (rLen' K) (tCons (tVar 1) (tNil))) (tOp rMul' (tFld K (tVar 0) "persons") (tFld K (tVar 0) "questions")))) (tRet (tC (.bl false))) (tNext))
    (tRet (tCB (rAll K) (tCons (tLc (iList K (tVar 1)) (gName 2) (tYes) (tOp rLe' (tVar 2) (tC (.int 1))) [2]) (tNil))))
theorem d_is_plan (T : Txt K mg C CM aT aN aW) {f : Addr} {cdv : Value} {A : Around} {outer : List Env} {s : Shared} {H : Hp} {E : XK}
    (hr : Room 0 (A.deeper (envOfC "is_plan" (defScope s_is_plan) s.heap.objs.size f cdv))) :
    PSs (cxOf CX0 P w K mg base ["game", "row", "answer"] "is_plan" (defScope s_is_plan) f cdv A outer s H E).nox (defBody s_is_plan) (t_is_plan K) :=
  by exact pss_cons (ps_if (pt_cmpR op_ne (pe_callB c_len rfl T.b_len (by decide +kernel) (pa_cons (pv 1) (pa_nil))) (pe_op o_mul (pe_fld (pv 0) rfl) (pe_fld (pv 0) rfl)) (nomark _)) (pss_one (ps_ret (pe_bl))) (pss_nil))
      (pss_one (ps_ret (pe_callB (cr_all rfl) rfl T.b_all (by decide +kernel) (pa_cons (pe_lc (own := [("answer", 2)]) rfl sc_is_plan.nd (pi_list (pv 1)) (blkOk_by (N := ["game", "row", "answer"]) (sc := defScope s_is_plan) (by decide +kernel)) (fun _ _ _ _ _ => pg_name (i := 2) sc_is_plan.nd rfl (Or.inl rfl)) (fun _ _ _ _ _ => pts_nil) (fun _ _ _ _ _ => pe_cmpR o_le (pv 2) (pe_int) (nomark _))) (pa_nil)))))
/-! ### count_plans, level 1, slots ['game'], cells [] -/
abbrev s_count_plans : Stmt := topS 32
theorem sc_count_plans : FnScope ["game"] ["game"] (defScope s_count_plans) := ⟨rfl, rfl, rfl, by decide +kernel, rfl, by decide +kernel, by decide +kernel⟩
def t_count_plans (K : PySem.W.Frag) : TS :=
  tRet (tOp rShl' (tC (.int 1)) (tOp rMul' (tFld K (tVar 0) "persons") (tFld K (tVar 0) "questions")))
theorem d_count_plans (T : Txt K mg C CM aT aN aW) {f : Addr} {cdv : Value} {A : Around} {outer : List Env} {s : Shared} {H : Hp} {E : XK}
    (hr : Room 0 (A.deeper (envOfC "count_plans" (defScope s_count_plans) s.heap.objs.size f cdv))) :
    PSs (cxOf CX0 P w K mg base ["game"] "count_plans" (defScope s_count_plans) f cdv A outer s H E).nox (defBody s_count_plans) (t_count_plans K) :=
  by exact pss_one (ps_ret (pe_op o_shl (pe_int) (pe_op o_mul (pe_fld (pv 0) rfl) (pe_fld (pv 0) rfl))))
/-! ### plan_at, level 1, slots ['game', 'place', 'length', 'k'], cells ['length', 'place'] -/
abbrev s_plan_at : Stmt := topS 33
theorem sc_plan_at : FnScope ["game", "place", "length", "k"] ["game", "place"] (defScope s_plan_at) := ⟨rfl, rfl, rfl, by decide +kernel, rfl, by decide +kernel, by decide +kernel⟩
def t_plan_at (K : PySem.W.Frag) : TS :=
  tSeq (tAsg (tOp rMul' (tFld K (tVar 0) "persons") (tFld K (tVar 0) "questions")) (gName 2))
    (tRet (tLc (iRng1 (tCons (tVar 2) (tNil))) (gName 3) (tYes) (tOp rAnd' (tOp rShr' (tVar 1) (tOp rSub' (tOp rSub' (tVar 2) (tC (.int 1))) (tVar 3))) (tC (.int 1))) [3]))
theorem d_plan_at (T : Txt K mg C CM aT aN aW) {f : Addr} {cdv : Value} {A : Around} {outer : List Env} {s : Shared} {H : Hp} {E : XK}
    (hr : Room 0 (A.deeper (envOfC "plan_at" (defScope s_plan_at) s.heap.objs.size f cdv))) :
    PSs (cxOf CX0 P w K mg base ["game", "place", "length", "k"] "plan_at" (defScope s_plan_at) f cdv A outer s H E).nox (defBody s_plan_at) (t_plan_at K) :=
  by exact pss_cons (ps_set (i := 2) sc_plan_at.nd rfl (Or.inr rfl) (pe_op o_mul (pe_fld (pv 0) rfl) (pe_fld (pv 0) rfl)))
      (pss_one (ps_ret (pe_lc (own := [("k", 3)]) rfl sc_plan_at.nd (pi_range1 rfl T.b_range (pa_cons (pv 2) (pa_nil))) (blkOk_by (N := ["game", "place", "length", "k"]) (sc := defScope s_plan_at) (by decide +kernel)) (fun _ _ _ _ _ => pg_name (i := 3) sc_plan_at.nd rfl (Or.inl rfl)) (fun _ _ _ _ _ => pts_nil) (fun _ _ _ _ _ => pe_op o_and (pe_op o_shr (pv 1) (pe_op o_sub (pe_op o_sub (pv 2) (pe_int)) (pv 3))) (pe_int)))))
/-! ### answered_by_one_more, level 1, slots ['numbers', 'own', 'person', 'longer', 'number', 'answer'], cells [] -/
abbrev s_answered_by_one_more : Stmt := topS 36
theorem sc_answered_by_one_more : FnScope ["numbers", "own", "person", "longer", "number", "answer"] ["numbers", "own", "person"] (defScope s_answered_by_one_more) := ⟨rfl, rfl, rfl, by decide +kernel, rfl, by decide +kernel, by decide +kernel⟩
def t_answered_by_one_more (K : PySem.W.Frag) : TS :=
  tSeq (tAsg (tLst (tNil)) (gName 3))
    (tSeq (tFor (iList K (tVar 0)) (gName 4) (tFor (iList K (tVar 1)) (gName 5) (tDrop (tBM K "list" rAppend (tVar 3) (tCons (tOp rAdd' (tVar 4) (tOp rShl' (tVar 5) (tVar 2))) (tNil))))))
    (tRet (tVar 3)))
theorem d_answered_by_one_more (T : Txt K mg C CM aT aN aW) {f : Addr} {cdv : Value} {A : Around} {outer : List Env} {s : Shared} {H : Hp} {E : XK}
    (hr : Room 0 (A.deeper (envOfC "answered_by_one_more" (defScope s_answered_by_one_more) s.heap.objs.size f cdv))) :
    PSs (cxOf CX0 P w K mg base ["numbers", "own", "person", "longer", "number", "answer"] "answered_by_one_more" (defScope s_answered_by_one_more) f cdv A outer s H E).nox (defBody s_answered_by_one_more) (t_answered_by_one_more K) :=
  by exact pss_cons (ps_set (i := 3) sc_answered_by_one_more.nd rfl (Or.inl rfl) (pe_lst (pa_nil)))
      (pss_cons (ps_for PassesOwn.never rfl (pi_list (pv 0)) (pg_name (i := 4) sc_answered_by_one_more.nd rfl (Or.inl rfl)) (pss_one (ps_for PassesOwn.never rfl (pi_list (pv 1)) (pg_name (i := 5) sc_answered_by_one_more.nd rfl (Or.inl rfl)) (pss_one (ps_expr (pe_bm PySem.F.plainAttrs_list PySem.F.slot_list_append PySem.F.type_list_append mt_append (pv 3) (pa_cons (pe_op o_add (pv 4) (pe_op o_shl (pv 5) (pv 2))) (pa_nil))))))))
      (pss_one (ps_ret (pv 3))))
/-! ### number_of_bits, level 1, slots ['bits', 'number', 'place', 'bit'], cells [] -/
abbrev s_number_of_bits : Stmt := topS 56
theorem sc_number_of_bits : FnScope ["bits", "number", "place", "bit"] ["bits"] (defScope s_number_of_bits) := ⟨rfl, rfl, rfl, by decide +kernel, rfl, by decide +kernel, by decide +kernel⟩
def t_number_of_bits (K : PySem.W.Frag) : TS :=
  tSeq (tAsg (tC (.int 0)) (gName 1))
    (tSeq (tFor (iEnum K (tCons (tVar 0) (tNil))) (gTup K 2 (gCons (gName 2) (gCons (gName 3) (gNil)))) (tAug 1 (tOp rShl' (tVar 3) (tVar 2)) (ipI fun i j => i + j)))
    (tRet (tVar 1)))
theorem d_number_of_bits (T : Txt K mg C CM aT aN aW) {f : Addr} {cdv : Value} {A : Around} {outer : List Env} {s : Shared} {H : Hp} {E : XK}
    (hr : Room 0 (A.deeper (envOfC "number_of_bits" (defScope s_number_of_bits) s.heap.objs.size f cdv))) :
    PSs (cxOf CX0 P w K mg base ["bits", "number", "place", "bit"] "number_of_bits" (defScope s_number_of_bits) f cdv A outer s H E).nox (defBody s_number_of_bits) (t_number_of_bits K) :=
  by exact pss_cons (ps_set (i := 1) sc_number_of_bits.nd rfl (Or.inl rfl) (pe_int))
      (pss_cons (ps_for PassesOwn.never rfl (pi_enum (by rfl) T.b_enumerate (pa_cons (pv 0) (pa_nil))) (pg_tup rfl (pgs_cons (pg_name (i := 2) sc_number_of_bits.nd rfl (Or.inl rfl)) (pgs_cons (pg_name (i := 3) sc_number_of_bits.nd rfl (Or.inl rfl)) (pgs_nil)))) (pss_one (ps_aug (i := 1) sc_number_of_bits.nd rfl (Or.inl rfl) (pe_op o_shl (pv 3) (pv 2)) ip_add)))
      (pss_one (ps_ret (pv 1))))
/-! ### sum_that_is_sure, level 1, slots ['signs', 'product', 'letters'], cells [] -/
abbrev s_sum_that_is_sure : Stmt := topS 58
theorem sc_sum_that_is_sure : FnScope ["signs", "product", "letters"] ["signs", "product"] (defScope s_sum_that_is_sure) := ⟨rfl, rfl, rfl, by decide +kernel, rfl, by decide +kernel, by decide +kernel⟩
def t_sum_that_is_sure (K : PySem.W.Frag) : TS :=
  tSeq (tAsg (tCB (rTuple' K) (tCons (tFld K (tVar 1) "letters") (tNil))) (gName 2))
    (tSeq (tIfS (tB (tDNotIn (tVar 2) (tVar 0))) (tRet (tC (.int 0))) (tNext))
    (tRet (tOp rAdd' (tC (.int 1)) (tOp rMod' (tOp rAdd' (tDGet (tVar 0) (tVar 2)) (tFld K (tVar 1) "sign")) (tC (.int 2))))))
theorem d_sum_that_is_sure (T : Txt K mg C CM aT aN aW) {f : Addr} {cdv : Value} {A : Around} {outer : List Env} {s : Shared} {H : Hp} {E : XK}
    (hr : Room 0 (A.deeper (envOfC "sum_that_is_sure" (defScope s_sum_that_is_sure) s.heap.objs.size f cdv))) :
    PSs (cxOf CX0 P w K mg base ["signs", "product", "letters"] "sum_that_is_sure" (defScope s_sum_that_is_sure) f cdv A outer s H E).nox (defBody s_sum_that_is_sure) (t_sum_that_is_sure K) :=
  by exact pss_cons (ps_set (i := 2) sc_sum_that_is_sure.nd rfl (Or.inl rfl) (pe_callTy c_tuple rfl T.b_tuple (by decide +kernel) (pa_cons (pe_fld (pv 1) rfl) (pa_nil))))
      (pss_cons (ps_if (pt_cmp (pc_dnotin (hu_of hr) (pv 2) (pv 0))) (pss_one (ps_ret (pe_gi T.c_NOTHING_SURE rfl))) (pss_nil))
      (pss_one (ps_ret (pe_op o_add (pe_gi T.c_SURELY_EVEN rfl) (pe_op o_mod (pe_op o_add (pe_dget (hu_of hr) (pv 0) (pv 2) (fun _ _ => rfl)) (pe_fld (pv 1) rfl)) (pe_int))))))
/-! ### are_owners, level 1, slots ['game', 'row', 'person'], cells ['game'] -/
abbrev s_are_owners : Stmt := topS 64
theorem sc_are_owners : FnScope ["game", "row", "person"] ["game", "row"] (defScope s_are_owners) := ⟨rfl, rfl, rfl, by decide +kernel, rfl, by decide +kernel, by decide +kernel⟩
def t_are_owners (K : PySem.W.Frag) : TS :=
  tSeq (tIfS (tTest (tOp rGt' (tCB (rLen' K) (tCons (tVar 1) (tNil))) (tC (.int 6)))) (tRet (tC (.bl false))) (tNext))
    (tRet (tCB (rAll K) (tCons (tLc (iList K (tVar 1)) (gName 2) (tYes) (tOp rLt' (tVar 2) (tFld K (tVar 0) "persons")) [2]) (tNil))))
theorem d_are_owners (T : Txt K mg C CM aT aN aW) {f : Addr} {cdv : Value} {A : Around} {outer : List Env} {s : Shared} {H : Hp} {E : XK}
    (hr : Room 0 (A.deeper (envOfC "are_owners" (defScope s_are_owners) s.heap.objs.size f cdv))) :
    PSs (cxOf CX0 P w K mg base ["game", "row", "person"] "are_owners" (defScope s_are_owners) f cdv A outer s H E).nox (defBody s_are_owners) (t_are_owners K) :=
  by exact pss_cons (ps_if (pt_cmpR o_gt (pe_callB c_len rfl T.b_len (by decide +kernel) (pa_cons (pv 1) (pa_nil))) (pe_gi T.c_MOST_SPINS rfl) (nomark _)) (pss_one (ps_ret (pe_bl))) (pss_nil))
      (pss_one (ps_ret (pe_callB (cr_all rfl) rfl T.b_all (by decide +kernel) (pa_cons (pe_lc (own := [("person", 2)]) rfl sc_are_owners.nd (pi_list (pv 1)) (blkOk_by (N := ["game", "row", "person"]) (sc := defScope s_are_owners) (by decide +kernel)) (fun _ _ _ _ _ => pg_name (i := 2) sc_are_owners.nd rfl (Or.inl rfl)) (fun _ _ _ _ _ => pts_nil) (fun _ _ _ _ _ => pe_cmpR o_lt (pv 2) (pe_fld (pv 0) rfl) (nomark _))) (pa_nil)))))
/-! ### Game_init, level 1, slots ['self'], cells [] -/
abbrev s_Game_init : Stmt := inClass (topS 68) 0
theorem sc_Game_init : FnScope ["self"] ["self"] (defScope s_Game_init) := ⟨rfl, rfl, rfl, by decide +kernel, rfl, by decide +kernel, by decide +kernel⟩
def t_Game_init (K : PySem.W.Frag) : TS :=
  tSeq (sFld K (tVar 0) (tC (.bl false)) "begun")
    (tSeq (sFld K (tVar 0) (tC (.int 0)) "persons")
    (tSeq (sFld K (tVar 0) (tC (.int 0)) "questions")
    (tSeq (sFld K (tVar 0) (tLst (tNil)) "weights")
    (tSeq (sFld K (tVar 0) (tLst (tNil)) "winning")
    (tSeq (sFld K (tVar 0) (tLst (tNil)) "owners")
    (tSeq (sFld K (tVar 0) (tLst (tNil)) "links")
    (tSeq (sFld K (tVar 0) (tLst (tNil)) "sure")
    (tSeq (sFld K (tVar 0) (tC (.bl false)) "measured")
    (sFld K (tVar 0) (tLst (tNil)) "own")))))))))
theorem d_Game_init (T : Txt K mg C CM aT aN aW) {f : Addr} {cdv : Value} {A : Around} {outer : List Env} {s : Shared} {H : Hp} {E : XK}
    (hr : Room 0 (A.deeper (envOfC "Game.__init__" (defScope s_Game_init) s.heap.objs.size f cdv))) :
    PSs (cxOf CX0 P w K mg base ["self"] "Game.__init__" (defScope s_Game_init) f cdv A outer s H E).nox (defBody s_Game_init) (t_Game_init K) :=
  by exact pss_cons (ps_fld (pv 0) (pe_bl) rfl)
      (pss_cons (ps_fld (pv 0) (pe_int) rfl)
      (pss_cons (ps_fld (pv 0) (pe_int) rfl)
      (pss_cons (ps_fld (pv 0) (pe_lst (pa_nil)) rfl)
      (pss_cons (ps_fld (pv 0) (pe_lst (pa_nil)) rfl)
      (pss_cons (ps_fld (pv 0) (pe_lst (pa_nil)) rfl)
      (pss_cons (ps_fld (pv 0) (pe_lst (pa_nil)) rfl)
      (pss_cons (ps_fld (pv 0) (pe_lst (pa_nil)) rfl)
      (pss_cons (ps_fld (pv 0) (pe_bl) rfl)
      (pss_one (ps_fld (pv 0) (pe_lst (pa_nil)) rfl))))))))))
/-! ### show_state, level 1, slots ['game', 'measured'], cells [] -/
abbrev s_show_state : Stmt := topS 70
theorem sc_show_state : FnScope ["game", "measured"] ["game"] (defScope s_show_state) := ⟨rfl, rfl, rfl, by decide +kernel, rfl, by decide +kernel, by decide +kernel⟩
def t_show_state (K : PySem.W.Frag) : TS :=
  tSeq (tAsg (tIf (tB (tFld K (tVar 0) "measured")) (tC (.int 1)) (tC (.int 0))) (gName 1))
    (tRet (tOp rCat (tLst (tCons (tFld K (tVar 0) "persons") (tCons (tFld K (tVar 0) "questions") (tCons (tCB (rLen' K) (tCons (tFld K (tVar 0) "owners") (tNil))) (tCons (tCB (rLen' K) (tCons (tFld K (tVar 0) "links") (tNil))) (tCons (tVar 1) (tNil))))))) (tFld K (tVar 0) "owners")))
theorem d_show_state (T : Txt K mg C CM aT aN aW) {f : Addr} {cdv : Value} {A : Around} {outer : List Env} {s : Shared} {H : Hp} {E : XK}
    (hr : Room 0 (A.deeper (envOfC "show_state" (defScope s_show_state) s.heap.objs.size f cdv))) :
    PSs (cxOf CX0 P w K mg base ["game", "measured"] "show_state" (defScope s_show_state) f cdv A outer s H E).nox (defBody s_show_state) (t_show_state K) :=
  by exact pss_cons (ps_set (i := 1) sc_show_state.nd rfl (Or.inl rfl) (pe_ifExp (pt_val (pe_fld (pv 0) rfl)) (pe_int) (pe_int)))
      (pss_one (ps_ret (pe_op op_cat (pe_lst (pa_cons (pe_fld (pv 0) rfl) (pa_cons (pe_fld (pv 0) rfl) (pa_cons (pe_callB c_len rfl T.b_len (by decide +kernel) (pa_cons (pe_fld (pv 0) rfl) (pa_nil))) (pa_cons (pe_callB c_len rfl T.b_len (by decide +kernel) (pa_cons (pe_fld (pv 0) rfl) (pa_nil))) (pa_cons (pv 1) (pa_nil))))))) (pe_fld (pv 0) rfl))))
/-! ### may_begin, level 1, slots ['persons', 'questions'], cells [] -/
abbrev s_may_begin : Stmt := topS 71
theorem sc_may_begin : FnScope ["persons", "questions"] ["persons", "questions"] (defScope s_may_begin) := ⟨rfl, rfl, rfl, by decide +kernel, rfl, by decide +kernel, by decide +kernel⟩
def t_may_begin (K : PySem.W.Frag) : TS :=
  tSeq (tIfS (tOr (tTest (tOp rLt' (tVar 0) (tC (.int 2)))) (tTest (tOp rGt' (tVar 0) (tC (.int 4))))) (tRet (tC (.bl false))) (tNext))
    (tSeq (tIfS (tOr (tTest (tOp rLt' (tVar 1) (tC (.int 1)))) (tTest (tOp rGt' (tVar 1) (tC (.int 3))))) (tRet (tC (.bl false))) (tNext))
    (tRet (tOp rLe' (tOp rMul' (tVar 0) (tVar 1)) (tC (.int 8)))))
theorem d_may_begin (T : Txt K mg C CM aT aN aW) {f : Addr} {cdv : Value} {A : Around} {outer : List Env} {s : Shared} {H : Hp} {E : XK}
    (hr : Room 0 (A.deeper (envOfC "may_begin" (defScope s_may_begin) s.heap.objs.size f cdv))) :
    PSs (cxOf CX0 P w K mg base ["persons", "questions"] "may_begin" (defScope s_may_begin) f cdv A outer s H E).nox (defBody s_may_begin) (t_may_begin K) :=
  by exact pss_cons (ps_if (PW.pt (pw_or (pt_cmpR o_lt (pv 0) (pe_int) (nomark _)) (pw_or1 (pt_cmpR o_gt (pv 0) (pe_int) (nomark _))))) (pss_one (ps_ret (pe_bl))) (pss_nil))
      (pss_cons (ps_if (PW.pt (pw_or (pt_cmpR o_lt (pv 1) (pe_int) (nomark _)) (pw_or1 (pt_cmpR o_gt (pv 1) (pe_int) (nomark _))))) (pss_one (ps_ret (pe_bl))) (pss_nil))
      (pss_one (ps_ret (pe_cmpR o_le (pe_op o_mul (pv 0) (pv 1)) (pe_int) (nomark _)))))
/-! ### count_rows, level 1, slots ['persons', 'questions', 'rows', 'person'], cells [] -/
abbrev s_count_rows : Stmt := topS 72
theorem sc_count_rows : FnScope ["persons", "questions", "rows", "person"] ["persons", "questions"] (defScope s_count_rows) := ⟨rfl, rfl, rfl, by decide +kernel, rfl, by decide +kernel, by decide +kernel⟩
def t_count_rows (K : PySem.W.Frag) : TS :=
  tSeq (tAsg (tC (.int 1)) (gName 2))
    (tSeq (tFor (iRng1 (tCons (tVar 0) (tNil))) (gName 3) (tAsg (tOp rMul' (tVar 2) (tVar 1)) (gName 2)))
    (tRet (tVar 2)))
theorem d_count_rows (T : Txt K mg C CM aT aN aW) {f : Addr} {cdv : Value} {A : Around} {outer : List Env} {s : Shared} {H : Hp} {E : XK}
    (hr : Room 0 (A.deeper (envOfC "count_rows" (defScope s_count_rows) s.heap.objs.size f cdv))) :
    PSs (cxOf CX0 P w K mg base ["persons", "questions", "rows", "person"] "count_rows" (defScope s_count_rows) f cdv A outer s H E).nox (defBody s_count_rows) (t_count_rows K) :=
  by exact pss_cons (ps_set (i := 2) sc_count_rows.nd rfl (Or.inl rfl) (pe_int))
      (pss_cons (ps_for PassesOwn.never rfl (pi_range1 rfl T.b_range (pa_cons (pv 0) (pa_nil))) (pg_name (i := 3) sc_count_rows.nd rfl (Or.inl rfl)) (pss_one (ps_set (i := 2) sc_count_rows.nd rfl (Or.inl rfl) (pe_op o_mul (pv 2) (pv 1)))))
      (pss_one (ps_ret (pv 2))))
/-! ### end_of_call, level 1, slots ['calls', 'start', 'kind', 'end'], cells [] -/
abbrev s_end_of_call : Stmt := topS 94
theorem sc_end_of_call : FnScope ["calls", "start", "kind", "end"] ["calls", "start"] (defScope s_end_of_call) := ⟨rfl, rfl, rfl, by decide +kernel, rfl, by decide +kernel, by decide +kernel⟩
def t_end_of_call (K : PySem.W.Frag) (aN : Addr) (aW : Addr) : TS :=
  tSeq (tAsg (tOp (rIxL K) (tVar 0) (tVar 1)) (gName 2))
    (tSeq (tAsg (tOp rAdd' (tOp rAdd' (tVar 1) (tC (.int 1))) (tOp (rIxT K) (tC (.ref aN)) (tVar 2))) (gName 3))
    (tSeq (tIfS (tTest (tOp (rIn K false) (tVar 2) (tC (.ref aW)))) (tAsg (tOp rAdd' (tOp rAdd' (tVar 3) (tC (.int 1))) (tOp (rIxL K) (tVar 0) (tVar 3))) (gName 3)) (tNext))
    (tRet (tVar 3))))
theorem d_end_of_call (T : Txt K mg C CM aT aN aW) {f : Addr} {cdv : Value} {A : Around} {outer : List Env} {s : Shared} {H : Hp} {E : XK}
    (hr : Room 0 (A.deeper (envOfC "end_of_call" (defScope s_end_of_call) s.heap.objs.size f cdv))) :
    PSs (cxOf CX0 P w K mg base ["calls", "start", "kind", "end"] "end_of_call" (defScope s_end_of_call) f cdv A outer s H E).nox (defBody s_end_of_call) (t_end_of_call K aN aW) :=
  by exact pss_cons (ps_set (i := 2) sc_end_of_call.nd rfl (Or.inl rfl) (pe_ix ix_list (pv 0) (pv 1) (fun _ _ => rfl)))
      (pss_cons (ps_set (i := 3) sc_end_of_call.nd rfl (Or.inl rfl) (pe_op o_add (pe_op o_add (pv 1) (pe_int)) (pe_ix ix_tup (pe_gr T.c_NUMBERS rfl) (pv 2) (fun _ _ => rfl))))
      (pss_cons (ps_if (pt_cmpR op_in_seq (pv 2) (pe_gr T.c_WITH_ROW rfl) (by rfl)) (pss_one (ps_set (i := 3) sc_end_of_call.nd rfl (Or.inl rfl) (pe_op o_add (pe_op o_add (pv 3) (pe_int)) (pe_ix ix_list (pv 0) (pv 3) (fun _ _ => rfl))))) (pss_nil))
      (pss_one (ps_ret (pv 3)))))
/-! ### let_win, level 2, slots ['game', 'which', 'row', 'place', 'earlier'], cells [] -/
abbrev s_let_win : Stmt := topS 7
theorem sc_let_win : FnScope ["game", "which", "row", "place", "earlier"] ["game", "which", "row"] (defScope s_let_win) := ⟨rfl, rfl, rfl, by decide +kernel, rfl, by decide +kernel, by decide +kernel⟩
def t_let_win (K : PySem.W.Frag) (sp_place_of_row sp_is_asked : Sp) : TS :=
  tSeq (tIfS (tOr (tNot (tB (tCall sp_is_asked [] E0 (tCons (tVar 0) (tCons (tVar 2) (tNil)))))) (tTest (tOp rGe' (tVar 1) (tOp rShl' (tC (.int 1)) (tOp rShl' (tC (.int 1)) (tFld K (tVar 0) "persons")))))) (tRet (tLst (tCons (tC (.int (-22))) (tNil)))) (tNext))
    (tSeq (tAsg (tCall sp_place_of_row [] E0 (tCons (tVar 0) (tCons (tVar 2) (tNil)))) (gName 3))
    (tSeq (tAsg (tOp (rIxL K) (tFld K (tVar 0) "winning") (tVar 3)) (gName 4))
    (tSeq (tAsg (tVar 1) (gSub (tFld K (tVar 0) "winning") (tVar 3) rSetL))
    (tRet (tLst (tCons (tVar 4) (tNil)))))))
theorem d_let_win {sp_place_of_row : Sp} {sp_is_asked : Sp}
    (c_place_of_row : Cal P w K mg base "place_of_row" 1 ["game", "row"] sp_place_of_row)
    (c_is_asked : Cal P w K mg base "is_asked" 1 ["game", "row"] sp_is_asked) (T : Txt K mg C CM aT aN aW) {f : Addr} {cdv : Value} {A : Around} {outer : List Env} {s : Shared} {H : Hp} {E : XK}
    (hr : Room 1 (A.deeper (envOfC "let_win" (defScope s_let_win) s.heap.objs.size f cdv))) :
    PSs (cxOf CX0 P w K mg base ["game", "which", "row", "place", "earlier"] "let_win" (defScope s_let_win) f cdv A outer s H E).nox (defBody s_let_win) (t_let_win K sp_place_of_row sp_is_asked) :=
  by exact pss_cons (ps_if (PW.pt (pw_or (pt_not (pt_val (pe_cal c_is_asked (hr.mono (by decide : 1 ≤ 1)) rfl (pa_cons (pv 0) (pa_cons (pv 2) (pa_nil)))))) (pw_or1 (pt_cmpR o_ge (pv 1) (pe_op o_shl (pe_int) (pe_op o_shl (pe_int) (pe_fld (pv 0) rfl))) (nomark _))))) (pss_one (ps_ret (pe_lst (pa_cons (pe_gi T.c_NOT_AS_TOLD rfl) (pa_nil))))) (pss_nil))
      (pss_cons (ps_set (i := 3) sc_let_win.nd rfl (Or.inl rfl) (pe_cal c_place_of_row (hr.mono (by decide : 1 ≤ 1)) rfl (pa_cons (pv 0) (pa_cons (pv 2) (pa_nil)))))
      (pss_cons (ps_set (i := 4) sc_let_win.nd rfl (Or.inl rfl) (pe_ix ix_list (pe_fld (pv 0) rfl) (pv 3) (fun _ _ => rfl)))
      (pss_cons (ps_asg (pv 1) (pg_sub (pe_fld (pv 0) rfl) (pv 3) set_list))
      (pss_one (ps_ret (pe_lst (pa_cons (pv 4) (pa_nil))))))))
/-! ### let_count, level 2, slots ['game', 'much', 'row', 'place', 'earlier'], cells [] -/
abbrev s_let_count : Stmt := topS 9
theorem sc_let_count : FnScope ["game", "much", "row", "place", "earlier"] ["game", "much", "row"] (defScope s_let_count) := ⟨rfl, rfl, rfl, by decide +kernel, rfl, by decide +kernel, by decide +kernel⟩
def t_let_count (K : PySem.W.Frag) (sp_place_of_row sp_is_asked : Sp) : TS :=
  tSeq (tIfS (tOr (tNot (tB (tCall sp_is_asked [] E0 (tCons (tVar 0) (tCons (tVar 2) (tNil)))))) (tTest (tOp rGt' (tVar 1) (tC (.int 99))))) (tRet (tLst (tCons (tC (.int (-22))) (tNil)))) (tNext))
    (tSeq (tAsg (tCall sp_place_of_row [] E0 (tCons (tVar 0) (tCons (tVar 2) (tNil)))) (gName 3))
    (tSeq (tAsg (tOp (rIxL K) (tFld K (tVar 0) "weights") (tVar 3)) (gName 4))
    (tSeq (tAsg (tVar 1) (gSub (tFld K (tVar 0) "weights") (tVar 3) rSetL))
    (tRet (tLst (tCons (tVar 4) (tNil)))))))
theorem d_let_count {sp_place_of_row : Sp} {sp_is_asked : Sp}
    (c_place_of_row : Cal P w K mg base "place_of_row" 1 ["game", "row"] sp_place_of_row)
    (c_is_asked : Cal P w K mg base "is_asked" 1 ["game", "row"] sp_is_asked) (T : Txt K mg C CM aT aN aW) {f : Addr} {cdv : Value} {A : Around} {outer : List Env} {s : Shared} {H : Hp} {E : XK}
    (hr : Room 1 (A.deeper (envOfC "let_count" (defScope s_let_count) s.heap.objs.size f cdv))) :
    PSs (cxOf CX0 P w K mg base ["game", "much", "row", "place", "earlier"] "let_count" (defScope s_let_count) f cdv A outer s H E).nox (defBody s_let_count) (t_let_count K sp_place_of_row sp_is_asked) :=
  by exact pss_cons (ps_if (PW.pt (pw_or (pt_not (pt_val (pe_cal c_is_asked (hr.mono (by decide : 1 ≤ 1)) rfl (pa_cons (pv 0) (pa_cons (pv 2) (pa_nil)))))) (pw_or1 (pt_cmpR o_gt (pv 1) (pe_gi T.c_MOST_WEIGHT rfl) (nomark _))))) (pss_one (ps_ret (pe_lst (pa_cons (pe_gi T.c_NOT_AS_TOLD rfl) (pa_nil))))) (pss_nil))
      (pss_cons (ps_set (i := 3) sc_let_count.nd rfl (Or.inl rfl) (pe_cal c_place_of_row (hr.mono (by decide : 1 ≤ 1)) rfl (pa_cons (pv 0) (pa_cons (pv 2) (pa_nil)))))
      (pss_cons (ps_set (i := 4) sc_let_count.nd rfl (Or.inl rfl) (pe_ix ix_list (pe_fld (pv 0) rfl) (pv 3) (fun _ _ => rfl)))
      (pss_cons (ps_asg (pv 1) (pg_sub (pe_fld (pv 0) rfl) (pv 3) set_list))
      (pss_one (ps_ret (pe_lst (pa_cons (pv 4) (pa_nil))))))))
/-! ### show_row, level 2, slots ['game', 'row', 'place'], cells [] -/
abbrev s_show_row : Stmt := topS 10
theorem sc_show_row : FnScope ["game", "row", "place"] ["game", "row"] (defScope s_show_row) := ⟨rfl, rfl, rfl, by decide +kernel, rfl, by decide +kernel, by decide +kernel⟩
def t_show_row (K : PySem.W.Frag) (sp_place_of_row sp_is_asked : Sp) : TS :=
  tSeq (tIfS (tNot (tB (tCall sp_is_asked [] E0 (tCons (tVar 0) (tCons (tVar 1) (tNil)))))) (tRet (tLst (tCons (tC (.int (-22))) (tNil)))) (tNext))
    (tSeq (tAsg (tCall sp_place_of_row [] E0 (tCons (tVar 0) (tCons (tVar 1) (tNil)))) (gName 2))
    (tRet (tLst (tCons (tOp (rIxL K) (tFld K (tVar 0) "weights") (tVar 2)) (tCons (tOp (rIxL K) (tFld K (tVar 0) "winning") (tVar 2)) (tNil))))))
theorem d_show_row {sp_place_of_row : Sp} {sp_is_asked : Sp}
    (c_place_of_row : Cal P w K mg base "place_of_row" 1 ["game", "row"] sp_place_of_row)
    (c_is_asked : Cal P w K mg base "is_asked" 1 ["game", "row"] sp_is_asked) (T : Txt K mg C CM aT aN aW) {f : Addr} {cdv : Value} {A : Around} {outer : List Env} {s : Shared} {H : Hp} {E : XK}
    (hr : Room 1 (A.deeper (envOfC "show_row" (defScope s_show_row) s.heap.objs.size f cdv))) :
    PSs (cxOf CX0 P w K mg base ["game", "row", "place"] "show_row" (defScope s_show_row) f cdv A outer s H E).nox (defBody s_show_row) (t_show_row K sp_place_of_row sp_is_asked) :=
  by exact pss_cons (ps_if (pt_not (pt_val (pe_cal c_is_asked (hr.mono (by decide : 1 ≤ 1)) rfl (pa_cons (pv 0) (pa_cons (pv 1) (pa_nil)))))) (pss_one (ps_ret (pe_lst (pa_cons (pe_gi T.c_NOT_AS_TOLD rfl) (pa_nil))))) (pss_nil))
      (pss_cons (ps_set (i := 2) sc_show_row.nd rfl (Or.inl rfl) (pe_cal c_place_of_row (hr.mono (by decide : 1 ≤ 1)) rfl (pa_cons (pv 0) (pa_cons (pv 1) (pa_nil)))))
      (pss_one (ps_ret (pe_lst (pa_cons (pe_ix ix_list (pe_fld (pv 0) rfl) (pv 2) (fun _ _ => rfl)) (pa_cons (pe_ix ix_list (pe_fld (pv 0) rfl) (pv 2) (fun _ _ => rfl)) (pa_nil)))))))
/-! ### rows_with_parity, level 2, slots ['persons', 'parity', 'which', 'number'], cells [] -/
abbrev s_rows_with_parity : Stmt := topS 14
theorem sc_rows_with_parity : FnScope ["persons", "parity", "which", "number"] ["persons", "parity"] (defScope s_rows_with_parity) := ⟨rfl, rfl, rfl, by decide +kernel, rfl, by decide +kernel, by decide +kernel⟩
def t_rows_with_parity (K : PySem.W.Frag) (sp_count_ones : Sp) : TS :=
  tSeq (tAsg (tC (.int 0)) (gName 2))
    (tSeq (tFor (iRng1 (tCons (tOp rShl' (tC (.int 1)) (tVar 0)) (tNil))) (gName 3) (tIfS (tTest (tOp rEq (tOp rMod' (tCall sp_count_ones [] E0 (tCons (tVar 3) (tNil))) (tC (.int 2))) (tVar 1))) (tAsg (tOp rOr' (tVar 2) (tOp rShl' (tC (.int 1)) (tVar 3))) (gName 2)) (tNext)))
    (tRet (tVar 2)))
theorem d_rows_with_parity {sp_count_ones : Sp}
    (c_count_ones : Cal P w K mg base "count_ones" 1 ["number"] sp_count_ones) (T : Txt K mg C CM aT aN aW) {f : Addr} {cdv : Value} {A : Around} {outer : List Env} {s : Shared} {H : Hp} {E : XK}
    (hr : Room 1 (A.deeper (envOfC "rows_with_parity" (defScope s_rows_with_parity) s.heap.objs.size f cdv))) :
    PSs (cxOf CX0 P w K mg base ["persons", "parity", "which", "number"] "rows_with_parity" (defScope s_rows_with_parity) f cdv A outer s H E).nox (defBody s_rows_with_parity) (t_rows_with_parity K sp_count_ones) :=
  by exact pss_cons (ps_set (i := 2) sc_rows_with_parity.nd rfl (Or.inl rfl) (pe_int))
      (pss_cons (ps_for PassesOwn.never rfl (pi_range1 rfl T.b_range (pa_cons (pe_op o_shl (pe_int) (pv 0)) (pa_nil))) (pg_name (i := 3) sc_rows_with_parity.nd rfl (Or.inl rfl)) (pss_one (ps_if (pt_cmpR op_eq (pe_op o_mod (pe_cal c_count_ones (hr.mono (by decide : 1 ≤ 1)) rfl (pa_cons (pv 3) (pa_nil))) (pe_int)) (pv 1) (nomark _)) (pss_one (ps_set (i := 2) sc_rows_with_parity.nd rfl (Or.inl rfl) (pe_op o_or (pv 2) (pe_op o_shl (pe_int) (pv 3))))) (pss_nil))))
      (pss_one (ps_ret (pv 2))))
/-! ### answered_by_plan, level 2, slots ['game', 'row', 'numbers', 'person', 'start', 'own'], cells [] -/
abbrev s_answered_by_plan : Stmt := topS 35
theorem sc_answered_by_plan : FnScope ["game", "row", "numbers", "person", "start", "own"] ["game", "row"] (defScope s_answered_by_plan) := ⟨rfl, rfl, rfl, by decide +kernel, rfl, by decide +kernel, by decide +kernel⟩
def t_answered_by_plan (K : PySem.W.Frag) (sp_answered_by_one_more : Sp) : TS :=
  tSeq (tAsg (tLst (tCons (tC (.int 0)) (tNil))) (gName 2))
    (tSeq (tFor (iRng1 (tCons (tFld K (tVar 0) "persons") (tNil))) (gName 3) (tSeq (tAsg (tOp rMul' (tVar 3) (tFld K (tVar 0) "questions")) (gName 4))
    (tSeq (tAsg (tSl (rSlL K) (tVar 1) (tPart (tVar 4)) (tPart (tOp rAdd' (tVar 4) (tFld K (tVar 0) "questions")))) (gName 5))
    (tAsg (tCall sp_answered_by_one_more [] E0 (tCons (tVar 2) (tCons (tVar 5) (tCons (tVar 3) (tNil))))) (gName 2)))))
    (tRet (tVar 2)))
theorem d_answered_by_plan {sp_answered_by_one_more : Sp}
    (c_answered_by_one_more : Cal P w K mg base "answered_by_one_more" 1 ["numbers", "own", "person"] sp_answered_by_one_more) (T : Txt K mg C CM aT aN aW) {f : Addr} {cdv : Value} {A : Around} {outer : List Env} {s : Shared} {H : Hp} {E : XK}
    (hr : Room 1 (A.deeper (envOfC "answered_by_plan" (defScope s_answered_by_plan) s.heap.objs.size f cdv))) :
    PSs (cxOf CX0 P w K mg base ["game", "row", "numbers", "person", "start", "own"] "answered_by_plan" (defScope s_answered_by_plan) f cdv A outer s H E).nox (defBody s_answered_by_plan) (t_answered_by_plan K sp_answered_by_one_more) :=
  by exact pss_cons (ps_set (i := 2) sc_answered_by_plan.nd rfl (Or.inl rfl) (pe_lst (pa_cons (pe_int) (pa_nil))))
      (pss_cons (ps_for PassesOwn.never rfl (pi_range1 rfl T.b_range (pa_cons (pe_fld (pv 0) rfl) (pa_nil))) (pg_name (i := 3) sc_answered_by_plan.nd rfl (Or.inl rfl)) (pss_cons (ps_set (i := 4) sc_answered_by_plan.nd rfl (Or.inl rfl) (pe_op o_mul (pv 3) (pe_fld (pv 0) rfl)))
      (pss_cons (ps_set (i := 5) sc_answered_by_plan.nd rfl (Or.inl rfl) (pe_slice sl_list (pv 1) (po_some (pv 4)) (po_some (pe_op o_add (pv 4) (pe_fld (pv 0) rfl)))))
      (pss_one (ps_set (i := 2) sc_answered_by_plan.nd rfl (Or.inl rfl) (pe_cal c_answered_by_one_more (hr.mono (by decide : 1 ≤ 1)) rfl (pa_cons (pv 2) (pa_cons (pv 5) (pa_cons (pv 3) (pa_nil))))))))))
      (pss_one (ps_ret (pv 2))))
/-! ### are_own_letters, level 2, slots ['game', 'person', 'letters', 'letter', 'owner'], cells ['person'] -/
abbrev s_are_own_letters : Stmt := topS 51
theorem sc_are_own_letters : FnScope ["game", "person", "letters", "letter", "owner"] ["game", "person", "letters"] (defScope s_are_own_letters) := ⟨rfl, rfl, rfl, by decide +kernel, rfl, by decide +kernel, by decide +kernel⟩
def t_are_own_letters (K : PySem.W.Frag) (sp_are_letters : Sp) : TS :=
  tSeq (tIfS (tNot (tB (tCall sp_are_letters [] E0 (tCons (tVar 2) (tCons (tCB (rLen' K) (tCons (tFld K (tVar 0) "owners") (tNil))) (tNil)))))) (tRet (tC (.bl false))) (tNext))
    (tRet (tCB (rAll K) (tCons (tLc (iZip K (tCons (tVar 2) (tCons (tFld K (tVar 0) "owners") (tNil)))) (gTup K 2 (gCons (gName 3) (gCons (gName 4) (gNil)))) (tYes) (tOrV (tOp rEq (tVar 3) (tC (.int 0))) (tOp rEq (tVar 4) (tVar 1))) [3, 4]) (tNil))))
theorem d_are_own_letters {sp_are_letters : Sp}
    (c_are_letters : Cal P w K mg base "are_letters" 1 ["row", "spins"] sp_are_letters) (T : Txt K mg C CM aT aN aW) {f : Addr} {cdv : Value} {A : Around} {outer : List Env} {s : Shared} {H : Hp} {E : XK}
    (hr : Room 1 (A.deeper (envOfC "are_own_letters" (defScope s_are_own_letters) s.heap.objs.size f cdv))) :
    PSs (cxOf CX0 P w K mg base ["game", "person", "letters", "letter", "owner"] "are_own_letters" (defScope s_are_own_letters) f cdv A outer s H E).nox (defBody s_are_own_letters) (t_are_own_letters K sp_are_letters) :=
  by exact pss_cons (ps_if (pt_not (pt_val (pe_cal c_are_letters (hr.mono (by decide : 1 ≤ 1)) rfl (pa_cons (pv 2) (pa_cons (pe_callB c_len rfl T.b_len (by decide +kernel) (pa_cons (pe_fld (pv 0) rfl) (pa_nil))) (pa_nil)))))) (pss_one (ps_ret (pe_bl))) (pss_nil))
      (pss_one (ps_ret (pe_callB (cr_all rfl) rfl T.b_all (by decide +kernel) (pa_cons (pe_lc (own := [("letter", 3), ("owner", 4)]) rfl sc_are_own_letters.nd (pi_zip (by rfl) T.b_zip (pa_cons (pv 2) (pa_cons (pe_fld (pv 0) rfl) (pa_nil)))) (blkOk_by (N := ["game", "person", "letters", "letter", "owner"]) (sc := defScope s_are_own_letters) (by decide +kernel)) (fun _ _ _ _ _ => pg_tup rfl (pgs_cons (pg_name (i := 3) sc_are_own_letters.nd rfl (Or.inl rfl)) (pgs_cons (pg_name (i := 4) sc_are_own_letters.nd rfl (Or.inl rfl)) (pgs_nil)))) (fun _ _ _ _ _ => pts_nil) (fun _ _ _ _ _ => pe_or (pe_cmpR op_eq (pv 3) (pe_gi T.c_NO_LETTER rfl) (nomark _)) (pe_one (pe_cmpR op_eq (pv 4) (pv 1) (nomark _))))) (pa_nil)))))
/-! ### are_row_and_bits, level 2, slots ['game', 'both', 'bit'], cells [] -/
abbrev s_are_row_and_bits : Stmt := topS 55
theorem sc_are_row_and_bits : FnScope ["game", "both", "bit"] ["game", "both"] (defScope s_are_row_and_bits) := ⟨rfl, rfl, rfl, by decide +kernel, rfl, by decide +kernel, by decide +kernel⟩
def t_are_row_and_bits (K : PySem.W.Frag) (sp_is_asked : Sp) : TS :=
  tSeq (tIfS (tTest (tOp rNe (tCB (rLen' K) (tCons (tVar 1) (tNil))) (tOp rMul' (tC (.int 2)) (tFld K (tVar 0) "persons")))) (tRet (tC (.bl false))) (tNext))
    (tRet (tAndV (tCall sp_is_asked [] E0 (tCons (tVar 0) (tCons (tSl (rSlL K) (tVar 1) (tNoPart) (tPart (tFld K (tVar 0) "persons"))) (tNil)))) (tCB (rAll K) (tCons (tLc (iList K (tSl (rSlL K) (tVar 1) (tPart (tFld K (tVar 0) "persons")) (tNoPart))) (gName 2) (tYes) (tOp rLe' (tVar 2) (tC (.int 1))) [2]) (tNil)))))
theorem d_are_row_and_bits {sp_is_asked : Sp}
    (c_is_asked : Cal P w K mg base "is_asked" 1 ["game", "row"] sp_is_asked) (T : Txt K mg C CM aT aN aW) {f : Addr} {cdv : Value} {A : Around} {outer : List Env} {s : Shared} {H : Hp} {E : XK}
    (hr : Room 1 (A.deeper (envOfC "are_row_and_bits" (defScope s_are_row_and_bits) s.heap.objs.size f cdv))) :
    PSs (cxOf CX0 P w K mg base ["game", "both", "bit"] "are_row_and_bits" (defScope s_are_row_and_bits) f cdv A outer s H E).nox (defBody s_are_row_and_bits) (t_are_row_and_bits K sp_is_asked) :=
  by exact pss_cons (ps_if (pt_cmpR op_ne (pe_callB c_len rfl T.b_len (by decide +kernel) (pa_cons (pv 1) (pa_nil))) (pe_op o_mul (pe_int) (pe_fld (pv 0) rfl)) (nomark _)) (pss_one (ps_ret (pe_bl))) (pss_nil))
      (pss_one (ps_ret (pe_and (pe_cal c_is_asked (hr.mono (by decide : 1 ≤ 1)) rfl (pa_cons (pv 0) (pa_cons (pe_slice sl_list (pv 1) (po_none) (po_some (pe_fld (pv 0) rfl))) (pa_nil)))) (pe_one (pe_callB (cr_all rfl) rfl T.b_all (by decide +kernel) (pa_cons (pe_lc (own := [("bit", 2)]) rfl sc_are_row_and_bits.nd (pi_list (pe_slice sl_list (pv 1) (po_some (pe_fld (pv 0) rfl)) (po_none))) (blkOk_by (N := ["game", "both", "bit"]) (sc := defScope s_are_row_and_bits) (by decide +kernel)) (fun _ _ _ _ _ => pg_name (i := 2) sc_are_row_and_bits.nd rfl (Or.inl rfl)) (fun _ _ _ _ _ => pts_nil) (fun _ _ _ _ _ => pe_cmpR o_le (pv 2) (pe_int) (nomark _))) (pa_nil)))))))
/-! ### chance_of_number, level 2, slots ['sums', 'number', 'chance', 'some', 'known', 'agrees'], cells [] -/
abbrev s_chance_of_number : Stmt := topS 59
theorem sc_chance_of_number : FnScope ["sums", "number", "chance", "some", "known", "agrees"] ["sums", "number"] (defScope s_chance_of_number) := ⟨rfl, rfl, rfl, by decide +kernel, rfl, by decide +kernel, by decide +kernel⟩
def t_chance_of_number (K : PySem.W.Frag) (sp_count_ones : Sp) : TS :=
  tSeq (tAsg (tC (.int 0)) (gName 2))
    (tSeq (tFor (iEnum K (tCons (tVar 0) (tNil))) (gTup K 2 (gCons (gName 3) (gCons (gName 4) (gNil)))) (tIfS (tTest (tOp rNe (tVar 4) (tC (.int 0)))) (tSeq (tAsg (tOp rEq (tVar 4) (tOp rAdd' (tC (.int 1)) (tOp rMod' (tCall sp_count_ones [] E0 (tCons (tOp rAnd' (tVar 3) (tVar 1)) (tNil))) (tC (.int 2))))) (gName 5))
    (tAug 2 (tIf (tB (tVar 5)) (tC (.int 1)) (tUn (rU fun i => .int (-i)) (tC (.int 1)))) (ipI fun i j => i + j))) (tNext)))
    (tRet (tVar 2)))
theorem d_chance_of_number {sp_count_ones : Sp}
    (c_count_ones : Cal P w K mg base "count_ones" 1 ["number"] sp_count_ones) (T : Txt K mg C CM aT aN aW) {f : Addr} {cdv : Value} {A : Around} {outer : List Env} {s : Shared} {H : Hp} {E : XK}
    (hr : Room 1 (A.deeper (envOfC "chance_of_number" (defScope s_chance_of_number) s.heap.objs.size f cdv))) :
    PSs (cxOf CX0 P w K mg base ["sums", "number", "chance", "some", "known", "agrees"] "chance_of_number" (defScope s_chance_of_number) f cdv A outer s H E).nox (defBody s_chance_of_number) (t_chance_of_number K sp_count_ones) :=
  by exact pss_cons (ps_set (i := 2) sc_chance_of_number.nd rfl (Or.inl rfl) (pe_int))
      (pss_cons (ps_for PassesOwn.never rfl (pi_enum (by rfl) T.b_enumerate (pa_cons (pv 0) (pa_nil))) (pg_tup rfl (pgs_cons (pg_name (i := 3) sc_chance_of_number.nd rfl (Or.inl rfl)) (pgs_cons (pg_name (i := 4) sc_chance_of_number.nd rfl (Or.inl rfl)) (pgs_nil)))) (pss_one (ps_if (pt_cmpR op_ne (pv 4) (pe_gi T.c_NOTHING_SURE rfl) (nomark _)) (pss_cons (ps_set (i := 5) sc_chance_of_number.nd rfl (Or.inl rfl) (pe_cmpR op_eq (pv 4) (pe_op o_add (pe_gi T.c_SURELY_EVEN rfl) (pe_op o_mod (pe_cal c_count_ones (hr.mono (by decide : 1 ≤ 1)) rfl (pa_cons (pe_op o_and (pv 3) (pv 1)) (pa_nil))) (pe_int))) (nomark _)))
      (pss_one (ps_aug (i := 2) sc_chance_of_number.nd rfl (Or.inl rfl) (pe_ifExp (pt_val (pv 5)) (pe_int) (pe_un un_neg (pe_int))) ip_add))) (pss_nil))))
      (pss_one (ps_ret (pv 2))))
/-! ### let_sum_win, level 3, slots ['game', 'parity', 'row', 'which'], cells [] -/
abbrev s_let_sum_win : Stmt := topS 8
theorem sc_let_sum_win : FnScope ["game", "parity", "row", "which"] ["game", "parity", "row"] (defScope s_let_sum_win) := ⟨rfl, rfl, rfl, by decide +kernel, rfl, by decide +kernel, by decide +kernel⟩
def t_let_sum_win (K : PySem.W.Frag) (sp_rows_with_parity sp_place_of_row sp_is_asked : Sp) : TS :=
  tSeq (tIfS (tOr (tNot (tB (tCall sp_is_asked [] E0 (tCons (tVar 0) (tCons (tVar 2) (tNil)))))) (tTest (tOp rGt' (tVar 1) (tC (.int 1))))) (tRet (tLst (tCons (tC (.int (-22))) (tNil)))) (tNext))
    (tSeq (tAsg (tCall sp_rows_with_parity [] E0 (tCons (tFld K (tVar 0) "persons") (tCons (tVar 1) (tNil)))) (gName 3))
    (tSeq (tAsg (tVar 3) (gSub (tFld K (tVar 0) "winning") (tCall sp_place_of_row [] E0 (tCons (tVar 0) (tCons (tVar 2) (tNil)))) rSetL))
    (tRet (tLst (tCons (tVar 3) (tNil))))))
theorem d_let_sum_win {sp_rows_with_parity : Sp} {sp_place_of_row : Sp} {sp_is_asked : Sp}
    (c_rows_with_parity : Cal P w K mg base "rows_with_parity" 2 ["persons", "parity"] sp_rows_with_parity)
    (c_place_of_row : Cal P w K mg base "place_of_row" 1 ["game", "row"] sp_place_of_row)
    (c_is_asked : Cal P w K mg base "is_asked" 1 ["game", "row"] sp_is_asked) (T : Txt K mg C CM aT aN aW) {f : Addr} {cdv : Value} {A : Around} {outer : List Env} {s : Shared} {H : Hp} {E : XK}
    (hr : Room 2 (A.deeper (envOfC "let_sum_win" (defScope s_let_sum_win) s.heap.objs.size f cdv))) :
    PSs (cxOf CX0 P w K mg base ["game", "parity", "row", "which"] "let_sum_win" (defScope s_let_sum_win) f cdv A outer s H E).nox (defBody s_let_sum_win) (t_let_sum_win K sp_rows_with_parity sp_place_of_row sp_is_asked) :=
  by exact pss_cons (ps_if (PW.pt (pw_or (pt_not (pt_val (pe_cal c_is_asked (hr.mono (by decide : 1 ≤ 2)) rfl (pa_cons (pv 0) (pa_cons (pv 2) (pa_nil)))))) (pw_or1 (pt_cmpR o_gt (pv 1) (pe_int) (nomark _))))) (pss_one (ps_ret (pe_lst (pa_cons (pe_gi T.c_NOT_AS_TOLD rfl) (pa_nil))))) (pss_nil))
      (pss_cons (ps_set (i := 3) sc_let_sum_win.nd rfl (Or.inl rfl) (pe_cal c_rows_with_parity (hr.mono (by decide : 2 ≤ 2)) rfl (pa_cons (pe_fld (pv 0) rfl) (pa_cons (pv 1) (pa_nil)))))
      (pss_cons (ps_asg (pv 3) (pg_sub (pe_fld (pv 0) rfl) (pe_cal c_place_of_row (hr.mono (by decide : 1 ≤ 2)) rfl (pa_cons (pv 0) (pa_cons (pv 2) (pa_nil)))) set_list))
      (pss_one (ps_ret (pe_lst (pa_cons (pv 3) (pa_nil)))))))
/-! ### without_letters, level 3, slots ['spins'], cells [] -/
abbrev s_without_letters : Stmt := topS 23
theorem sc_without_letters : FnScope ["spins"] ["spins"] (defScope s_without_letters) := ⟨rfl, rfl, rfl, by decide +kernel, rfl, by decide +kernel, by decide +kernel⟩
def t_without_letters (K : PySem.W.Frag) (CM : Addr) (sp_Measurement : Sp) : TS :=
  tRet (tMake CM sp_Measurement [] E0 (tCons (tC (.int 0)) (tCons (tOp rRep (tLst (tCons (tC (.int 0)) (tNil))) (tVar 0)) (tNil))))
theorem d_without_letters {sp_Measurement : Sp}
    (c_Measurement : MkC P w K mg base "Measurement" CM 1 ["self", "sign", "letters"] sp_Measurement) (T : Txt K mg C CM aT aN aW) {f : Addr} {cdv : Value} {A : Around} {outer : List Env} {s : Shared} {H : Hp} {E : XK}
    (hr : Room 2 (A.deeper (envOfC "without_letters" (defScope s_without_letters) s.heap.objs.size f cdv))) :
    PSs (cxOf CX0 P w K mg base ["spins"] "without_letters" (defScope s_without_letters) f cdv A outer s H E).nox (defBody s_without_letters) (t_without_letters K CM sp_Measurement) :=
  by exact pss_one (ps_ret (pe_mkc c_Measurement (hr.mono (by decide : 2 ≤ 2)) rfl (pa_cons (pe_int) (pa_cons (pe_op op_rep (pe_lst (pa_cons (pe_gi T.c_NO_LETTER rfl) (pa_nil))) (pv 0)) (pa_nil)))))
/-! ### product_of, level 3, slots ['one', 'other', 'letters', 'turns', 'first', 'second', 'half'], cells [] -/
abbrev s_product_of : Stmt := topS 25
theorem sc_product_of : FnScope ["one", "other", "letters", "turns", "first", "second", "half"] ["one", "other"] (defScope s_product_of) := ⟨rfl, rfl, rfl, by decide +kernel, rfl, by decide +kernel, by decide +kernel⟩
def t_product_of (K : PySem.W.Frag) (CM : Addr) (aT : Addr) (sp_Measurement : Sp) : TS :=
  tSeq (tAsg (tLst (tNil)) (gName 2))
    (tSeq (tAsg (tC (.int 0)) (gName 3))
    (tSeq (tFor (iZip K (tCons (tFld K (tVar 0) "letters") (tCons (tFld K (tVar 1) "letters") (tNil)))) (gTup K 2 (gCons (gName 4) (gCons (gName 5) (gNil)))) (tSeq (tDrop (tBM K "list" rAppend (tVar 2) (tCons (tOp rXor' (tVar 4) (tVar 5)) (tNil))))
    (tAug 3 (tOp (rIxT K) (tOp (rIxT K) (tC (.ref aT)) (tVar 4)) (tVar 5)) (ipI fun i j => i + j))))
    (tSeq (tAsg (tOp rDiv' (tOp rMod' (tVar 3) (tC (.int 4))) (tC (.int 2))) (gName 6))
    (tRet (tMake CM sp_Measurement [] E0 (tCons (tOp rMod' (tOp rAdd' (tOp rAdd' (tFld K (tVar 0) "sign") (tFld K (tVar 1) "sign")) (tVar 6)) (tC (.int 2))) (tCons (tVar 2) (tNil))))))))
theorem d_product_of {sp_Measurement : Sp}
    (c_Measurement : MkC P w K mg base "Measurement" CM 1 ["self", "sign", "letters"] sp_Measurement) (T : Txt K mg C CM aT aN aW) {f : Addr} {cdv : Value} {A : Around} {outer : List Env} {s : Shared} {H : Hp} {E : XK}
    (hr : Room 2 (A.deeper (envOfC "product_of" (defScope s_product_of) s.heap.objs.size f cdv))) :
    PSs (cxOf CX0 P w K mg base ["one", "other", "letters", "turns", "first", "second", "half"] "product_of" (defScope s_product_of) f cdv A outer s H E).nox (defBody s_product_of) (t_product_of K CM aT sp_Measurement) :=
  by exact pss_cons (ps_set (i := 2) sc_product_of.nd rfl (Or.inl rfl) (pe_lst (pa_nil)))
      (pss_cons (ps_set (i := 3) sc_product_of.nd rfl (Or.inl rfl) (pe_int))
      (pss_cons (ps_for PassesOwn.never rfl (pi_zip (by rfl) T.b_zip (pa_cons (pe_fld (pv 0) rfl) (pa_cons (pe_fld (pv 1) rfl) (pa_nil)))) (pg_tup rfl (pgs_cons (pg_name (i := 4) sc_product_of.nd rfl (Or.inl rfl)) (pgs_cons (pg_name (i := 5) sc_product_of.nd rfl (Or.inl rfl)) (pgs_nil)))) (pss_cons (ps_expr (pe_bm PySem.F.plainAttrs_list PySem.F.slot_list_append PySem.F.type_list_append mt_append (pv 2) (pa_cons (pe_op o_xor (pv 4) (pv 5)) (pa_nil))))
      (pss_one (ps_aug (i := 3) sc_product_of.nd rfl (Or.inl rfl) (pe_ix ix_tup (pe_ix ix_tup (pe_gr T.c_TURNS rfl) (pv 4) (fun _ _ => rfl)) (pv 5) (fun _ _ => rfl)) ip_add))))
      (pss_cons (ps_set (i := 6) sc_product_of.nd rfl (Or.inl rfl) (pe_op o_div (pe_op o_mod (pv 3) (pe_int)) (pe_int)))
      (pss_one (ps_ret (pe_mkc c_Measurement (hr.mono (by decide : 2 ≤ 2)) rfl (pa_cons (pe_op o_mod (pe_op o_add (pe_op o_add (pe_fld (pv 0) rfl) (pe_fld (pv 1) rfl)) (pv 6)) (pe_int)) (pa_cons (pv 2) (pa_nil)))))))))
/-! ### worth_of_plan, level 3, slots ['game', 'row', 'total', 'place', 'number'], cells [] -/
abbrev s_worth_of_plan : Stmt := topS 34
theorem sc_worth_of_plan : FnScope ["game", "row", "total", "place", "number"] ["game", "row"] (defScope s_worth_of_plan) := ⟨rfl, rfl, rfl, by decide +kernel, rfl, by decide +kernel, by decide +kernel⟩
def t_worth_of_plan (K : PySem.W.Frag) (sp_answered_by_plan : Sp) : TS :=
  tSeq (tAsg (tC (.int 0)) (gName 2))
    (tSeq (tFor (iEnum K (tCons (tCall sp_answered_by_plan [] E0 (tCons (tVar 0) (tCons (tVar 1) (tNil)))) (tNil))) (gTup K 2 (gCons (gName 3) (gCons (gName 4) (gNil)))) (tIfS (tTest (tOp rEq (tOp rAnd' (tOp rShr' (tOp (rIxL K) (tFld K (tVar 0) "winning") (tVar 3)) (tVar 4)) (tC (.int 1))) (tC (.int 1)))) (tAug 2 (tOp (rIxL K) (tFld K (tVar 0) "weights") (tVar 3)) (ipI fun i j => i + j)) (tNext)))
    (tRet (tVar 2)))
theorem d_worth_of_plan {sp_answered_by_plan : Sp}
    (c_answered_by_plan : Cal P w K mg base "answered_by_plan" 2 ["game", "row"] sp_answered_by_plan) (T : Txt K mg C CM aT aN aW) {f : Addr} {cdv : Value} {A : Around} {outer : List Env} {s : Shared} {H : Hp} {E : XK}
    (hr : Room 2 (A.deeper (envOfC "worth_of_plan" (defScope s_worth_of_plan) s.heap.objs.size f cdv))) :
    PSs (cxOf CX0 P w K mg base ["game", "row", "total", "place", "number"] "worth_of_plan" (defScope s_worth_of_plan) f cdv A outer s H E).nox (defBody s_worth_of_plan) (t_worth_of_plan K sp_answered_by_plan) :=
  by exact pss_cons (ps_set (i := 2) sc_worth_of_plan.nd rfl (Or.inl rfl) (pe_int))
      (pss_cons (ps_for PassesOwn.never rfl (pi_enum (by rfl) T.b_enumerate (pa_cons (pe_cal c_answered_by_plan (hr.mono (by decide : 2 ≤ 2)) rfl (pa_cons (pv 0) (pa_cons (pv 1) (pa_nil)))) (pa_nil))) (pg_tup rfl (pgs_cons (pg_name (i := 3) sc_worth_of_plan.nd rfl (Or.inl rfl)) (pgs_cons (pg_name (i := 4) sc_worth_of_plan.nd rfl (Or.inl rfl)) (pgs_nil)))) (pss_one (ps_if (pt_cmpR op_eq (pe_op o_and (pe_op o_shr (pe_ix ix_list (pe_fld (pv 0) rfl) (pv 3) (fun _ _ => rfl)) (pv 4)) (pe_int)) (pe_int) (nomark _)) (pss_one (ps_aug (i := 2) sc_worth_of_plan.nd rfl (Or.inl rfl) (pe_ix ix_list (pe_fld (pv 0) rfl) (pv 3) (fun _ _ => rfl)) ip_add)) (pss_nil))))
      (pss_one (ps_ret (pv 2))))
/-! ### sure_at_first, level 3, slots ['game', 'spin', 'letters', 'other'], cells [] -/
abbrev s_sure_at_first : Stmt := topS 44
theorem sc_sure_at_first : FnScope ["game", "spin", "letters", "other"] ["game", "spin"] (defScope s_sure_at_first) := ⟨rfl, rfl, rfl, by decide +kernel, rfl, by decide +kernel, by decide +kernel⟩
def t_sure_at_first (K : PySem.W.Frag) (CM : Addr) (sp_Measurement : Sp) : TS :=
  tSeq (tAsg (tOp rRep (tLst (tCons (tC (.int 0)) (tNil))) (tCB (rLen' K) (tCons (tFld K (tVar 0) "owners") (tNil)))) (gName 2))
    (tSeq (tAsg (tC (.int 1)) (gSub (tVar 2) (tVar 1) rSetL))
    (tSeq (tFor (iRng1 (tCons (tCB (rLen' K) (tCons (tFld K (tVar 0) "owners") (tNil))) (tNil))) (gName 3) (tIfS (tTest (tOp (rInD K) (tTup (tCons (tCB rMin' (tCons (tVar 1) (tCons (tVar 3) (tNil)))) (tCons (tCB rMax' (tCons (tVar 1) (tCons (tVar 3) (tNil)))) (tNil)))) (tFld K (tVar 0) "links"))) (tAsg (tC (.int 3)) (gSub (tVar 2) (tVar 3) rSetL)) (tNext)))
    (tRet (tMake CM sp_Measurement [] E0 (tCons (tC (.int 0)) (tCons (tVar 2) (tNil)))))))
theorem d_sure_at_first {sp_Measurement : Sp}
    (c_Measurement : MkC P w K mg base "Measurement" CM 1 ["self", "sign", "letters"] sp_Measurement) (T : Txt K mg C CM aT aN aW) {f : Addr} {cdv : Value} {A : Around} {outer : List Env} {s : Shared} {H : Hp} {E : XK}
    (hr : Room 2 (A.deeper (envOfC "sure_at_first" (defScope s_sure_at_first) s.heap.objs.size f cdv))) :
    PSs (cxOf CX0 P w K mg base ["game", "spin", "letters", "other"] "sure_at_first" (defScope s_sure_at_first) f cdv A outer s H E).nox (defBody s_sure_at_first) (t_sure_at_first K CM sp_Measurement) :=
  by exact pss_cons (ps_set (i := 2) sc_sure_at_first.nd rfl (Or.inl rfl) (pe_op op_rep (pe_lst (pa_cons (pe_gi T.c_NO_LETTER rfl) (pa_nil))) (pe_callB c_len rfl T.b_len (by decide +kernel) (pa_cons (pe_fld (pv 0) rfl) (pa_nil)))))
      (pss_cons (ps_asg (pe_gi T.c_X rfl) (pg_sub (pv 2) (pv 1) set_list))
      (pss_cons (ps_for PassesOwn.never rfl (pi_range1 rfl T.b_range (pa_cons (pe_callB c_len rfl T.b_len (by decide +kernel) (pa_cons (pe_fld (pv 0) rfl) (pa_nil))) (pa_nil))) (pg_name (i := 3) sc_sure_at_first.nd rfl (Or.inl rfl)) (pss_one (ps_if (pt_cmpR (op_inD (hu65 hr)) (pe_tup (pa_cons (pe_callB (c_min rfl) rfl T.b_min (by decide +kernel) (pa_cons (pv 1) (pa_cons (pv 3) (pa_nil)))) (pa_cons (pe_callB (c_max rfl) rfl T.b_max (by decide +kernel) (pa_cons (pv 1) (pa_cons (pv 3) (pa_nil)))) (pa_nil)))) (pe_fld (pv 0) rfl) (by rfl)) (pss_one (ps_asg (pe_gi T.c_Z rfl) (pg_sub (pv 2) (pv 3) set_list))) (pss_nil))))
      (pss_one (ps_ret (pe_mkc c_Measurement (hr.mono (by decide : 2 ≤ 2)) rfl (pa_cons (pe_int) (pa_cons (pv 2) (pa_nil))))))))
/-! ### set_own, level 3, slots ['game', 'person', 'question', 'sign', 'letters'], cells [] -/
abbrev s_set_own : Stmt := topS 50
theorem sc_set_own : FnScope ["game", "person", "question", "sign", "letters"] ["game", "person", "question", "sign", "letters"] (defScope s_set_own) := ⟨rfl, rfl, rfl, by decide +kernel, rfl, by decide +kernel, by decide +kernel⟩
def t_set_own (K : PySem.W.Frag) (CM : Addr) (sp_Measurement sp_are_own_letters : Sp) : TS :=
  tSeq (tIfS (tOr (tTest (tOp rGe' (tVar 1) (tFld K (tVar 0) "persons"))) (tTest (tOp rGe' (tVar 2) (tFld K (tVar 0) "questions")))) (tRet (tLst (tCons (tC (.int (-2))) (tNil)))) (tNext))
    (tSeq (tIfS (tOr (tTest (tOp rGt' (tVar 3) (tC (.int 1)))) (tNot (tB (tCall sp_are_own_letters [] E0 (tCons (tVar 0) (tCons (tVar 1) (tCons (tVar 4) (tNil)))))))) (tRet (tLst (tCons (tC (.int (-22))) (tNil)))) (tNext))
    (tSeq (tAsg (tMake CM sp_Measurement [] E0 (tCons (tVar 3) (tCons (tVar 4) (tNil)))) (gSub (tFld K (tVar 0) "own") (tOp rAdd' (tOp rMul' (tVar 1) (tFld K (tVar 0) "questions")) (tVar 2)) rSetL))
    (tRet (tLst (tCons (tC (.int 0)) (tNil))))))
theorem d_set_own {sp_Measurement : Sp} {sp_are_own_letters : Sp}
    (c_Measurement : MkC P w K mg base "Measurement" CM 1 ["self", "sign", "letters"] sp_Measurement)
    (c_are_own_letters : Cal P w K mg base "are_own_letters" 2 ["game", "person", "letters"] sp_are_own_letters) (T : Txt K mg C CM aT aN aW) {f : Addr} {cdv : Value} {A : Around} {outer : List Env} {s : Shared} {H : Hp} {E : XK}
    (hr : Room 2 (A.deeper (envOfC "set_own" (defScope s_set_own) s.heap.objs.size f cdv))) :
    PSs (cxOf CX0 P w K mg base ["game", "person", "question", "sign", "letters"] "set_own" (defScope s_set_own) f cdv A outer s H E).nox (defBody s_set_own) (t_set_own K CM sp_Measurement sp_are_own_letters) :=
  by exact pss_cons (ps_if (PW.pt (pw_or (pt_cmpR o_ge (pv 1) (pe_fld (pv 0) rfl) (nomark _)) (pw_or1 (pt_cmpR o_ge (pv 2) (pe_fld (pv 0) rfl) (nomark _))))) (pss_one (ps_ret (pe_lst (pa_cons (pe_gi T.c_NONE_SUCH rfl) (pa_nil))))) (pss_nil))
      (pss_cons (ps_if (PW.pt (pw_or (pt_cmpR o_gt (pv 3) (pe_int) (nomark _)) (pw_or1 (pt_not (pt_val (pe_cal c_are_own_letters (hr.mono (by decide : 2 ≤ 2)) rfl (pa_cons (pv 0) (pa_cons (pv 1) (pa_cons (pv 4) (pa_nil)))))))))) (pss_one (ps_ret (pe_lst (pa_cons (pe_gi T.c_NOT_AS_TOLD rfl) (pa_nil))))) (pss_nil))
      (pss_cons (ps_asg (pe_mkc c_Measurement (hr.mono (by decide : 2 ≤ 2)) rfl (pa_cons (pv 3) (pa_cons (pv 4) (pa_nil)))) (pg_sub (pe_fld (pv 0) rfl) (pe_op o_add (pe_op o_mul (pv 1) (pe_fld (pv 0) rfl)) (pv 2)) set_list))
      (pss_one (ps_ret (pe_lst (pa_cons (pe_int) (pa_nil)))))))
/-! ### chance_to_win, level 3, slots ['sums', 'winning', 'number'], cells ['sums', 'winning'] -/
abbrev s_chance_to_win : Stmt := topS 60
theorem sc_chance_to_win : FnScope ["sums", "winning", "number"] ["sums", "winning"] (defScope s_chance_to_win) := ⟨rfl, rfl, rfl, by decide +kernel, rfl, by decide +kernel, by decide +kernel⟩
def t_chance_to_win (K : PySem.W.Frag) (sp_chance_of_number : Sp) : TS :=
  tRet (tCB (rSum K) (tCons (tLc (iRng1 (tCons (tCB (rLen' K) (tCons (tVar 0) (tNil))) (tNil))) (gName 2) (tTest (tOp rEq (tOp rAnd' (tOp rShr' (tVar 1) (tVar 2)) (tC (.int 1))) (tC (.int 1)))) (tCall sp_chance_of_number [] E0 (tCons (tVar 0) (tCons (tVar 2) (tNil)))) [2]) (tNil)))
theorem d_chance_to_win {sp_chance_of_number : Sp}
    (c_chance_of_number : Cal P w K mg base "chance_of_number" 2 ["sums", "number"] sp_chance_of_number) (T : Txt K mg C CM aT aN aW) {f : Addr} {cdv : Value} {A : Around} {outer : List Env} {s : Shared} {H : Hp} {E : XK}
    (hr : Room 2 (A.deeper (envOfC "chance_to_win" (defScope s_chance_to_win) s.heap.objs.size f cdv))) :
    PSs (cxOf CX0 P w K mg base ["sums", "winning", "number"] "chance_to_win" (defScope s_chance_to_win) f cdv A outer s H E).nox (defBody s_chance_to_win) (t_chance_to_win K sp_chance_of_number) :=
  by exact pss_one (ps_ret (pe_callB (cr_sum rfl) rfl T.b_sum (by decide +kernel) (pa_cons (pe_lc (own := [("number", 2)]) rfl sc_chance_to_win.nd (pi_range1 rfl T.b_range (pa_cons (pe_callB c_len rfl T.b_len (by decide +kernel) (pa_cons (pv 0) (pa_nil))) (pa_nil))) (blkOk_by (N := ["sums", "winning", "number"]) (sc := defScope s_chance_to_win) (by decide +kernel)) (fun _ _ _ _ _ => pg_name (i := 2) sc_chance_to_win.nd rfl (Or.inl rfl)) (fun _ _ _ _ _ => pts_one (pt_cmpR op_eq (pe_op o_and (pe_op o_shr (pv 1) (pv 2)) (pe_int)) (pe_int) (nomark _))) (fun _ _ _ _ _ => pe_cal c_chance_of_number (hr.mono (by decide : 2 ≤ 2)) rfl (pa_cons (pv 0) (pa_cons (pv 2) (pa_nil))))) (pa_nil))))
/-! ### products_of_some, level 4, slots ['measurements', 'spins', 'products', 'measurement', 'earlier'], cells ['measurement'] -/
abbrev s_products_of_some : Stmt := topS 26
theorem sc_products_of_some : FnScope ["measurements", "spins", "products", "measurement", "earlier"] ["measurements", "spins"] (defScope s_products_of_some) := ⟨rfl, rfl, rfl, by decide +kernel, rfl, by decide +kernel, by decide +kernel⟩
def t_products_of_some (K : PySem.W.Frag) (sp_without_letters sp_product_of : Sp) : TS :=
  tSeq (tAsg (tLst (tCons (tCall sp_without_letters [] E0 (tCons (tVar 1) (tNil))) (tNil))) (gName 2))
    (tSeq (tFor (iList K (tVar 0)) (gName 3) (tAsg (tOp rCat (tVar 2) (tLc (iList K (tVar 2)) (gName 4) (tYes) (tCall sp_product_of [] E0 (tCons (tVar 4) (tCons (tVar 3) (tNil)))) [4])) (gName 2)))
    (tRet (tVar 2)))
theorem d_products_of_some {sp_without_letters : Sp} {sp_product_of : Sp}
    (c_without_letters : Cal P w K mg base "without_letters" 3 ["spins"] sp_without_letters)
    (c_product_of : Cal P w K mg base "product_of" 3 ["one", "other"] sp_product_of) (T : Txt K mg C CM aT aN aW) {f : Addr} {cdv : Value} {A : Around} {outer : List Env} {s : Shared} {H : Hp} {E : XK}
    (hr : Room 3 (A.deeper (envOfC "products_of_some" (defScope s_products_of_some) s.heap.objs.size f cdv))) :
    PSs (cxOf CX0 P w K mg base ["measurements", "spins", "products", "measurement", "earlier"] "products_of_some" (defScope s_products_of_some) f cdv A outer s H E).nox (defBody s_products_of_some) (t_products_of_some K sp_without_letters sp_product_of) :=
  by exact pss_cons (ps_set (i := 2) sc_products_of_some.nd rfl (Or.inl rfl) (pe_lst (pa_cons (pe_cal c_without_letters (hr.mono (by decide : 3 ≤ 3)) rfl (pa_cons (pv 1) (pa_nil))) (pa_nil))))
      (pss_cons (ps_for PassesOwn.never rfl (pi_list (pv 0)) (pg_name (i := 3) sc_products_of_some.nd rfl (Or.inr rfl)) (pss_one (ps_set (i := 2) sc_products_of_some.nd rfl (Or.inl rfl) (pe_op op_cat (pv 2) (pe_lc (own := [("earlier", 4)]) rfl sc_products_of_some.nd (pi_list (pv 2)) (blkOk_by (N := ["measurements", "spins", "products", "measurement", "earlier"]) (sc := defScope s_products_of_some) (by decide +kernel)) (fun _ _ _ _ _ => pg_name (i := 4) sc_products_of_some.nd rfl (Or.inl rfl)) (fun _ _ _ _ _ => pts_nil) (fun _ _ _ _ _ => pe_cal c_product_of (hr.mono (by decide : 3 ≤ 3)) rfl (pa_cons (pv 4) (pa_cons (pv 3) (pa_nil)))))))))
      (pss_one (ps_ret (pv 2))))
/-! ### try_plan, level 4, slots ['game', 'row'], cells [] -/
abbrev s_try_plan : Stmt := topS 28
theorem sc_try_plan : FnScope ["game", "row"] ["game", "row"] (defScope s_try_plan) := ⟨rfl, rfl, rfl, by decide +kernel, rfl, by decide +kernel, by decide +kernel⟩
def t_try_plan (K : PySem.W.Frag) (sp_is_plan sp_worth_of_plan : Sp) : TS :=
  tSeq (tIfS (tNot (tB (tCall sp_is_plan [] E0 (tCons (tVar 0) (tCons (tVar 1) (tNil)))))) (tRet (tLst (tCons (tC (.int (-22))) (tNil)))) (tNext))
    (tRet (tLst (tCons (tCall sp_worth_of_plan [] E0 (tCons (tVar 0) (tCons (tVar 1) (tNil)))) (tCons (tCB (rSum K) (tCons (tFld K (tVar 0) "weights") (tNil))) (tNil)))))
theorem d_try_plan {sp_is_plan : Sp} {sp_worth_of_plan : Sp}
    (c_is_plan : Cal P w K mg base "is_plan" 1 ["game", "row"] sp_is_plan)
    (c_worth_of_plan : Cal P w K mg base "worth_of_plan" 3 ["game", "row"] sp_worth_of_plan) (T : Txt K mg C CM aT aN aW) {f : Addr} {cdv : Value} {A : Around} {outer : List Env} {s : Shared} {H : Hp} {E : XK}
    (hr : Room 3 (A.deeper (envOfC "try_plan" (defScope s_try_plan) s.heap.objs.size f cdv))) :
    PSs (cxOf CX0 P w K mg base ["game", "row"] "try_plan" (defScope s_try_plan) f cdv A outer s H E).nox (defBody s_try_plan) (t_try_plan K sp_is_plan sp_worth_of_plan) :=
  by exact pss_cons (ps_if (pt_not (pt_val (pe_cal c_is_plan (hr.mono (by decide : 1 ≤ 3)) rfl (pa_cons (pv 0) (pa_cons (pv 1) (pa_nil)))))) (pss_one (ps_ret (pe_lst (pa_cons (pe_gi T.c_NOT_AS_TOLD rfl) (pa_nil))))) (pss_nil))
      (pss_one (ps_ret (pe_lst (pa_cons (pe_cal c_worth_of_plan (hr.mono (by decide : 3 ≤ 3)) rfl (pa_cons (pv 0) (pa_cons (pv 1) (pa_nil)))) (pa_cons (pe_callB (cr_sum rfl) rfl T.b_sum (by decide +kernel) (pa_cons (pe_fld (pv 0) rfl) (pa_nil))) (pa_nil))))))
/-! ### best_plan, level 4, slots ['game', 'first', 'most', 'place', 'row', 'worth'], cells [] -/
abbrev s_best_plan : Stmt := topS 29
theorem sc_best_plan : FnScope ["game", "first", "most", "place", "row", "worth"] ["game"] (defScope s_best_plan) := ⟨rfl, rfl, rfl, by decide +kernel, rfl, by decide +kernel, by decide +kernel⟩
def t_best_plan (K : PySem.W.Frag) (sp_plan_at sp_worth_of_plan sp_count_plans : Sp) : TS :=
  tSeq (tAsg (tCall sp_plan_at [] E0 (tCons (tVar 0) (tCons (tC (.int 0)) (tNil)))) (gName 1))
    (tSeq (tAsg (tCall sp_worth_of_plan [] E0 (tCons (tVar 0) (tCons (tVar 1) (tNil)))) (gName 2))
    (tSeq (tFor (iRng2 (tCons (tC (.int 1)) (tCons (tCall sp_count_plans [] E0 (tCons (tVar 0) (tNil))) (tNil)))) (gName 3) (tSeq (tAsg (tCall sp_plan_at [] E0 (tCons (tVar 0) (tCons (tVar 3) (tNil)))) (gName 4))
    (tSeq (tAsg (tCall sp_worth_of_plan [] E0 (tCons (tVar 0) (tCons (tVar 4) (tNil)))) (gName 5))
    (tIfS (tTest (tOp rGt' (tVar 5) (tVar 2))) (tSeq (tAsg (tVar 5) (gName 2))
    (tAsg (tVar 4) (gName 1))) (tNext)))))
    (tRet (tOp rCat (tLst (tCons (tVar 2) (tCons (tCB (rSum K) (tCons (tFld K (tVar 0) "weights") (tNil))) (tNil)))) (tVar 1)))))
theorem d_best_plan {sp_plan_at : Sp} {sp_worth_of_plan : Sp} {sp_count_plans : Sp}
    (c_plan_at : Cal P w K mg base "plan_at" 1 ["game", "place"] sp_plan_at)
    (c_worth_of_plan : Cal P w K mg base "worth_of_plan" 3 ["game", "row"] sp_worth_of_plan)
    (c_count_plans : Cal P w K mg base "count_plans" 1 ["game"] sp_count_plans) (T : Txt K mg C CM aT aN aW) {f : Addr} {cdv : Value} {A : Around} {outer : List Env} {s : Shared} {H : Hp} {E : XK}
    (hr : Room 3 (A.deeper (envOfC "best_plan" (defScope s_best_plan) s.heap.objs.size f cdv))) :
    PSs (cxOf CX0 P w K mg base ["game", "first", "most", "place", "row", "worth"] "best_plan" (defScope s_best_plan) f cdv A outer s H E).nox (defBody s_best_plan) (t_best_plan K sp_plan_at sp_worth_of_plan sp_count_plans) :=
  by exact pss_cons (ps_set (i := 1) sc_best_plan.nd rfl (Or.inl rfl) (pe_cal c_plan_at (hr.mono (by decide : 1 ≤ 3)) rfl (pa_cons (pv 0) (pa_cons (pe_int) (pa_nil)))))
      (pss_cons (ps_set (i := 2) sc_best_plan.nd rfl (Or.inl rfl) (pe_cal c_worth_of_plan (hr.mono (by decide : 3 ≤ 3)) rfl (pa_cons (pv 0) (pa_cons (pv 1) (pa_nil)))))
      (pss_cons (ps_for PassesOwn.never rfl (pi_range2 rfl T.b_range (pa_cons (pe_int) (pa_cons (pe_cal c_count_plans (hr.mono (by decide : 1 ≤ 3)) rfl (pa_cons (pv 0) (pa_nil))) (pa_nil)))) (pg_name (i := 3) sc_best_plan.nd rfl (Or.inl rfl)) (pss_cons (ps_set (i := 4) sc_best_plan.nd rfl (Or.inl rfl) (pe_cal c_plan_at (hr.mono (by decide : 1 ≤ 3)) rfl (pa_cons (pv 0) (pa_cons (pv 3) (pa_nil)))))
      (pss_cons (ps_set (i := 5) sc_best_plan.nd rfl (Or.inl rfl) (pe_cal c_worth_of_plan (hr.mono (by decide : 3 ≤ 3)) rfl (pa_cons (pv 0) (pa_cons (pv 4) (pa_nil)))))
      (pss_one (ps_if (pt_cmpR o_gt (pv 5) (pv 2) (nomark _)) (pss_cons (ps_set (i := 2) sc_best_plan.nd rfl (Or.inl rfl) (pv 5))
      (pss_one (ps_set (i := 1) sc_best_plan.nd rfl (Or.inl rfl) (pv 4)))) (pss_nil))))))
      (pss_one (ps_ret (pe_op op_cat (pe_lst (pa_cons (pv 2) (pa_cons (pe_callB (cr_sum rfl) rfl T.b_sum (by decide +kernel) (pa_cons (pe_fld (pv 0) rfl) (pa_nil))) (pa_nil)))) (pv 1))))))
/-! ### plans_that_win, level 4, slots ['game', 'much', 'found', 'place'], cells [] -/
abbrev s_plans_that_win : Stmt := topS 30
theorem sc_plans_that_win : FnScope ["game", "much", "found", "place"] ["game", "much"] (defScope s_plans_that_win) := ⟨rfl, rfl, rfl, by decide +kernel, rfl, by decide +kernel, by decide +kernel⟩
def t_plans_that_win (K : PySem.W.Frag) (sp_count_plans sp_worth_of_plan sp_plan_at : Sp) : TS :=
  tSeq (tAsg (tC (.int 0)) (gName 2))
    (tSeq (tFor (iRng1 (tCons (tCall sp_count_plans [] E0 (tCons (tVar 0) (tNil))) (tNil))) (gName 3) (tIfS (tTest (tOp rEq (tCall sp_worth_of_plan [] E0 (tCons (tVar 0) (tCons (tCall sp_plan_at [] E0 (tCons (tVar 0) (tCons (tVar 3) (tNil)))) (tNil)))) (tVar 1))) (tAug 2 (tC (.int 1)) (ipI fun i j => i + j)) (tNext)))
    (tRet (tLst (tCons (tVar 2) (tCons (tCall sp_count_plans [] E0 (tCons (tVar 0) (tNil))) (tNil))))))
theorem d_plans_that_win {sp_count_plans : Sp} {sp_worth_of_plan : Sp} {sp_plan_at : Sp}
    (c_count_plans : Cal P w K mg base "count_plans" 1 ["game"] sp_count_plans)
    (c_worth_of_plan : Cal P w K mg base "worth_of_plan" 3 ["game", "row"] sp_worth_of_plan)
    (c_plan_at : Cal P w K mg base "plan_at" 1 ["game", "place"] sp_plan_at) (T : Txt K mg C CM aT aN aW) {f : Addr} {cdv : Value} {A : Around} {outer : List Env} {s : Shared} {H : Hp} {E : XK}
    (hr : Room 3 (A.deeper (envOfC "plans_that_win" (defScope s_plans_that_win) s.heap.objs.size f cdv))) :
    PSs (cxOf CX0 P w K mg base ["game", "much", "found", "place"] "plans_that_win" (defScope s_plans_that_win) f cdv A outer s H E).nox (defBody s_plans_that_win) (t_plans_that_win K sp_count_plans sp_worth_of_plan sp_plan_at) :=
  by exact pss_cons (ps_set (i := 2) sc_plans_that_win.nd rfl (Or.inl rfl) (pe_int))
      (pss_cons (ps_for PassesOwn.never rfl (pi_range1 rfl T.b_range (pa_cons (pe_cal c_count_plans (hr.mono (by decide : 1 ≤ 3)) rfl (pa_cons (pv 0) (pa_nil))) (pa_nil))) (pg_name (i := 3) sc_plans_that_win.nd rfl (Or.inl rfl)) (pss_one (ps_if (pt_cmpR op_eq (pe_cal c_worth_of_plan (hr.mono (by decide : 3 ≤ 3)) rfl (pa_cons (pv 0) (pa_cons (pe_cal c_plan_at (hr.mono (by decide : 1 ≤ 3)) rfl (pa_cons (pv 0) (pa_cons (pv 3) (pa_nil)))) (pa_nil)))) (pv 1) (nomark _)) (pss_one (ps_aug (i := 2) sc_plans_that_win.nd rfl (Or.inl rfl) (pe_int) ip_add)) (pss_nil))))
      (pss_one (ps_ret (pe_lst (pa_cons (pv 2) (pa_cons (pe_cal c_count_plans (hr.mono (by decide : 1 ≤ 3)) rfl (pa_cons (pv 0) (pa_nil))) (pa_nil)))))))
/-! ### let_first_be_sure, level 4, slots ['game', 'spin'], cells ['game'] -/
abbrev s_let_first_be_sure : Stmt := topS 43
theorem sc_let_first_be_sure : FnScope ["game", "spin"] ["game"] (defScope s_let_first_be_sure) := ⟨rfl, rfl, rfl, by decide +kernel, rfl, by decide +kernel, by decide +kernel⟩
def t_let_first_be_sure (K : PySem.W.Frag) (sp_sure_at_first : Sp) : TS :=
  tSeq (sFld K (tVar 0) (tLc (iRng1 (tCons (tCB (rLen' K) (tCons (tFld K (tVar 0) "owners") (tNil))) (tNil))) (gName 1) (tYes) (tCall sp_sure_at_first [] E0 (tCons (tVar 0) (tCons (tVar 1) (tNil)))) [1]) "sure")
    (sFld K (tVar 0) (tC (.bl false)) "measured")
theorem d_let_first_be_sure {sp_sure_at_first : Sp}
    (c_sure_at_first : Cal P w K mg base "sure_at_first" 3 ["game", "spin"] sp_sure_at_first) (T : Txt K mg C CM aT aN aW) {f : Addr} {cdv : Value} {A : Around} {outer : List Env} {s : Shared} {H : Hp} {E : XK}
    (hr : Room 3 (A.deeper (envOfC "let_first_be_sure" (defScope s_let_first_be_sure) s.heap.objs.size f cdv))) :
    PSs (cxOf CX0 P w K mg base ["game", "spin"] "let_first_be_sure" (defScope s_let_first_be_sure) f cdv A outer s H E).nox (defBody s_let_first_be_sure) (t_let_first_be_sure K sp_sure_at_first) :=
  by exact pss_cons (ps_fld (pv 0) (pe_lc (own := [("spin", 1)]) rfl sc_let_first_be_sure.nd (pi_range1 rfl T.b_range (pa_cons (pe_callB c_len rfl T.b_len (by decide +kernel) (pa_cons (pe_fld (pv 0) rfl) (pa_nil))) (pa_nil))) (blkOk_by (N := ["game", "spin"]) (sc := defScope s_let_first_be_sure) (by decide +kernel)) (fun _ _ _ _ _ => pg_name (i := 1) sc_let_first_be_sure.nd rfl (Or.inl rfl)) (fun _ _ _ _ _ => pts_nil) (fun _ _ _ _ _ => pe_cal c_sure_at_first (hr.mono (by decide : 3 ≤ 3)) rfl (pa_cons (pv 0) (pa_cons (pv 1) (pa_nil))))) rfl)
      (pss_one (ps_fld (pv 0) (pe_bl) rfl))
/-! ### let_be_sure, level 4, slots ['game', 'measured', 'sure', 'gone', 'measurement'], cells [] -/
abbrev s_let_be_sure : Stmt := topS 46
theorem sc_let_be_sure : FnScope ["game", "measured", "sure", "gone", "measurement"] ["game", "measured"] (defScope s_let_be_sure) := ⟨rfl, rfl, rfl, by decide +kernel, rfl, by decide +kernel, by decide +kernel⟩
def t_let_be_sure (K : PySem.W.Frag) (sp_go_together sp_product_of : Sp) : TS :=
  tSeq (tAsg (tLst (tNil)) (gName 2))
    (tSeq (tAsg (tC .non) (gName 3))
    (tSeq (tFor (iList K (tFld K (tVar 0) "sure")) (gName 4) (tIfS (tB (tCall sp_go_together [] E0 (tCons (tVar 4) (tCons (tVar 1) (tNil))))) (tDrop (tBM K "list" rAppend (tVar 2) (tCons (tVar 4) (tNil)))) (tIfS (tTest (tOp rIs' (tVar 3) (tC .non))) (tSeq (tAsg (tVar 4) (gName 3))
    (tDrop (tBM K "list" rAppend (tVar 2) (tCons (tVar 1) (tNil))))) (tDrop (tBM K "list" rAppend (tVar 2) (tCons (tCall sp_product_of [] E0 (tCons (tVar 4) (tCons (tVar 3) (tNil)))) (tNil)))))))
    (sFld K (tVar 0) (tVar 2) "sure")))
theorem d_let_be_sure {sp_go_together : Sp} {sp_product_of : Sp}
    (c_go_together : Cal P w K mg base "go_together" 1 ["one", "other"] sp_go_together)
    (c_product_of : Cal P w K mg base "product_of" 3 ["one", "other"] sp_product_of) (T : Txt K mg C CM aT aN aW) {f : Addr} {cdv : Value} {A : Around} {outer : List Env} {s : Shared} {H : Hp} {E : XK}
    (hr : Room 3 (A.deeper (envOfC "let_be_sure" (defScope s_let_be_sure) s.heap.objs.size f cdv))) :
    PSs (cxOf CX0 P w K mg base ["game", "measured", "sure", "gone", "measurement"] "let_be_sure" (defScope s_let_be_sure) f cdv A outer s H E).nox (defBody s_let_be_sure) (t_let_be_sure K sp_go_together sp_product_of) :=
  by exact pss_cons (ps_set (i := 2) sc_let_be_sure.nd rfl (Or.inl rfl) (pe_lst (pa_nil)))
      (pss_cons (ps_set (i := 3) sc_let_be_sure.nd rfl (Or.inl rfl) (pe_non))
      (pss_cons (ps_for PassesOwn.never rfl (pi_list (pe_fld (pv 0) rfl)) (pg_name (i := 4) sc_let_be_sure.nd rfl (Or.inl rfl)) (pss_one (ps_if (pt_val (pe_cal c_go_together (hr.mono (by decide : 1 ≤ 3)) rfl (pa_cons (pv 4) (pa_cons (pv 1) (pa_nil))))) (pss_one (ps_expr (pe_bm PySem.F.plainAttrs_list PySem.F.slot_list_append PySem.F.type_list_append mt_append (pv 2) (pa_cons (pv 4) (pa_nil))))) (pss_one (ps_if (pt_cmpR o_is (pv 3) (pe_non) (nomark _)) (pss_cons (ps_set (i := 3) sc_let_be_sure.nd rfl (Or.inl rfl) (pv 4))
      (pss_one (ps_expr (pe_bm PySem.F.plainAttrs_list PySem.F.slot_list_append PySem.F.type_list_append mt_append (pv 2) (pa_cons (pv 1) (pa_nil)))))) (pss_one (ps_expr (pe_bm PySem.F.plainAttrs_list PySem.F.slot_list_append PySem.F.type_list_append mt_append (pv 2) (pa_cons (pe_cal c_product_of (hr.mono (by decide : 3 ≤ 3)) rfl (pa_cons (pv 4) (pa_cons (pv 3) (pa_nil)))) (pa_nil))))))))))
      (pss_one (ps_fld (pv 0) (pv 2) rfl))))
/-! ### refresh, level 5, slots ['game'], cells [] -/
abbrev s_refresh : Stmt := topS 40
theorem sc_refresh : FnScope ["game"] ["game"] (defScope s_refresh) := ⟨rfl, rfl, rfl, by decide +kernel, rfl, by decide +kernel, by decide +kernel⟩
def t_refresh (K : PySem.W.Frag) (sp_let_first_be_sure : Sp) : TS :=
  tSeq (tDrop (tCall sp_let_first_be_sure [] E0 (tCons (tVar 0) (tNil))))
    (tRet (tLst (tCons (tCB (rLen' K) (tCons (tFld K (tVar 0) "owners") (tNil))) (tNil))))
theorem d_refresh {sp_let_first_be_sure : Sp}
    (c_let_first_be_sure : Cal P w K mg base "let_first_be_sure" 4 ["game"] sp_let_first_be_sure) (T : Txt K mg C CM aT aN aW) {f : Addr} {cdv : Value} {A : Around} {outer : List Env} {s : Shared} {H : Hp} {E : XK}
    (hr : Room 4 (A.deeper (envOfC "refresh" (defScope s_refresh) s.heap.objs.size f cdv))) :
    PSs (cxOf CX0 P w K mg base ["game"] "refresh" (defScope s_refresh) f cdv A outer s H E).nox (defBody s_refresh) (t_refresh K sp_let_first_be_sure) :=
  by exact pss_cons (ps_expr (pe_cal c_let_first_be_sure (hr.mono (by decide : 4 ≤ 4)) rfl (pa_cons (pv 0) (pa_nil))))
      (pss_one (ps_ret (pe_lst (pa_cons (pe_callB c_len rfl T.b_len (by decide +kernel) (pa_cons (pe_fld (pv 0) rfl) (pa_nil))) (pa_nil)))))
/-! ### signs_that_are_sure, level 5, slots ['game', 'signs', 'measurement'], cells [] -/
abbrev s_signs_that_are_sure : Stmt := topS 45
theorem sc_signs_that_are_sure : FnScope ["game", "signs", "measurement"] ["game"] (defScope s_signs_that_are_sure) := ⟨rfl, rfl, rfl, by decide +kernel, rfl, by decide +kernel, by decide +kernel⟩
def t_signs_that_are_sure (K : PySem.W.Frag) (sp_products_of_some : Sp) : TS :=
  tSeq (tAsg (tDNewT) (gName 1))
    (tSeq (tFor (iList K (tCall sp_products_of_some [] E0 (tCons (tFld K (tVar 0) "sure") (tCons (tCB (rLen' K) (tCons (tFld K (tVar 0) "owners") (tNil))) (tNil))))) (gName 2) (sDPut (tVar 1) (tCB (rTuple' K) (tCons (tFld K (tVar 2) "letters") (tNil))) (tFld K (tVar 2) "sign")))
    (tRet (tVar 1)))
theorem d_signs_that_are_sure {sp_products_of_some : Sp}
    (c_products_of_some : Cal P w K mg base "products_of_some" 4 ["measurements", "spins"] sp_products_of_some) (T : Txt K mg C CM aT aN aW) {f : Addr} {cdv : Value} {A : Around} {outer : List Env} {s : Shared} {H : Hp} {E : XK}
    (hr : Room 4 (A.deeper (envOfC "signs_that_are_sure" (defScope s_signs_that_are_sure) s.heap.objs.size f cdv))) :
    PSs (cxOf CX0 P w K mg base ["game", "signs", "measurement"] "signs_that_are_sure" (defScope s_signs_that_are_sure) f cdv A outer s H E).nox (defBody s_signs_that_are_sure) (t_signs_that_are_sure K sp_products_of_some) :=
  by exact pss_cons (ps_set (i := 1) sc_signs_that_are_sure.nd rfl (Or.inl rfl) (pe_dnewT))
      (pss_cons (ps_for PassesOwn.never rfl (pi_list (pe_cal c_products_of_some (hr.mono (by decide : 4 ≤ 4)) rfl (pa_cons (pe_fld (pv 0) rfl) (pa_cons (pe_callB c_len rfl T.b_len (by decide +kernel) (pa_cons (pe_fld (pv 0) rfl) (pa_nil))) (pa_nil))))) (pg_name (i := 2) sc_signs_that_are_sure.nd rfl (Or.inl rfl)) (pss_one (ps_dput (hu_of hr) (pv 1) (pe_callTy c_tuple rfl T.b_tuple (by decide +kernel) (pa_cons (pe_fld (pv 2) rfl) (pa_nil))) (pe_fld (pv 2) rfl) rfl)))
      (pss_one (ps_ret (pv 1))))
/-! ### sums_at, level 5, slots ['game', 'signs', 'row', 'own', 'person', 'question', 'product'], cells ['game', 'signs'] -/
abbrev s_sums_at : Stmt := topS 57
theorem sc_sums_at : FnScope ["game", "signs", "row", "own", "person", "question", "product"] ["game", "signs", "row"] (defScope s_sums_at) := ⟨rfl, rfl, rfl, by decide +kernel, rfl, by decide +kernel, by decide +kernel⟩
def t_sums_at (K : PySem.W.Frag) (sp_sum_that_is_sure sp_products_of_some : Sp) : TS :=
  tSeq (tAsg (tLc (iEnum K (tCons (tVar 2) (tNil))) (gTup K 2 (gCons (gName 4) (gCons (gName 5) (gNil)))) (tYes) (tOp (rIxL K) (tFld K (tVar 0) "own") (tOp rAdd' (tOp rMul' (tVar 4) (tFld K (tVar 0) "questions")) (tVar 5))) [4, 5]) (gName 3))
    (tRet (tLc (iList K (tCall sp_products_of_some [] E0 (tCons (tVar 3) (tCons (tCB (rLen' K) (tCons (tFld K (tVar 0) "owners") (tNil))) (tNil))))) (gName 6) (tYes) (tCall sp_sum_that_is_sure [] E0 (tCons (tVar 1) (tCons (tVar 6) (tNil)))) [6]))
theorem d_sums_at {sp_sum_that_is_sure : Sp} {sp_products_of_some : Sp}
    (c_sum_that_is_sure : Cal P w K mg base "sum_that_is_sure" 1 ["signs", "product"] sp_sum_that_is_sure)
    (c_products_of_some : Cal P w K mg base "products_of_some" 4 ["measurements", "spins"] sp_products_of_some) (T : Txt K mg C CM aT aN aW) {f : Addr} {cdv : Value} {A : Around} {outer : List Env} {s : Shared} {H : Hp} {E : XK}
    (hr : Room 4 (A.deeper (envOfC "sums_at" (defScope s_sums_at) s.heap.objs.size f cdv))) :
    PSs (cxOf CX0 P w K mg base ["game", "signs", "row", "own", "person", "question", "product"] "sums_at" (defScope s_sums_at) f cdv A outer s H E).nox (defBody s_sums_at) (t_sums_at K sp_sum_that_is_sure sp_products_of_some) :=
  by exact pss_cons (ps_setLc (i := 3) (own := [("person", 4), ("question", 5)]) rfl sc_sums_at.nd rfl rfl (sw_true rfl rfl rfl (by decide +kernel)) (pi_enum (by rfl) T.b_enumerate (pa_cons (pv 2) (pa_nil))) (blkOk_by (N := ["game", "signs", "row", "own", "person", "question", "product"]) (sc := defScope s_sums_at) (by decide +kernel)) (fun _ _ _ _ _ => pg_tup rfl (pgs_cons (pg_name (i := 4) sc_sums_at.nd rfl (Or.inl rfl)) (pgs_cons (pg_name (i := 5) sc_sums_at.nd rfl (Or.inl rfl)) (pgs_nil)))) (fun _ _ _ _ _ => pts_nil) (fun _ _ _ _ _ => pe_ix ix_list (pe_fld (pv 0) rfl) (pe_op o_add (pe_op o_mul (pv 4) (pe_fld (pv 0) rfl)) (pv 5)) (fun _ _ => rfl)))
      (pss_one (ps_ret (pe_lc (own := [("product", 6)]) rfl sc_sums_at.nd (pi_list (pe_cal c_products_of_some (hr.mono (by decide : 4 ≤ 4)) rfl (pa_cons (pv 3) (pa_cons (pe_callB c_len rfl T.b_len (by decide +kernel) (pa_cons (pe_fld (pv 0) rfl) (pa_nil))) (pa_nil))))) (blkOk_by (N := ["game", "signs", "row", "own", "person", "question", "product"]) (sc := defScope s_sums_at) (by decide +kernel)) (fun _ _ _ _ _ => pg_name (i := 6) sc_sums_at.nd rfl (Or.inl rfl)) (fun _ _ _ _ _ => pts_nil) (fun _ _ _ _ _ => pe_cal c_sum_that_is_sure (hr.mono (by decide : 1 ≤ 4)) rfl (pa_cons (pv 1) (pa_cons (pv 6) (pa_nil)))))))
/-! ### set_spins, level 5, slots ['game', 'owners'], cells [] -/
abbrev s_set_spins : Stmt := topS 65
theorem sc_set_spins : FnScope ["game", "owners"] ["game", "owners"] (defScope s_set_spins) := ⟨rfl, rfl, rfl, by decide +kernel, rfl, by decide +kernel, by decide +kernel⟩
def t_set_spins (K : PySem.W.Frag) (sp_let_first_be_sure sp_without_letters : Sp) : TS :=
  tSeq (sFld K (tVar 0) (tCB (rList' K) (tCons (tVar 1) (tNil))) "owners")
    (tSeq (sFld K (tVar 0) (tLst (tNil)) "links")
    (tSeq (tDrop (tCall sp_let_first_be_sure [] E0 (tCons (tVar 0) (tNil))))
    (sFld K (tVar 0) (tOp rRep (tLst (tCons (tCall sp_without_letters [] E0 (tCons (tCB (rLen' K) (tCons (tVar 1) (tNil))) (tNil))) (tNil))) (tOp rMul' (tFld K (tVar 0) "persons") (tFld K (tVar 0) "questions"))) "own")))
theorem d_set_spins {sp_let_first_be_sure : Sp} {sp_without_letters : Sp}
    (c_let_first_be_sure : Cal P w K mg base "let_first_be_sure" 4 ["game"] sp_let_first_be_sure)
    (c_without_letters : Cal P w K mg base "without_letters" 3 ["spins"] sp_without_letters) (T : Txt K mg C CM aT aN aW) {f : Addr} {cdv : Value} {A : Around} {outer : List Env} {s : Shared} {H : Hp} {E : XK}
    (hr : Room 4 (A.deeper (envOfC "set_spins" (defScope s_set_spins) s.heap.objs.size f cdv))) :
    PSs (cxOf CX0 P w K mg base ["game", "owners"] "set_spins" (defScope s_set_spins) f cdv A outer s H E).nox (defBody s_set_spins) (t_set_spins K sp_let_first_be_sure sp_without_letters) :=
  by exact pss_cons (ps_fld (pv 0) (pe_callTy c_list rfl T.b_list (by decide +kernel) (pa_cons (pv 1) (pa_nil))) rfl)
      (pss_cons (ps_fld (pv 0) (pe_lst (pa_nil)) rfl)
      (pss_cons (ps_expr (pe_cal c_let_first_be_sure (hr.mono (by decide : 4 ≤ 4)) rfl (pa_cons (pv 0) (pa_nil))))
      (pss_one (ps_fld (pv 0) (pe_op op_rep (pe_lst (pa_cons (pe_cal c_without_letters (hr.mono (by decide : 3 ≤ 4)) rfl (pa_cons (pe_callB c_len rfl T.b_len (by decide +kernel) (pa_cons (pv 1) (pa_nil))) (pa_nil))) (pa_nil))) (pe_op o_mul (pe_fld (pv 0) rfl) (pe_fld (pv 0) rfl))) rfl))))
/-! ### link_spins, level 5, slots ['game', 'i', 'j', 'pair'], cells [] -/
abbrev s_link_spins : Stmt := topS 66
theorem sc_link_spins : FnScope ["game", "i", "j", "pair"] ["game", "i", "j"] (defScope s_link_spins) := ⟨rfl, rfl, rfl, by decide +kernel, rfl, by decide +kernel, by decide +kernel⟩
def t_link_spins (K : PySem.W.Frag) (sp_let_first_be_sure : Sp) : TS :=
  tSeq (tIfS (tOr (tTest (tOp rGe' (tVar 1) (tCB (rLen' K) (tCons (tFld K (tVar 0) "owners") (tNil))))) (tTest (tOp rGe' (tVar 2) (tCB (rLen' K) (tCons (tFld K (tVar 0) "owners") (tNil)))))) (tRet (tLst (tCons (tC (.int (-2))) (tNil)))) (tNext))
    (tSeq (tIfS (tTest (tOp rEq (tVar 1) (tVar 2))) (tRet (tLst (tCons (tC (.int (-22))) (tNil)))) (tNext))
    (tSeq (tIfS (tB (tFld K (tVar 0) "measured")) (tRet (tLst (tCons (tC (.int (-16))) (tNil)))) (tNext))
    (tSeq (tAsg (tTup (tCons (tCB rMin' (tCons (tVar 1) (tCons (tVar 2) (tNil)))) (tCons (tCB rMax' (tCons (tVar 1) (tCons (tVar 2) (tNil)))) (tNil)))) (gName 3))
    (tSeq (tIfS (tTest (tOp (rInD K) (tVar 3) (tFld K (tVar 0) "links"))) (tDrop (tBM K "list" (rRemD K) (tFld K (tVar 0) "links") (tCons (tVar 3) (tNil)))) (tDrop (tBM K "list" rAppend (tFld K (tVar 0) "links") (tCons (tVar 3) (tNil)))))
    (tSeq (tDrop (tCall sp_let_first_be_sure [] E0 (tCons (tVar 0) (tNil))))
    (tRet (tLst (tCons (tCB (rLen' K) (tCons (tFld K (tVar 0) "links") (tNil))) (tNil)))))))))
theorem d_link_spins {sp_let_first_be_sure : Sp}
    (c_let_first_be_sure : Cal P w K mg base "let_first_be_sure" 4 ["game"] sp_let_first_be_sure) (T : Txt K mg C CM aT aN aW) {f : Addr} {cdv : Value} {A : Around} {outer : List Env} {s : Shared} {H : Hp} {E : XK}
    (hr : Room 4 (A.deeper (envOfC "link_spins" (defScope s_link_spins) s.heap.objs.size f cdv))) :
    PSs (cxOf CX0 P w K mg base ["game", "i", "j", "pair"] "link_spins" (defScope s_link_spins) f cdv A outer s H E).nox (defBody s_link_spins) (t_link_spins K sp_let_first_be_sure) :=
  by exact pss_cons (ps_if (PW.pt (pw_or (pt_cmpR o_ge (pv 1) (pe_callB c_len rfl T.b_len (by decide +kernel) (pa_cons (pe_fld (pv 0) rfl) (pa_nil))) (nomark _)) (pw_or1 (pt_cmpR o_ge (pv 2) (pe_callB c_len rfl T.b_len (by decide +kernel) (pa_cons (pe_fld (pv 0) rfl) (pa_nil))) (nomark _))))) (pss_one (ps_ret (pe_lst (pa_cons (pe_gi T.c_NONE_SUCH rfl) (pa_nil))))) (pss_nil))
      (pss_cons (ps_if (pt_cmpR op_eq (pv 1) (pv 2) (nomark _)) (pss_one (ps_ret (pe_lst (pa_cons (pe_gi T.c_NOT_AS_TOLD rfl) (pa_nil))))) (pss_nil))
      (pss_cons (ps_if (pt_val (pe_fld (pv 0) rfl)) (pss_one (ps_ret (pe_lst (pa_cons (pe_gi T.c_SOMETHING_MEASURED rfl) (pa_nil))))) (pss_nil))
      (pss_cons (ps_set (i := 3) sc_link_spins.nd rfl (Or.inl rfl) (pe_tup (pa_cons (pe_callB (c_min rfl) rfl T.b_min (by decide +kernel) (pa_cons (pv 1) (pa_cons (pv 2) (pa_nil)))) (pa_cons (pe_callB (c_max rfl) rfl T.b_max (by decide +kernel) (pa_cons (pv 1) (pa_cons (pv 2) (pa_nil)))) (pa_nil)))))
      (pss_cons (ps_if (pt_cmpR (op_inD (hu65 hr)) (pv 3) (pe_fld (pv 0) rfl) (by rfl)) (pss_one (ps_expr (pe_bm PySem.F.plainAttrs_list PySem.F.slot_list_remove PySem.F.type_list_remove (mt_removeD (hu65 hr)) (pe_fld (pv 0) rfl) (pa_cons (pv 3) (pa_nil))))) (pss_one (ps_expr (pe_bm PySem.F.plainAttrs_list PySem.F.slot_list_append PySem.F.type_list_append mt_append (pe_fld (pv 0) rfl) (pa_cons (pv 3) (pa_nil))))))
      (pss_cons (ps_expr (pe_cal c_let_first_be_sure (hr.mono (by decide : 4 ≤ 4)) rfl (pa_cons (pv 0) (pa_nil))))
      (pss_one (ps_ret (pe_lst (pa_cons (pe_callB c_len rfl T.b_len (by decide +kernel) (pa_cons (pe_fld (pv 0) rfl) (pa_nil))) (pa_nil))))))))))
/-! ### answer_of_plans, level 5, slots ['game', 'kind', 'given'], cells [] -/
abbrev s_answer_of_plans : Stmt := topS 96
theorem sc_answer_of_plans : FnScope ["game", "kind", "given"] ["game", "kind", "given"] (defScope s_answer_of_plans) := ⟨rfl, rfl, rfl, by decide +kernel, rfl, by decide +kernel, by decide +kernel⟩
def t_answer_of_plans (K : PySem.W.Frag) (sp_plans_that_win sp_let_win sp_let_sum_win sp_let_count sp_try_plan sp_best_plan : Sp) : TS :=
  tSeq (tIfS (tTest (tOp rEq (tVar 1) (tC (.int 1)))) (tRet (tCall sp_let_win [] E0 (tCons (tVar 0) (tCons (tOp (rIxL K) (tVar 2) (tC (.int 0))) (tCons (tSl (rSlL K) (tVar 2) (tPart (tC (.int 2))) (tNoPart)) (tNil)))))) (tNext))
    (tSeq (tIfS (tTest (tOp rEq (tVar 1) (tC (.int 2)))) (tRet (tCall sp_let_sum_win [] E0 (tCons (tVar 0) (tCons (tOp (rIxL K) (tVar 2) (tC (.int 0))) (tCons (tSl (rSlL K) (tVar 2) (tPart (tC (.int 2))) (tNoPart)) (tNil)))))) (tNext))
    (tSeq (tIfS (tTest (tOp rEq (tVar 1) (tC (.int 3)))) (tRet (tCall sp_let_count [] E0 (tCons (tVar 0) (tCons (tOp (rIxL K) (tVar 2) (tC (.int 0))) (tCons (tSl (rSlL K) (tVar 2) (tPart (tC (.int 2))) (tNoPart)) (tNil)))))) (tNext))
    (tSeq (tIfS (tTest (tOp rEq (tVar 1) (tC (.int 4)))) (tRet (tCall sp_try_plan [] E0 (tCons (tVar 0) (tCons (tSl (rSlL K) (tVar 2) (tPart (tC (.int 1))) (tNoPart)) (tNil))))) (tNext))
    (tSeq (tIfS (tTest (tOp rEq (tVar 1) (tC (.int 5)))) (tRet (tCall sp_best_plan [] E0 (tCons (tVar 0) (tNil)))) (tNext))
    (tRet (tCall sp_plans_that_win [] E0 (tCons (tVar 0) (tCons (tOp (rIxL K) (tVar 2) (tC (.int 0))) (tNil)))))))))
theorem d_answer_of_plans {sp_plans_that_win : Sp} {sp_let_win : Sp} {sp_let_sum_win : Sp} {sp_let_count : Sp} {sp_try_plan : Sp} {sp_best_plan : Sp}
    (c_plans_that_win : Cal P w K mg base "plans_that_win" 4 ["game", "much"] sp_plans_that_win)
    (c_let_win : Cal P w K mg base "let_win" 2 ["game", "which", "row"] sp_let_win)
    (c_let_sum_win : Cal P w K mg base "let_sum_win" 3 ["game", "parity", "row"] sp_let_sum_win)
    (c_let_count : Cal P w K mg base "let_count" 2 ["game", "much", "row"] sp_let_count)
    (c_try_plan : Cal P w K mg base "try_plan" 4 ["game", "row"] sp_try_plan)
    (c_best_plan : Cal P w K mg base "best_plan" 4 ["game"] sp_best_plan) (T : Txt K mg C CM aT aN aW) {f : Addr} {cdv : Value} {A : Around} {outer : List Env} {s : Shared} {H : Hp} {E : XK}
    (hr : Room 4 (A.deeper (envOfC "answer_of_plans" (defScope s_answer_of_plans) s.heap.objs.size f cdv))) :
    PSs (cxOf CX0 P w K mg base ["game", "kind", "given"] "answer_of_plans" (defScope s_answer_of_plans) f cdv A outer s H E).nox (defBody s_answer_of_plans) (t_answer_of_plans K sp_plans_that_win sp_let_win sp_let_sum_win sp_let_count sp_try_plan sp_best_plan) :=
  by exact pss_cons (ps_if (pt_cmpR op_eq (pv 1) (pe_gi T.c_WINS rfl) (nomark _)) (pss_one (ps_ret (pe_cal c_let_win (hr.mono (by decide : 2 ≤ 4)) rfl (pa_cons (pv 0) (pa_cons (pe_ix ix_list (pv 2) (pe_int) (fun _ _ => rfl)) (pa_cons (pe_slice sl_list (pv 2) (po_some (pe_int)) (po_none)) (pa_nil))))))) (pss_nil))
      (pss_cons (ps_if (pt_cmpR op_eq (pv 1) (pe_gi T.c_ODD rfl) (nomark _)) (pss_one (ps_ret (pe_cal c_let_sum_win (hr.mono (by decide : 3 ≤ 4)) rfl (pa_cons (pv 0) (pa_cons (pe_ix ix_list (pv 2) (pe_int) (fun _ _ => rfl)) (pa_cons (pe_slice sl_list (pv 2) (po_some (pe_int)) (po_none)) (pa_nil))))))) (pss_nil))
      (pss_cons (ps_if (pt_cmpR op_eq (pv 1) (pe_gi T.c_COUNTS rfl) (nomark _)) (pss_one (ps_ret (pe_cal c_let_count (hr.mono (by decide : 2 ≤ 4)) rfl (pa_cons (pv 0) (pa_cons (pe_ix ix_list (pv 2) (pe_int) (fun _ _ => rfl)) (pa_cons (pe_slice sl_list (pv 2) (po_some (pe_int)) (po_none)) (pa_nil))))))) (pss_nil))
      (pss_cons (ps_if (pt_cmpR op_eq (pv 1) (pe_gi T.c_PLAN rfl) (nomark _)) (pss_one (ps_ret (pe_cal c_try_plan (hr.mono (by decide : 4 ≤ 4)) rfl (pa_cons (pv 0) (pa_cons (pe_slice sl_list (pv 2) (po_some (pe_int)) (po_none)) (pa_nil)))))) (pss_nil))
      (pss_cons (ps_if (pt_cmpR op_eq (pv 1) (pe_gi T.c_BEST rfl) (nomark _)) (pss_one (ps_ret (pe_cal c_best_plan (hr.mono (by decide : 4 ≤ 4)) rfl (pa_cons (pv 0) (pa_nil))))) (pss_nil))
      (pss_one (ps_ret (pe_cal c_plans_that_win (hr.mono (by decide : 4 ≤ 4)) rfl (pa_cons (pv 0) (pa_cons (pe_ix ix_list (pv 2) (pe_int) (fun _ _ => rfl)) (pa_nil))))))))))
/-! ### ask_sure, level 6, slots ['game', 'letters', 'signs'], cells [] -/
abbrev s_ask_sure : Stmt := topS 41
theorem sc_ask_sure : FnScope ["game", "letters", "signs"] ["game", "letters"] (defScope s_ask_sure) := ⟨rfl, rfl, rfl, by decide +kernel, rfl, by decide +kernel, by decide +kernel⟩
def t_ask_sure (K : PySem.W.Frag) (sp_signs_that_are_sure sp_are_letters : Sp) : TS :=
  tSeq (tIfS (tNot (tB (tCall sp_are_letters [] E0 (tCons (tVar 1) (tCons (tCB (rLen' K) (tCons (tFld K (tVar 0) "owners") (tNil))) (tNil)))))) (tRet (tLst (tCons (tC (.int (-22))) (tNil)))) (tNext))
    (tSeq (tAsg (tCall sp_signs_that_are_sure [] E0 (tCons (tVar 0) (tNil))) (gName 2))
    (tSeq (tIfS (tB (tDNotIn (tCB (rTuple' K) (tCons (tVar 1) (tNil))) (tVar 2))) (tRet (tLst (tCons (tC (.int (-33))) (tNil)))) (tNext))
    (tRet (tLst (tCons (tDGet (tVar 2) (tCB (rTuple' K) (tCons (tVar 1) (tNil)))) (tNil))))))
theorem d_ask_sure {sp_signs_that_are_sure : Sp} {sp_are_letters : Sp}
    (c_signs_that_are_sure : Cal P w K mg base "signs_that_are_sure" 5 ["game"] sp_signs_that_are_sure)
    (c_are_letters : Cal P w K mg base "are_letters" 1 ["row", "spins"] sp_are_letters) (T : Txt K mg C CM aT aN aW) {f : Addr} {cdv : Value} {A : Around} {outer : List Env} {s : Shared} {H : Hp} {E : XK}
    (hr : Room 5 (A.deeper (envOfC "ask_sure" (defScope s_ask_sure) s.heap.objs.size f cdv))) :
    PSs (cxOf CX0 P w K mg base ["game", "letters", "signs"] "ask_sure" (defScope s_ask_sure) f cdv A outer s H E).nox (defBody s_ask_sure) (t_ask_sure K sp_signs_that_are_sure sp_are_letters) :=
  by exact pss_cons (ps_if (pt_not (pt_val (pe_cal c_are_letters (hr.mono (by decide : 1 ≤ 5)) rfl (pa_cons (pv 1) (pa_cons (pe_callB c_len rfl T.b_len (by decide +kernel) (pa_cons (pe_fld (pv 0) rfl) (pa_nil))) (pa_nil)))))) (pss_one (ps_ret (pe_lst (pa_cons (pe_gi T.c_NOT_AS_TOLD rfl) (pa_nil))))) (pss_nil))
      (pss_cons (ps_set (i := 2) sc_ask_sure.nd rfl (Or.inl rfl) (pe_cal c_signs_that_are_sure (hr.mono (by decide : 5 ≤ 5)) rfl (pa_cons (pv 0) (pa_nil))))
      (pss_cons (ps_if (pt_cmp (pc_dnotin (hu_of hr) (pe_callTy c_tuple rfl T.b_tuple (by decide +kernel) (pa_cons (pv 1) (pa_nil))) (pv 2))) (pss_one (ps_ret (pe_lst (pa_cons (pe_gi T.c_NOT_SURE_SO rfl) (pa_nil))))) (pss_nil))
      (pss_one (ps_ret (pe_lst (pa_cons (pe_dget (hu_of hr) (pv 2) (pe_callTy c_tuple rfl T.b_tuple (by decide +kernel) (pa_cons (pv 1) (pa_nil))) (fun _ _ => rfl)) (pa_nil)))))))
/-! ### measure, level 6, slots ['game', 'outcome', 'letters', 'signs'], cells [] -/
abbrev s_measure : Stmt := topS 42
theorem sc_measure : FnScope ["game", "outcome", "letters", "signs"] ["game", "outcome", "letters"] (defScope s_measure) := ⟨rfl, rfl, rfl, by decide +kernel, rfl, by decide +kernel, by decide +kernel⟩
def t_measure (K : PySem.W.Frag) (CM : Addr) (sp_signs_that_are_sure sp_let_be_sure sp_are_letters sp_Measurement : Sp) : TS :=
  tSeq (tIfS (tOr (tNot (tB (tCall sp_are_letters [] E0 (tCons (tVar 2) (tCons (tCB (rLen' K) (tCons (tFld K (tVar 0) "owners") (tNil))) (tNil)))))) (tTest (tOp rGt' (tVar 1) (tC (.int 1))))) (tRet (tLst (tCons (tC (.int (-22))) (tNil)))) (tNext))
    (tSeq (tAsg (tCall sp_signs_that_are_sure [] E0 (tCons (tVar 0) (tNil))) (gName 3))
    (tSeq (tIfS (tB (tDNotIn (tCB (rTuple' K) (tCons (tVar 2) (tNil))) (tVar 3))) (tSeq (tDrop (tCall sp_let_be_sure [] E0 (tCons (tVar 0) (tCons (tMake CM sp_Measurement [] E0 (tCons (tVar 1) (tCons (tVar 2) (tNil)))) (tNil)))))
    (tSeq (sFld K (tVar 0) (tC (.bl true)) "measured")
    (tRet (tLst (tCons (tC (.int 1)) (tNil)))))) (tNext))
    (tSeq (tIfS (tTest (tOp rNe (tDGet (tVar 3) (tCB (rTuple' K) (tCons (tVar 2) (tNil)))) (tVar 1))) (tRet (tLst (tCons (tC (.int (-33))) (tNil)))) (tNext))
    (tRet (tLst (tCons (tC (.int 2)) (tNil)))))))
theorem d_measure {sp_signs_that_are_sure : Sp} {sp_let_be_sure : Sp} {sp_are_letters : Sp} {sp_Measurement : Sp}
    (c_signs_that_are_sure : Cal P w K mg base "signs_that_are_sure" 5 ["game"] sp_signs_that_are_sure)
    (c_let_be_sure : Cal P w K mg base "let_be_sure" 4 ["game", "measured"] sp_let_be_sure)
    (c_are_letters : Cal P w K mg base "are_letters" 1 ["row", "spins"] sp_are_letters)
    (c_Measurement : MkC P w K mg base "Measurement" CM 1 ["self", "sign", "letters"] sp_Measurement) (T : Txt K mg C CM aT aN aW) {f : Addr} {cdv : Value} {A : Around} {outer : List Env} {s : Shared} {H : Hp} {E : XK}
    (hr : Room 5 (A.deeper (envOfC "measure" (defScope s_measure) s.heap.objs.size f cdv))) :
    PSs (cxOf CX0 P w K mg base ["game", "outcome", "letters", "signs"] "measure" (defScope s_measure) f cdv A outer s H E).nox (defBody s_measure) (t_measure K CM sp_signs_that_are_sure sp_let_be_sure sp_are_letters sp_Measurement) :=
  by exact pss_cons (ps_if (PW.pt (pw_or (pt_not (pt_val (pe_cal c_are_letters (hr.mono (by decide : 1 ≤ 5)) rfl (pa_cons (pv 2) (pa_cons (pe_callB c_len rfl T.b_len (by decide +kernel) (pa_cons (pe_fld (pv 0) rfl) (pa_nil))) (pa_nil)))))) (pw_or1 (pt_cmpR o_gt (pv 1) (pe_int) (nomark _))))) (pss_one (ps_ret (pe_lst (pa_cons (pe_gi T.c_NOT_AS_TOLD rfl) (pa_nil))))) (pss_nil))
      (pss_cons (ps_set (i := 3) sc_measure.nd rfl (Or.inl rfl) (pe_cal c_signs_that_are_sure (hr.mono (by decide : 5 ≤ 5)) rfl (pa_cons (pv 0) (pa_nil))))
      (pss_cons (ps_if (pt_cmp (pc_dnotin (hu_of hr) (pe_callTy c_tuple rfl T.b_tuple (by decide +kernel) (pa_cons (pv 2) (pa_nil))) (pv 3))) (pss_cons (ps_expr (pe_cal c_let_be_sure (hr.mono (by decide : 4 ≤ 5)) rfl (pa_cons (pv 0) (pa_cons (pe_mkc c_Measurement (hr.mono (by decide : 2 ≤ 5)) rfl (pa_cons (pv 1) (pa_cons (pv 2) (pa_nil)))) (pa_nil)))))
      (pss_cons (ps_fld (pv 0) (pe_bl) rfl)
      (pss_one (ps_ret (pe_lst (pa_cons (pe_gi T.c_HAD_EVEN_CHANCE rfl) (pa_nil))))))) (pss_nil))
      (pss_cons (ps_if (pt_cmpR op_ne (pe_dget (hu_of hr) (pv 3) (pe_callTy c_tuple rfl T.b_tuple (by decide +kernel) (pa_cons (pv 2) (pa_nil))) (fun _ _ => rfl)) (pv 1) (nomark _)) (pss_one (ps_ret (pe_lst (pa_cons (pe_gi T.c_NOT_SURE_SO rfl) (pa_nil))))) (pss_nil))
      (pss_one (ps_ret (pe_lst (pa_cons (pe_gi T.c_WAS_SURE rfl) (pa_nil))))))))
/-! ### chance_of_answers, level 6, slots ['game', 'both', 'row', 'number', 'sums', 'won'], cells [] -/
abbrev s_chance_of_answers : Stmt := topS 52
theorem sc_chance_of_answers : FnScope ["game", "both", "row", "number", "sums", "won"] ["game", "both"] (defScope s_chance_of_answers) := ⟨rfl, rfl, rfl, by decide +kernel, rfl, by decide +kernel, by decide +kernel⟩
def t_chance_of_answers (K : PySem.W.Frag) (sp_number_of_bits sp_sums_at sp_are_row_and_bits sp_signs_that_are_sure sp_chance_of_number sp_place_of_row : Sp) : TS :=
  tSeq (tIfS (tNot (tB (tCall sp_are_row_and_bits [] E0 (tCons (tVar 0) (tCons (tVar 1) (tNil)))))) (tRet (tLst (tCons (tC (.int (-22))) (tNil)))) (tNext))
    (tSeq (tAsg (tSl (rSlL K) (tVar 1) (tNoPart) (tPart (tFld K (tVar 0) "persons"))) (gName 2))
    (tSeq (tAsg (tCall sp_number_of_bits [] E0 (tCons (tSl (rSlL K) (tVar 1) (tPart (tFld K (tVar 0) "persons")) (tNoPart)) (tNil))) (gName 3))
    (tSeq (tAsg (tCall sp_sums_at [] E0 (tCons (tVar 0) (tCons (tCall sp_signs_that_are_sure [] E0 (tCons (tVar 0) (tNil))) (tCons (tVar 2) (tNil))))) (gName 4))
    (tSeq (tAsg (tOp rAnd' (tOp rShr' (tOp (rIxL K) (tFld K (tVar 0) "winning") (tCall sp_place_of_row [] E0 (tCons (tVar 0) (tCons (tVar 2) (tNil))))) (tVar 3)) (tC (.int 1))) (gName 5))
    (tRet (tLst (tCons (tCall sp_chance_of_number [] E0 (tCons (tVar 4) (tCons (tVar 3) (tNil)))) (tCons (tOp rShl' (tC (.int 1)) (tFld K (tVar 0) "persons")) (tCons (tVar 5) (tNil))))))))))
theorem d_chance_of_answers {sp_number_of_bits : Sp} {sp_sums_at : Sp} {sp_are_row_and_bits : Sp} {sp_signs_that_are_sure : Sp} {sp_chance_of_number : Sp} {sp_place_of_row : Sp}
    (c_number_of_bits : Cal P w K mg base "number_of_bits" 1 ["bits"] sp_number_of_bits)
    (c_sums_at : Cal P w K mg base "sums_at" 5 ["game", "signs", "row"] sp_sums_at)
    (c_are_row_and_bits : Cal P w K mg base "are_row_and_bits" 2 ["game", "both"] sp_are_row_and_bits)
    (c_signs_that_are_sure : Cal P w K mg base "signs_that_are_sure" 5 ["game"] sp_signs_that_are_sure)
    (c_chance_of_number : Cal P w K mg base "chance_of_number" 2 ["sums", "number"] sp_chance_of_number)
    (c_place_of_row : Cal P w K mg base "place_of_row" 1 ["game", "row"] sp_place_of_row) (T : Txt K mg C CM aT aN aW) {f : Addr} {cdv : Value} {A : Around} {outer : List Env} {s : Shared} {H : Hp} {E : XK}
    (hr : Room 5 (A.deeper (envOfC "chance_of_answers" (defScope s_chance_of_answers) s.heap.objs.size f cdv))) :
    PSs (cxOf CX0 P w K mg base ["game", "both", "row", "number", "sums", "won"] "chance_of_answers" (defScope s_chance_of_answers) f cdv A outer s H E).nox (defBody s_chance_of_answers) (t_chance_of_answers K sp_number_of_bits sp_sums_at sp_are_row_and_bits sp_signs_that_are_sure sp_chance_of_number sp_place_of_row) :=
  by exact pss_cons (ps_if (pt_not (pt_val (pe_cal c_are_row_and_bits (hr.mono (by decide : 2 ≤ 5)) rfl (pa_cons (pv 0) (pa_cons (pv 1) (pa_nil)))))) (pss_one (ps_ret (pe_lst (pa_cons (pe_gi T.c_NOT_AS_TOLD rfl) (pa_nil))))) (pss_nil))
      (pss_cons (ps_set (i := 2) sc_chance_of_answers.nd rfl (Or.inl rfl) (pe_slice sl_list (pv 1) (po_none) (po_some (pe_fld (pv 0) rfl))))
      (pss_cons (ps_set (i := 3) sc_chance_of_answers.nd rfl (Or.inl rfl) (pe_cal c_number_of_bits (hr.mono (by decide : 1 ≤ 5)) rfl (pa_cons (pe_slice sl_list (pv 1) (po_some (pe_fld (pv 0) rfl)) (po_none)) (pa_nil))))
      (pss_cons (ps_set (i := 4) sc_chance_of_answers.nd rfl (Or.inl rfl) (pe_cal c_sums_at (hr.mono (by decide : 5 ≤ 5)) rfl (pa_cons (pv 0) (pa_cons (pe_cal c_signs_that_are_sure (hr.mono (by decide : 5 ≤ 5)) rfl (pa_cons (pv 0) (pa_nil))) (pa_cons (pv 2) (pa_nil))))))
      (pss_cons (ps_set (i := 5) sc_chance_of_answers.nd rfl (Or.inl rfl) (pe_op o_and (pe_op o_shr (pe_ix ix_list (pe_fld (pv 0) rfl) (pe_cal c_place_of_row (hr.mono (by decide : 1 ≤ 5)) rfl (pa_cons (pv 0) (pa_cons (pv 2) (pa_nil)))) (fun _ _ => rfl)) (pv 3)) (pe_int)))
      (pss_one (ps_ret (pe_lst (pa_cons (pe_cal c_chance_of_number (hr.mono (by decide : 2 ≤ 5)) rfl (pa_cons (pv 4) (pa_cons (pv 3) (pa_nil)))) (pa_cons (pe_op o_shl (pe_int) (pe_fld (pv 0) rfl)) (pa_cons (pv 5) (pa_nil)))))))))))
/-! ### parity_of_some, level 6, slots ['game', 'both', 'sums'], cells [] -/
abbrev s_parity_of_some : Stmt := topS 53
theorem sc_parity_of_some : FnScope ["game", "both", "sums"] ["game", "both"] (defScope s_parity_of_some) := ⟨rfl, rfl, rfl, by decide +kernel, rfl, by decide +kernel, by decide +kernel⟩
def t_parity_of_some (K : PySem.W.Frag) (sp_sums_at sp_are_row_and_bits sp_signs_that_are_sure sp_number_of_bits : Sp) : TS :=
  tSeq (tIfS (tNot (tB (tCall sp_are_row_and_bits [] E0 (tCons (tVar 0) (tCons (tVar 1) (tNil)))))) (tRet (tLst (tCons (tC (.int (-22))) (tNil)))) (tNext))
    (tSeq (tAsg (tCall sp_sums_at [] E0 (tCons (tVar 0) (tCons (tCall sp_signs_that_are_sure [] E0 (tCons (tVar 0) (tNil))) (tCons (tSl (rSlL K) (tVar 1) (tNoPart) (tPart (tFld K (tVar 0) "persons"))) (tNil))))) (gName 2))
    (tRet (tLst (tCons (tOp (rIxL K) (tVar 2) (tCall sp_number_of_bits [] E0 (tCons (tSl (rSlL K) (tVar 1) (tPart (tFld K (tVar 0) "persons")) (tNoPart)) (tNil)))) (tNil)))))
theorem d_parity_of_some {sp_sums_at : Sp} {sp_are_row_and_bits : Sp} {sp_signs_that_are_sure : Sp} {sp_number_of_bits : Sp}
    (c_sums_at : Cal P w K mg base "sums_at" 5 ["game", "signs", "row"] sp_sums_at)
    (c_are_row_and_bits : Cal P w K mg base "are_row_and_bits" 2 ["game", "both"] sp_are_row_and_bits)
    (c_signs_that_are_sure : Cal P w K mg base "signs_that_are_sure" 5 ["game"] sp_signs_that_are_sure)
    (c_number_of_bits : Cal P w K mg base "number_of_bits" 1 ["bits"] sp_number_of_bits) (T : Txt K mg C CM aT aN aW) {f : Addr} {cdv : Value} {A : Around} {outer : List Env} {s : Shared} {H : Hp} {E : XK}
    (hr : Room 5 (A.deeper (envOfC "parity_of_some" (defScope s_parity_of_some) s.heap.objs.size f cdv))) :
    PSs (cxOf CX0 P w K mg base ["game", "both", "sums"] "parity_of_some" (defScope s_parity_of_some) f cdv A outer s H E).nox (defBody s_parity_of_some) (t_parity_of_some K sp_sums_at sp_are_row_and_bits sp_signs_that_are_sure sp_number_of_bits) :=
  by exact pss_cons (ps_if (pt_not (pt_val (pe_cal c_are_row_and_bits (hr.mono (by decide : 2 ≤ 5)) rfl (pa_cons (pv 0) (pa_cons (pv 1) (pa_nil)))))) (pss_one (ps_ret (pe_lst (pa_cons (pe_gi T.c_NOT_AS_TOLD rfl) (pa_nil))))) (pss_nil))
      (pss_cons (ps_set (i := 2) sc_parity_of_some.nd rfl (Or.inl rfl) (pe_cal c_sums_at (hr.mono (by decide : 5 ≤ 5)) rfl (pa_cons (pv 0) (pa_cons (pe_cal c_signs_that_are_sure (hr.mono (by decide : 5 ≤ 5)) rfl (pa_cons (pv 0) (pa_nil))) (pa_cons (pe_slice sl_list (pv 1) (po_none) (po_some (pe_fld (pv 0) rfl))) (pa_nil))))))
      (pss_one (ps_ret (pe_lst (pa_cons (pe_ix ix_list (pv 2) (pe_cal c_number_of_bits (hr.mono (by decide : 1 ≤ 5)) rfl (pa_cons (pe_slice sl_list (pv 1) (po_some (pe_fld (pv 0) rfl)) (po_none)) (pa_nil))) (fun _ _ => rfl)) (pa_nil))))))
/-! ### what_spins_win, level 6, slots ['game', 'whole', 'signs', 'won', 'place', 'weight', 'sums'], cells [] -/
abbrev s_what_spins_win : Stmt := topS 54
theorem sc_what_spins_win : FnScope ["game", "whole", "signs", "won", "place", "weight", "sums"] ["game"] (defScope s_what_spins_win) := ⟨rfl, rfl, rfl, by decide +kernel, rfl, by decide +kernel, by decide +kernel⟩
def t_what_spins_win (K : PySem.W.Frag) (sp_signs_that_are_sure sp_sums_at sp_row_at sp_chance_to_win sp_best_plan : Sp) : TS :=
  tSeq (tAsg (tOp rShl' (tC (.int 1)) (tFld K (tVar 0) "persons")) (gName 1))
    (tSeq (tAsg (tCall sp_signs_that_are_sure [] E0 (tCons (tVar 0) (tNil))) (gName 2))
    (tSeq (tAsg (tC (.int 0)) (gName 3))
    (tSeq (tFor (iEnum K (tCons (tFld K (tVar 0) "weights") (tNil))) (gTup K 2 (gCons (gName 4) (gCons (gName 5) (gNil)))) (tSeq (tAsg (tCall sp_sums_at [] E0 (tCons (tVar 0) (tCons (tVar 2) (tCons (tCall sp_row_at [] E0 (tCons (tVar 0) (tCons (tVar 4) (tNil)))) (tNil))))) (gName 6))
    (tAug 3 (tOp rMul' (tVar 5) (tCall sp_chance_to_win [] E0 (tCons (tVar 6) (tCons (tOp (rIxL K) (tFld K (tVar 0) "winning") (tVar 4)) (tNil))))) (ipI fun i j => i + j))))
    (tRet (tLst (tCons (tVar 3) (tCons (tOp rMul' (tCB (rSum K) (tCons (tFld K (tVar 0) "weights") (tNil))) (tVar 1)) (tCons (tOp rMul' (tOp (rIxL K) (tCall sp_best_plan [] E0 (tCons (tVar 0) (tNil))) (tC (.int 0))) (tVar 1)) (tNil)))))))))
theorem d_what_spins_win {sp_signs_that_are_sure : Sp} {sp_sums_at : Sp} {sp_row_at : Sp} {sp_chance_to_win : Sp} {sp_best_plan : Sp}
    (c_signs_that_are_sure : Cal P w K mg base "signs_that_are_sure" 5 ["game"] sp_signs_that_are_sure)
    (c_sums_at : Cal P w K mg base "sums_at" 5 ["game", "signs", "row"] sp_sums_at)
    (c_row_at : Cal P w K mg base "row_at" 1 ["game", "place"] sp_row_at)
    (c_chance_to_win : Cal P w K mg base "chance_to_win" 3 ["sums", "winning"] sp_chance_to_win)
    (c_best_plan : Cal P w K mg base "best_plan" 4 ["game"] sp_best_plan) (T : Txt K mg C CM aT aN aW) {f : Addr} {cdv : Value} {A : Around} {outer : List Env} {s : Shared} {H : Hp} {E : XK}
    (hr : Room 5 (A.deeper (envOfC "what_spins_win" (defScope s_what_spins_win) s.heap.objs.size f cdv))) :
    PSs (cxOf CX0 P w K mg base ["game", "whole", "signs", "won", "place", "weight", "sums"] "what_spins_win" (defScope s_what_spins_win) f cdv A outer s H E).nox (defBody s_what_spins_win) (t_what_spins_win K sp_signs_that_are_sure sp_sums_at sp_row_at sp_chance_to_win sp_best_plan) :=
  by exact pss_cons (ps_set (i := 1) sc_what_spins_win.nd rfl (Or.inl rfl) (pe_op o_shl (pe_int) (pe_fld (pv 0) rfl)))
      (pss_cons (ps_set (i := 2) sc_what_spins_win.nd rfl (Or.inl rfl) (pe_cal c_signs_that_are_sure (hr.mono (by decide : 5 ≤ 5)) rfl (pa_cons (pv 0) (pa_nil))))
      (pss_cons (ps_set (i := 3) sc_what_spins_win.nd rfl (Or.inl rfl) (pe_int))
      (pss_cons (ps_for PassesOwn.never rfl (pi_enum (by rfl) T.b_enumerate (pa_cons (pe_fld (pv 0) rfl) (pa_nil))) (pg_tup rfl (pgs_cons (pg_name (i := 4) sc_what_spins_win.nd rfl (Or.inl rfl)) (pgs_cons (pg_name (i := 5) sc_what_spins_win.nd rfl (Or.inl rfl)) (pgs_nil)))) (pss_cons (ps_set (i := 6) sc_what_spins_win.nd rfl (Or.inl rfl) (pe_cal c_sums_at (hr.mono (by decide : 5 ≤ 5)) rfl (pa_cons (pv 0) (pa_cons (pv 2) (pa_cons (pe_cal c_row_at (hr.mono (by decide : 1 ≤ 5)) rfl (pa_cons (pv 0) (pa_cons (pv 4) (pa_nil)))) (pa_nil))))))
      (pss_one (ps_aug (i := 3) sc_what_spins_win.nd rfl (Or.inl rfl) (pe_op o_mul (pv 5) (pe_cal c_chance_to_win (hr.mono (by decide : 3 ≤ 5)) rfl (pa_cons (pv 6) (pa_cons (pe_ix ix_list (pe_fld (pv 0) rfl) (pv 4) (fun _ _ => rfl)) (pa_nil))))) ip_add))))
      (pss_one (ps_ret (pe_lst (pa_cons (pv 3) (pa_cons (pe_op o_mul (pe_callB (cr_sum rfl) rfl T.b_sum (by decide +kernel) (pa_cons (pe_fld (pv 0) rfl) (pa_nil))) (pv 1)) (pa_cons (pe_op o_mul (pe_ix ix_list (pe_cal c_best_plan (hr.mono (by decide : 4 ≤ 5)) rfl (pa_cons (pv 0) (pa_nil))) (pe_int) (fun _ _ => rfl)) (pv 1)) (pa_nil))))))))))
/-! ### place_spins, level 6, slots ['game', 'row'], cells [] -/
abbrev s_place_spins : Stmt := topS 63
theorem sc_place_spins : FnScope ["game", "row"] ["game", "row"] (defScope s_place_spins) := ⟨rfl, rfl, rfl, by decide +kernel, rfl, by decide +kernel, by decide +kernel⟩
def t_place_spins (K : PySem.W.Frag) (sp_set_spins sp_are_owners : Sp) : TS :=
  tSeq (tIfS (tNot (tB (tCall sp_are_owners [] E0 (tCons (tVar 0) (tCons (tVar 1) (tNil)))))) (tRet (tLst (tCons (tC (.int (-22))) (tNil)))) (tNext))
    (tSeq (tDrop (tCall sp_set_spins [] E0 (tCons (tVar 0) (tCons (tVar 1) (tNil)))))
    (tRet (tLst (tCons (tCB (rLen' K) (tCons (tFld K (tVar 0) "owners") (tNil))) (tNil)))))
theorem d_place_spins {sp_set_spins : Sp} {sp_are_owners : Sp}
    (c_set_spins : Cal P w K mg base "set_spins" 5 ["game", "owners"] sp_set_spins)
    (c_are_owners : Cal P w K mg base "are_owners" 1 ["game", "row"] sp_are_owners) (T : Txt K mg C CM aT aN aW) {f : Addr} {cdv : Value} {A : Around} {outer : List Env} {s : Shared} {H : Hp} {E : XK}
    (hr : Room 5 (A.deeper (envOfC "place_spins" (defScope s_place_spins) s.heap.objs.size f cdv))) :
    PSs (cxOf CX0 P w K mg base ["game", "row"] "place_spins" (defScope s_place_spins) f cdv A outer s H E).nox (defBody s_place_spins) (t_place_spins K sp_set_spins sp_are_owners) :=
  by exact pss_cons (ps_if (pt_not (pt_val (pe_cal c_are_owners (hr.mono (by decide : 1 ≤ 5)) rfl (pa_cons (pv 0) (pa_cons (pv 1) (pa_nil)))))) (pss_one (ps_ret (pe_lst (pa_cons (pe_gi T.c_NOT_AS_TOLD rfl) (pa_nil))))) (pss_nil))
      (pss_cons (ps_expr (pe_cal c_set_spins (hr.mono (by decide : 5 ≤ 5)) rfl (pa_cons (pv 0) (pa_cons (pv 1) (pa_nil)))))
      (pss_one (ps_ret (pe_lst (pa_cons (pe_callB c_len rfl T.b_len (by decide +kernel) (pa_cons (pe_fld (pv 0) rfl) (pa_nil))) (pa_nil))))))
/-! ### begin, level 6, slots ['game', 'persons', 'questions', 'rows'], cells [] -/
abbrev s_begin : Stmt := topS 69
theorem sc_begin : FnScope ["game", "persons", "questions", "rows"] ["game", "persons", "questions"] (defScope s_begin) := ⟨rfl, rfl, rfl, by decide +kernel, rfl, by decide +kernel, by decide +kernel⟩
def t_begin (K : PySem.W.Frag) (sp_count_rows sp_set_spins sp_may_begin : Sp) : TS :=
  tSeq (tIfS (tNot (tB (tCall sp_may_begin [] E0 (tCons (tVar 1) (tCons (tVar 2) (tNil)))))) (tRet (tLst (tCons (tC (.int (-22))) (tNil)))) (tNext))
    (tSeq (tAsg (tCall sp_count_rows [] E0 (tCons (tVar 1) (tCons (tVar 2) (tNil)))) (gName 3))
    (tSeq (sFld K (tVar 0) (tC (.bl true)) "begun")
    (tSeq (sFld K (tVar 0) (tVar 1) "persons")
    (tSeq (sFld K (tVar 0) (tVar 2) "questions")
    (tSeq (sFld K (tVar 0) (tOp rRep (tLst (tCons (tC (.int 1)) (tNil))) (tVar 3)) "weights")
    (tSeq (sFld K (tVar 0) (tOp rRep (tLst (tCons (tC (.int 0)) (tNil))) (tVar 3)) "winning")
    (tSeq (tDrop (tCall sp_set_spins [] E0 (tCons (tVar 0) (tCons (tLst (tNil)) (tNil)))))
    (tRet (tLst (tCons (tC (.int 0)) (tNil)))))))))))
theorem d_begin {sp_count_rows : Sp} {sp_set_spins : Sp} {sp_may_begin : Sp}
    (c_count_rows : Cal P w K mg base "count_rows" 1 ["persons", "questions"] sp_count_rows)
    (c_set_spins : Cal P w K mg base "set_spins" 5 ["game", "owners"] sp_set_spins)
    (c_may_begin : Cal P w K mg base "may_begin" 1 ["persons", "questions"] sp_may_begin) (T : Txt K mg C CM aT aN aW) {f : Addr} {cdv : Value} {A : Around} {outer : List Env} {s : Shared} {H : Hp} {E : XK}
    (hr : Room 5 (A.deeper (envOfC "begin" (defScope s_begin) s.heap.objs.size f cdv))) :
    PSs (cxOf CX0 P w K mg base ["game", "persons", "questions", "rows"] "begin" (defScope s_begin) f cdv A outer s H E).nox (defBody s_begin) (t_begin K sp_count_rows sp_set_spins sp_may_begin) :=
  by exact pss_cons (ps_if (pt_not (pt_val (pe_cal c_may_begin (hr.mono (by decide : 1 ≤ 5)) rfl (pa_cons (pv 1) (pa_cons (pv 2) (pa_nil)))))) (pss_one (ps_ret (pe_lst (pa_cons (pe_gi T.c_NOT_AS_TOLD rfl) (pa_nil))))) (pss_nil))
      (pss_cons (ps_set (i := 3) sc_begin.nd rfl (Or.inl rfl) (pe_cal c_count_rows (hr.mono (by decide : 1 ≤ 5)) rfl (pa_cons (pv 1) (pa_cons (pv 2) (pa_nil)))))
      (pss_cons (ps_fld (pv 0) (pe_bl) rfl)
      (pss_cons (ps_fld (pv 0) (pv 1) rfl)
      (pss_cons (ps_fld (pv 0) (pv 2) rfl)
      (pss_cons (ps_fld (pv 0) (pe_op op_rep (pe_lst (pa_cons (pe_int) (pa_nil))) (pv 3)) rfl)
      (pss_cons (ps_fld (pv 0) (pe_op op_rep (pe_lst (pa_cons (pe_int) (pa_nil))) (pv 3)) rfl)
      (pss_cons (ps_expr (pe_cal c_set_spins (hr.mono (by decide : 5 ≤ 5)) rfl (pa_cons (pv 0) (pa_cons (pe_lst (pa_nil)) (pa_nil)))))
      (pss_one (ps_ret (pe_lst (pa_cons (pe_int) (pa_nil))))))))))))
/-! ### answer_of_spins, level 7, slots ['game', 'kind', 'given'], cells [] -/
abbrev s_answer_of_spins : Stmt := topS 97
theorem sc_answer_of_spins : FnScope ["game", "kind", "given"] ["game", "kind", "given"] (defScope s_answer_of_spins) := ⟨rfl, rfl, rfl, by decide +kernel, rfl, by decide +kernel, by decide +kernel⟩
def t_answer_of_spins (K : PySem.W.Frag) (sp_measure sp_place_spins sp_link_spins sp_refresh sp_ask_sure : Sp) : TS :=
  tSeq (tIfS (tTest (tOp rEq (tVar 1) (tC (.int 7)))) (tRet (tCall sp_place_spins [] E0 (tCons (tVar 0) (tCons (tSl (rSlL K) (tVar 2) (tPart (tC (.int 1))) (tNoPart)) (tNil))))) (tNext))
    (tSeq (tIfS (tTest (tOp rEq (tVar 1) (tC (.int 8)))) (tRet (tCall sp_link_spins [] E0 (tCons (tVar 0) (tCons (tOp (rIxL K) (tVar 2) (tC (.int 0))) (tCons (tOp (rIxL K) (tVar 2) (tC (.int 1))) (tNil)))))) (tNext))
    (tSeq (tIfS (tTest (tOp rEq (tVar 1) (tC (.int 9)))) (tRet (tCall sp_refresh [] E0 (tCons (tVar 0) (tNil)))) (tNext))
    (tSeq (tIfS (tTest (tOp rEq (tVar 1) (tC (.int 10)))) (tRet (tCall sp_ask_sure [] E0 (tCons (tVar 0) (tCons (tSl (rSlL K) (tVar 2) (tPart (tC (.int 1))) (tNoPart)) (tNil))))) (tNext))
    (tRet (tCall sp_measure [] E0 (tCons (tVar 0) (tCons (tOp (rIxL K) (tVar 2) (tC (.int 0))) (tCons (tSl (rSlL K) (tVar 2) (tPart (tC (.int 2))) (tNoPart)) (tNil)))))))))
theorem d_answer_of_spins {sp_measure : Sp} {sp_place_spins : Sp} {sp_link_spins : Sp} {sp_refresh : Sp} {sp_ask_sure : Sp}
    (c_measure : Cal P w K mg base "measure" 6 ["game", "outcome", "letters"] sp_measure)
    (c_place_spins : Cal P w K mg base "place_spins" 6 ["game", "row"] sp_place_spins)
    (c_link_spins : Cal P w K mg base "link_spins" 5 ["game", "i", "j"] sp_link_spins)
    (c_refresh : Cal P w K mg base "refresh" 5 ["game"] sp_refresh)
    (c_ask_sure : Cal P w K mg base "ask_sure" 6 ["game", "letters"] sp_ask_sure) (T : Txt K mg C CM aT aN aW) {f : Addr} {cdv : Value} {A : Around} {outer : List Env} {s : Shared} {H : Hp} {E : XK}
    (hr : Room 6 (A.deeper (envOfC "answer_of_spins" (defScope s_answer_of_spins) s.heap.objs.size f cdv))) :
    PSs (cxOf CX0 P w K mg base ["game", "kind", "given"] "answer_of_spins" (defScope s_answer_of_spins) f cdv A outer s H E).nox (defBody s_answer_of_spins) (t_answer_of_spins K sp_measure sp_place_spins sp_link_spins sp_refresh sp_ask_sure) :=
  by exact pss_cons (ps_if (pt_cmpR op_eq (pv 1) (pe_gi T.c_SPINS rfl) (nomark _)) (pss_one (ps_ret (pe_cal c_place_spins (hr.mono (by decide : 6 ≤ 6)) rfl (pa_cons (pv 0) (pa_cons (pe_slice sl_list (pv 2) (po_some (pe_int)) (po_none)) (pa_nil)))))) (pss_nil))
      (pss_cons (ps_if (pt_cmpR op_eq (pv 1) (pe_gi T.c_LINK rfl) (nomark _)) (pss_one (ps_ret (pe_cal c_link_spins (hr.mono (by decide : 5 ≤ 6)) rfl (pa_cons (pv 0) (pa_cons (pe_ix ix_list (pv 2) (pe_int) (fun _ _ => rfl)) (pa_cons (pe_ix ix_list (pv 2) (pe_int) (fun _ _ => rfl)) (pa_nil))))))) (pss_nil))
      (pss_cons (ps_if (pt_cmpR op_eq (pv 1) (pe_gi T.c_FRESH rfl) (nomark _)) (pss_one (ps_ret (pe_cal c_refresh (hr.mono (by decide : 5 ≤ 6)) rfl (pa_cons (pv 0) (pa_nil))))) (pss_nil))
      (pss_cons (ps_if (pt_cmpR op_eq (pv 1) (pe_gi T.c_SURE rfl) (nomark _)) (pss_one (ps_ret (pe_cal c_ask_sure (hr.mono (by decide : 6 ≤ 6)) rfl (pa_cons (pv 0) (pa_cons (pe_slice sl_list (pv 2) (po_some (pe_int)) (po_none)) (pa_nil)))))) (pss_nil))
      (pss_one (ps_ret (pe_cal c_measure (hr.mono (by decide : 6 ≤ 6)) rfl (pa_cons (pv 0) (pa_cons (pe_ix ix_list (pv 2) (pe_int) (fun _ _ => rfl)) (pa_cons (pe_slice sl_list (pv 2) (po_some (pe_int)) (po_none)) (pa_nil))))))))))
/-! ### answer_of_persons, level 7, slots ['game', 'kind', 'given'], cells [] -/
abbrev s_answer_of_persons : Stmt := topS 98
theorem sc_answer_of_persons : FnScope ["game", "kind", "given"] ["game", "kind", "given"] (defScope s_answer_of_persons) := ⟨rfl, rfl, rfl, by decide +kernel, rfl, by decide +kernel, by decide +kernel⟩
def t_answer_of_persons (K : PySem.W.Frag) (sp_show_state sp_set_own sp_chance_of_answers sp_parity_of_some sp_what_spins_win sp_show_row : Sp) : TS :=
  tSeq (tIfS (tTest (tOp rEq (tVar 1) (tC (.int 12)))) (tRet (tCall sp_set_own [] E0 (tCons (tVar 0) (tCons (tOp (rIxL K) (tVar 2) (tC (.int 0))) (tCons (tOp (rIxL K) (tVar 2) (tC (.int 1))) (tCons (tOp (rIxL K) (tVar 2) (tC (.int 2))) (tCons (tSl (rSlL K) (tVar 2) (tPart (tC (.int 4))) (tNoPart)) (tNil)))))))) (tNext))
    (tSeq (tIfS (tTest (tOp rEq (tVar 1) (tC (.int 13)))) (tRet (tCall sp_chance_of_answers [] E0 (tCons (tVar 0) (tCons (tSl (rSlL K) (tVar 2) (tPart (tC (.int 1))) (tNoPart)) (tNil))))) (tNext))
    (tSeq (tIfS (tTest (tOp rEq (tVar 1) (tC (.int 14)))) (tRet (tCall sp_parity_of_some [] E0 (tCons (tVar 0) (tCons (tSl (rSlL K) (tVar 2) (tPart (tC (.int 1))) (tNoPart)) (tNil))))) (tNext))
    (tSeq (tIfS (tTest (tOp rEq (tVar 1) (tC (.int 15)))) (tRet (tCall sp_what_spins_win [] E0 (tCons (tVar 0) (tNil)))) (tNext))
    (tSeq (tIfS (tTest (tOp rEq (tVar 1) (tC (.int 16)))) (tRet (tCall sp_show_row [] E0 (tCons (tVar 0) (tCons (tSl (rSlL K) (tVar 2) (tPart (tC (.int 1))) (tNoPart)) (tNil))))) (tNext))
    (tRet (tCall sp_show_state [] E0 (tCons (tVar 0) (tNil))))))))
theorem d_answer_of_persons {sp_show_state : Sp} {sp_set_own : Sp} {sp_chance_of_answers : Sp} {sp_parity_of_some : Sp} {sp_what_spins_win : Sp} {sp_show_row : Sp}
    (c_show_state : Cal P w K mg base "show_state" 1 ["game"] sp_show_state)
    (c_set_own : Cal P w K mg base "set_own" 3 ["game", "person", "question", "sign", "letters"] sp_set_own)
    (c_chance_of_answers : Cal P w K mg base "chance_of_answers" 6 ["game", "both"] sp_chance_of_answers)
    (c_parity_of_some : Cal P w K mg base "parity_of_some" 6 ["game", "both"] sp_parity_of_some)
    (c_what_spins_win : Cal P w K mg base "what_spins_win" 6 ["game"] sp_what_spins_win)
    (c_show_row : Cal P w K mg base "show_row" 2 ["game", "row"] sp_show_row) (T : Txt K mg C CM aT aN aW) {f : Addr} {cdv : Value} {A : Around} {outer : List Env} {s : Shared} {H : Hp} {E : XK}
    (hr : Room 6 (A.deeper (envOfC "answer_of_persons" (defScope s_answer_of_persons) s.heap.objs.size f cdv))) :
    PSs (cxOf CX0 P w K mg base ["game", "kind", "given"] "answer_of_persons" (defScope s_answer_of_persons) f cdv A outer s H E).nox (defBody s_answer_of_persons) (t_answer_of_persons K sp_show_state sp_set_own sp_chance_of_answers sp_parity_of_some sp_what_spins_win sp_show_row) :=
  by exact pss_cons (ps_if (pt_cmpR op_eq (pv 1) (pe_gi T.c_MINE rfl) (nomark _)) (pss_one (ps_ret (pe_cal c_set_own (hr.mono (by decide : 3 ≤ 6)) rfl (pa_cons (pv 0) (pa_cons (pe_ix ix_list (pv 2) (pe_int) (fun _ _ => rfl)) (pa_cons (pe_ix ix_list (pv 2) (pe_int) (fun _ _ => rfl)) (pa_cons (pe_ix ix_list (pv 2) (pe_int) (fun _ _ => rfl)) (pa_cons (pe_slice sl_list (pv 2) (po_some (pe_int)) (po_none)) (pa_nil))))))))) (pss_nil))
      (pss_cons (ps_if (pt_cmpR op_eq (pv 1) (pe_gi T.c_CHANCE rfl) (nomark _)) (pss_one (ps_ret (pe_cal c_chance_of_answers (hr.mono (by decide : 6 ≤ 6)) rfl (pa_cons (pv 0) (pa_cons (pe_slice sl_list (pv 2) (po_some (pe_int)) (po_none)) (pa_nil)))))) (pss_nil))
      (pss_cons (ps_if (pt_cmpR op_eq (pv 1) (pe_gi T.c_PARITY rfl) (nomark _)) (pss_one (ps_ret (pe_cal c_parity_of_some (hr.mono (by decide : 6 ≤ 6)) rfl (pa_cons (pv 0) (pa_cons (pe_slice sl_list (pv 2) (po_some (pe_int)) (po_none)) (pa_nil)))))) (pss_nil))
      (pss_cons (ps_if (pt_cmpR op_eq (pv 1) (pe_gi T.c_VALUE rfl) (nomark _)) (pss_one (ps_ret (pe_cal c_what_spins_win (hr.mono (by decide : 6 ≤ 6)) rfl (pa_cons (pv 0) (pa_nil))))) (pss_nil))
      (pss_cons (ps_if (pt_cmpR op_eq (pv 1) (pe_gi T.c_ROW rfl) (nomark _)) (pss_one (ps_ret (pe_cal c_show_row (hr.mono (by decide : 2 ≤ 6)) rfl (pa_cons (pv 0) (pa_cons (pe_slice sl_list (pv 2) (po_some (pe_int)) (po_none)) (pa_nil)))))) (pss_nil))
      (pss_one (ps_ret (pe_cal c_show_state (hr.mono (by decide : 1 ≤ 6)) rfl (pa_cons (pv 0) (pa_nil)))))))))
/-! ### answer_call, level 8, slots ['game', 'kind', 'given'], cells [] -/
abbrev s_answer_call : Stmt := topS 95
theorem sc_answer_call : FnScope ["game", "kind", "given"] ["game", "kind", "given"] (defScope s_answer_call) := ⟨rfl, rfl, rfl, by decide +kernel, rfl, by decide +kernel, by decide +kernel⟩
def t_answer_call (K : PySem.W.Frag) (sp_answer_of_persons sp_begin sp_answer_of_plans sp_answer_of_spins : Sp) : TS :=
  tSeq (tIfS (tTest (tOp rEq (tVar 1) (tC (.int 0)))) (tRet (tCall sp_begin [] E0 (tCons (tVar 0) (tCons (tOp (rIxL K) (tVar 2) (tC (.int 0))) (tCons (tOp (rIxL K) (tVar 2) (tC (.int 1))) (tNil)))))) (tNext))
    (tSeq (tIfS (tNot (tB (tFld K (tVar 0) "begun"))) (tRet (tLst (tCons (tC (.int (-11))) (tNil)))) (tNext))
    (tSeq (tIfS (tTest (tOp rLe' (tVar 1) (tC (.int 6)))) (tRet (tCall sp_answer_of_plans [] E0 (tCons (tVar 0) (tCons (tVar 1) (tCons (tVar 2) (tNil)))))) (tNext))
    (tSeq (tIfS (tTest (tOp rLe' (tVar 1) (tC (.int 11)))) (tRet (tCall sp_answer_of_spins [] E0 (tCons (tVar 0) (tCons (tVar 1) (tCons (tVar 2) (tNil)))))) (tNext))
    (tRet (tCall sp_answer_of_persons [] E0 (tCons (tVar 0) (tCons (tVar 1) (tCons (tVar 2) (tNil)))))))))
theorem d_answer_call {sp_answer_of_persons : Sp} {sp_begin : Sp} {sp_answer_of_plans : Sp} {sp_answer_of_spins : Sp}
    (c_answer_of_persons : Cal P w K mg base "answer_of_persons" 7 ["game", "kind", "given"] sp_answer_of_persons)
    (c_begin : Cal P w K mg base "begin" 6 ["game", "persons", "questions"] sp_begin)
    (c_answer_of_plans : Cal P w K mg base "answer_of_plans" 5 ["game", "kind", "given"] sp_answer_of_plans)
    (c_answer_of_spins : Cal P w K mg base "answer_of_spins" 7 ["game", "kind", "given"] sp_answer_of_spins) (T : Txt K mg C CM aT aN aW) {f : Addr} {cdv : Value} {A : Around} {outer : List Env} {s : Shared} {H : Hp} {E : XK}
    (hr : Room 7 (A.deeper (envOfC "answer_call" (defScope s_answer_call) s.heap.objs.size f cdv))) :
    PSs (cxOf CX0 P w K mg base ["game", "kind", "given"] "answer_call" (defScope s_answer_call) f cdv A outer s H E).nox (defBody s_answer_call) (t_answer_call K sp_answer_of_persons sp_begin sp_answer_of_plans sp_answer_of_spins) :=
  by exact pss_cons (ps_if (pt_cmpR op_eq (pv 1) (pe_gi T.c_BEGIN rfl) (nomark _)) (pss_one (ps_ret (pe_cal c_begin (hr.mono (by decide : 6 ≤ 7)) rfl (pa_cons (pv 0) (pa_cons (pe_ix ix_list (pv 2) (pe_int) (fun _ _ => rfl)) (pa_cons (pe_ix ix_list (pv 2) (pe_int) (fun _ _ => rfl)) (pa_nil))))))) (pss_nil))
      (pss_cons (ps_if (pt_not (pt_val (pe_fld (pv 0) rfl))) (pss_one (ps_ret (pe_lst (pa_cons (pe_gi T.c_NOT_BEGUN rfl) (pa_nil))))) (pss_nil))
      (pss_cons (ps_if (pt_cmpR o_le (pv 1) (pe_gi T.c_PLANS rfl) (nomark _)) (pss_one (ps_ret (pe_cal c_answer_of_plans (hr.mono (by decide : 5 ≤ 7)) rfl (pa_cons (pv 0) (pa_cons (pv 1) (pa_cons (pv 2) (pa_nil))))))) (pss_nil))
      (pss_cons (ps_if (pt_cmpR o_le (pv 1) (pe_gi T.c_MEASURE rfl) (nomark _)) (pss_one (ps_ret (pe_cal c_answer_of_spins (hr.mono (by decide : 7 ≤ 7)) rfl (pa_cons (pv 0) (pa_cons (pv 1) (pa_cons (pv 2) (pa_nil))))))) (pss_nil))
      (pss_one (ps_ret (pe_cal c_answer_of_persons (hr.mono (by decide : 7 ≤ 7)) rfl (pa_cons (pv 0) (pa_cons (pv 1) (pa_cons (pv 2) (pa_nil))))))))))
/-! ### answers, level 9, slots ['calls', 'game', 'told', 'start', 'end', 'answered'], cells [] -/
abbrev s_answers : Stmt := topS 93
theorem sc_answers : FnScope ["calls", "game", "told", "start", "end", "answered"] ["calls"] (defScope s_answers) := ⟨rfl, rfl, rfl, by decide +kernel, rfl, by decide +kernel, by decide +kernel⟩
def t_answers (K : PySem.W.Frag) (C : Addr) (sp_Game sp_end_of_call sp_answer_call : Sp) : TS :=
  tSeq (tAsg (tMake C sp_Game [] E0 tNil) (gName 1))
    (tSeq (tAsg (tLst (tNil)) (gName 2))
    (tSeq (tAsg (tC (.int 0)) (gName 3))
    (tSeq (tWhile (tTest (tOp rLt' (tVar 3) (tCB (rLen' K) (tCons (tVar 0) (tNil))))) (tSeq (tAsg (tCall sp_end_of_call [] E0 (tCons (tVar 0) (tCons (tVar 3) (tNil)))) (gName 4))
    (tSeq (tLock (tAsg (tCall sp_answer_call [] E0 (tCons (tVar 1) (tCons (tOp (rIxL K) (tVar 0) (tVar 3)) (tCons (tSl (rSlL K) (tVar 0) (tPart (tOp rAdd' (tVar 3) (tC (.int 1)))) (tPart (tVar 4))) (tNil))))) (gName 5)))
    (tSeq (tDrop (tBM K "list" rAppend (tVar 2) (tCons (tCB (rLen' K) (tCons (tVar 5) (tNil))) (tNil))))
    (tSeq (tDrop (tBM K "list" rExtend (tVar 2) (tCons (tVar 5) (tNil))))
    (tAsg (tVar 4) (gName 3)))))))
    (tRet (tVar 2)))))
theorem d_answers {sp_Game : Sp} {sp_end_of_call : Sp} {sp_answer_call : Sp}
    (c_Game : MkC P w K mg base "Game" C 1 ["self"] sp_Game)
    (c_end_of_call : Cal P w K mg base "end_of_call" 1 ["calls", "start"] sp_end_of_call)
    (c_answer_call : Cal P w K mg base "answer_call" 8 ["game", "kind", "given"] sp_answer_call) (T : Txt K mg C CM aT aN aW) {f : Addr} {cdv : Value} {A : Around} {outer : List Env} {s : Shared} {H : Hp} {E : XK}
    (hr : Room 8 (A.deeper (envOfC "answers" (defScope s_answers) s.heap.objs.size f cdv))) :
    PSs (cxOf CX0 P w K mg base ["calls", "game", "told", "start", "end", "answered"] "answers" (defScope s_answers) f cdv A outer s H E).nox (defBody s_answers) (t_answers K C sp_Game sp_end_of_call sp_answer_call) :=
  by exact pss_cons (ps_set (i := 1) sc_answers.nd rfl (Or.inl rfl) (pe_mkc0 c_Game (hr.mono (by decide : 2 ≤ 8)) rfl))
      (pss_cons (ps_set (i := 2) sc_answers.nd rfl (Or.inl rfl) (pe_lst (pa_nil)))
      (pss_cons (ps_set (i := 3) sc_answers.nd rfl (Or.inl rfl) (pe_int))
      (pss_cons (ps_while PassesOwn.never (pt_cmpR o_lt (pv 3) (pe_callB c_len rfl T.b_len (by decide +kernel) (pa_cons (pv 0) (pa_nil))) (nomark _)) (pss_cons (ps_set (i := 4) sc_answers.nd rfl (Or.inl rfl) (pe_cal c_end_of_call (hr.mono (by decide : 1 ≤ 8)) rfl (pa_cons (pv 0) (pa_cons (pv 3) (pa_nil)))))
      (pss_cons (ps_lock (ps_set (i := 5) sc_answers.nd rfl (Or.inl rfl) (pe_cal c_answer_call (hr.mono (by decide : 8 ≤ 8)) rfl (pa_cons (pv 1) (pa_cons (pe_ix ix_list (pv 0) (pv 3) (fun _ _ => rfl)) (pa_cons (pe_slice sl_list (pv 0) (po_some (pe_op o_add (pv 3) (pe_int))) (po_some (pv 4))) (pa_nil)))))))
      (pss_cons (ps_expr (pe_bm PySem.F.plainAttrs_list PySem.F.slot_list_append PySem.F.type_list_append mt_append (pv 2) (pa_cons (pe_callB c_len rfl T.b_len (by decide +kernel) (pa_cons (pv 5) (pa_nil))) (pa_nil))))
      (pss_cons (ps_expr (pe_bm PySem.F.plainAttrs_list PySem.F.slot_list_extend PySem.F.type_list_extend mt_extend (pv 2) (pa_cons (pv 5) (pa_nil))))
      (pss_one (ps_set (i := 3) sc_answers.nd rfl (Or.inl rfl) (pv 4))))))))
      (pss_one (ps_ret (pv 2))))))
end
end My
set_option Elab.async false
set_option linter.all false
set_option maxRecDepth 100000
set_option maxHeartbeats 4000000
namespace My
open PySem PySem.Spec PyProof.Rows L2 Evl
open Su173 (Spin)
open Mir (G)
/-! ### values -/
abbrev nv (n : Nat) : V := .int (n : Int)
def iv (l : List Nat) : List V := l.map nv
theorem iv_len (l : List Nat) : (iv l).length = l.length := List.length_map ..
theorem iv_get {l : List Nat} {i : Nat} {x : V} (h : (iv l)[i]? = some x) : ∃ n, l[i]? = some n ∧ x = nv n := by
  unfold iv at h
  rw [List.getElem?_map] at h
  cases e : l[i]? with
  | none => rw [e] at h; cases h
  | some n => rw [e] at h; exact ⟨n, rfl, (Option.some.inj h).symm⟩
theorem iv_at {l : List Nat} {i n : Nat} (h : l[i]? = some n) : (iv l)[i]? = some (nv n) := by
  unfold iv
  rw [List.getElem?_map, h]
  rfl
theorem iv_app (a b : List Nat) : iv (a ++ b) = iv a ++ iv b := List.map_append ..
theorem iv_set (l : List Nat) (i n : Nat) : (iv l).set i (nv n) = iv (l.set i n) := by
  unfold iv
  rw [List.map_set]
theorem iv_ints (l : List Nat) : iv l = (l.map fun (n : Nat) => (n : Int)).map V.int := by
  unfold iv
  rw [List.map_map]
  rfl
theorem sum_cast (l : List Nat) : (l.map fun (n : Nat) => (n : Int)).sum = ((l.sum : Nat) : Int) := by
  induction l with
  | nil => rfl
  | cons a r ih => rw [List.map_cons, List.sum_cons, List.sum_cons, ih]; omega
theorem take_more {α : Type} : ∀ {l : List α} {i : Nat} {x : α}, l[i]? = some x → l.take (i + 1) = l.take i ++ [x]
  | [], i, x, h => by simp at h
  | a :: l, 0, x, h => by
    have e : a = x := Option.some.inj h
    subst e
    rfl
  | a :: l, i + 1, x, h => by
    have ih := take_more (l := l) (i := i) (x := x) h
    show a :: l.take (i + 1) = a :: l.take i ++ [x]
    rw [ih]
    rfl
theorem lt_of_get {α : Type} {l : List α} {i : Nat} {x : α} (h : l[i]? = some x) : i < l.length := (List.getElem?_eq_some_iff.mp h).1
theorem getD_of {α : Type} {l : List α} {i : Nat} {x d : α} (h : l[i]? = some x) : l.getD i d = x := by
  rw [List.getD_eq_getElem?_getD, h]
  rfl
/-! ### bits -/
theorem bitAnd_nat (a b : Nat) : Builtin.bitAnd (a : Int) (b : Int) = ((a &&& b : Nat) : Int) := rfl
theorem bitOr_nat (a b : Nat) : Builtin.bitOr (a : Int) (b : Int) = ((a ||| b : Nat) : Int) := Bits.bitOr_pp (by omega) (by omega)
theorem bitXor_small (a b : Nat) (ha : a < 4) (hb : b < 4) : Builtin.bitXor (a : Int) (b : Int) = ((a ^^^ b : Nat) : Int) := by
  have h : ∀ a : Fin 4, ∀ b : Fin 4, Builtin.bitXor ((a.1 : Nat) : Int) ((b.1 : Nat) : Int) = ((a.1 ^^^ b.1 : Nat) : Int) := by decide +kernel
  exact h ⟨a, ha⟩ ⟨b, hb⟩
/-! ### expressions over naturals -/
section
variable {K : PySem.W.Frag} {σ : L2.St} {H H' : Hp} {ta tb te tx : TE} {t u : TT} {x y z v : V} {i j : Nat}
theorem e_cn (n : Nat) : Ev (tC (.int (OfNat.ofNat n))) σ H (nv n) := ev_c
theorem e_add (ha : Ev ta σ H (nv i)) (hb : Ev tb σ H (nv j)) : Ev (tOp rAdd' ta tb) σ H (nv (i + j)) := ev_is (ev_op ha hb rv_I0) (by show V.int _ = V.int _; rw [Int.natCast_add])
theorem e_mul (ha : Ev ta σ H (nv i)) (hb : Ev tb σ H (nv j)) (hc : i < 2 ^ 64 ∨ j < 2 ^ 64) : Ev (tOp rMul' ta tb) σ H (nv (i * j)) := ev_is (ev_op ha hb (rv_I (by unfold CMul; omega))) (by show V.int _ = V.int _; rw [Int.natCast_mul])
theorem e_sub (ha : Ev ta σ H (nv i)) (hb : Ev tb σ H (nv j)) (hc : j ≤ i) : Ev (tOp rSub' ta tb) σ H (nv (i - j)) := ev_is (ev_op ha hb rv_I0) (by show V.int _ = V.int _; rw [Int.natCast_sub hc])
theorem e_div (ha : Ev ta σ H (nv i)) (hb : Ev tb σ H (nv j)) (h0 : 0 < j) (h1 : j < 1073741824) : Ev (tOp rDiv' ta tb) σ H (nv (i / j)) := ev_is (ev_op ha hb (rv_I ⟨by omega, by omega⟩)) (by
  show V.int (Int.fdiv (i : Int) (j : Int)) = V.int _
  rw [Int.fdiv_eq_ediv_of_nonneg _ (by omega)]
  rfl)
theorem e_mod (ha : Ev ta σ H (nv i)) (hb : Ev tb σ H (nv j)) (h0 : 0 < j) : Ev (tOp rMod' ta tb) σ H (nv (i % j)) := ev_is (ev_op ha hb (rv_I (by omega))) (by
  show V.int (Int.fmod (i : Int) (j : Int)) = V.int _
  rw [Int.fmod_eq_emod_of_nonneg _ (by omega)]
  rfl)
theorem e_shl (ha : Ev ta σ H (nv i)) (hb : Ev tb σ H (nv j)) (h0 : j ≤ 1000000) (h1 : i < 2 ^ 64) : Ev (tOp rShl' ta tb) σ H (nv (i * 2 ^ j)) := ev_is (ev_op ha hb (rv_I ⟨by omega, by omega, by omega⟩)) (by
  show V.int ((i : Int) * 2 ^ ((j : Int).toNat)) = V.int ((i * 2 ^ j : Nat) : Int)
  rw [Int.toNat_natCast, Int.natCast_mul, Int.natCast_pow]
  rfl)
theorem e_shr (ha : Ev ta σ H (nv i)) (hb : Ev tb σ H (nv j)) : Ev (tOp rShr' ta tb) σ H (nv (i / 2 ^ j)) := ev_is (ev_op ha hb (rv_I (by omega))) (by
  show V.int ((i : Int) / 2 ^ ((j : Int).toNat)) = V.int ((i / 2 ^ j : Nat) : Int)
  rw [Int.toNat_natCast, Int.natCast_ediv, Int.natCast_pow]
  rfl)
theorem e_and (ha : Ev ta σ H (nv i)) (hb : Ev tb σ H (nv j)) : Ev (tOp rAnd' ta tb) σ H (nv (i &&& j)) := ev_op ha hb rv_I0
theorem e_and1 (ha : Ev ta σ H (nv i)) : Ev (tOp rAnd' ta (tC (.int 1))) σ H (nv (i % 2)) := ev_is (e_and ha (e_cn 1)) (by rw [Nat.and_one_is_mod])
theorem e_or (ha : Ev ta σ H (nv i)) (hb : Ev tb σ H (nv j)) : Ev (tOp rOr' ta tb) σ H (nv (i ||| j)) := ev_is (ev_op ha hb rv_I0) (congrArg V.int (bitOr_nat i j))
theorem e_xor (ha : Ev ta σ H (nv i)) (hb : Ev tb σ H (nv j)) : Ev (tOp rXor' ta tb) σ H (nv (i ^^^ j)) := ev_is (ev_op ha hb rv_I0) (congrArg V.int (Bits.bitXor_pp (by omega) (by omega)))
theorem dec_cast (p : Prop) (q : Prop) [Decidable p] [Decidable q] (h : p ↔ q) : decide p = decide q := decide_eq_decide.mpr h
theorem e_lt (ha : Ev ta σ H (nv i)) (hb : Ev tb σ H (nv j)) : Ev (tOp rLt' ta tb) σ H (.bl (decide (i < j))) := ev_is (ev_op ha hb rv_I0) (congrArg V.bl (dec_cast _ _ (by omega)))
theorem e_le (ha : Ev ta σ H (nv i)) (hb : Ev tb σ H (nv j)) : Ev (tOp rLe' ta tb) σ H (.bl (decide (i ≤ j))) := ev_is (ev_op ha hb rv_I0) (congrArg V.bl (dec_cast _ _ (by omega)))
theorem e_gt (ha : Ev ta σ H (nv i)) (hb : Ev tb σ H (nv j)) : Ev (tOp rGt' ta tb) σ H (.bl (decide (j < i))) := ev_is (ev_op ha hb rv_I0) (congrArg V.bl (dec_cast _ _ (by omega)))
theorem e_ge (ha : Ev ta σ H (nv i)) (hb : Ev tb σ H (nv j)) : Ev (tOp rGe' ta tb) σ H (.bl (decide (j ≤ i))) := ev_is (ev_op ha hb rv_I0) (congrArg V.bl (dec_cast _ _ (by omega)))
theorem nv_eq {i j : Nat} : nv i = nv j ↔ i = j := ⟨fun h => by have := V.int.inj h; omega, fun h => by rw [h]⟩
theorem e_eq (ha : Ev ta σ H (nv i)) (hb : Ev tb σ H (nv j)) : Ev (tOp rEq ta tb) σ H (.bl (decide (i = j))) := ev_is (ev_op ha hb (rv_eq rfl)) (congrArg V.bl (dec_cast _ _ nv_eq))
theorem e_ne (ha : Ev ta σ H (nv i)) (hb : Ev tb σ H (nv j)) : Ev (tOp rNe ta tb) σ H (.bl (!decide (i = j))) := ev_is (ev_op ha hb (rv_ne rfl)) (congrArg (fun b => V.bl (!b)) (dec_cast _ _ nv_eq))
theorem e_fld {a C dx : Addr} {fs : List (Str × V)} {f : Str} (h : Ev ta σ H (.ref a)) (ho : H a = some (.ins C dx fs)) (hc : Cls K C) (hn : NoAttr K C f) (hl : fs.lookup f = some v) : Ev (tFld K ta f) σ H v := fun H1 e Q q =>
  h H1 e _ fun H2 e2 => ⟨a, C, dx, fs, v, rfl, e2 a _ (e a _ ho), hc, hn, hl, q H2 e2⟩
theorem e_ixL {p : Addr} {xs : List V} (ha : Ev ta σ H (.ref p)) (hb : Ev tb σ H (nv i)) (h : SqL K H p xs) (hi : xs[i]? = some v) : Ev (tOp (rIxL K) ta tb) σ H v := ev_op ha hb (rv_ixL h (atI_nat hi))
theorem e_ixT {p : Addr} {xs : List V} (ha : Ev ta σ H (.ref p)) (hb : Ev tb σ H (nv i)) (h : SqT K H p xs) (hi : xs[i]? = some v) : Ev (tOp (rIxT K) ta tb) σ H v := ev_op ha hb (rv_ixT h (atI_nat hi))
theorem e_len {p : Addr} {xs : List V} (ha : Ev ta σ H (.ref p)) (h : SqL K H p xs) : Ev (tCB (rLen' K) (tCons ta tNil)) σ H (nv xs.length) := fun H1 e Q q =>
  ha H1 e _ fun H2 e2 => ⟨p, xs, rfl, Or.inl (ex_l (e.trans e2) h), q H2 e2⟩
theorem e_sum {p : Addr} {l : List Nat} (ha : Ev ta σ H (.ref p)) (h : SqL K H p (iv l)) : Ev (tCB (rSum K) (tCons ta tNil)) σ H (nv l.sum) := fun H1 e Q q =>
  ha H1 e _ fun H2 e2 => ⟨p, l.map fun (n : Nat) => (n : Int), rfl, by rw [← iv_ints]; exact ex_l (e.trans e2) h, by rw [sum_cast]; exact q H2 e2⟩
theorem e_all {bs : List Bool} (ha : EvL ta σ H (bs.map V.bl)) : Ev (tCB (rAll K) (tCons ta tNil)) σ H (.bl (bs.all id)) := fun H1 e Q q =>
  ha H1 e _ fun p H2 _ e2 h2 => ⟨p, bs, rfl, sq_of h2, q H2 e2⟩
theorem e_min (ha : Ev ta σ H (nv i)) (hb : Ev tb σ H (nv j)) : Ev (tCB rMin' (tCons ta (tCons tb tNil))) σ H (nv (min i j)) := fun H1 e Q q =>
  ha H1 e _ fun H2 e2 => hb H2 (e.trans e2) _ fun H3 e3 => ⟨(i : Int), (j : Int), rfl, by
    have g : (if (j : Int) < (i : Int) then (j : Int) else (i : Int)) = ((min i j : Nat) : Int) := by split <;> omega
    rw [g]
    exact q H3 (e2.trans e3)⟩
theorem e_max (ha : Ev ta σ H (nv i)) (hb : Ev tb σ H (nv j)) : Ev (tCB rMax' (tCons ta (tCons tb tNil))) σ H (nv (max i j)) := fun H1 e Q q =>
  ha H1 e _ fun H2 e2 => hb H2 (e.trans e2) _ fun H3 e3 => ⟨(i : Int), (j : Int), rfl, by
    have g : (if (j : Int) > (i : Int) then (j : Int) else (i : Int)) = ((max i j : Nat) : Int) := by split <;> omega
    rw [g]
    exact q H3 (e2.trans e3)⟩
/-- list(xs), xs[lo:hi], xs + ys, xs * n -/
theorem l_list {p : Addr} {xs : List V} (ha : Ev ta σ H (.ref p)) (h : SqL K H p xs) : EvL (tCB (rList' K) (tCons ta tNil)) σ H xs := fun H1 e Q q =>
  ha H1 e _ fun H2 e2 => ⟨p, xs, rfl, Or.inl (ex_l (e.trans e2) h), fun l hl => q l _ (fresh_back e2 hl) (e2.trans (Ex.new hl)) upd_same⟩
theorem u_tuple {p : Addr} {xs : List V} (ha : Ev ta σ H (.ref p)) (h : SqL K H p xs) : EvU (tCB (rTuple' K) (tCons ta tNil)) σ H xs := fun H1 e Q q =>
  ha H1 e _ fun H2 e2 => ⟨p, xs, rfl, Or.inl ⟨ex_l (e.trans e2) h, fun l hl => q l _ (fresh_back e2 hl) (e2.trans (Ex.new hl)) upd_same⟩⟩
theorem l_cat {xs ys : List V} {b : Addr} (ha : EvL ta σ H xs) (hb : ∀ H1, Ex H H1 → Ev tb σ H1 (.ref b)) (h : H b = some (.lst ys)) (hz : xs.length + ys.length ≤ 100000) : EvL (tOp rCat ta tb) σ H (xs ++ ys) := fun H1 e Q q =>
  ha H1 e _ fun p H2 hp e2 h2 => hb H2 (e.trans e2) H2 (Ex.refl H2) _ fun H3 e3 => ⟨p, b, xs, ys, rfl, rfl, e3 p _ h2, e3 b _ (e2 b _ (e b _ h)), sz_of hz, fun l hl => q l _ (fresh_back e2 (fresh_back e3 hl)) ((e2.trans e3).trans (Ex.new hl)) upd_same⟩
theorem l_rep {xs : List V} {n : Nat} (ha : EvL ta σ H xs) (hb : ∀ H1, Ex H H1 → Ev tb σ H1 (nv n)) (hn : n < 2 ^ 62) (hz : xs.length * n ≤ 100000) : EvL (tOp rRep ta tb) σ H (List.replicate n xs).flatten := fun H1 e Q q =>
  ha H1 e _ fun p H2 hp e2 h2 => hb H2 (e.trans e2) H2 (Ex.refl H2) _ fun H3 e3 => ⟨p, (n : Int), xs, rfl, rfl, e3 p _ h2, by omega, by omega, sz_of hz, fun l hl => q l _ (fresh_back e2 (fresh_back e3 hl)) ((e2.trans e3).trans (Ex.new hl)) (by rw [Int.toNat_natCast]; exact upd_same)⟩
theorem rep_one (n : Nat) (v : V) : (List.replicate n [v]).flatten = List.replicate n v := by
  induction n with
  | zero => rfl
  | succ n ih => rw [List.replicate_succ, List.flatten_cons, ih]; rfl
theorem cut_from (xs : List V) (n : Nat) : cutV xs (some (n : Int)) none = xs.drop n := by
  unfold cutV
  show (xs.drop (HT.sIx xs.length 0 (some (n : Int)))).take (xs.length - HT.sIx xs.length 0 (some (n : Int))) = _
  rw [HT.sIx_nat]
  by_cases h : n ≤ xs.length
  · rw [Nat.min_eq_left h, List.take_of_length_le (by rw [List.length_drop]; omega)]
  · rw [Nat.min_eq_right (by omega), List.drop_eq_nil_of_le (Nat.le_refl _), List.drop_eq_nil_of_le (by omega), List.take_nil]
theorem cut_to (xs : List V) (n : Nat) : cutV xs none (some (n : Int)) = xs.take n := by
  unfold cutV
  show (xs.drop 0).take (HT.sIx xs.length xs.length (some (n : Int)) - 0) = _
  rw [HT.sIx_nat, List.drop_zero, Nat.sub_zero]
  by_cases h : n ≤ xs.length
  · rw [Nat.min_eq_left h]
  · rw [Nat.min_eq_right (by omega), List.take_of_length_le (Nat.le_refl _), List.take_of_length_le (by omega)]
theorem cut_both (xs : List V) (n m : Nat) (hnm : n ≤ m) (hm : m ≤ xs.length) : cutV xs (some (n : Int)) (some (m : Int)) = (xs.drop n).take (m - n) := by
  unfold cutV
  rw [HT.sIx_nat, HT.sIx_nat, Nat.min_eq_left hm, Nat.min_eq_left (Nat.le_trans hnm hm)]
theorem iv_drop (l : List Nat) (n : Nat) : (iv l).drop n = iv (l.drop n) := List.map_drop.symm
theorem iv_take (l : List Nat) (n : Nat) : (iv l).take n = iv (l.take n) := List.map_take.symm
theorem l_from {p : Addr} {l : List Nat} {n : Nat} (ha : Ev ta σ H (.ref p)) (hb : Ev tb σ H (nv n)) (h : SqL K H p (iv l)) : EvL (tSl (rSlL K) ta (tPart tb) tNoPart) σ H (iv (l.drop n)) := by
  have g := el_sl (K := K) ha (eo_some hb) eo_none h
  rw [cut_from, iv_drop] at g
  exact g
theorem l_to {p : Addr} {l : List Nat} {n : Nat} (ha : Ev ta σ H (.ref p)) (hb : Ev tb σ H (nv n)) (h : SqL K H p (iv l)) : EvL (tSl (rSlL K) ta tNoPart (tPart tb)) σ H (iv (l.take n)) := by
  have g := el_sl (K := K) ha eo_none (eo_some hb) h
  rw [cut_to, iv_take] at g
  exact g
/-- a def's call that answers a value, a new list -/
theorem e_call {sp : Sp} {vs : List V} {ta : TA} (h : EvA ta σ H vs) (hs : ∀ H1, Ex H H1 → ∀ Q : VK, (∀ H2, Ex H1 H2 → Q z H2) → sp vs H1 Q E0) : Ev (tCall sp [] E0 ta) σ H z := fun H1 e Q q =>
  h H1 e _ fun H2 e2 => by
    rw [List.append_nil]
    exact hs H2 (e.trans e2) Q fun H3 e3 => q H3 (e2.trans e3)
theorem l_call {sp : Sp} {vs xs : List V} {ta : TA} (h : EvA ta σ H vs) (hs : ∀ H1, Ex H H1 → ∀ Q : VK, (∀ p H2, H1 p = none → Ex H1 H2 → H2 p = some (.lst xs) → Q (.ref p) H2) → sp vs H1 Q E0) : EvL (tCall sp [] E0 ta) σ H xs := fun H1 e Q q =>
  h H1 e _ fun H2 e2 => by
    rw [List.append_nil]
    exact hs H2 (e.trans e2) Q fun p H3 hp e3 h3 => q p H3 (fresh_back e2 hp) (e2.trans e3) h3
/-- a call one of whose arguments is a new list -/
theorem ea1 (h : Ev te σ H v) : EvA (tCons te tNil) σ H [v] := ea_cons h ea_nil
theorem ea2 {te2 : TE} {v2 : V} (h : Ev te σ H v) (h2 : Ev te2 σ H v2) : EvA (tCons te (tCons te2 tNil)) σ H [v, v2] := ea_cons h (ea_cons h2 ea_nil)
theorem ea3 {te2 te3 : TE} {v2 v3 : V} (h : Ev te σ H v) (h2 : Ev te2 σ H v2) (h3 : Ev te3 σ H v3) : EvA (tCons te (tCons te2 (tCons te3 tNil))) σ H [v, v2, v3] := ea_cons h (ea_cons h2 (ea_cons h3 ea_nil))
end
/-! ### the game in the heap -/
structure GA where
  w : Addr
  v : Addr
  o : Addr
  l : Addr
  s : Addr
  n : Addr
def gF (g : G) (A : GA) : List (Str × V) := [("begun", .bl g.begun), ("persons", nv g.k), ("questions", nv g.q), ("weights", .ref A.w), ("winning", .ref A.v), ("owners", .ref A.o), ("links", .ref A.l), ("sure", .ref A.s), ("measured", .bl g.touched), ("own", .ref A.n)]
def mF (s : Nat) (l : Addr) : List (Str × V) := [("sign", nv s), ("letters", .ref l)]
theorem lk_here {k : Str} {v : V} {r : List (Str × V)} : List.lookup k ((k, v) :: r) = some v := by
  have e : (k == k) = true := beq_self_eq_true k
  simp only [List.lookup, e]
theorem lk_past {k g : Str} {v : V} {r : List (Str × V)} (h : (k == g) = false) : List.lookup k ((g, v) :: r) = List.lookup k r := by
  simp only [List.lookup, h]
def mutA (a : Addr) (A : GA) : List Addr := [a, A.w, A.v, A.l, A.n]
def MeasAt (CM : Addr) (H : Hp) (p : Addr) (x : Spin) (l : Addr) : Prop := (∃ dx, H p = some (.ins CM dx (mF x.s l))) ∧ H l = some (.lst (iv x.l))
def MS (CM : Addr) (H : Hp) (M : List Addr) (v : V) (x : Spin) : Prop := ∃ p l, v = V.ref p ∧ MeasAt CM H p x l ∧ l ∉ M
def PT (H : Hp) (v : V) (x : Nat × Nat) : Prop := ∃ p, v = V.ref p ∧ H p = some (.tup [nv x.1, nv x.2])
structure GameAt (C CM : Addr) (H : Hp) (a : Addr) (A : GA) (g : G) : Prop where
  ob : ∃ dx, H a = some (.ins C dx (gF g A))
  w : H A.w = some (.lst (iv g.weights))
  v : H A.v = some (.lst (iv g.wins))
  o : H A.o = some (.lst (iv g.owners))
  l : ∃ vs, H A.l = some (.lst vs) ∧ Paired (PT H) vs g.links
  s : ∃ vs, H A.s = some (.lst vs) ∧ Paired (MS CM H (mutA a A)) vs g.sure
  n : ∃ vs, H A.n = some (.lst vs) ∧ Paired (MS CM H (mutA a A)) vs g.own
  nd : [A.w, A.v, A.o, A.l, A.s, A.n].Nodup
def Keep (S : List Addr) (H H' : Hp) : Prop := ∀ b o, H b = some o → b ∉ S → H' b = some o
theorem Keep.of {S : List Addr} {H H' : Hp} (e : Ex H H') : Keep S H H' := fun b o h _ => e b o h
theorem Keep.trans {S : List Addr} {H H1 H2 : Hp} (a : Keep S H H1) (b : Keep S H1 H2) : Keep S H H2 := fun c o h hc => b c o (a c o h hc) hc
theorem Keep.put {S : List Addr} {H : Hp} {p : Addr} {u : HO} (h : p ∈ S) : Keep S H (upd H p u) := fun b o e hb => by
  rw [upd_ne (fun z => by rw [z] at hb; exact hb h)]
  exact e
theorem paired_mono {α β : Type} {F G : α → β → Prop} {l₁ : List α} {l₂ : List β} (h : Paired F l₁ l₂) (f : ∀ a b, F a b → G a b) : Paired G l₁ l₂ := Paired.mapP h f
theorem Paired.get {α β : Type} {F : α → β → Prop} : ∀ {l₁ : List α} {l₂ : List β} {i : Nat} {x : α}, Paired F l₁ l₂ → l₁[i]? = some x → ∃ y, l₂[i]? = some y ∧ F x y
  | _, _, _, _, .nil, h => by simp at h
  | _, _, 0, x, .cons r _, h => by
    have e := Option.some.inj (show some _ = some x from h)
    subst e
    exact ⟨_, rfl, r⟩
  | _, _, i + 1, x, .cons _ t, h => Paired.get (i := i) (x := x) t h
theorem Paired.get2 {α β : Type} {F : α → β → Prop} : ∀ {l₁ : List α} {l₂ : List β} {i : Nat} {y : β}, Paired F l₁ l₂ → l₂[i]? = some y → ∃ x, l₁[i]? = some x ∧ F x y
  | _, _, _, _, .nil, h => by simp at h
  | _, _, 0, y, .cons r _, h => by
    have e := Option.some.inj (show some _ = some y from h)
    subst e
    exact ⟨_, rfl, r⟩
  | _, _, i + 1, y, .cons _ t, h => Paired.get2 (i := i) (y := y) t h
theorem MeasAt.ex {CM : Addr} {H H' : Hp} {p l : Addr} {x : Spin} (h : MeasAt CM H p x l) (e : Ex H H') : MeasAt CM H' p x l := ⟨⟨_, e _ _ h.1.choose_spec⟩, e _ _ h.2⟩
theorem MS.ex {CM : Addr} {H H' : Hp} {M : List Addr} {v : V} {x : Spin} (h : MS CM H M v x) (e : Ex H H') : MS CM H' M v x := by
  obtain ⟨p, l, rfl, h1, h2⟩ := h
  exact ⟨p, l, rfl, h1.ex e, h2⟩
theorem PT.ex {H H' : Hp} {v : V} {x : Nat × Nat} (h : PT H v x) (e : Ex H H') : PT H' v x := by
  obtain ⟨p, rfl, h1⟩ := h
  exact ⟨p, rfl, e _ _ h1⟩
theorem GameAt.ex {C CM : Addr} {H H' : Hp} {a : Addr} {A : GA} {g : G} (h : GameAt C CM H a A g) (e : Ex H H') : GameAt C CM H' a A g where
  ob := ⟨_, e _ _ h.ob.choose_spec⟩
  w := e _ _ h.w
  v := e _ _ h.v
  o := e _ _ h.o
  l := by
    obtain ⟨vs, h1, h2⟩ := h.l
    exact ⟨vs, e _ _ h1, paired_mono h2 fun _ _ q => q.ex e⟩
  s := by
    obtain ⟨vs, h1, h2⟩ := h.s
    exact ⟨vs, e _ _ h1, paired_mono h2 fun _ _ q => q.ex e⟩
  n := by
    obtain ⟨vs, h1, h2⟩ := h.n
    exact ⟨vs, e _ _ h1, paired_mono h2 fun _ _ q => q.ex e⟩
  nd := h.nd
section
variable {K : PySem.W.Frag} {mg : Str → Option Value} {C CM aT aN aW : Addr} {σ : L2.St} {H : Hp} {a : Addr} {A : GA} {g : G} {ta : TE}
theorem g_begun (T : Txt K mg C CM aT aN aW) (h : GameAt C CM H a A g) (ha : Ev ta σ H (.ref a)) : Ev (tFld K ta "begun") σ H (.bl g.begun) := e_fld ha h.ob.choose_spec T.clG T.g_begun lk_here
theorem g_persons (T : Txt K mg C CM aT aN aW) (h : GameAt C CM H a A g) (ha : Ev ta σ H (.ref a)) : Ev (tFld K ta "persons") σ H (nv g.k) := e_fld ha h.ob.choose_spec T.clG T.g_persons ((lk_past (by decide +kernel)).trans lk_here)
theorem g_questions (T : Txt K mg C CM aT aN aW) (h : GameAt C CM H a A g) (ha : Ev ta σ H (.ref a)) : Ev (tFld K ta "questions") σ H (nv g.q) := e_fld ha h.ob.choose_spec T.clG T.g_questions ((lk_past (by decide +kernel)).trans ((lk_past (by decide +kernel)).trans lk_here))
theorem g_weights (T : Txt K mg C CM aT aN aW) (h : GameAt C CM H a A g) (ha : Ev ta σ H (.ref a)) : Ev (tFld K ta "weights") σ H (.ref A.w) := e_fld ha h.ob.choose_spec T.clG T.g_weights ((lk_past (by decide +kernel)).trans ((lk_past (by decide +kernel)).trans ((lk_past (by decide +kernel)).trans lk_here)))
theorem g_winning (T : Txt K mg C CM aT aN aW) (h : GameAt C CM H a A g) (ha : Ev ta σ H (.ref a)) : Ev (tFld K ta "winning") σ H (.ref A.v) := e_fld ha h.ob.choose_spec T.clG T.g_winning ((lk_past (by decide +kernel)).trans ((lk_past (by decide +kernel)).trans ((lk_past (by decide +kernel)).trans ((lk_past (by decide +kernel)).trans lk_here))))
theorem g_owners (T : Txt K mg C CM aT aN aW) (h : GameAt C CM H a A g) (ha : Ev ta σ H (.ref a)) : Ev (tFld K ta "owners") σ H (.ref A.o) := e_fld ha h.ob.choose_spec T.clG T.g_owners ((lk_past (by decide +kernel)).trans ((lk_past (by decide +kernel)).trans ((lk_past (by decide +kernel)).trans ((lk_past (by decide +kernel)).trans ((lk_past (by decide +kernel)).trans lk_here)))))
theorem g_links (T : Txt K mg C CM aT aN aW) (h : GameAt C CM H a A g) (ha : Ev ta σ H (.ref a)) : Ev (tFld K ta "links") σ H (.ref A.l) := e_fld ha h.ob.choose_spec T.clG T.g_links ((lk_past (by decide +kernel)).trans ((lk_past (by decide +kernel)).trans ((lk_past (by decide +kernel)).trans ((lk_past (by decide +kernel)).trans ((lk_past (by decide +kernel)).trans ((lk_past (by decide +kernel)).trans lk_here))))))
theorem g_sure (T : Txt K mg C CM aT aN aW) (h : GameAt C CM H a A g) (ha : Ev ta σ H (.ref a)) : Ev (tFld K ta "sure") σ H (.ref A.s) := e_fld ha h.ob.choose_spec T.clG T.g_sure ((lk_past (by decide +kernel)).trans ((lk_past (by decide +kernel)).trans ((lk_past (by decide +kernel)).trans ((lk_past (by decide +kernel)).trans ((lk_past (by decide +kernel)).trans ((lk_past (by decide +kernel)).trans ((lk_past (by decide +kernel)).trans lk_here)))))))
theorem g_measured (T : Txt K mg C CM aT aN aW) (h : GameAt C CM H a A g) (ha : Ev ta σ H (.ref a)) : Ev (tFld K ta "measured") σ H (.bl g.touched) := e_fld ha h.ob.choose_spec T.clG T.g_measured ((lk_past (by decide +kernel)).trans ((lk_past (by decide +kernel)).trans ((lk_past (by decide +kernel)).trans ((lk_past (by decide +kernel)).trans ((lk_past (by decide +kernel)).trans ((lk_past (by decide +kernel)).trans ((lk_past (by decide +kernel)).trans ((lk_past (by decide +kernel)).trans lk_here))))))))
theorem g_own (T : Txt K mg C CM aT aN aW) (h : GameAt C CM H a A g) (ha : Ev ta σ H (.ref a)) : Ev (tFld K ta "own") σ H (.ref A.n) := e_fld ha h.ob.choose_spec T.clG T.g_own ((lk_past (by decide +kernel)).trans ((lk_past (by decide +kernel)).trans ((lk_past (by decide +kernel)).trans ((lk_past (by decide +kernel)).trans ((lk_past (by decide +kernel)).trans ((lk_past (by decide +kernel)).trans ((lk_past (by decide +kernel)).trans ((lk_past (by decide +kernel)).trans ((lk_past (by decide +kernel)).trans lk_here)))))))))
theorem m_sign {p l : Addr} {x : Spin} (T : Txt K mg C CM aT aN aW) (h : MeasAt CM H p x l) (ha : Ev ta σ H (.ref p)) : Ev (tFld K ta "sign") σ H (nv x.s) := e_fld ha h.1.choose_spec T.clM T.m_sign lk_here
theorem m_letters {p l : Addr} {x : Spin} (T : Txt K mg C CM aT aN aW) (h : MeasAt CM H p x l) (ha : Ev ta σ H (.ref p)) : Ev (tFld K ta "letters") σ H (.ref l) := e_fld ha h.1.choose_spec T.clM T.m_letters ((lk_past (by decide +kernel)).trans lk_here)
end
end My
set_option Elab.async false
set_option linter.all false
set_option maxRecDepth 100000
set_option maxHeartbeats 4000000
namespace My
open PySem PySem.Spec PyProof.Rows L2 Evl
open Su173 (Spin)
open Mir (G)
/-! ### loops over enumerate, zip -/
theorem for_enum {K : PySem.W.Frag} {a : Addr} {xs : List V} {g : TG} {tb : TS} {D : Ends} {σ : L2.St} {H : Hp} (Pv : Nat → L2.St → Hp → Prop) (h0 : Pv 0 σ H) (hq : ∀ i σ H, Pv i σ H → SqL K H a xs)
    (hs : ∀ (i : Nat) (x : V) (T : Addr) (σ : L2.St) (H : Hp), xs[i]? = some x → Pv i σ H → H T = none → g (.ref T) σ (upd H T (.tup [nv i, x])) fun σ2 H2 => tb { D with nx := Pv (i + 1), ct := Pv (i + 1), bk := D.nx } σ2 H2) (hd : ∀ σ H, Pv xs.length σ H → D.nx σ H) :
    ∃ W : Nat → Nat → L2.St → Hp → Prop, (∃ m, W 0 m σ H) ∧ ∀ i m σ H, W i m σ H →
      ((Ite K a).stop i H ∧ D.nx σ H) ∨ ((Ite K a).go i H ∧ ∃ N : L2.St → Hp → Prop, (∀ σ' H', N σ' H' → ∃ m', m' < m ∧ W (i + 1) m' σ' H') ∧ ∀ v H', (Ite K a).yld i H v H' → g v σ H' fun σ2 H2 => tb { D with nx := N, ct := N, bk := D.nx } σ2 H2) := by
  refine ⟨fun i m σ H => m = xs.length - i ∧ i ≤ xs.length ∧ Pv i σ H, ⟨xs.length, rfl, Nat.zero_le _, h0⟩, ?_⟩
  rintro i m σ H ⟨rfl, hi, p⟩
  have qx := hq i σ H p
  by_cases hlt : i < xs.length
  · have hx : xs[i]? = some xs[i] := List.getElem?_eq_getElem hlt
    refine .inr ⟨⟨xs, _, qx, hx⟩, Pv (i + 1), fun σ' H' p' => ⟨xs.length - (i + 1), by omega, rfl, hlt, p'⟩, fun v H' y => ?_⟩
    obtain ⟨T, x', rfl, hT, rfl, f1⟩ := y
    exact hs i x' T σ H (f1 xs qx) p hT
  · have e : i = xs.length := by omega
    subst e
    exact .inl ⟨⟨xs, qx, Nat.le_refl _⟩, hd σ H p⟩
section
variable {K : PySem.W.Frag} {σ : L2.St} {H H' : Hp} {ta tb te tx tl : TE} {t u : TT} {x y z v : V} {D : Ends} {tu tz : TS}
theorem s_forE {a : Addr} {xs : List V} {j1 j2 : Nat} (h : Ev tl σ H (.ref a)) (hx : SqL K H a xs) (Pv : Nat → L2.St → Hp → Prop) (h0 : ∀ H1, Ex H H1 → Pv 0 σ H1) (hl : ∀ i σ' H', Pv i σ' H' → SqL K H' a xs)
    (hs : ∀ i x σ' H0 H1, xs[i]? = some x → Pv i σ' H0 → Ex H0 H1 → tu { D with nx := Pv (i + 1), ct := Pv (i + 1), bk := D.nx } ((σ'.set j1 (some (nv i))).set j2 (some x)) H1) (hd : ∀ σ' H', Pv xs.length σ' H' → D.nx σ' H') :
    tFor (iEnum K (tCons tl tNil)) (gTup K 2 (gCons (gName j1) (gCons (gName j2) gNil))) tu D σ H :=
  h H (Ex.refl H) _ fun H1 e => ⟨a, xs, rfl, ex_l e hx, for_enum Pv (h0 H1 e) hl (fun i x T σ' H' hi p hT => ⟨T, _, rfl, st_of upd_same, rfl, _, _, rfl, _, _, rfl, rfl, hs i x σ' H' _ hi p (Ex.new hT)⟩) hd⟩
theorem q_forE {a : Addr} {xs : List V} {j1 j2 : Nat} (h : Ev tl σ H (.ref a)) (hx : SqL K H a xs) (Pv : Nat → L2.St → Hp → Prop) (h0 : ∀ H1, Ex H H1 → Pv 0 σ H1) (hl : ∀ i σ' H', Pv i σ' H' → SqL K H' a xs)
    (hs : ∀ i x σ' H0 H1, xs[i]? = some x → Pv i σ' H0 → Ex H0 H1 → tu { D with nx := Pv (i + 1), ct := Pv (i + 1), bk := tz D } ((σ'.set j1 (some (nv i))).set j2 (some x)) H1) (hd : ∀ σ' H', Pv xs.length σ' H' → tz D σ' H') :
    tSeq (tFor (iEnum K (tCons tl tNil)) (gTup K 2 (gCons (gName j1) (gCons (gName j2) gNil))) tu) tz D σ H := s_forE (D := { D with nx := tz D }) h hx Pv h0 hl hs hd
/-- over enumerate of a new list -/
theorem q_forNE {xs : List V} {j1 j2 : Nat} (h : EvL tl σ H xs) (Pv : Addr → Nat → L2.St → Hp → Prop) (h0 : ∀ p H1, H p = none → Ex H H1 → H1 p = some (.lst xs) → Pv p 0 σ H1) (hl : ∀ p i σ' H', Pv p i σ' H' → SqL K H' p xs)
    (hs : ∀ p i x σ' H0 H1, xs[i]? = some x → Pv p i σ' H0 → Ex H0 H1 → tu { D with nx := Pv p (i + 1), ct := Pv p (i + 1), bk := tz D } ((σ'.set j1 (some (nv i))).set j2 (some x)) H1) (hd : ∀ p σ' H', Pv p xs.length σ' H' → tz D σ' H') :
    tSeq (tFor (iEnum K (tCons tl tNil)) (gTup K 2 (gCons (gName j1) (gCons (gName j2) gNil))) tu) tz D σ H :=
  h H (Ex.refl H) _ fun p H1 hp e h1 => ⟨p, xs, rfl, sq_of h1, for_enum (D := { D with nx := tz D }) (Pv p) (h0 p H1 hp e h1) (hl p) (fun i x T σ' H' hi q hT => ⟨T, _, rfl, st_of upd_same, rfl, _, _, rfl, _, _, rfl, rfl, hs p i x σ' H' _ hi q (Ex.new hT)⟩) (hd p)⟩
theorem s_forZ {a b : Addr} {xs ys : List V} {j1 j2 : Nat} {ta : TA} (h : EvA ta σ H [.ref a, .ref b]) (hx : SqL K H a xs) (hy : SqL K H b ys) (hn : xs.length = ys.length) (Pv : Nat → L2.St → Hp → Prop) (h0 : ∀ H1, Ex H H1 → Pv 0 σ H1) (hl : ∀ i σ' H', Pv i σ' H' → SqL K H' a xs ∧ SqL K H' b ys)
    (hs : ∀ i x y σ' H0 H1, xs[i]? = some x → ys[i]? = some y → Pv i σ' H0 → Ex H0 H1 → tu { D with nx := Pv (i + 1), ct := Pv (i + 1), bk := D.nx } ((σ'.set j1 (some x)).set j2 (some y)) H1) (hd : ∀ σ' H', Pv xs.length σ' H' → D.nx σ' H') :
    tFor (iZip K ta) (gTup K 2 (gCons (gName j1) (gCons (gName j2) gNil))) tu D σ H :=
  h H (Ex.refl H) _ fun H1 e => ⟨a, b, xs, ys, rfl, ex_l e hx, ex_l e hy, RZ.for_zipL hn Pv (h0 H1 e) hl (fun i x y T σ' H' hi hj p hT => ⟨T, _, rfl, st_of upd_same, rfl, _, _, rfl, _, _, rfl, rfl, hs i x y σ' H' _ hi hj p (Ex.new hT)⟩) hd⟩
theorem q_forZ {a b : Addr} {xs ys : List V} {j1 j2 : Nat} {ta : TA} (h : EvA ta σ H [.ref a, .ref b]) (hx : SqL K H a xs) (hy : SqL K H b ys) (hn : xs.length = ys.length) (Pv : Nat → L2.St → Hp → Prop) (h0 : ∀ H1, Ex H H1 → Pv 0 σ H1) (hl : ∀ i σ' H', Pv i σ' H' → SqL K H' a xs ∧ SqL K H' b ys)
    (hs : ∀ i x y σ' H0 H1, xs[i]? = some x → ys[i]? = some y → Pv i σ' H0 → Ex H0 H1 → tu { D with nx := Pv (i + 1), ct := Pv (i + 1), bk := tz D } ((σ'.set j1 (some x)).set j2 (some y)) H1) (hd : ∀ σ' H', Pv xs.length σ' H' → tz D σ' H') :
    tSeq (tFor (iZip K ta) (gTup K 2 (gCons (gName j1) (gCons (gName j2) gNil))) tu) tz D σ H := s_forZ (D := { D with nx := tz D }) h hx hy hn Pv h0 hl hs hd
theorem q_ins0 {l : Addr} {xs : List V} (hl : H l = some (.lst xs)) (ha : Ev ta σ H (.ref l)) (h : Ev te σ H v) (hz : xs.length < 100000) (k : ∀ H1, Ex H H1 → tz D σ (upd H1 l (.lst (v :: xs)))) :
    tSeq (tDrop (tBM K "list" rIns' ta (tCons (tC (.int 0)) (tCons te tNil)))) tz D σ H := ha H (Ex.refl H) _ fun H1 e1 =>
  ⟨Or.inl ⟨rfl, xs, sq_of (e1 l _ hl)⟩, h H1 e1 _ fun H2 e2 => ⟨l, xs, 0, v, rfl, rfl, e2 l _ (e1 l _ hl), sz_lt hz, by decide, by decide, k H2 (e1.trans e2)⟩⟩
/-! ### comprehensions: each turn's value told -/
theorem given_all (n : Nat) (v : Nat → V) : given n (fun _ => true) v = (List.range n).map v := by
  unfold given
  rw [List.filter_eq_self.mpr (fun _ _ => rfl)]
theorem range_getD (l : List Nat) (p : Nat → V) : (List.range l.length).map (fun i => p (l.getD i 0)) = l.map p := by
  apply List.ext_getElem
  · simp
  · intro i h1 h2
    simp at h1
    simp [h1]
theorem l_map {a : Addr} {l : List Nat} {j : Nat} {vs : List Nat} (p : Nat → V) (h : Ev tl σ H (.ref a)) (hx : SqL K H a (iv l)) (hz : l.length ≤ 40000) (hw : ∀ x, wipe ((wipe σ vs).set j (some x)) vs = wipe σ vs)
    (he : ∀ (n : Nat) H1, n ∈ l → Ex H H1 → Ev te ((wipe σ vs).set j (some (nv n))) H1 (p n)) : EvL (tLc (iList K tl) (gName j) tYes te vs) σ H (l.map p) := by
  have g := el_lcL (te := te) (t := tYes) (fun _ => true) (fun i => p (l.getD i 0)) h hx (by rw [iv_len]; exact hz) hw (fun i x H1 _ _ => fun H2 _ Q q => q H2 (Ex.refl H2)) (fun i x H1 e hi _ => by
    obtain ⟨n, hn, rfl⟩ := iv_get hi
    rw [getD_of hn]
    exact he n H1 (List.mem_of_getElem? hn) e)
  rw [given_all, iv_len, range_getD] at g
  exact g
theorem l_mapR {n j : Nat} {vs : List Nat} {ta : TA} (p : Nat → V) (h : EvA ta σ H [nv n]) (hn : n ≤ 40000) (hw : ∀ x, wipe ((wipe σ vs).set j (some x)) vs = wipe σ vs)
    (he : ∀ (i : Nat) H1, i < n → Ex H H1 → Ev te ((wipe σ vs).set j (some (nv i))) H1 (p i)) : EvL (tLc (iRng1 ta) (gName j) tYes te vs) σ H ((List.range n).map p) := by
  have g := el_lcR1 (te := te) (t := tYes) (fun _ => true) p h (by omega) hw (fun i H1 _ _ => fun H2 _ Q q => q H2 (Ex.refl H2)) (fun i H1 e hi _ => he i H1 (by omega) e)
  rw [given_all, Int.toNat_natCast] at g
  exact g
theorem l_filR {n j : Nat} {vs : List Nat} {ta : TA} (f : Nat → Bool) (p : Nat → V) (h : EvA ta σ H [nv n]) (hn : n ≤ 40000) (hw : ∀ x, wipe ((wipe σ vs).set j (some x)) vs = wipe σ vs)
    (ht : ∀ (i : Nat) H1, i < n → Ex H H1 → EvT t ((wipe σ vs).set j (some (nv i))) H1 (f i))
    (he : ∀ (i : Nat) H1, i < n → Ex H H1 → Ev te ((wipe σ vs).set j (some (nv i))) H1 (p i)) : EvL (tLc (iRng1 ta) (gName j) t te vs) σ H (((List.range n).filter f).map p) := by
  have g := el_lcR1 (te := te) (t := t) f p h (by omega) hw (fun i H1 e hi => ht i H1 (by omega) e) (fun i H1 e hi _ => he i H1 (by omega) e)
  rw [Int.toNat_natCast] at g
  exact g
theorem lc_enum {K : PySem.W.Frag} {a : Addr} {xs : List V} {g : TG} {tt : TT} {te : TE} {vs : List Nat} {σ : L2.St} {H1 : Hp} {D : Addr} {Qd : Hp → Prop} (Pv : Nat → Hp → Prop) (h0 : Pv 0 (upd H1 D (.lst []))) (hl : ∀ i H, Pv i H → SqL K H a xs)
    (hs : ∀ i x T H, xs[i]? = some x → Pv i H → H T = none → g (.ref T) (wipe σ vs) (upd H T (.tup [nv i, x])) fun σ2 H2 => wipe σ2 vs = wipe σ vs ∧ tt σ2 H2 fun b H3 =>
      if b = true then te σ2 H3 fun y H4 => ∃ acc, H4 D = some (.lst acc) ∧ acc.length < sizeLine ∧ Pv (i + 1) (upd H4 D (.lst (acc ++ [y]))) else Pv (i + 1) H3) (hd : ∀ H, Pv xs.length H → Qd H) :
    ∃ W : Nat → Nat → Hp → Prop, (∃ m, W 0 m (upd H1 D (.lst []))) ∧ ∀ i m H, W i m H →
      ((Ite K a).stop i H ∧ Qd H) ∨ ((Ite K a).go i H ∧ ∃ Nx : Hp → Prop, (∀ H', Nx H' → ∃ m', m' < m ∧ W (i + 1) m' H') ∧ ∀ x H', (Ite K a).yld i H x H' → g x (wipe σ vs) H' fun σ2 H2 => wipe σ2 vs = wipe σ vs ∧ tt σ2 H2 fun b H3 =>
        if b = true then te σ2 H3 fun y H4 => ∃ acc, H4 D = some (.lst acc) ∧ acc.length < sizeLine ∧ Nx (upd H4 D (.lst (acc ++ [y]))) else Nx H3) := by
  refine ⟨fun i m H => m = xs.length - i ∧ i ≤ xs.length ∧ Pv i H, ⟨xs.length, rfl, Nat.zero_le _, h0⟩, ?_⟩
  rintro i m H ⟨rfl, hi, p⟩
  have qx := hl i H p
  by_cases hlt : i < xs.length
  · have hx : xs[i]? = some xs[i] := List.getElem?_eq_getElem hlt
    refine .inr ⟨⟨xs, _, qx, hx⟩, Pv (i + 1), fun H' p' => ⟨xs.length - (i + 1), by omega, rfl, hlt, p'⟩, fun v H' y => ?_⟩
    obtain ⟨T, x', rfl, hT, rfl, f1⟩ := y
    exact hs i x' T H (f1 xs qx) p hT
  · have e : i = xs.length := by omega
    subst e
    exact .inl ⟨⟨xs, qx, Nat.le_refl _⟩, hd H p⟩
theorem lc_zip {K : PySem.W.Frag} {a b : Addr} {xs ys : List V} {g : TG} {tt : TT} {te : TE} {vs : List Nat} {σ : L2.St} {H1 : Hp} {D : Addr} {Qd : Hp → Prop} (hn : xs.length = ys.length) (Pv : Nat → Hp → Prop) (h0 : Pv 0 (upd H1 D (.lst []))) (hl : ∀ i H, Pv i H → SqL K H a xs ∧ SqL K H b ys)
    (hs : ∀ i x y T H, xs[i]? = some x → ys[i]? = some y → Pv i H → H T = none → g (.ref T) (wipe σ vs) (upd H T (.tup [x, y])) fun σ2 H2 => wipe σ2 vs = wipe σ vs ∧ tt σ2 H2 fun b H3 =>
      if b = true then te σ2 H3 fun y H4 => ∃ acc, H4 D = some (.lst acc) ∧ acc.length < sizeLine ∧ Pv (i + 1) (upd H4 D (.lst (acc ++ [y]))) else Pv (i + 1) H3) (hd : ∀ H, Pv xs.length H → Qd H) :
    ∃ W : Nat → Nat → Hp → Prop, (∃ m, W 0 m (upd H1 D (.lst []))) ∧ ∀ i m H, W i m H →
      ((Itz K a b).stop i H ∧ Qd H) ∨ ((Itz K a b).go i H ∧ ∃ Nx : Hp → Prop, (∀ H', Nx H' → ∃ m', m' < m ∧ W (i + 1) m' H') ∧ ∀ x H', (Itz K a b).yld i H x H' → g x (wipe σ vs) H' fun σ2 H2 => wipe σ2 vs = wipe σ vs ∧ tt σ2 H2 fun b H3 =>
        if b = true then te σ2 H3 fun y H4 => ∃ acc, H4 D = some (.lst acc) ∧ acc.length < sizeLine ∧ Nx (upd H4 D (.lst (acc ++ [y]))) else Nx H3) := by
  refine ⟨fun i m H => m = xs.length - i ∧ i ≤ xs.length ∧ Pv i H, ⟨xs.length, rfl, Nat.zero_le _, h0⟩, ?_⟩
  rintro i m H ⟨rfl, hi, p⟩
  obtain ⟨qx, qy⟩ := hl i H p
  by_cases hlt : i < xs.length
  · have hx : xs[i]? = some xs[i] := List.getElem?_eq_getElem hlt
    have hlt2 : i < ys.length := by omega
    have hy : ys[i]? = some ys[i] := List.getElem?_eq_getElem hlt2
    refine .inr ⟨⟨xs, ys, _, _, qx, qy, hx, hy⟩, Pv (i + 1), fun H' p' => ⟨xs.length - (i + 1), by omega, rfl, hlt, p'⟩, fun v H' y => ?_⟩
    obtain ⟨T, x', y', rfl, hT, rfl, f1, f2⟩ := y
    exact hs i x' y' T H (f1 xs qx) (f2 ys qy) p hT
  · have e : i = xs.length := by omega
    subst e
    exact .inl ⟨⟨xs, ys, qx, qy, Or.inl (Nat.le_refl _)⟩, hd H p⟩
theorem cw_new {H H' : Hp} {f : Nat → Bool} {v : Nat → V} {Dl T : Addr} {i : Nat} {u : HO} (p : Cw H f v Dl i H') (hT : H' T = none) : Cw H f v Dl i (upd H' T u) :=
  ⟨p.1, p.2.1.trans (Ex.new hT), by rw [upd_ne (ne_of_none p.2.2 hT)]; exact p.2.2⟩
theorem l_mapE {a : Addr} {xs : List V} {j1 j2 : Nat} {vs : List Nat} (v : Nat → V) (h : Ev tl σ H (.ref a)) (hx : SqL K H a xs) (hz : xs.length ≤ 40000) (hw : ∀ x y, wipe (((wipe σ vs).set j1 (some x)).set j2 (some y)) vs = wipe σ vs)
    (he : ∀ (i : Nat) (x : V) H1, Ex H H1 → xs[i]? = some x → Ev te (((wipe σ vs).set j1 (some (nv i))).set j2 (some x)) H1 (v i)) : EvL (tLc (iEnum K (tCons tl tNil)) (gTup K 2 (gCons (gName j1) (gCons (gName j2) gNil))) tYes te vs) σ H ((List.range xs.length).map v) := by
  rw [← given_all]
  refine fun H0 e Q q => h H0 e _ fun H1 e1 => ⟨a, xs, rfl, ex_l (e.trans e1) hx, fun Dl hD => lc_enum (xs := xs) (Cw H1 (fun _ => true) v Dl) ⟨hD, Ex.new hD, upd_same⟩ (fun i H' p => ex_l ((e.trans e1).trans p.2.1) hx) (fun i x T H' hi p hT => ?_)
    (fun H' p => q Dl H' (fresh_back e1 p.1) (e1.trans p.2.1) p.2.2)⟩
  exact ⟨T, _, rfl, st_of upd_same, rfl, _, _, rfl, _, _, rfl, rfl, hw _ _, cw_turn (t := tYes) (cw_new p hT) (by have := lt_of_get hi; omega) (fun H2 _ Q q => q H2 (Ex.refl H2)) fun _ => he i x H1 (e.trans e1) hi⟩
theorem l_mapZ {a b : Addr} {xs ys : List V} {j1 j2 : Nat} {vs : List Nat} (v : Nat → V) {ta : TA} (h : EvA ta σ H [.ref a, .ref b]) (hx : SqL K H a xs) (hy : SqL K H b ys) (hn : xs.length = ys.length) (hz : xs.length ≤ 40000) (hw : ∀ x y, wipe (((wipe σ vs).set j1 (some x)).set j2 (some y)) vs = wipe σ vs)
    (he : ∀ (i : Nat) (x y : V) H1, Ex H H1 → xs[i]? = some x → ys[i]? = some y → Ev te (((wipe σ vs).set j1 (some x)).set j2 (some y)) H1 (v i)) : EvL (tLc (iZip K ta) (gTup K 2 (gCons (gName j1) (gCons (gName j2) gNil))) tYes te vs) σ H ((List.range xs.length).map v) := by
  rw [← given_all]
  refine fun H0 e Q q => h H0 e _ fun H1 e1 => ⟨a, b, xs, ys, rfl, ex_l (e.trans e1) hx, ex_l (e.trans e1) hy, fun Dl hD => lc_zip (xs := xs) (ys := ys) hn (Cw H1 (fun _ => true) v Dl) ⟨hD, Ex.new hD, upd_same⟩ (fun i H' p => ⟨ex_l ((e.trans e1).trans p.2.1) hx, ex_l ((e.trans e1).trans p.2.1) hy⟩) (fun i x y T H' hi hj p hT => ?_)
    (fun H' p => q Dl H' (fresh_back e1 p.1) (e1.trans p.2.1) p.2.2)⟩
  exact ⟨T, _, rfl, st_of upd_same, rfl, _, _, rfl, _, _, rfl, rfl, hw _ _, cw_turn (t := tYes) (cw_new p hT) (by have := lt_of_get hi; omega) (fun H2 _ Q q => q H2 (Ex.refl H2)) fun _ => he i x y H1 (e.trans e1) hi hj⟩
end
/-! ### a def of the top that keeps its promise -/
structure DefAt (K : PySem.W.Frag) (mg : Str → Option Value) (x : Str) (st : Stmt) : Prop where
  ex : ∃ (f : Addr) (fd : FuncData), Fun K x x st f fd ∧ mg x = some (.ref f)
section
variable {P : Program} {w : World} {K : PySem.W.Frag} {mg : Str → Option Value} {base : Heap}
theorem cal_mk {x : Str} {st : Stmt} {N ps : List Str} {k : Nat} {sp : Sp} {t : TS} (D : DefAt K mg x st) (S : FnScope N ps (defScope st))
    (hb : ∀ (kV doc pm : Value) (an : Option Addr) (cdv ct : Value) (us : List Value), us.length = ps.length → bindArgs (PySem.W.fnOf x x (defArgs st) (defBody st) (defScope st) .none kV doc pm an cdv ct) ⟨us, []⟩ = pure (ps.zip us))
    (len : ∀ vs H Q E, sp vs H Q E → vs.length = ps.length)
    (hd : ∀ {f : Addr} {cdv : Value} {A : Around} {outer : List Env} {s : Shared} {H : Hp} {E : XK}, Room k (A.deeper (envOfC x (defScope st) s.heap.objs.size f cdv)) → PSs (cxOf CX0 P w K mg base N x (defScope st) f cdv A outer s H E).nox (defBody st) t)
    (hp : ∀ vs H Q E, sp vs H Q E → t { nx := fun _ H' => Q .non H', rt := Q } (start N vs) H) : Cal P w K mg base x (k + 1) ps sp := by
  obtain ⟨f, fd, F, hm⟩ := D.ex
  exact ⟨f, fd, hm, F.kp, F.binds hb, F.ok S len fun cdv A outer s H vs Q E hr h => ⟨t, hd hr, hp vs H Q E h⟩⟩
theorem fn_mk {x : Str} {st : Stmt} {N ps : List Str} {k : Nat} {sp : Sp} {t : TS} {f : Addr} {fd : FuncData} (F : Fun K x x st f fd) (S : FnScope N ps (defScope st))
    (len : ∀ vs H Q E, sp vs H Q E → vs.length = ps.length)
    (hd : ∀ {f : Addr} {cdv : Value} {A : Around} {outer : List Env} {s : Shared} {H : Hp} {E : XK}, Room k (A.deeper (envOfC x (defScope st) s.heap.objs.size f cdv)) → PSs (cxOf CX0 P w K mg base N x (defScope st) f cdv A outer s H E).nox (defBody st) t)
    (hp : ∀ vs H Q E, sp vs H Q E → t { nx := fun _ H' => Q .non H', rt := Q } (start N vs) H) : FnOk P w K mg base CX0 (k + 1) f fd ps sp :=
  F.ok S len fun cdv A outer s H vs Q E hr h => ⟨t, hd hr, hp vs H Q E h⟩
end
end My
set_option Elab.async false
set_option linter.all false
set_option maxRecDepth 100000
set_option maxHeartbeats 4000000
namespace My
open PySem PySem.Spec PyProof.Rows L2 Evl
open Su173 (Spin)
open Mir (G)
open Su175 (okRow)
section
variable {P : Program} {w : World} {K : PySem.W.Frag} {mg : Str → Option Value} {base : Heap} {C CM aT aN aW : Addr} {σ : L2.St} {H : Hp} {ta tb : TE}
/-! ### is_asked -/
theorem all_id (l : List Nat) (p : Nat → Bool) : (l.map p).all id = l.all p := by
  induction l with
  | nil => rfl
  | cons a r ih => rw [List.map_cons, List.all_cons, List.all_cons, ih]; rfl
theorem map_bl (l : List Nat) (p : Nat → Bool) : (l.map fun n => V.bl (p n)) = (l.map p).map V.bl := by
  rw [List.map_map]
  rfl
theorem okRow_no {n b : Nat} {l : List Nat} (h : l.length ≠ n) : okRow n b l = false := by
  unfold okRow
  rw [beq_false_of_ne h, Bool.false_and]
theorem okRow_all {n b : Nat} {l : List Nat} (h : l.length = n) : okRow n b l = l.all fun v => decide (v < b) := by
  unfold okRow
  rw [h, beq_self_eq_true, Bool.true_and]
def spIsAsked (C CM : Addr) (K : PySem.W.Frag) : Sp := fun vs H Q _ => ∃ (a r : Addr) (A : GA) (g : G) (x : List Nat), vs = [.ref a, .ref r] ∧ GameAt C CM H a A g ∧ SqL K H r (iv x) ∧ x.length ≤ 40000 ∧ RetV (.bl (g.asked x)) H Q
theorem c_is_asked (D : DefAt K mg "is_asked" s_is_asked) (T : Txt K mg C CM aT aN aW) : Cal P w K mg base "is_asked" 1 ["game", "row"] (spIsAsked C CM K) := by
  refine cal_mk D sc_is_asked (fun _ _ _ _ _ _ us hl => match us, hl with | [_, _], _ => rfl) (fun vs H Q E h => ?_) (fun hr => d_is_asked T hr) fun vs H Q E h => ?_
  · obtain ⟨a, r, A, g, x, rfl, _⟩ := h
    rfl
  · obtain ⟨a, r, A, g, x, rfl, hG, hr, hz, k⟩ := h
    refine q_when (et_test (e_ne (e_len (ev_var rfl) hr) (g_persons T hG (ev_var rfl)))) (fun hb H1 e1 => s_ret ev_c fun H2 e2 => ?_) fun hb H1 e1 => ?_
    · rw [iv_len] at hb
      have g1 := k.go (e1.trans e2)
      unfold G.asked at g1
      rw [okRow_no (by simpa using hb)] at g1
      exact g1
    · rw [iv_len] at hb
      refine s_ret (e_all (bs := x.map fun n => decide (n < g.q)) ?_) fun H2 e2 => ?_
      · rw [← map_bl]
        exact l_map (fun n => V.bl (decide (n < g.q))) (ev_var rfl) (ex_l e1 hr) hz (fun _ => rfl) fun n H2 _ e2 => e_lt (ev_var rfl) (g_questions T (hG.ex (e1.trans e2)) (ev_var rfl))
      · rw [all_id]
        have g1 := k.go (e1.trans e2)
        unfold G.asked at g1
        rw [okRow_all (by simpa using hb)] at g1
        exact g1
theorem e_is_asked {a r : Addr} {A : GA} {g : G} {x : List Nat} (ha : Ev ta σ H (.ref a)) (hb : Ev tb σ H (.ref r)) (hG : GameAt C CM H a A g) (hr : SqL K H r (iv x)) (hz : x.length ≤ 40000) :
    Ev (tCall (spIsAsked C CM K) [] E0 (tCons ta (tCons tb tNil))) σ H (.bl (g.asked x)) :=
  e_call (ea2 ha hb) fun H1 e Q q => ⟨a, r, A, g, x, rfl, hG.ex e, ex_l e hr, hz, q⟩
/-! ### place_of_row -/
def spPlace (C CM : Addr) (K : PySem.W.Frag) : Sp := fun vs H Q _ => ∃ (a r : Addr) (A : GA) (g : G) (x : List Nat), vs = [.ref a, .ref r] ∧ GameAt C CM H a A g ∧ SqL K H r (iv x) ∧ g.q < 2 ^ 64 ∧ RetV (nv (Mir.place g.q x)) H Q
theorem place_more {q : Nat} {l : List Nat} {i n : Nat} (h : l[i]? = some n) : Mir.place q (l.take (i + 1)) = Mir.place q (l.take i) * q + n := by
  unfold Mir.place
  rw [take_more h, List.foldl_append]
  rfl
theorem c_place_of_row (D : DefAt K mg "place_of_row" s_place_of_row) (T : Txt K mg C CM aT aN aW) : Cal P w K mg base "place_of_row" 1 ["game", "row"] (spPlace C CM K) := by
  refine cal_mk D sc_place_of_row (fun _ _ _ _ _ _ us hl => match us, hl with | [_, _], _ => rfl) (fun vs H Q E h => ?_) (fun hr => d_place_of_row T hr) fun vs H Q E h => ?_
  · obtain ⟨a, r, A, g, x, rfl, _⟩ := h
    rfl
  · obtain ⟨a, r, A, g, x, rfl, hG, hr, hq, k⟩ := h
    refine q_asg ev_c fun H1 e1 => ?_
    refine q_forLn (ev_var rfl) (ex_l e1 hr) (fun i σ' H' => Ex H1 H' ∧ ∃ v, σ' = [some (.ref a), some (.ref r), some (nv (Mir.place g.q (x.take i))), v]) (fun H2 e2 => ⟨e2, none, rfl⟩) (fun i σ' H' _ p => ex_l (e1.trans p.1) hr) ?_ ?_
    · rintro i y σ' H' hi ⟨e2, v, rfl⟩
      obtain ⟨n, hn, rfl⟩ := iv_get hi
      refine s_asg (e_add (e_mul (ev_var rfl) (g_questions T (hG.ex (e1.trans e2)) (ev_var rfl)) (.inr hq)) (ev_var rfl)) fun H3 e3 => ⟨e2.trans e3, some (nv n), ?_⟩
      rw [place_more hn]
      rfl
    · rintro σ' H' ⟨e2, v, rfl⟩
      rw [iv_len, List.take_length]
      exact s_ret (ev_var rfl) fun H3 e3 => k.go ((e1.trans e2).trans e3)
theorem e_place {a r : Addr} {A : GA} {g : G} {x : List Nat} (ha : Ev ta σ H (.ref a)) (hb : Ev tb σ H (.ref r)) (hG : GameAt C CM H a A g) (hr : SqL K H r (iv x)) (hq : g.q < 2 ^ 64) :
    Ev (tCall (spPlace C CM K) [] E0 (tCons ta (tCons tb tNil))) σ H (nv (Mir.place g.q x)) :=
  e_call (ea2 ha hb) fun H1 e Q q => ⟨a, r, A, g, x, rfl, hG.ex e, ex_l e hr, hq, q⟩
/-! ### count_ones -/
def spOnes : Sp := fun vs H Q _ => ∃ n : Nat, vs = [nv n] ∧ RetV (nv (Mir.ones n)) H Q
theorem onesF_step : ∀ (f n : Nat), n ≤ f → ∀ f', n ≤ f' → Mir.onesF f n = Mir.onesF f' n
  | 0, n, h, f', h' => by
    have e : n = 0 := by omega
    subst e
    cases f' with
    | zero => rfl
    | succ f' => rfl
  | f + 1, n, h, f', h' => by
    by_cases e : n = 0
    · subst e
      cases f' with
      | zero => rfl
      | succ f' => rfl
    · cases f' with
      | zero => omega
      | succ f' =>
        unfold Mir.onesF
        rw [if_neg e, if_neg e, onesF_step f (n / 2) (by omega) f' (by omega)]
theorem ones_pos {n : Nat} (h : 0 < n) : Mir.ones n = n % 2 + Mir.ones (n / 2) := by
  unfold Mir.ones
  cases n with
  | zero => omega
  | succ m =>
    show (if m + 1 = 0 then 0 else (m + 1) % 2 + Mir.onesF m ((m + 1) / 2)) = _
    rw [if_neg (by omega), onesF_step m ((m + 1) / 2) (by omega) ((m + 1) / 2) (Nat.le_refl _)]
theorem c_count_ones (D : DefAt K mg "count_ones" s_count_ones) (T : Txt K mg C CM aT aN aW) : Cal P w K mg base "count_ones" 1 ["number"] spOnes := by
  refine cal_mk D sc_count_ones (fun _ _ _ _ _ _ us hl => match us, hl with | [_], _ => rfl) (fun vs H Q E h => ?_) (fun hr => d_count_ones T hr) fun vs H Q E h => ?_
  · obtain ⟨n, rfl, _⟩ := h
    rfl
  · obtain ⟨n, rfl, k⟩ := h
    refine q_asg ev_c fun H1 e1 => ?_
    refine q_while (fun m σ' H' => Ex H1 H' ∧ ∃ c, σ' = [some (nv m), some (nv c)] ∧ c + Mir.ones m = Mir.ones n) n ⟨Ex.refl _, 0, rfl, Nat.zero_add _⟩ ?_
    rintro m σ' H' ⟨e2, c, rfl, hc⟩
    refine ⟨_, et_test (e_gt (ev_var rfl) (e_cn 0)), fun hb H3 e3 => ?_, fun hb H3 e3 => ?_⟩
    · have hm : 0 < m := by simpa using hb
      refine ⟨fun σ2 H2 => Ex H1 H2 ∧ ∃ c, σ2 = [some (nv (m / 2)), some (nv c)] ∧ c + Mir.ones (m / 2) = Mir.ones n, fun σ2 H2 q => ⟨m / 2, by omega, q⟩, ?_⟩
      refine q_aug (a := (c : Int)) (b := ((m % 2 : Nat) : Int)) rfl (e_mod (ev_var rfl) (e_cn 2) (by omega)) fun H4 e4 => ?_
      refine s_asg (e_div (ev_var rfl) (e_cn 2) (by omega) (by omega)) fun H5 e5 => ⟨((e2.trans e3).trans e4).trans e5, c + m % 2, ?_, ?_⟩
      · rfl
      · rw [ones_pos hm] at hc
        omega
    · have hm : m = 0 := by
        have := of_decide_eq_false hb
        omega
      subst hm
      have hc' : c = Mir.ones n := hc
      subst hc'
      exact s_ret (ev_var rfl) fun H4 e4 => k.go (((e1.trans e2).trans e3).trans e4)
theorem e_ones {n : Nat} (ha : Ev ta σ H (nv n)) : Ev (tCall spOnes [] E0 (tCons ta tNil)) σ H (nv (Mir.ones n)) :=
  e_call (ea1 ha) fun H1 e Q q => ⟨n, rfl, q⟩
/-! ### row_at -/
def spRowAt (C CM : Addr) : Sp := fun vs H Q _ => ∃ (a : Addr) (A : GA) (g : G) (p : Nat), vs = [.ref a, nv p] ∧ GameAt C CM H a A g ∧ g.k ≤ 1000 ∧ 0 < g.q ∧ g.q < 1000 ∧ RetL (iv (Mir.rowAt g.k g.q p)) H Q
theorem rowAtTo_len (q p : Nat) : ∀ i, (Mir.rowAtTo q p i).1.length = i
  | 0 => rfl
  | i + 1 => by
    show (_ :: _ : List Nat).length = _
    rw [List.length_cons, rowAtTo_len q p i]
theorem c_row_at (D : DefAt K mg "row_at" s_row_at) (T : Txt K mg C CM aT aN aW) : Cal P w K mg base "row_at" 1 ["game", "place"] (spRowAt C CM) := by
  refine cal_mk D sc_row_at (fun _ _ _ _ _ _ us hl => match us, hl with | [_, _], _ => rfl) (fun vs H Q E h => ?_) (fun hr => d_row_at T hr) fun vs H Q E h => ?_
  · obtain ⟨a, A, g, p, rfl, _⟩ := h
    rfl
  · obtain ⟨a, A, g, p, rfl, hG, hk, hq, hq2, k⟩ := h
    refine q_asgL (el_lst ea_nil (by decide)) fun l H1 hl e1 h1 => ?_
    refine q_forR1 (ea1 (g_persons T (hG.ex e1) (ev_var rfl))) (by omega) (fun i σ' H' => Ex H H' ∧ H' l = some (.lst (iv (Mir.rowAtTo g.q p i).1)) ∧ ∃ v, σ' = [some (.ref a), some (nv (Mir.rowAtTo g.q p i).2), some (.ref l), v]) (fun H2 e2 => ⟨e1.trans e2, e2 _ _ h1, none, rfl⟩) ?_ ?_
    · rintro i σ' H' hi ⟨e2, h2, v, rfl⟩
      have hs := rowAtTo_len g.q p i
      refine q_ins0 h2 (ev_var rfl) (e_mod (ev_var rfl) (g_questions T (hG.ex e2) (ev_var rfl)) hq) (by rw [iv_len, hs]; omega) fun H3 e3 => ?_
      have h5 : Ex H (upd H3 l (.lst (iv (Mir.rowAtTo g.q p (i + 1)).1))) := Ex.mut (e2.trans e3) hl
      exact s_asg (e_div (ev_var rfl) (g_questions T (hG.ex h5) (ev_var rfl)) hq (by omega)) fun H6 e6 => ⟨Ex.trans h5 e6, e6 _ _ upd_same, some (nv i), rfl⟩
    · rintro σ' H' ⟨e2, h2, v, rfl⟩
      refine s_ret (ev_var rfl) fun H3 e3 => k l H3 hl (e2.trans e3) ?_
      have e : (g.k : Int).toNat = g.k := Int.toNat_natCast _
      rw [e] at h2
      exact e3 _ _ h2
theorem l_rowAt {a : Addr} {A : GA} {g : G} {p : Nat} (ha : Ev ta σ H (.ref a)) (hb : Ev tb σ H (nv p)) (hG : GameAt C CM H a A g) (h1 : g.k ≤ 1000) (h2 : 0 < g.q) (h3 : g.q < 1000) :
    EvL (tCall (spRowAt C CM) [] E0 (tCons ta (tCons tb tNil))) σ H (iv (Mir.rowAt g.k g.q p)) :=
  l_call (ea2 ha hb) fun H1 e Q q => ⟨a, A, g, p, rfl, hG.ex e, h1, h2, h3, q⟩
end
end My
set_option Elab.async false
set_option linter.all false
set_option maxRecDepth 100000
set_option maxHeartbeats 4000000
namespace My
open PySem PySem.Spec PyProof.Rows L2 Evl
open Su173 (Spin together)
open Mir (G)
open Su175 (okRow)
section
variable {P : Program} {w : World} {K : PySem.W.Frag} {mg : Str → Option Value} {base : Heap} {C CM aT aN aW : Addr} {σ : L2.St} {H : Hp} {ta tb tc : TE}
/-! ### are_letters -/
def spLetters (K : PySem.W.Frag) : Sp := fun vs H Q _ => ∃ (r : Addr) (m : Nat) (x : List Nat), vs = [.ref r, nv m] ∧ SqL K H r (iv x) ∧ x.length ≤ 40000 ∧ RetV (.bl (okRow m 4 x)) H Q
theorem dec_le4 (n : Nat) : decide (n ≤ 3) = decide (n < 4) := dec_cast _ _ (by omega)
theorem c_are_letters (D : DefAt K mg "are_letters" s_are_letters) (T : Txt K mg C CM aT aN aW) : Cal P w K mg base "are_letters" 1 ["row", "spins"] (spLetters K) := by
  refine cal_mk D sc_are_letters (fun _ _ _ _ _ _ us hl => match us, hl with | [_, _], _ => rfl) (fun vs H Q E h => ?_) (fun hr => d_are_letters T hr) fun vs H Q E h => ?_
  · obtain ⟨r, m, x, rfl, _⟩ := h
    rfl
  · obtain ⟨r, m, x, rfl, hr, hz, k⟩ := h
    refine q_when (et_test (e_ne (e_len (ev_var rfl) hr) (ev_var rfl))) (fun hb H1 e1 => s_ret ev_c fun H2 e2 => ?_) fun hb H1 e1 => ?_
    · rw [iv_len] at hb
      have g1 := k.go (e1.trans e2)
      rw [okRow_no (by simpa using hb)] at g1
      exact g1
    · rw [iv_len] at hb
      refine s_ret (e_all (bs := x.map fun n => decide (n < 4)) ?_) fun H2 e2 => ?_
      · rw [← map_bl]
        exact l_map (fun n => V.bl (decide (n < 4))) (ev_var rfl) (ex_l e1 hr) hz (fun _ => rfl) fun n H2 _ e2 => ev_is (e_le (ev_var rfl) (e_cn 3)) (congrArg V.bl (dec_le4 n))
      · rw [all_id]
        have g1 := k.go (e1.trans e2)
        rw [okRow_all (by simpa using hb)] at g1
        exact g1
theorem e_letters {r : Addr} {m : Nat} {x : List Nat} (ha : Ev ta σ H (.ref r)) (hb : Ev tb σ H (nv m)) (hr : SqL K H r (iv x)) (hz : x.length ≤ 40000) :
    Ev (tCall (spLetters K) [] E0 (tCons ta (tCons tb tNil))) σ H (.bl (okRow m 4 x)) :=
  e_call (ea2 ha hb) fun H1 e Q q => ⟨r, m, x, rfl, ex_l e hr, hz, q⟩
/-! ### is_plan -/
def spIsPlan (C CM : Addr) (K : PySem.W.Frag) : Sp := fun vs H Q _ => ∃ (a r : Addr) (A : GA) (g : G) (x : List Nat), vs = [.ref a, .ref r] ∧ GameAt C CM H a A g ∧ SqL K H r (iv x) ∧ x.length ≤ 40000 ∧ g.k < 2 ^ 64 ∧ RetV (.bl (okRow (g.k * g.q) 2 x)) H Q
theorem dec_le2 (n : Nat) : decide (n ≤ 1) = decide (n < 2) := dec_cast _ _ (by omega)
theorem c_is_plan (D : DefAt K mg "is_plan" s_is_plan) (T : Txt K mg C CM aT aN aW) : Cal P w K mg base "is_plan" 1 ["game", "row"] (spIsPlan C CM K) := by
  refine cal_mk D sc_is_plan (fun _ _ _ _ _ _ us hl => match us, hl with | [_, _], _ => rfl) (fun vs H Q E h => ?_) (fun hr => d_is_plan T hr) fun vs H Q E h => ?_
  · obtain ⟨a, r, A, g, x, rfl, _⟩ := h
    rfl
  · obtain ⟨a, r, A, g, x, rfl, hG, hr, hz, hk, k⟩ := h
    refine q_when (et_test (e_ne (e_len (ev_var rfl) hr) (e_mul (g_persons T hG (ev_var rfl)) (g_questions T hG (ev_var rfl)) (.inl hk)))) (fun hb H1 e1 => s_ret ev_c fun H2 e2 => ?_) fun hb H1 e1 => ?_
    · rw [iv_len] at hb
      have g1 := k.go (e1.trans e2)
      rw [okRow_no (by simpa using hb)] at g1
      exact g1
    · rw [iv_len] at hb
      refine s_ret (e_all (bs := x.map fun n => decide (n < 2)) ?_) fun H2 e2 => ?_
      · rw [← map_bl]
        exact l_map (fun n => V.bl (decide (n < 2))) (ev_var rfl) (ex_l e1 hr) hz (fun _ => rfl) fun n H2 _ e2 => ev_is (e_le (ev_var rfl) (e_cn 1)) (congrArg V.bl (dec_le2 n))
      · rw [all_id]
        have g1 := k.go (e1.trans e2)
        rw [okRow_all (by simpa using hb)] at g1
        exact g1
theorem e_is_plan {a r : Addr} {A : GA} {g : G} {x : List Nat} (ha : Ev ta σ H (.ref a)) (hb : Ev tb σ H (.ref r)) (hG : GameAt C CM H a A g) (hr : SqL K H r (iv x)) (hz : x.length ≤ 40000) (hk : g.k < 2 ^ 64) :
    Ev (tCall (spIsPlan C CM K) [] E0 (tCons ta (tCons tb tNil))) σ H (.bl (okRow (g.k * g.q) 2 x)) :=
  e_call (ea2 ha hb) fun H1 e Q q => ⟨a, r, A, g, x, rfl, hG.ex e, ex_l e hr, hz, hk, q⟩
/-! ### count_plans -/
def spCountPlans (C CM : Addr) : Sp := fun vs H Q _ => ∃ (a : Addr) (A : GA) (g : G), vs = [.ref a] ∧ GameAt C CM H a A g ∧ g.k < 2 ^ 64 ∧ g.k * g.q ≤ 1000000 ∧ RetV (nv (2 ^ (g.k * g.q))) H Q
theorem c_count_plans (D : DefAt K mg "count_plans" s_count_plans) (T : Txt K mg C CM aT aN aW) : Cal P w K mg base "count_plans" 1 ["game"] (spCountPlans C CM) := by
  refine cal_mk D sc_count_plans (fun _ _ _ _ _ _ us hl => match us, hl with | [_], _ => rfl) (fun vs H Q E h => ?_) (fun hr => d_count_plans T hr) fun vs H Q E h => ?_
  · obtain ⟨a, A, g, rfl, _⟩ := h
    rfl
  · obtain ⟨a, A, g, rfl, hG, hk, hkq, k⟩ := h
    refine s_ret (e_shl (e_cn 1) (e_mul (g_persons T hG (ev_var rfl)) (g_questions T hG (ev_var rfl)) (.inl hk)) hkq (by decide)) fun H1 e1 => ?_
    rw [Nat.one_mul]
    exact k.go e1
theorem e_count_plans {a : Addr} {A : GA} {g : G} (ha : Ev ta σ H (.ref a)) (hG : GameAt C CM H a A g) (hk : g.k < 2 ^ 64) (hkq : g.k * g.q ≤ 1000000) :
    Ev (tCall (spCountPlans C CM) [] E0 (tCons ta tNil)) σ H (nv (2 ^ (g.k * g.q))) :=
  e_call (ea1 ha) fun H1 e Q q => ⟨a, A, g, rfl, hG.ex e, hk, hkq, q⟩
/-! ### plan_at -/
def spPlanAt (C CM : Addr) : Sp := fun vs H Q _ => ∃ (a : Addr) (A : GA) (g : G) (p : Nat), vs = [.ref a, nv p] ∧ GameAt C CM H a A g ∧ g.k < 2 ^ 64 ∧ g.k * g.q ≤ 1000 ∧ RetL (iv (g.plan p)) H Q
theorem c_plan_at (D : DefAt K mg "plan_at" s_plan_at) (T : Txt K mg C CM aT aN aW) : Cal P w K mg base "plan_at" 1 ["game", "place"] (spPlanAt C CM) := by
  refine cal_mk D sc_plan_at (fun _ _ _ _ _ _ us hl => match us, hl with | [_, _], _ => rfl) (fun vs H Q E h => ?_) (fun hr => d_plan_at T hr) fun vs H Q E h => ?_
  · obtain ⟨a, A, g, p, rfl, _⟩ := h
    rfl
  · obtain ⟨a, A, g, p, rfl, hG, hk, hkq, k⟩ := h
    refine q_asg (e_mul (g_persons T hG (ev_var rfl)) (g_questions T hG (ev_var rfl)) (.inl hk)) fun H1 e1 => ?_
    refine s_retL (l_mapR (fun j => nv (p / 2 ^ (g.k * g.q - 1 - j) % 2)) (ea1 (ev_var rfl)) (by omega) (fun _ => rfl) fun i H2 hi e2 => e_and1 (e_shr (ev_var rfl) (e_sub (e_sub (ev_var rfl) (e_cn 1) (by omega)) (ev_var rfl) (by omega)))) fun l H2 hl e2 h2 => ?_
    refine k.go e1 hl e2 ?_
    rw [h2]
    unfold iv G.plan Mir.planAt
    rw [List.map_map]
    rfl
theorem l_plan_at {a : Addr} {A : GA} {g : G} {p : Nat} (ha : Ev ta σ H (.ref a)) (hb : Ev tb σ H (nv p)) (hG : GameAt C CM H a A g) (hk : g.k < 2 ^ 64) (hkq : g.k * g.q ≤ 1000) :
    EvL (tCall (spPlanAt C CM) [] E0 (tCons ta (tCons tb tNil))) σ H (iv (g.plan p)) :=
  l_call (ea2 ha hb) fun H1 e Q q => ⟨a, A, g, p, rfl, hG.ex e, hk, hkq, q⟩
/-! ### answered_by_one_more -/
def spOneMore (K : PySem.W.Frag) : Sp := fun vs H Q _ => ∃ (n r : Addr) (ns own : List Nat) (i : Nat), vs = [.ref n, .ref r, nv i] ∧ SqL K H n (iv ns) ∧ SqL K H r (iv own) ∧ i ≤ 1000 ∧ (∀ x ∈ own, x < 2 ^ 64) ∧ ns.length * own.length ≤ 50000 ∧ RetL (iv (Mir.moreAnswers ns own i)) H Q
theorem more_take {ns own : List Nat} {i j n : Nat} (h : ns[j]? = some n) : Mir.moreAnswers (ns.take (j + 1)) own i = Mir.moreAnswers (ns.take j) own i ++ own.map fun a => n + a * 2 ^ i := by
  unfold Mir.moreAnswers
  rw [take_more h, List.flatMap_append, List.flatMap_cons, List.flatMap_nil, List.append_nil]
theorem more_len (ns own : List Nat) (i : Nat) : (Mir.moreAnswers ns own i).length = ns.length * own.length := by
  induction ns with
  | nil => rw [List.length_nil, Nat.zero_mul]; rfl
  | cons a r ih =>
    unfold Mir.moreAnswers at ih ⊢
    rw [List.flatMap_cons, List.length_append, ih, List.length_map, List.length_cons, Nat.succ_mul, Nat.add_comm]
theorem c_one_more (D : DefAt K mg "answered_by_one_more" s_answered_by_one_more) (T : Txt K mg C CM aT aN aW) : Cal P w K mg base "answered_by_one_more" 1 ["numbers", "own", "person"] (spOneMore K) := by
  refine cal_mk D sc_answered_by_one_more (fun _ _ _ _ _ _ us hl => match us, hl with | [_, _, _], _ => rfl) (fun vs H Q E h => ?_) (fun hr => d_answered_by_one_more T hr) fun vs H Q E h => ?_
  · obtain ⟨n, r, ns, own, i, rfl, _⟩ := h
    rfl
  · obtain ⟨n, r, ns, own, i, rfl, hn, hr, hi, ho, hz, k⟩ := h
    refine q_asgL (el_lst ea_nil (by decide)) fun l H1 hl e1 h1 => ?_
    refine q_forLn (ev_var rfl) (ex_l e1 hn) (fun j σ' H' => Ex H H' ∧ H' l = some (.lst (iv (Mir.moreAnswers (ns.take j) own i))) ∧ ∃ v v2, σ' = [some (.ref n), some (.ref r), some (nv i), some (.ref l), v, v2]) (fun H2 e2 => ⟨e1.trans e2, by rw [e2 _ _ h1]; rfl, none, none, rfl⟩) (fun j σ' H' _ p => ex_l p.1 hn) ?_ ?_
    · rintro j y σ' H' hj ⟨e2, h2, v, v2, rfl⟩
      obtain ⟨m, hm, rfl⟩ := iv_get hj
      have hj2 := lt_of_get hm
      refine s_forLn (ev_var rfl) (ex_l e2 hr) (fun t σ'' H'' => Ex H H'' ∧ H'' l = some (.lst (iv (Mir.moreAnswers (ns.take j) own i ++ (own.take t).map fun a => m + a * 2 ^ i))) ∧ ∃ v2, σ'' = [some (.ref n), some (.ref r), some (nv i), some (.ref l), some (nv m), v2]) (fun H3 e3 => ⟨e2.trans e3, by rw [e3 _ _ h2, List.take_zero, List.map_nil, List.append_nil], v2, rfl⟩) (fun t σ'' H'' _ p => ex_l p.1 hr) ?_ ?_
      · rintro t y2 σ'' H'' ht ⟨e3, h3, v3, rfl⟩
        obtain ⟨a, ha, rfl⟩ := iv_get ht
        refine s_app h3 (ev_var rfl) (e_add (ev_var rfl) (e_shl (ev_var rfl) (ev_var rfl) (by omega) (ho a (List.mem_of_getElem? ha)))) ?_ fun H4 e4 => ⟨Ex.mut (e3.trans e4) hl, ?_, some (nv a), rfl⟩
        · rw [iv_len, List.length_append, more_len, List.length_map, List.length_take, List.length_take]
          have q1 : min j ns.length * own.length ≤ ns.length * own.length := Nat.mul_le_mul_right _ (Nat.min_le_right _ _)
          have q2 : min t own.length ≤ own.length := Nat.min_le_right _ _
          have q3 : own.length ≤ ns.length * own.length := Nat.le_mul_of_pos_left _ (by omega)
          have q4 := lt_of_get ha
          omega
        · refine upd_same.trans (congrArg (fun q => some (HO.lst q)) ?_)
          rw [take_more ha, List.map_append, ← List.append_assoc]
          exact (iv_app _ [m + a * 2 ^ i]).symm
      · rintro σ'' H'' ⟨e3, h3, v3, rfl⟩
        rw [iv_len, List.take_length, ← more_take hm] at h3
        exact ⟨e3, h3, some (nv m), v3, rfl⟩
    · rintro σ' H' ⟨e2, h2, v, v2, rfl⟩
      rw [iv_len, List.take_length] at h2
      exact s_ret (ev_var rfl) fun H3 e3 => k l H3 hl (e2.trans e3) (e3 _ _ h2)
theorem l_one_more {n r : Addr} {ns own : List Nat} {i : Nat} (ha : Ev ta σ H (.ref n)) (hb : Ev tb σ H (.ref r)) (hc : Ev tc σ H (nv i)) (hn : SqL K H n (iv ns)) (hr : SqL K H r (iv own)) (hi : i ≤ 1000) (ho : ∀ x ∈ own, x < 2 ^ 64) (hz : ns.length * own.length ≤ 50000) :
    EvL (tCall (spOneMore K) [] E0 (tCons ta (tCons tb (tCons tc tNil)))) σ H (iv (Mir.moreAnswers ns own i)) :=
  l_call (ea3 ha hb hc) fun H1 e Q q => ⟨n, r, ns, own, i, rfl, ex_l e hn, ex_l e hr, hi, ho, hz, q⟩
/-! ### are_owners -/
def spOwners (C CM : Addr) (K : PySem.W.Frag) : Sp := fun vs H Q _ => ∃ (a r : Addr) (A : GA) (g : G) (x : List Nat), vs = [.ref a, .ref r] ∧ GameAt C CM H a A g ∧ SqL K H r (iv x) ∧ x.length ≤ 40000 ∧ RetV (.bl (!(decide (6 < x.length)) && x.all fun p => decide (p < g.k))) H Q
theorem c_are_owners (D : DefAt K mg "are_owners" s_are_owners) (T : Txt K mg C CM aT aN aW) : Cal P w K mg base "are_owners" 1 ["game", "row"] (spOwners C CM K) := by
  refine cal_mk D sc_are_owners (fun _ _ _ _ _ _ us hl => match us, hl with | [_, _], _ => rfl) (fun vs H Q E h => ?_) (fun hr => d_are_owners T hr) fun vs H Q E h => ?_
  · obtain ⟨a, r, A, g, x, rfl, _⟩ := h
    rfl
  · obtain ⟨a, r, A, g, x, rfl, hG, hr, hz, k⟩ := h
    refine q_when (et_test (e_gt (e_len (ev_var rfl) hr) (e_cn 6))) (fun hb H1 e1 => s_ret ev_c fun H2 e2 => ?_) fun hb H1 e1 => ?_
    · rw [iv_len] at hb
      have g1 := k.go (e1.trans e2)
      rw [hb] at g1
      exact g1
    · rw [iv_len] at hb
      refine s_ret (e_all (bs := x.map fun n => decide (n < g.k)) ?_) fun H2 e2 => ?_
      · rw [← map_bl]
        exact l_map (fun n => V.bl (decide (n < g.k))) (ev_var rfl) (ex_l e1 hr) hz (fun _ => rfl) fun n H2 _ e2 => e_lt (ev_var rfl) (g_persons T (hG.ex (e1.trans e2)) (ev_var rfl))
      · rw [all_id]
        have g1 := k.go (e1.trans e2)
        rw [hb] at g1
        exact g1
theorem e_owners {a r : Addr} {A : GA} {g : G} {x : List Nat} (ha : Ev ta σ H (.ref a)) (hb : Ev tb σ H (.ref r)) (hG : GameAt C CM H a A g) (hr : SqL K H r (iv x)) (hz : x.length ≤ 40000) :
    Ev (tCall (spOwners C CM K) [] E0 (tCons ta (tCons tb tNil))) σ H (.bl (!(decide (6 < x.length)) && x.all fun p => decide (p < g.k))) :=
  e_call (ea2 ha hb) fun H1 e Q q => ⟨a, r, A, g, x, rfl, hG.ex e, ex_l e hr, hz, q⟩
/-! ### number_of_bits -/
def spBits (K : PySem.W.Frag) : Sp := fun vs H Q _ => ∃ (r : Addr) (x : List Nat), vs = [.ref r] ∧ SqL K H r (iv x) ∧ x.length ≤ 1000 ∧ (∀ b ∈ x, b < 2 ^ 64) ∧ RetV (nv (Mir.code2 x)) H Q
theorem code2_snoc (l : List Nat) (b : Nat) : Mir.code2 (l ++ [b]) = Mir.code2 l + b * 2 ^ l.length := by
  induction l with
  | nil => show b + 2 * 0 = 0 + b * 2 ^ 0; omega
  | cons a r ih =>
    have e1 : Mir.code2 (a :: r ++ [b]) = a + 2 * Mir.code2 (r ++ [b]) := rfl
    have e2 : Mir.code2 (a :: r) = a + 2 * Mir.code2 r := rfl
    rw [e1, e2, ih, List.length_cons, Nat.pow_succ]
    have : b * (2 ^ r.length * 2) = 2 * (b * 2 ^ r.length) := by rw [Nat.mul_comm (2 ^ r.length) 2, Nat.mul_left_comm]
    omega
theorem c_number_of_bits (D : DefAt K mg "number_of_bits" s_number_of_bits) (T : Txt K mg C CM aT aN aW) : Cal P w K mg base "number_of_bits" 1 ["bits"] (spBits K) := by
  refine cal_mk D sc_number_of_bits (fun _ _ _ _ _ _ us hl => match us, hl with | [_], _ => rfl) (fun vs H Q E h => ?_) (fun hr => d_number_of_bits T hr) fun vs H Q E h => ?_
  · obtain ⟨r, x, rfl, _⟩ := h
    rfl
  · obtain ⟨r, x, rfl, hr, hz, hb, k⟩ := h
    refine q_asg ev_c fun H1 e1 => ?_
    refine q_forE (ev_var rfl) (ex_l e1 hr) (fun i σ' H' => Ex H1 H' ∧ ∃ v v2, σ' = [some (.ref r), some (nv (Mir.code2 (x.take i))), v, v2]) (fun H2 e2 => ⟨e2, none, none, rfl⟩) (fun i σ' H' p => ex_l (e1.trans p.1) hr) ?_ ?_
    · rintro i y σ' H0 H' hi ⟨e2, v, v2, rfl⟩ e3
      obtain ⟨n, hn, rfl⟩ := iv_get hi
      have hl := lt_of_get hn
      refine s_aug (a := ((Mir.code2 (x.take i) : Nat) : Int)) (b := ((n * 2 ^ i : Nat) : Int)) rfl (e_shl (ev_var rfl) (ev_var rfl) (by omega) (hb n (List.mem_of_getElem? hn))) fun H3 e4 => ⟨(e2.trans e3).trans e4, some (nv i), some (nv n), ?_⟩
      rw [take_more hn, code2_snoc, List.length_take, Nat.min_eq_left (by omega)]
      show [_, some (V.int (_ + _)), _, _] = _
      rw [← Int.natCast_add]
    · rintro σ' H' ⟨e2, v, v2, rfl⟩
      rw [iv_len, List.take_length]
      exact s_ret (ev_var rfl) fun H3 e3 => k.go ((e1.trans e2).trans e3)
theorem e_bits {r : Addr} {x : List Nat} (ha : Ev ta σ H (.ref r)) (hr : SqL K H r (iv x)) (hz : x.length ≤ 1000) (hb : ∀ b ∈ x, b < 2 ^ 64) :
    Ev (tCall (spBits K) [] E0 (tCons ta tNil)) σ H (nv (Mir.code2 x)) :=
  e_call (ea1 ha) fun H1 e Q q => ⟨r, x, rfl, ex_l e hr, hz, hb, q⟩
theorem e_bitsL {x : List Nat} (ha : EvL ta σ H (iv x)) (hz : x.length ≤ 1000) (hb : ∀ b ∈ x, b < 2 ^ 64) :
    Ev (tCall (spBits K) [] E0 (tCons ta tNil)) σ H (nv (Mir.code2 x)) := fun H1 e Q q =>
  ha H1 e _ fun p H2 hp e2 h2 => ⟨p, x, rfl, sq_of h2, hz, hb, fun H3 e3 => q H3 (e2.trans e3)⟩
/-! ### may_begin, count_rows -/
def spMay : Sp := fun vs H Q _ => ∃ (k q : Nat), vs = [nv k, nv q] ∧ RetV (.bl (Mir.mayBegin k q)) H Q
theorem c_may_begin (D : DefAt K mg "may_begin" s_may_begin) (T : Txt K mg C CM aT aN aW) : Cal P w K mg base "may_begin" 1 ["persons", "questions"] spMay := by
  refine cal_mk D sc_may_begin (fun _ _ _ _ _ _ us hl => match us, hl with | [_, _], _ => rfl) (fun vs H Q E h => ?_) (fun hr => d_may_begin T hr) fun vs H Q E h => ?_
  · obtain ⟨k, q, rfl, _⟩ := h
    rfl
  · obtain ⟨kk, q, rfl, k⟩ := h
    refine q_when (et_or (et_test (e_lt (ev_var rfl) (e_cn 2))) fun _ => et_test (e_gt (ev_var rfl) (e_cn 4))) (fun hb H1 e1 => s_ret ev_c fun H2 e2 => ?_) fun hb H1 e1 => ?_
    · have g1 := k.go (e1.trans e2)
      have e : Mir.mayBegin kk q = false := by
        unfold Mir.mayBegin
        simp at hb ⊢
        omega
      rw [e] at g1
      exact g1
    · refine q_when (et_or (et_test (e_lt (ev_var rfl) (e_cn 1))) fun _ => et_test (e_gt (ev_var rfl) (e_cn 3))) (fun hb2 H2 e2 => s_ret ev_c fun H3 e3 => ?_) fun hb2 H2 e2 => ?_
      · have g1 := k.go ((e1.trans e2).trans e3)
        have e : Mir.mayBegin kk q = false := by
          unfold Mir.mayBegin
          simp at hb2 ⊢
          omega
        rw [e] at g1
        exact g1
      · have hk : kk ≤ 4 := by
          simp at hb
          omega
        refine s_ret (e_le (e_mul (ev_var rfl) (ev_var rfl) (.inl (by omega))) (e_cn 8)) fun H3 e3 => ?_
        have g1 := k.go ((e1.trans e2).trans e3)
        have e : Mir.mayBegin kk q = decide (kk * q ≤ 8) := by
          unfold Mir.mayBegin
          refine dec_cast _ _ ?_
          simp at hb hb2
          omega
        rw [e] at g1
        exact g1
theorem e_may {k q : Nat} (ha : Ev ta σ H (nv k)) (hb : Ev tb σ H (nv q)) : Ev (tCall spMay [] E0 (tCons ta (tCons tb tNil))) σ H (.bl (Mir.mayBegin k q)) :=
  e_call (ea2 ha hb) fun H1 e Q q' => ⟨k, q, rfl, q'⟩
def spCountRows : Sp := fun vs H Q _ => ∃ (k q : Nat), vs = [nv k, nv q] ∧ k ≤ 1000 ∧ q < 1000 ∧ RetV (nv (Mir.countRows k q)) H Q
theorem c_count_rows (D : DefAt K mg "count_rows" s_count_rows) (T : Txt K mg C CM aT aN aW) : Cal P w K mg base "count_rows" 1 ["persons", "questions"] spCountRows := by
  refine cal_mk D sc_count_rows (fun _ _ _ _ _ _ us hl => match us, hl with | [_, _], _ => rfl) (fun vs H Q E h => ?_) (fun hr => d_count_rows T hr) fun vs H Q E h => ?_
  · obtain ⟨k, q, rfl, _⟩ := h
    rfl
  · obtain ⟨kk, q, rfl, hk, hq, k⟩ := h
    refine q_asg ev_c fun H1 e1 => ?_
    refine q_forR1 (ea1 (ev_var rfl)) (by omega) (fun i σ' H' => Ex H1 H' ∧ ∃ v, σ' = [some (nv kk), some (nv q), some (nv (q ^ i)), v]) (fun H2 e2 => ⟨e2, none, rfl⟩) ?_ ?_
    · rintro i σ' H' hi ⟨e2, v, rfl⟩
      refine s_asg (e_mul (ev_var rfl) (ev_var rfl) (.inr (by omega))) fun H3 e3 => ⟨e2.trans e3, some (nv i), ?_⟩
      rw [Nat.pow_succ]
      rfl
    · rintro σ' H' ⟨e2, v, rfl⟩
      rw [Int.toNat_natCast]
      exact s_ret (ev_var rfl) fun H3 e3 => k.go ((e1.trans e2).trans e3)
theorem e_count_rows {k q : Nat} (ha : Ev ta σ H (nv k)) (hb : Ev tb σ H (nv q)) (hk : k ≤ 1000) (hq : q < 1000) : Ev (tCall spCountRows [] E0 (tCons ta (tCons tb tNil))) σ H (nv (Mir.countRows k q)) :=
  e_call (ea2 ha hb) fun H1 e Q q' => ⟨k, q, rfl, hk, hq, q'⟩
/-! ### go_together -/
def spTogether (CM : Addr) : Sp := fun vs H Q _ => ∃ (p p' l l' : Addr) (x y : Spin), vs = [.ref p, .ref p'] ∧ MeasAt CM H p x l ∧ MeasAt CM H p' y l' ∧ x.l.length = y.l.length ∧ RetV (.bl (together x y)) H Q
def differ (a b : List Nat) : Nat := ((a.zip b).filter fun p => p.1 != 0 && (p.2 != 0 && p.1 != p.2)).length
theorem differ_more {a b : List Nat} {i x y : Nat} (h1 : a[i]? = some x) (h2 : b[i]? = some y) : differ (a.take (i + 1)) (b.take (i + 1)) = differ (a.take i) (b.take i) + (if (x != 0 && (y != 0 && x != y)) = true then 1 else 0) := by
  unfold differ
  have hl1 := lt_of_get h1
  have hl2 := lt_of_get h2
  rw [take_more h1, take_more h2, List.zip_append (by rw [List.length_take, List.length_take]; omega), List.filter_append, List.length_append]
  congr 1
  by_cases h : (x != 0 && (y != 0 && x != y)) = true
  · rw [if_pos h]
    show (List.filter _ [(x, y)]).length = 1
    rw [List.filter_cons, if_pos h]
    rfl
  · rw [if_neg h]
    show (List.filter _ [(x, y)]).length = 0
    rw [List.filter_cons, if_neg h]
    rfl
theorem bne_dec (a b : Nat) : (a != b) = !decide (a = b) := rfl
theorem c_go_together (D : DefAt K mg "go_together" s_go_together) (T : Txt K mg C CM aT aN aW) : Cal P w K mg base "go_together" 1 ["one", "other"] (spTogether CM) := by
  refine cal_mk D sc_go_together (fun _ _ _ _ _ _ us hl => match us, hl with | [_, _], _ => rfl) (fun vs H Q E h => ?_) (fun hr => d_go_together T hr) fun vs H Q E h => ?_
  · obtain ⟨p, p', l, l', x, y, rfl, _⟩ := h
    rfl
  · obtain ⟨p, p', l, l', x, y, rfl, hx, hy, hn, k⟩ := h
    refine q_asg ev_c fun H1 e1 => ?_
    have hx1 := hx.ex e1
    have hy1 := hy.ex e1
    refine q_forZ (K := K) (ea2 (m_letters T hx1 (ev_var rfl)) (m_letters T hy1 (ev_var rfl))) (sq_of hx1.2) (sq_of hy1.2) (by rw [iv_len, iv_len, hn]) (fun i σ' H' => Ex H1 H' ∧ ∃ v v2, σ' = [some (.ref p), some (.ref p'), some (nv (differ (x.l.take i) (y.l.take i))), v, v2]) (fun H2 e2 => ⟨e2, none, none, rfl⟩) (fun i σ' H' q => ⟨ex_l q.1 (sq_of hx1.2), ex_l q.1 (sq_of hy1.2)⟩) ?_ ?_
    · rintro i u u' σ' H0 H' hi hj ⟨e2, v, v2, rfl⟩ e3
      obtain ⟨n, hn1, rfl⟩ := iv_get hi
      obtain ⟨n', hn2, rfl⟩ := iv_get hj
      refine s_when (b := (n != 0 && (n' != 0 && n != n'))) (et_and (et_test (e_ne (ev_var rfl) (e_cn 0))) fun _ => et_and (et_test (e_ne (ev_var rfl) (e_cn 0))) fun _ => et_test (e_ne (ev_var rfl) (ev_var rfl))) (fun hb H2 e4 => ?_) fun hb H2 e4 => ⟨(e2.trans e3).trans e4, some (nv n), some (nv n'), ?_⟩
      · refine s_aug (a := ((differ (x.l.take i) (y.l.take i) : Nat) : Int)) (b := 1) rfl ev_c fun H3 e5 => ⟨((e2.trans e3).trans e4).trans e5, some (nv n), some (nv n'), ?_⟩
        rw [differ_more hn1 hn2, if_pos hb]
        rfl
      · rw [differ_more hn1 hn2, if_neg (by rw [hb]; decide), Nat.add_zero]
        rfl
    · rintro σ' H' ⟨e2, v, v2, rfl⟩
      rw [iv_len, List.take_length, hn, List.take_length]
      refine s_ret (e_eq (e_mod (ev_var rfl) (e_cn 2) (by decide)) (e_cn 0)) fun H3 e3 => ?_
      have g1 := k.go ((e1.trans e2).trans e3)
      have e : together x y = decide (differ x.l y.l % 2 = 0) := rfl
      rw [e] at g1
      exact g1
theorem e_together {p p' l l' : Addr} {x y : Spin} (ha : Ev ta σ H (.ref p)) (hb : Ev tb σ H (.ref p')) (hx : MeasAt CM H p x l) (hy : MeasAt CM H p' y l') (hn : x.l.length = y.l.length) :
    Ev (tCall (spTogether CM) [] E0 (tCons ta (tCons tb tNil))) σ H (.bl (together x y)) :=
  e_call (ea2 ha hb) fun H1 e Q q => ⟨p, p', l, l', x, y, rfl, hx.ex e, hy.ex e, hn, q⟩
end
end My
set_option Elab.async false
set_option linter.all false
set_option maxRecDepth 100000
set_option maxHeartbeats 4000000
namespace My
open PySem PySem.Spec PyProof.Rows L2 Evl
open Su173 (Spin together)
open Mir (G)
open Su175 (okRow blank)
/-! ### new measurements -/
/-- te gives a new measurement x, its letters a new list -/
def EvM (CM : Addr) (te : TE) (σ : L2.St) (H : Hp) (x : Spin) : Prop := ∀ H1, Ex H H1 → ∀ Q : VK, (∀ p l H2, H1 p = none → H1 l = none → Ex H1 H2 → MeasAt CM H2 p x l → Q (.ref p) H2) → te σ H1 Q
def MX (CM : Addr) (H : Hp) (v : V) (x : Spin) : Prop := ∃ p l, v = V.ref p ∧ MeasAt CM H p x l
/-- new since H0 -/
def MN (CM : Addr) (H0 H : Hp) (v : V) (x : Spin) : Prop := ∃ p l, v = V.ref p ∧ MeasAt CM H p x l ∧ H0 l = none
theorem MN.ex {CM : Addr} {H0 H H' : Hp} {v : V} {x : Spin} (h : MN CM H0 H v x) (e : Ex H H') : MN CM H0 H' v x := by
  obtain ⟨p, l, rfl, h1, h2⟩ := h
  exact ⟨p, l, rfl, h1.ex e, h2⟩
theorem MX.ex {CM : Addr} {H H' : Hp} {v : V} {x : Spin} (h : MX CM H v x) (e : Ex H H') : MX CM H' v x := by
  obtain ⟨p, l, rfl, h1⟩ := h
  exact ⟨p, l, rfl, h1.ex e⟩
theorem MN.mx {CM : Addr} {H0 H : Hp} {v : V} {x : Spin} (h : MN CM H0 H v x) : MX CM H v x := by
  obtain ⟨p, l, rfl, h1, _⟩ := h
  exact ⟨p, l, rfl, h1⟩
theorem MS.mx {CM : Addr} {H : Hp} {M : List Addr} {v : V} {x : Spin} (h : MS CM H M v x) : MX CM H v x := by
  obtain ⟨p, l, rfl, h1, _⟩ := h
  exact ⟨p, l, rfl, h1⟩
/-- a list of new measurements -/
def EvMs (CM : Addr) (te : TE) (σ : L2.St) (H : Hp) (xs : List Spin) : Prop := ∀ H1, Ex H H1 → ∀ Q : VK, (∀ p vs H2, H1 p = none → Ex H1 H2 → H2 p = some (.lst vs) → Paired (MN CM H1 H2) vs xs → Q (.ref p) H2) → te σ H1 Q
def MD (CM : Addr) (H0 : Hp) (D : Addr) (H : Hp) (v : V) (x : Spin) : Prop := ∃ p l, v = V.ref p ∧ MeasAt CM H p x l ∧ H0 l = none ∧ p ≠ D ∧ l ≠ D
theorem MD.mn {CM : Addr} {H0 H : Hp} {D : Addr} {v : V} {x : Spin} (h : MD CM H0 D H v x) : MN CM H0 H v x := by
  obtain ⟨p, l, rfl, h1, h2, _⟩ := h
  exact ⟨p, l, rfl, h1, h2⟩
theorem MD.ex {CM : Addr} {H0 H H' : Hp} {D : Addr} {v : V} {x : Spin} (h : MD CM H0 D H v x) (e : Ex H H') : MD CM H0 D H' v x := by
  obtain ⟨p, l, rfl, h1, h2, h3⟩ := h
  exact ⟨p, l, rfl, h1.ex e, h2, h3⟩
theorem MD.put {CM : Addr} {H0 H : Hp} {D : Addr} {v : V} {x : Spin} {u : HO} (h : MD CM H0 D H v x) : MD CM H0 D (upd H D u) v x := by
  obtain ⟨p, l, rfl, ⟨⟨dx, h1⟩, h4⟩, h2, h3, h5⟩ := h
  exact ⟨p, l, rfl, ⟨⟨dx, by rw [upd_ne h3]; exact h1⟩, by rw [upd_ne h5]; exact h4⟩, h2, h3, h5⟩
def Mw (CM : Addr) (H1 : Hp) (f : Nat → Spin) (D : Addr) (i : Nat) (H' : Hp) : Prop := H1 D = none ∧ Ex H1 H' ∧ ∃ ys, H' D = some (.lst ys) ∧ Paired (MD CM H1 D H') ys ((List.range i).map f)
section
variable {K : PySem.W.Frag} {CM : Addr} {σ : L2.St} {H H' : Hp} {ta tb te tx tl : TE} {t u : TT} {x y z v : V}
theorem mw_turn {H1 : Hp} {f : Nat → Spin} {D : Addr} {i : Nat} {σ2 : L2.St} (p : Mw CM H1 f D i H') (hi : i < 50000) (he : EvM CM te σ2 H1 (f i)) :
    tYes σ2 H' fun b H3 => if b = true then te σ2 H3 fun y H4 => ∃ acc, H4 D = some (.lst acc) ∧ acc.length < sizeLine ∧ Mw CM H1 f D (i + 1) (upd H4 D (.lst (acc ++ [y]))) else Mw CM H1 f D (i + 1) H3 := by
  obtain ⟨p1, p2, ys, p3, p4⟩ := p
  show te σ2 H' fun y H4 => ∃ acc, H4 D = some (.lst acc) ∧ acc.length < sizeLine ∧ Mw CM H1 f D (i + 1) (upd H4 D (.lst (acc ++ [y])))
  refine he H' p2 _ fun q l H4 hq hl e4 hm => ⟨ys, e4 D _ p3, sz_lt (by have := Paired.length p4; rw [List.length_map, List.length_range] at this; omega), p1, Ex.mut (p2.trans e4) p1, _, upd_same, ?_⟩
  rw [List.range_succ, List.map_append]
  have hqD : q ≠ D := fun z => by rw [z, p3] at hq; cases hq
  have hlD : l ≠ D := fun z => by rw [z, p3] at hl; cases hl
  refine Paired.snoc (paired_mono p4 fun _ _ r => (r.ex e4).put) ?_
  exact MD.put ⟨q, l, rfl, hm, fresh_back p2 hl, hqD, hlD⟩
theorem ms_lcL {a : Addr} {xs : List V} {j : Nat} {vs : List Nat} (f : Nat → Spin) (h : Ev tl σ H (.ref a)) (hx : SqL K H a xs) (hz : xs.length ≤ 40000) (hw : ∀ x, wipe ((wipe σ vs).set j (some x)) vs = wipe σ vs)
    (he : ∀ (i : Nat) (x : V) H1, Ex H H1 → xs[i]? = some x → EvM CM te ((wipe σ vs).set j (some x)) H1 (f i)) : EvMs CM (tLc (iList K tl) (gName j) tYes te vs) σ H ((List.range xs.length).map f) := fun H0 e Q q => h H0 e _ fun H1 e1 => ⟨a, rfl, ⟨xs, ex_l (e.trans e1) hx⟩, fun Dl hD =>
  lc_list (xs := xs) (Mw CM H1 f Dl) ⟨hD, Ex.new hD, _, upd_same, .nil⟩ (fun i H' _ p => ex_l ((e.trans e1).trans p.2.1) hx) (fun i x H' hi p => ⟨hw x, mw_turn p (by have := lt_of_get hi; omega) (he i x H1 (e.trans e1) hi)⟩)
    (fun H' p => by
      obtain ⟨p1, p2, ys, p3, p4⟩ := p
      exact q Dl ys H' (fresh_back e1 p1) (e1.trans p2) p3 (paired_mono p4 fun _ _ r => by
        obtain ⟨p, l, rfl, h1, h2, _⟩ := r
        exact ⟨p, l, rfl, h1, fresh_back e1 h2⟩))⟩
theorem ms_lcR {n j : Nat} {vs : List Nat} {ta : TA} (f : Nat → Spin) (h : EvA ta σ H [nv n]) (hn : n ≤ 40000) (hw : ∀ x, wipe ((wipe σ vs).set j (some x)) vs = wipe σ vs)
    (he : ∀ (i : Nat) H1, i < n → Ex H H1 → EvM CM te ((wipe σ vs).set j (some (nv i))) H1 (f i)) : EvMs CM (tLc (iRng1 ta) (gName j) tYes te vs) σ H ((List.range n).map f) := fun H0 e Q q => h H0 e _ fun H1 e1 => ⟨(n : Int), rfl, by omega, by omega, fun Dl hD =>
  lc_range (lo := 0) (n := (n : Int).toNat) (Mw CM H1 f Dl) ⟨hD, Ex.new hD, _, upd_same, .nil⟩ (fun i H' hi p => by
    have e0 : (0 : Int) + (i : Int) = (i : Int) := Int.zero_add _
    show wipe ((wipe σ vs).set j (some (.int ((0 : Int) + (i : Int))))) vs = wipe σ vs ∧ tYes ((wipe σ vs).set j (some (.int ((0 : Int) + (i : Int))))) H' fun b H3 => if b = true then te ((wipe σ vs).set j (some (.int ((0 : Int) + (i : Int))))) H3 fun y H4 => ∃ acc, H4 Dl = some (.lst acc) ∧ acc.length < sizeLine ∧ Mw CM H1 f Dl (i + 1) (upd H4 Dl (.lst (acc ++ [y]))) else Mw CM H1 f Dl (i + 1) H3
    rw [e0]
    exact ⟨hw _, mw_turn p (by omega) (he i H1 (by omega) (e.trans e1))⟩)
    (fun H' p => by
      rw [Int.toNat_natCast] at p
      obtain ⟨p1, p2, ys, p3, p4⟩ := p
      exact q Dl ys H' (fresh_back e1 p1) (e1.trans p2) p3 (paired_mono p4 fun _ _ r => by
        obtain ⟨p, l, rfl, h1, h2, _⟩ := r
        exact ⟨p, l, rfl, h1, fresh_back e1 h2⟩))⟩
/-- two arguments, the second a new list -/
theorem ea2L {tb : TE} {xs : List V} (h : Ev ta σ H v) (h2 : EvL tb σ H xs) : ∀ H1, Ex H H1 → ∀ Q : List V → Hp → Prop, (∀ l H2, H1 l = none → Ex H1 H2 → H2 l = some (.lst xs) → Q [v, .ref l] H2) → tCons ta (tCons tb tNil) σ H1 Q := fun H1 e Q q =>
  h H1 e _ fun H2 e2 => h2 H2 (e.trans e2) _ fun l H3 hl e3 h3 => q l H3 (fresh_back e2 hl) (e2.trans e3) h3
end
section
variable {P : Program} {w : World} {K : PySem.W.Frag} {mg : Str → Option Value} {base : Heap} {C CM aT aN aW : Addr} {σ : L2.St} {H : Hp} {ta tb tc : TE}
theorem put_here {f : Str} {v x : V} {r : List (Str × V)} : putF f v ((f, x) :: r) = (f, v) :: r := if_pos rfl
theorem put_past {f g : Str} {v x : V} {r : List (Str × V)} (h : ¬ g = f) : putF f v ((g, x) :: r) = (g, x) :: putF f v r := if_neg h
/-! ### a field's store -/
theorem s_fld {a C : Addr} {dx : Addr} {fs : List (Str × V)} {f : Str} {te : TE} {v : V} {D : Ends} (h : Ev te σ H v) (ha : Ev ta σ H (.ref a)) (ho : H a = some (.ins C dx fs)) (hc : Cls K C) (hn : NoAttr K C f) (hl : fs.length < 1000)
    (k : ∀ H1, Ex H H1 → D.nx σ (upd H1 a (.ins C dx (putF f v fs)))) : sFld K ta te f D σ H := h H (Ex.refl H) _ fun H1 e1 => ha H1 e1 _ fun H2 e2 =>
  ⟨a, C, dx, fs, rfl, (e1.trans e2) a _ ho, hc, hn, hl, k H2 (e1.trans e2)⟩
theorem q_fld {a C : Addr} {dx : Addr} {fs : List (Str × V)} {f : Str} {te : TE} {v : V} {D : Ends} {tz : TS} (h : Ev te σ H v) (ha : Ev ta σ H (.ref a)) (ho : H a = some (.ins C dx fs)) (hc : Cls K C) (hn : NoAttr K C f) (hl : fs.length < 1000)
    (k : ∀ H1, Ex H H1 → tz D σ (upd H1 a (.ins C dx (putF f v fs)))) : tSeq (sFld K ta te f) tz D σ H := s_fld (D := { D with nx := tz D }) h ha ho hc hn hl k
theorem s_fldL {a C : Addr} {dx : Addr} {fs : List (Str × V)} {f : Str} {te : TE} {xs : List V} {D : Ends} (h : EvL te σ H xs) (ha : Ev ta σ H (.ref a)) (ho : H a = some (.ins C dx fs)) (hc : Cls K C) (hn : NoAttr K C f) (hl : fs.length < 1000)
    (k : ∀ p H1, H p = none → Ex H H1 → H1 p = some (.lst xs) → D.nx σ (upd H1 a (.ins C dx (putF f (.ref p) fs)))) : sFld K ta te f D σ H := h H (Ex.refl H) _ fun p H1 hp e1 h1 => ha H1 e1 _ fun H2 e2 =>
  ⟨a, C, dx, fs, rfl, (e1.trans e2) a _ ho, hc, hn, hl, k p H2 hp (e1.trans e2) (e2 p _ h1)⟩
theorem q_fldL {a C : Addr} {dx : Addr} {fs : List (Str × V)} {f : Str} {te : TE} {xs : List V} {D : Ends} {tz : TS} (h : EvL te σ H xs) (ha : Ev ta σ H (.ref a)) (ho : H a = some (.ins C dx fs)) (hc : Cls K C) (hn : NoAttr K C f) (hl : fs.length < 1000)
    (k : ∀ p H1, H p = none → Ex H H1 → H1 p = some (.lst xs) → tz D σ (upd H1 a (.ins C dx (putF f (.ref p) fs)))) : tSeq (sFld K ta te f) tz D σ H := s_fldL (D := { D with nx := tz D }) h ha ho hc hn hl k
theorem upd_keep {H0 H : Hp} {p : Addr} {u : HO} (e : ∀ b o, H0 b = some o → b ≠ p → H b = some o) : ∀ b o, H0 b = some o → b ≠ p → upd H p u b = some o := fun b o h hb => by
  rw [upd_ne hb]
  exact e b o h hb
/-! ### Measurement -/
def spMInit (CM : Addr) : Sp := fun vs H Q _ => ∃ (p dx l : Addr) (s : Nat), vs = [.ref p, nv s, .ref l] ∧ H p = some (.ins CM dx []) ∧ ∀ H', H' p = some (.ins CM dx (mF s l)) → (∀ b o, H b = some o → b ≠ p → H' b = some o) → Q .non H'
structure MDef (K : PySem.W.Frag) (mg : Str → Option Value) (cn : Str) (C : Addr) (qual : Str) (st : Stmt) : Prop where
  ex : ∃ (f : Addr) (fd : FuncData), Fun K "__init__" qual st f fd ∧ mg cn = some (.ref C) ∧ Mk K C f
theorem mkc_mk {cn qual : Str} {st : Stmt} {N ps : List Str} {k : Nat} {sp : Sp} {t : TS} (D : MDef K mg cn C qual st) (S : FnScope N ps (defScope st))
    (hb : ∀ (kV doc pm : Value) (an : Option Addr) (cdv ct : Value) (us : List Value), us.length = ps.length → bindArgs (PySem.W.fnOf "__init__" qual (defArgs st) (defBody st) (defScope st) .none kV doc pm an cdv ct) ⟨us, []⟩ = pure (ps.zip us))
    (len : ∀ vs H Q E, sp vs H Q E → vs.length = ps.length)
    (hd : ∀ {f : Addr} {cdv : Value} {A : Around} {outer : List Env} {s : Shared} {H : Hp} {E : XK}, Room k (A.deeper (envOfC qual (defScope st) s.heap.objs.size f cdv)) → PSs (cxOf CX0 P w K mg base N qual (defScope st) f cdv A outer s H E).nox (defBody st) t)
    (hp : ∀ vs H Q E, sp vs H Q E → t { nx := fun _ H' => Q .non H', rt := Q } (start N vs) H) : MkC P w K mg base cn C (k + 1) ps sp := by
  obtain ⟨f, fd, F, hm, mk⟩ := D.ex
  exact ⟨f, fd, hm, mk, F.binds hb, F.ok S len fun cdv A outer s H vs Q E hr h => ⟨t, hd hr, hp vs H Q E h⟩⟩
theorem c_Measurement (D : MDef K mg "Measurement" CM "Measurement.__init__" s_Measurement_init) (T : Txt K mg C CM aT aN aW) : MkC P w K mg base "Measurement" CM 1 ["self", "sign", "letters"] (spMInit CM) := by
  refine mkc_mk D sc_Measurement_init (fun _ _ _ _ _ _ us hl => match us, hl with | [_, _, _], _ => rfl) (fun vs H Q E h => ?_) (fun hr => d_Measurement_init T hr) fun vs H Q E h => ?_
  · obtain ⟨p, dx, l, s, rfl, _⟩ := h
    rfl
  · obtain ⟨p, dx, l, s, rfl, hp, k⟩ := h
    refine q_fld (ev_var rfl) (ev_var rfl) hp T.clM T.m_sign (by decide) fun H1 e1 => ?_
    refine s_fld (ev_var rfl) (ev_var rfl) upd_same T.clM T.m_letters (by show 1 < 1000; decide) fun H2 e2 => k _ ?_ ?_
    · refine upd_same.trans (congrArg (fun q => some (HO.ins CM dx q)) ?_)
      show putF "letters" (.ref l) [("sign", nv s)] = _
      rw [put_past (by decide +kernel)]
      rfl
    · exact upd_keep fun b o h hb => e2 b o (by rw [upd_ne hb]; exact e1 b o h)
/-- Measurement(s, l) -/
theorem t_make {s : Nat} {l : Addr} {ta : TA} (h : EvA ta σ H [nv s, .ref l]) : ∀ H1, Ex H H1 → ∀ Q : VK, (∀ p H2, H1 p = none → Ex H1 H2 → (∃ dx, H2 p = some (.ins CM dx (mF s l))) → Q (.ref p) H2) → tMake CM (spMInit CM) [] E0 ta σ H1 Q := fun H1 e Q q =>
  h H1 e _ fun H2 e2 x dx hx hd ne => ⟨x, dx, l, s, rfl, upd_same, fun H' h1 k => ⟨rfl, q x H' (fresh_back e2 hx) (e2.trans (Same.made hx hd k)) ⟨dx, h1⟩⟩⟩
/-- Measurement(s, a new list) -/
theorem m_makeL {s : Nat} {xs : List Nat} (h : Ev ta σ H (nv s)) (h2 : EvL tb σ H (iv xs)) : EvM CM (tMake CM (spMInit CM) [] E0 (tCons ta (tCons tb tNil))) σ H ⟨s, xs⟩ := fun H1 e Q q =>
  ea2L h h2 H1 e _ fun l H2 hl e2 hl2 x dx hx hd ne => ⟨x, dx, l, s, rfl, upd_same, fun H' h1 k => ⟨rfl, q x l H' (fresh_back e2 hx) hl (e2.trans (Same.made hx hd k)) ⟨⟨dx, h1⟩, Same.made hx hd k _ _ hl2⟩⟩⟩
/-! ### without_letters -/
def spBlank (CM : Addr) : Sp := fun vs H Q _ => ∃ m : Nat, vs = [nv m] ∧ m ≤ 1000 ∧ ∀ p l H2, H p = none → H l = none → Ex H H2 → MeasAt CM H2 p (blank m) l → Q (.ref p) H2
theorem c_without_letters (D : DefAt K mg "without_letters" s_without_letters) (T : Txt K mg C CM aT aN aW) (cM : MkC P w K mg base "Measurement" CM 1 ["self", "sign", "letters"] (spMInit CM)) : Cal P w K mg base "without_letters" 3 ["spins"] (spBlank CM) := by
  refine cal_mk D sc_without_letters (fun _ _ _ _ _ _ us hl => match us, hl with | [_], _ => rfl) (fun vs H Q E h => ?_) (fun hr => d_without_letters cM T hr) fun vs H Q E h => ?_
  · obtain ⟨m, rfl, _⟩ := h
    rfl
  · obtain ⟨m, rfl, hm, k⟩ := h
    have g : EvL (tOp rRep (tLst (tCons (tC (.int 0)) tNil)) (tVar 0)) (start ["spins"] [nv m]) H (iv (List.replicate m 0)) := by
      have g1 := l_rep (σ := start ["spins"] [nv m]) (H := H) (xs := [nv 0]) (n := m) (el_lst (ea1 (e_cn 0)) (by decide)) (fun H1 _ => ev_var (i := 0) rfl) (by omega) (by show 1 * m ≤ _; omega)
      rw [rep_one] at g1
      unfold iv
      rw [List.map_replicate]
      exact g1
    exact m_makeL (e_cn 0) g H (Ex.refl H) _ fun p l H2 hp hl e2 hm2 => k p l H2 hp hl e2 hm2
theorem m_blank {m : Nat} (ha : Ev ta σ H (nv m)) (hm : m ≤ 1000) : EvM CM (tCall (spBlank CM) [] E0 (tCons ta tNil)) σ H (blank m) := fun H1 e Q q =>
  ea1 ha H1 e _ fun H2 e2 => ⟨m, rfl, hm, fun p l H3 hp hl e3 h3 => q p l H3 (fresh_back e2 hp) (fresh_back e2 hl) (e2.trans e3) h3⟩
/-! ### product_of -/
def WM (m : Nat) (x : Spin) : Prop := x.l.length = m ∧ ∀ c ∈ x.l, c < 4
theorem xorL_more {a b : List Nat} {i x y : Nat} (h1 : a[i]? = some x) (h2 : b[i]? = some y) : Mir.xorL (a.take (i + 1)) (b.take (i + 1)) = Mir.xorL (a.take i) (b.take i) ++ [x ^^^ y] := by
  unfold Mir.xorL
  have hl1 := lt_of_get h1
  have hl2 := lt_of_get h2
  rw [take_more h1, take_more h2, List.zipWith_append (by rw [List.length_take, List.length_take]; omega)]
  rfl
theorem turns_more {a b : List Nat} {i x y : Nat} (h1 : a[i]? = some x) (h2 : b[i]? = some y) : Mir.turns (a.take (i + 1)) (b.take (i + 1)) = Mir.turns (a.take i) (b.take i) + Mir.tn x y := by
  unfold Mir.turns
  have hl1 := lt_of_get h1
  have hl2 := lt_of_get h2
  rw [take_more h1, take_more h2, List.zipWith_append (by rw [List.length_take, List.length_take]; omega), List.sum_append]
  rfl
theorem xorL_len {a b : List Nat} (h : a.length = b.length) : (Mir.xorL a b).length = a.length := by
  unfold Mir.xorL
  rw [List.length_zipWith]
  omega
theorem sqT_any {K : PySem.W.Frag} {a : Addr} {xs : List V} {H : Hp} (h : SqT K (fun _ => none) a xs) : SqT K H a xs := by
  rcases h with (h | ⟨o, h⟩) | h
  · cases h
  · cases h
  · exact .inr h
theorem e_turns {K : PySem.W.Frag} {mg : Str → Option Value} {C CM aT aN aW : Addr} {σ : L2.St} {H : Hp} {ta tb : TE} {x y : Nat} (T : Txt K mg C CM aT aN aW) (ha : Ev ta σ H (nv x)) (hb : Ev tb σ H (nv y)) (hx : x < 4) (hy : y < 4) :
    Ev (tOp (rIxT K) (tOp (rIxT K) (tC (.ref aT)) ta) tb) σ H (nv (Mir.tn x y)) := by
  obtain ⟨a0, a1, a2, a3, h, h0, h1, h2, h3⟩ := T.t_TURNS
  have hx' : x = 0 ∨ x = 1 ∨ x = 2 ∨ x = 3 := by omega
  have hy' : y = 0 ∨ y = 1 ∨ y = 2 ∨ y = 3 := by omega
  rcases hx' with rfl | rfl | rfl | rfl
  · refine e_ixT (e_ixT ev_c ha (sqT_any h) rfl) hb (sqT_any h0) ?_
    rcases hy' with rfl | rfl | rfl | rfl <;> rfl
  · refine e_ixT (e_ixT ev_c ha (sqT_any h) rfl) hb (sqT_any h1) ?_
    rcases hy' with rfl | rfl | rfl | rfl <;> rfl
  · refine e_ixT (e_ixT ev_c ha (sqT_any h) rfl) hb (sqT_any h2) ?_
    rcases hy' with rfl | rfl | rfl | rfl <;> rfl
  · refine e_ixT (e_ixT ev_c ha (sqT_any h) rfl) hb (sqT_any h3) ?_
    rcases hy' with rfl | rfl | rfl | rfl <;> rfl
def spProd (CM : Addr) : Sp := fun vs H Q _ => ∃ (p p' l l' : Addr) (x y : Spin), vs = [.ref p, .ref p'] ∧ MeasAt CM H p x l ∧ MeasAt CM H p' y l' ∧ (∃ m, m ≤ 1000 ∧ WM m x ∧ WM m y) ∧ ∀ q n H2, H q = none → H n = none → Ex H H2 → MeasAt CM H2 q (Mir.mulP x y) n → Q (.ref q) H2
theorem c_product_of (D : DefAt K mg "product_of" s_product_of) (T : Txt K mg C CM aT aN aW) (cM : MkC P w K mg base "Measurement" CM 1 ["self", "sign", "letters"] (spMInit CM)) : Cal P w K mg base "product_of" 3 ["one", "other"] (spProd CM) := by
  refine cal_mk D sc_product_of (fun _ _ _ _ _ _ us hl => match us, hl with | [_, _], _ => rfl) (fun vs H Q E h => ?_) (fun hr => d_product_of cM T hr) fun vs H Q E h => ?_
  · obtain ⟨p, p', l, l', x, y, rfl, _⟩ := h
    rfl
  · obtain ⟨p, p', l, l', x, y, rfl, hx, hy, ⟨m, hm, ⟨wx1, wx2⟩, wy1, wy2⟩, k⟩ := h
    refine q_asgL (el_lst ea_nil (by decide)) fun L H1 hL e1 h1 => ?_
    refine q_asg ev_c fun H2 e2 => ?_
    have hx1 := hx.ex (e1.trans e2)
    have hy1 := hy.ex (e1.trans e2)
    refine q_forZ (K := K) (ea2 (m_letters T hx1 (ev_var rfl)) (m_letters T hy1 (ev_var rfl))) (sq_of hx1.2) (sq_of hy1.2) (by rw [iv_len, iv_len, wx1, wy1]) (fun i σ' H' => Ex H H' ∧ H' L = some (.lst (iv (Mir.xorL (x.l.take i) (y.l.take i)))) ∧ ∃ v v2, σ' = [some (.ref p), some (.ref p'), some (.ref L), some (nv (Mir.turns (x.l.take i) (y.l.take i))), v, v2, none]) (fun H3 e3 => ⟨(e1.trans e2).trans e3, (e2.trans e3) _ _ h1, none, none, rfl⟩) (fun i σ' H' q => ⟨ex_l q.1 (sq_of hx.2), ex_l q.1 (sq_of hy.2)⟩) ?_ ?_
    · rintro i u u' σ' H0 H' hi hj ⟨e3, h3, v, v2, rfl⟩ e4
      obtain ⟨n, hn1, rfl⟩ := iv_get hi
      obtain ⟨n', hn2, rfl⟩ := iv_get hj
      have hil := lt_of_get hn1
      have b1 := wx2 n (List.mem_of_getElem? hn1)
      have b2 := wy2 n' (List.mem_of_getElem? hn2)
      refine q_app (e4 _ _ h3) (ev_var rfl) (e_xor (ev_var rfl) (ev_var rfl)) ?_ fun H5 e5 => ?_
      · rw [iv_len, xorL_len (by rw [List.length_take, List.length_take, wx1, wy1]), List.length_take]
        omega
      · refine s_aug (a := ((Mir.turns (x.l.take i) (y.l.take i) : Nat) : Int)) (b := ((Mir.tn n n' : Nat) : Int)) rfl (e_turns T (ev_var rfl) (ev_var rfl) b1 b2) fun H6 e6 => ⟨(Ex.mut ((e3.trans e4).trans e5) hL).trans e6, ?_, some (nv n), some (nv n'), ?_⟩
        · refine e6 _ _ (upd_same.trans (congrArg (fun q => some (HO.lst q)) ?_))
          rw [xorL_more hn1 hn2]
          exact (iv_app _ [n ^^^ n']).symm
        · rw [turns_more hn1 hn2]
          show [_, _, _, some (V.int (_ + _)), _, _, _] = _
          rw [← Int.natCast_add]
    · rintro σ' H' ⟨e3, h3, v, v2, rfl⟩
      rw [iv_len] at h3
      rw [iv_len]
      have ty : y.l.take x.l.length = y.l := by rw [wx1, ← wy1, List.take_length]
      rw [List.take_length, ty] at h3
      rw [List.take_length, ty]
      refine q_asg (e_div (e_mod (ev_var rfl) (e_cn 4) (by decide)) (e_cn 2) (by decide) (by decide)) fun H4 e4 => ?_
      have hx4 := hx.ex (e3.trans e4)
      have hy4 := hy.ex (e3.trans e4)
      refine t_make (CM := CM) (ea2 (e_mod (e_add (e_add (m_sign T hx4 (ev_var rfl)) (m_sign T hy4 (ev_var rfl))) (ev_var rfl)) (e_cn 2) (by decide)) (ev_var rfl)) H4 (Ex.refl H4) _ fun q H5 hq e5 h5 => ?_
      exact k q L H5 (fresh_back (e3.trans e4) hq) hL ((e3.trans e4).trans e5) ⟨h5, e5 _ _ (e4 _ _ h3)⟩
theorem m_prod {p p' l l' : Addr} {x y : Spin} {m : Nat} (ha : Ev ta σ H (.ref p)) (hb : Ev tb σ H (.ref p')) (hx : MeasAt CM H p x l) (hy : MeasAt CM H p' y l') (hm : m ≤ 1000) (wx : WM m x) (wy : WM m y) :
    EvM CM (tCall (spProd CM) [] E0 (tCons ta (tCons tb tNil))) σ H (Mir.mulP x y) := fun H1 e Q q =>
  ea2 ha hb H1 e _ fun H2 e2 => ⟨p, p', l, l', x, y, rfl, hx.ex (e.trans e2), hy.ex (e.trans e2), ⟨m, hm, wx, wy⟩, fun p l H3 hp hl e3 h3 => q p l H3 (fresh_back e2 hp) (fresh_back e2 hl) (e2.trans e3) h3⟩
theorem wm_mul {m : Nat} {x y : Spin} (hx : WM m x) (hy : WM m y) : WM m (Mir.mulP x y) := by
  refine ⟨?_, fun c hc => ?_⟩
  · show (Mir.xorL x.l y.l).length = m
    rw [xorL_len (by rw [hx.1, hy.1]), hx.1]
  · have hc' : c ∈ List.zipWith (fun x y => x ^^^ y) x.l y.l := hc
    obtain ⟨i, hi⟩ := List.getElem?_of_mem hc'
    rw [List.getElem?_zipWith] at hi
    cases h1 : x.l[i]? with
    | none => rw [h1] at hi; cases hi
    | some u =>
      cases h2 : y.l[i]? with
      | none => rw [h1, h2] at hi; cases hi
      | some v =>
        rw [h1, h2] at hi
        have e : u ^^^ v = c := Option.some.inj hi
        rw [← e]
        exact Nat.xor_lt_two_pow (n := 2) (hx.2 u (List.mem_of_getElem? h1)) (hy.2 v (List.mem_of_getElem? h2))
theorem wm_blank (m : Nat) : WM m (blank m) := ⟨List.length_replicate .., fun c hc => by
  have := List.eq_of_mem_replicate hc
  omega⟩
end
end My
set_option Elab.async false
set_option linter.all false
set_option maxRecDepth 100000
set_option maxHeartbeats 4000000
namespace My
open PySem PySem.Spec PyProof.Rows L2 Evl
open Su173 (Spin together)
open Mir (G)
open Su175 (okRow blank)
theorem prods_snoc (m : Nat) (l : List Spin) (x : Spin) : Mir.prods m (l ++ [x]) = Mir.prods m l ++ (Mir.prods m l).map fun p => Mir.mulP p x := by
  unfold Mir.prods
  rw [List.foldl_append]
  rfl
theorem prods_len (m : Nat) (l : List Spin) : (Mir.prods m l).length = 2 ^ l.length := by
  unfold Mir.prods
  suffices h : ∀ (l ps : List Spin), (l.foldl (fun ps x => ps ++ ps.map fun p => Mir.mulP p x) ps).length = ps.length * 2 ^ l.length by
    rw [h, List.length_singleton, Nat.one_mul]
  intro l
  induction l with
  | nil => intro ps; show ps.length = ps.length * 1; omega
  | cons a r ih =>
    intro ps
    rw [List.foldl_cons, ih, List.length_append, List.length_map, List.length_cons, Nat.pow_succ, Nat.mul_comm (2 ^ r.length) 2, ← Nat.mul_assoc, Nat.mul_two]
theorem prods_wm {m : Nat} : ∀ {l : List Spin}, (∀ x ∈ l, WM m x) → ∀ p ∈ Mir.prods m l, WM m p := by
  intro l h
  unfold Mir.prods
  suffices g : ∀ (l ps : List Spin), (∀ x ∈ l, WM m x) → (∀ x ∈ ps, WM m x) → ∀ p ∈ l.foldl (fun ps x => ps ++ ps.map fun p => Mir.mulP p x) ps, WM m p by
    exact g l _ h fun x hx => by
      rw [List.mem_singleton] at hx
      rw [hx]
      exact wm_blank m
  intro l
  induction l with
  | nil => intro ps _ hp; exact hp
  | cons a r ih =>
    intro ps hl hp
    rw [List.foldl_cons]
    refine ih _ (fun x hx => hl x (List.mem_cons_of_mem _ hx)) fun x hx => ?_
    rcases List.mem_append.mp hx with hx | hx
    · exact hp x hx
    · obtain ⟨y, hy, rfl⟩ := List.mem_map.mp hx
      exact wm_mul (hp y hy) (hl a (List.mem_cons_self ..))
theorem range_map {α β : Type} (l : List α) (d : α) (f : α → β) : (List.range l.length).map (fun i => f (l.getD i d)) = l.map f := by
  apply List.ext_getElem
  · simp
  · intro i h1 h2
    simp at h1
    simp [h1]
theorem paired_app {α β : Type} {F : α → β → Prop} : ∀ {a : List α} {b : List β} {c : List α} {d : List β}, Paired F a b → Paired F c d → Paired F (a ++ c) (b ++ d)
  | _, _, _, _, .nil, h => h
  | _, _, _, _, .cons r t, h => .cons r (paired_app t h)
section
variable {P : Program} {w : World} {K : PySem.W.Frag} {mg : Str → Option Value} {base : Heap} {C CM aT aN aW : Addr} {σ : L2.St} {H : Hp} {ta tb tc : TE}
theorem s_catM {D : Ends} {te : TE} {i j : Nat} {Pa : Addr} {ys : List V} {xs : List Spin} (hi : σ[i]? = some (some (.ref Pa))) (hP : H Pa = some (.lst ys)) (hE : EvMs CM te σ H xs) (hz : ys.length + xs.length ≤ 100000)
    (k : ∀ q H2 zs, H q = none → Ex H H2 → H2 q = some (.lst (ys ++ zs)) → Paired (MN CM H H2) zs xs → D.nx (σ.set j (some (.ref q))) H2) : tAsg (tOp rCat (tVar i) te) (gName j) D σ H :=
  ⟨.ref Pa, hi, hE H (Ex.refl H) _ fun Dl zs H5 hD e5 hD5 hzs => ⟨Pa, Dl, ys, zs, rfl, rfl, e5 _ _ hP, hD5, sz_of (by have := Paired.length hzs; omega), fun q2 hq2 =>
    k q2 _ zs (fresh_back e5 hq2) (e5.trans (Ex.new hq2)) upd_same (paired_mono hzs fun _ _ r => r.ex (Ex.new hq2))⟩⟩
/-! ### products_of_some -/
def spProds (CM : Addr) (K : PySem.W.Frag) : Sp := fun vs H Q _ => ∃ (a : Addr) (ws : List V) (xs : List Spin) (m : Nat), vs = [.ref a, nv m] ∧ SqL K H a ws ∧ Paired (MX CM H) ws xs ∧ (∀ x ∈ xs, WM m x) ∧ xs.length ≤ 8 ∧ m ≤ 1000 ∧
  ∀ p ys H2, H p = none → Ex H H2 → H2 p = some (.lst ys) → Paired (MN CM H H2) ys (Mir.prods m xs) → Q (.ref p) H2
theorem pow_le_256 {n : Nat} (h : n ≤ 8) : 2 ^ n ≤ 256 := Nat.pow_le_pow_right (by decide) h
theorem c_products_of_some (D : DefAt K mg "products_of_some" s_products_of_some) (T : Txt K mg C CM aT aN aW) (c1 : Cal P w K mg base "without_letters" 3 ["spins"] (spBlank CM)) (c2 : Cal P w K mg base "product_of" 3 ["one", "other"] (spProd CM)) :
    Cal P w K mg base "products_of_some" 4 ["measurements", "spins"] (spProds CM K) := by
  refine cal_mk D sc_products_of_some (fun _ _ _ _ _ _ us hl => match us, hl with | [_, _], _ => rfl) (fun vs H Q E h => ?_) (fun hr => d_products_of_some c1 c2 T hr) fun vs H Q E h => ?_
  · obtain ⟨a, ws, xs, m, rfl, _⟩ := h
    rfl
  · obtain ⟨a, ws, xs, m, rfl, ha, hp, hw, hl, hm, k⟩ := h
    refine m_blank (σ := start ["measurements", "spins", "products", "measurement", "earlier"] [.ref a, nv m]) (H := H) (CM := CM) (ev_var (i := 1) rfl) hm H (Ex.refl H) _ fun p l H1 hp1 hl1 e1 hm1 => ⟨by show 1 ≤ sizeLine; decide, fun q hq => ?_⟩
    have e2 : Ex H1 (upd H1 q (.lst [.ref p])) := Ex.new hq
    refine q_forLn (ev_var rfl) (ex_l (e1.trans e2) ha) (fun i σ' H' => Ex H H' ∧ ∃ P ys v, σ' = [some (.ref a), some (nv m), some (.ref P), v, none] ∧ H P = none ∧ H' P = some (.lst ys) ∧ Paired (MN CM H H') ys (Mir.prods m (xs.take i))) (fun H2 e3 => ⟨(e1.trans e2).trans e3, q, [.ref p], none, rfl, fresh_back e1 hq, e3 _ _ upd_same, .cons ⟨p, l, rfl, (hm1.ex e2).ex e3, hl1⟩ .nil⟩) (fun i σ' H' _ r => ex_l r.1 ha) ?_ ?_
    · rintro i y σ' H' hi ⟨e3, P, ys, v, rfl, hP0, hP, hys⟩
      obtain ⟨x, hx, pm, lm, rfl, hmx⟩ := Paired.get hp hi
      have hxl := lt_of_get hx
      have wx := hw x (List.mem_of_getElem? hx)
      have hyl : ys.length = 2 ^ (xs.take i).length := by rw [Paired.length hys, prods_len]
      have hyl2 : ys.length ≤ 256 := by
        rw [hyl, List.length_take]
        exact pow_le_256 (by omega)
      have hwm := prods_wm (m := m) (l := xs.take i) fun z hz => hw z (List.mem_of_mem_take hz)
      refine s_catM (CM := CM) (ys := ys) rfl hP (ms_lcL (fun j => Mir.mulP ((Mir.prods m (xs.take i)).getD j (blank m)) x) (ev_var rfl) (sq_of hP) (by omega) (fun _ => rfl) (fun j u H4 e5 hj => ?_)) (by rw [List.length_map, List.length_range]; omega) fun q2 H5 zs hq2 e5 h5 hzs => ?_
      · obtain ⟨z, hz, pz, lz, rfl, hmz, _⟩ := Paired.get hys hj
        rw [getD_of hz]
        exact m_prod (ev_var rfl) (ev_var rfl) (hmz.ex e5) (hmx.ex (e3.trans e5)) hm (hwm z (List.mem_of_getElem? hz)) wx
      · refine ⟨e3.trans e5, q2, ys ++ zs, some (.ref pm), rfl, fresh_back e3 hq2, h5, ?_⟩
        rw [take_more hx, prods_snoc]
        refine paired_app (paired_mono hys fun _ _ r => r.ex e5) ?_
        rw [Paired.length hys, range_map (Mir.prods m (xs.take i)) (blank m) (fun p => Mir.mulP p x)] at hzs
        refine paired_mono hzs fun _ _ r => ?_
        obtain ⟨p1, l1, rfl, r1, r2⟩ := r
        exact ⟨p1, l1, rfl, r1, fresh_back e3 r2⟩
    · rintro σ' H' ⟨e3, P, ys, v, rfl, hP0, hP, hys⟩
      rw [Paired.length hp, List.take_length] at hys
      exact s_ret (ev_var rfl) fun H3 e4 => k P ys H3 hP0 (e3.trans e4) (e4 _ _ hP) (paired_mono hys fun _ _ r => r.ex e4)
theorem ms_prods {a : Addr} {ws : List V} {xs : List Spin} {m : Nat} (h1 : Ev ta σ H (.ref a)) (h2 : Ev tb σ H (nv m)) (ha : SqL K H a ws) (hp : Paired (MX CM H) ws xs) (hw : ∀ x ∈ xs, WM m x) (hl : xs.length ≤ 8) (hm : m ≤ 1000) :
    EvMs CM (tCall (spProds CM K) [] E0 (tCons ta (tCons tb tNil))) σ H (Mir.prods m xs) := fun H1 e Q q =>
  ea2 h1 h2 H1 e _ fun H2 e2 => ⟨a, ws, xs, m, rfl, ex_l (e.trans e2) ha, paired_mono hp fun _ _ r => r.ex (e.trans e2), hw, hl, hm, fun p ys H3 hp3 e3 h3 hys => q p ys H3 (fresh_back e2 hp3) (e2.trans e3) h3 (paired_mono hys fun _ _ r => by
    obtain ⟨p1, l1, rfl, r1, r2⟩ := r
    exact ⟨p1, l1, rfl, r1, fresh_back e2 r2⟩)⟩
end
end My
set_option Elab.async false
set_option linter.all false
set_option maxRecDepth 100000
set_option maxHeartbeats 4000000
namespace My
open PySem PySem.Spec PyProof.Rows L2 Evl
open Su173 (Spin together)
open Mir (G)
open Su175 (okRow blank)
def rl (r : List Int) : List V := r.map V.int
/-! ### dicts by tuples of naturals -/
def ik (l : List Nat) : List Key := l.map fun (n : Nat) => (Sum.inl (n : Int) : Key)
theorem ik_kV (l : List Nat) : (ik l).map kV = iv l := by
  unfold ik iv
  rw [List.map_map]
  rfl
theorem iv_inj : ∀ {a b : List Nat}, iv a = iv b → a = b
  | [], [], _ => rfl
  | [], _ :: _, h => by cases h
  | _ :: _, [], h => by cases h
  | x :: a, y :: b, h => by
    have h1 : nv x :: iv a = nv y :: iv b := h
    injection h1 with e1 e2
    rw [nv_eq.mp e1, iv_inj e2]
theorem ik_inj {a b : List Nat} (h : ik a = ik b) : a = b := iv_inj (by rw [← ik_kV, ← ik_kV, h])
def DictAt (H : Hp) (d : Addr) (f : List Nat → Option Nat) : Prop := ∃ kvs : List (List Key × V), H d = some (.dT kvs) ∧ ∀ l, valV kvs (ik l) = (f l).map nv
theorem DictAt.ex {H H' : Hp} {d : Addr} {f : List Nat → Option Nat} (h : DictAt H d f) (e : Ex H H') : DictAt H' d f := by
  obtain ⟨kvs, h1, h2⟩ := h
  exact ⟨kvs, e _ _ h1, h2⟩
theorem paired_of_get {α β : Type} {F : α → β → Prop} : ∀ {a : List α} {b : List β}, a.length = b.length → (∀ (i : Nat) (x : α) (y : β), a[i]? = some x → b[i]? = some y → F x y) → Paired F a b
  | [], [], _, _ => .nil
  | [], _ :: _, h, _ => by simp at h
  | _ :: _, [], h, _ => by simp at h
  | x :: a, y :: b, h, f => .cons (f 0 x y rfl rfl) (paired_of_get (by simpa using h) fun i u v hu hv => f (i + 1) u v hu hv)
section
variable {P : Program} {w : World} {K : PySem.W.Frag} {mg : Str → Option Value} {base : Heap} {C CM aT aN aW : Addr} {σ : L2.St} {H : Hp} {ta tb tc td ty tl te : TE}
theorem et_notinU {d : Addr} {l : List Nat} {f : List Nat → Option Nat} (hy : EvU ty σ H (iv l)) (hd : ∀ H1, Ex H H1 → Ev td σ H1 (.ref d)) (hD : DictAt H d f) : EvT (tB (tDNotIn ty td)) σ H (!(f l).isSome) := fun H1 e Q q =>
  hy H1 e _ fun b H2 _ e2 hb => hd H2 (e.trans e2) H2 (Ex.refl H2) _ fun H3 e3 => by
    obtain ⟨kvs, h1, h2⟩ := hD.ex ((e.trans e2).trans e3)
    refine ⟨d, _, rfl, DGet.t (k := ik l) h1 (by rw [ik_kV]; exact e3 _ _ hb), _, rfl, ?_⟩
    rw [h2, Option.isSome_map]
    exact q H3 (e2.trans e3)
theorem et_notinB {d b : Addr} {l : List Nat} {f : List Nat → Option Nat} (hy : Ev ty σ H (.ref b)) (hd : Ev td σ H (.ref d)) (hb : H b = some (.tup (iv l))) (hD : DictAt H d f) : EvT (tB (tDNotIn ty td)) σ H (!(f l).isSome) := fun H1 e Q q =>
  hy H1 e _ fun H2 e2 => hd H2 (e.trans e2) _ fun H3 e3 => by
    obtain ⟨kvs, h1, h2⟩ := hD.ex ((e.trans e2).trans e3)
    refine ⟨d, _, rfl, DGet.t (k := ik l) h1 (by rw [ik_kV]; exact ((e.trans e2).trans e3) _ _ hb), _, rfl, ?_⟩
    rw [h2, Option.isSome_map]
    exact q H3 (e2.trans e3)
theorem e_dgetU {d : Addr} {l : List Nat} {c : Nat} {f : List Nat → Option Nat} (hd : Ev td σ H (.ref d)) (hy : EvU ty σ H (iv l)) (hD : DictAt H d f) (hc : f l = some c) : Ev (tDGet td ty) σ H (nv c) := fun H1 e Q q =>
  hd H1 e _ fun H2 e2 => hy H2 (e.trans e2) _ fun b H3 _ e3 hb => by
    obtain ⟨kvs, h1, h2⟩ := hD.ex ((e.trans e2).trans e3)
    refine ⟨d, nv c, rfl, ?_, q H3 (e2.trans e3)⟩
    have g := DGet.t (H := H3) (k := ik l) h1 (by rw [ik_kV]; exact hb)
    rw [h2, hc] at g
    exact g
theorem e_dgetB {d b : Addr} {l : List Nat} {c : Nat} {f : List Nat → Option Nat} (hd : Ev td σ H (.ref d)) (hy : Ev ty σ H (.ref b)) (hb : H b = some (.tup (iv l))) (hD : DictAt H d f) (hc : f l = some c) : Ev (tDGet td ty) σ H (nv c) := fun H1 e Q q =>
  hd H1 e _ fun H2 e2 => hy H2 (e.trans e2) _ fun H3 e3 => by
    obtain ⟨kvs, h1, h2⟩ := hD.ex ((e.trans e2).trans e3)
    refine ⟨d, nv c, rfl, ?_, q H3 (e2.trans e3)⟩
    have g := DGet.t (H := H3) (k := ik l) h1 (by rw [ik_kV]; exact ((e.trans e2).trans e3) _ _ hb)
    rw [h2, hc] at g
    exact g
theorem e_sumZ {l : List Int} {ta : TE} (ha : EvL ta σ H (l.map V.int)) : Ev (tCB (rSum K) (tCons ta tNil)) σ H (.int l.sum) := fun H1 e Q q =>
  ha H1 e _ fun p H2 _ e2 h2 => ⟨p, l, rfl, sq_of h2, q H2 e2⟩
/-- a comprehension over new measurements that gives values -/
theorem l_lcMs {xs : List Spin} {j : Nat} {vs : List Nat} (p : Spin → V) (h : EvMs CM tl σ H xs) (hz : xs.length ≤ 40000) (hw : ∀ x, wipe ((wipe σ vs).set j (some x)) vs = wipe σ vs)
    (he : ∀ y x l H1, Ex H H1 → MeasAt CM H1 y x l → x ∈ xs → Ev te ((wipe σ vs).set j (some (.ref y))) H1 (p x)) : EvL (tLc (iList K tl) (gName j) tYes te vs) σ H (xs.map p) := fun H0 e Q q => h H0 e _ fun a ws H1 ha e1 hx hp => by
  have hl := Paired.length hp
  refine el_lcL (K := K) (te := te) (t := tYes) (tl := tC (.ref a)) (a := a) (xs := ws) (j := j) (vs := vs) (σ := σ) (H := H1) (fun _ => true) (fun i => p (xs.getD i ⟨0, []⟩)) ev_c (sq_of hx) (by omega) hw (fun i x H1 _ _ => fun H2 _ Q q => q H2 (Ex.refl H2)) (fun i x H2 e2 hi _ => ?_) H1 (Ex.refl H1) Q fun b H2 hb e2 h2 => ?_
  · obtain ⟨z, hz, pz, lz, rfl, hmz, _⟩ := Paired.get hp hi
    rw [getD_of hz]
    exact he pz z lz H2 ((e.trans e1).trans e2) (hmz.ex e2) (List.mem_of_getElem? hz)
  · refine q b H2 (fresh_back e1 hb) (e1.trans e2) ?_
    rw [h2, given_all, hl, range_map xs (⟨0, []⟩ : Spin) p]
/-! ### sum_that_is_sure -/
def sumSureF (f : List Nat → Option Nat) (x : Spin) : Nat := match f x.l with
  | none => 0
  | some c => 1 + (c + x.s) % 2
def spSumSure (CM : Addr) : Sp := fun vs H Q _ => ∃ (d p l : Addr) (x : Spin) (f : List Nat → Option Nat), vs = [.ref d, .ref p] ∧ DictAt H d f ∧ MeasAt CM H p x l ∧ RetV (nv (sumSureF f x)) H Q
theorem c_sum_that_is_sure (D : DefAt K mg "sum_that_is_sure" s_sum_that_is_sure) (T : Txt K mg C CM aT aN aW) : Cal P w K mg base "sum_that_is_sure" 1 ["signs", "product"] (spSumSure CM) := by
  refine cal_mk D sc_sum_that_is_sure (fun _ _ _ _ _ _ us hl => match us, hl with | [_, _], _ => rfl) (fun vs H Q E h => ?_) (fun hr => d_sum_that_is_sure T hr) fun vs H Q E h => ?_
  · obtain ⟨d, p, l, x, f, rfl, _⟩ := h
    rfl
  · obtain ⟨d, p, l, x, f, rfl, hD, hx, k⟩ := h
    refine q_asgU (u_tuple (m_letters T hx (ev_var rfl)) (sq_of hx.2)) fun b H1 hb e1 h1 => ?_
    cases hf : f x.l with
    | none =>
      have e : sumSureF f x = 0 := by unfold sumSureF; rw [hf]
      rw [e] at k
      refine q_when (et_notinB (ev_var rfl) (ev_var rfl) h1 (hD.ex e1)) (fun _ H2 e2 => s_ret ev_c fun H3 e3 => k.go ((e1.trans e2).trans e3)) fun hb2 H2 e2 => ?_
      rw [hf] at hb2
      cases hb2
    | some c =>
      have e : sumSureF f x = 1 + (c + x.s) % 2 := by unfold sumSureF; rw [hf]
      rw [e] at k
      refine q_when (et_notinB (ev_var rfl) (ev_var rfl) h1 (hD.ex e1)) (fun hb2 H2 e2 => ?_) fun hb2 H2 e2 => ?_
      · rw [hf] at hb2
        cases hb2
      · exact s_ret (e_add (e_cn 1) (e_mod (e_add (e_dgetB (ev_var rfl) (ev_var rfl) (e2 _ _ h1) (hD.ex (e1.trans e2)) hf) (m_sign T (hx.ex (e1.trans e2)) (ev_var rfl))) (e_cn 2) (by decide))) fun H3 e3 => k.go ((e1.trans e2).trans e3)
theorem e_sumSure {d p l : Addr} {x : Spin} {f : List Nat → Option Nat} (ha : Ev ta σ H (.ref d)) (hb : Ev tb σ H (.ref p)) (hD : DictAt H d f) (hx : MeasAt CM H p x l) :
    Ev (tCall (spSumSure CM) [] E0 (tCons ta (tCons tb tNil))) σ H (nv (sumSureF f x)) :=
  e_call (ea2 ha hb) fun H1 e Q q => ⟨d, p, l, x, f, rfl, hD.ex e, hx.ex e, q⟩
/-! ### show_state -/
def spState (C CM : Addr) : Sp := fun vs H Q _ => ∃ (a : Addr) (A : GA) (g : G), vs = [.ref a] ∧ GameAt C CM H a A g ∧ g.owners.length ≤ 1000 ∧ RetL (rl (Mir.stateM g)) H Q
theorem c_show_state (D : DefAt K mg "show_state" s_show_state) (T : Txt K mg C CM aT aN aW) : Cal P w K mg base "show_state" 1 ["game"] (spState C CM) := by
  refine cal_mk D sc_show_state (fun _ _ _ _ _ _ us hl => match us, hl with | [_], _ => rfl) (fun vs H Q E h => ?_) (fun hr => d_show_state T hr) fun vs H Q E h => ?_
  · obtain ⟨a, A, g, rfl, _⟩ := h
    rfl
  · obtain ⟨a, A, g, rfl, hG, hz, k⟩ := h
    refine q_asg (v := .int (if g.touched = true then 1 else 0)) (ev_if (et_B (g_measured T hG (ev_var rfl))) (fun hb => ?_) fun hb => ?_) fun H1 e1 => ?_
    · rw [if_pos hb]
      exact ev_c
    · rw [if_neg (by rw [hb]; decide)]
      exact ev_c
    · have hG1 := hG.ex e1
      obtain ⟨vs, h1, h2⟩ := hG1.l
      refine s_retL (l_cat (xs := [nv g.k, nv g.q, nv g.owners.length, nv g.links.length, .int (if g.touched = true then 1 else 0)]) (el_lst ?_ (by show 5 ≤ 100000; decide)) (fun H2 e2 => g_owners T (hG1.ex e2) (ev_var rfl)) hG1.o (by rw [iv_len]; show 5 + _ ≤ _; omega)) fun p H2 hp e2 h3 => k.go e1 hp e2 ?_
      · refine ea_cons (g_persons T hG1 (ev_var rfl)) (ea_cons (g_questions T hG1 (ev_var rfl)) (ea_cons ?_ (ea_cons ?_ (ea_cons (ev_var rfl) ea_nil))))
        · have g1 := e_len (K := K) (g_owners T hG1 (ev_var (i := 0) (σ := (start ["game", "measured"] [V.ref a]).set 1 (some (V.int (if g.touched = true then 1 else 0)))) rfl)) (sq_of hG1.o)
          rw [iv_len] at g1
          exact g1
        · have g1 := e_len (K := K) (g_links T hG1 (ev_var (i := 0) (σ := (start ["game", "measured"] [V.ref a]).set 1 (some (V.int (if g.touched = true then 1 else 0)))) rfl)) (sq_of h1)
          rw [Paired.length h2] at g1
          exact g1
      · rw [h3]
        unfold rl Mir.stateM iv
        rw [List.map_append, List.map_map]
        rfl
theorem l_state {a : Addr} {A : GA} {g : G} (ha : Ev ta σ H (.ref a)) (hG : GameAt C CM H a A g) (hz : g.owners.length ≤ 1000) : EvL (tCall (spState C CM) [] E0 (tCons ta tNil)) σ H (rl (Mir.stateM g)) :=
  l_call (ea1 ha) fun H1 e Q q => ⟨a, A, g, rfl, hG.ex e, hz, q⟩
/-! ### end_of_call -/
def NUMS : List Nat := [2, 1, 1, 1, 0, 0, 1, 0, 2, 0, 0, 1, 3, 0, 0, 0, 0, 0]
def ROWS : List Nat := [1, 2, 3, 4, 7, 10, 11, 12, 13, 14, 16]
def endOf (ns : List Nat) (s : Nat) : Nat := if ROWS.contains (ns.getD s 0) = true then s + 1 + NUMS.getD (ns.getD s 0) 0 + 1 + ns.getD (s + 1 + NUMS.getD (ns.getD s 0) 0) 0 else s + 1 + NUMS.getD (ns.getD s 0) 0
def spEnd (K : PySem.W.Frag) : Sp := fun vs H Q _ => ∃ (a : Addr) (ns : List Nat) (s kd : Nat), vs = [.ref a, nv s] ∧ SqL K H a (iv ns) ∧ ns[s]? = some kd ∧ kd < 18 ∧ (ROWS.contains kd = true → s + 1 + NUMS.getD kd 0 < ns.length) ∧ RetV (nv (endOf ns s)) H Q
theorem in_rows : ∀ k : Fin 18, inV (nv k.1) (([1, 2, 3, 4, 7, 10, 11, 12, 13, 14, 16] : List Int).map V.int) = ROWS.contains k.1 := by decide +kernel
theorem at_nums : ∀ k : Fin 18, (([2, 1, 1, 1, 0, 0, 1, 0, 2, 0, 0, 1, 3, 0, 0, 0, 0, 0] : List Int).map V.int)[k.1]? = some (nv (NUMS.getD k.1 0)) := by decide +kernel
theorem c_end_of_call (D : DefAt K mg "end_of_call" s_end_of_call) (T : Txt K mg C CM aT aN aW) : Cal P w K mg base "end_of_call" 1 ["calls", "start"] (spEnd K) := by
  refine cal_mk D sc_end_of_call (fun _ _ _ _ _ _ us hl => match us, hl with | [_, _], _ => rfl) (fun vs H Q E h => ?_) (fun hr => d_end_of_call T hr) fun vs H Q E h => ?_
  · obtain ⟨a, ns, s, kd, rfl, _⟩ := h
    rfl
  · obtain ⟨a, ns, s, kd, rfl, ha, hk, hk2, hrow, k⟩ := h
    refine q_asg (e_ixL (ev_var rfl) (ev_var rfl) ha (iv_at hk)) fun H1 e1 => ?_
    refine q_asg (e_add (e_add (ev_var rfl) (e_cn 1)) (e_ixT ev_c (ev_var rfl) (sqT_any T.t_NUMBERS) (at_nums ⟨kd, hk2⟩))) fun H2 e2 => ?_
    have hd : ns.getD s 0 = kd := getD_of hk
    have ein : inV (nv kd) (([1, 2, 3, 4, 7, 10, 11, 12, 13, 14, 16] : List Int).map V.int) = ROWS.contains kd := in_rows ⟨kd, hk2⟩
    refine q_when (b := ROWS.contains kd) (et_test ?_) (fun hb H3 e3 => ?_) fun hb H3 e3 => ?_
    · rw [← ein]
      exact ev_op (ev_var rfl) ev_c (rv_isT (sqT_any T.t_WITH_ROW) rfl (by decide +kernel))
    · obtain ⟨n, hn⟩ : ∃ n, ns[s + 1 + NUMS.getD kd 0]? = some n := ⟨_, List.getElem?_eq_getElem (hrow hb)⟩
      refine s_asg (e_add (e_add (ev_var rfl) (e_cn 1)) (e_ixL (ev_var rfl) (ev_var rfl) (ex_l ((e1.trans e2).trans e3) ha) (iv_at hn))) fun H4 e4 => s_ret (ev_var rfl) fun H5 e5 => ?_
      have e : endOf ns s = s + 1 + NUMS.getD kd 0 + 1 + n := by
        unfold endOf
        rw [hd, if_pos hb, getD_of hn]
      rw [e] at k
      exact k.go ((((e1.trans e2).trans e3).trans e4).trans e5)
    · refine s_ret (ev_var rfl) fun H5 e5 => ?_
      have e : endOf ns s = s + 1 + NUMS.getD kd 0 := by
        unfold endOf
        rw [hd, if_neg (by rw [hb]; decide)]
      rw [e] at k
      exact k.go (((e1.trans e2).trans e3).trans e5)
theorem e_end {a : Addr} {ns : List Nat} {s kd : Nat} (h1 : Ev ta σ H (.ref a)) (h2 : Ev tb σ H (nv s)) (ha : SqL K H a (iv ns)) (hk : ns[s]? = some kd) (hk2 : kd < 18) (hrow : ROWS.contains kd = true → s + 1 + NUMS.getD kd 0 < ns.length) :
    Ev (tCall (spEnd K) [] E0 (tCons ta (tCons tb tNil))) σ H (nv (endOf ns s)) :=
  e_call (ea2 h1 h2) fun H1 e Q q => ⟨a, ns, s, kd, rfl, ex_l e ha, hk, hk2, hrow, q⟩
end
end My
set_option Elab.async false
set_option linter.all false
set_option maxRecDepth 100000
set_option maxHeartbeats 4000000
namespace My
open PySem PySem.Spec PyProof.Rows L2 Evl
open Su173 (Spin together)
open Mir (G)
open Su175 (okRow blank)
/-! ### a game as it may stand -/
structure WG (g : G) : Prop where
  k1 : 2 ≤ g.k
  k2 : g.k ≤ 4
  q1 : 1 ≤ g.q
  q2 : g.q ≤ 3
  kq : g.k * g.q ≤ 8
  w : g.weights.length = g.q ^ g.k
  w2 : ∀ x ∈ g.weights, x ≤ 99
  v : g.wins.length = g.q ^ g.k
  o : g.owners.length ≤ 6
  l : g.links.length ≤ 1000
  s : g.sure.length ≤ 6
  s2 : ∀ x ∈ g.sure, WM g.m x
  n : g.own.length = g.k * g.q
  n2 : ∀ x ∈ g.own, WM g.m x
theorem place_lt_aux (q : Nat) : ∀ (l : List Nat) (p : Nat), (∀ v ∈ l, v < q) → l.foldl (fun p v => p * q + v) p < (p + 1) * q ^ l.length
  | [], p, _ => by
    show p < (p + 1) * 1
    omega
  | v :: r, p, h => by
    have ih := place_lt_aux q r (p * q + v) fun x hx => h x (List.mem_cons_of_mem _ hx)
    have hv := h v (List.mem_cons_self ..)
    show r.foldl (fun p v => p * q + v) (p * q + v) < (p + 1) * q ^ (r.length + 1)
    refine Nat.lt_of_lt_of_le ih ?_
    rw [Nat.pow_succ, Nat.mul_comm (q ^ r.length) q, ← Nat.mul_assoc]
    refine Nat.mul_le_mul_right _ ?_
    rw [Nat.succ_mul]
    omega
theorem okRow_iff {n b : Nat} {l : List Nat} : okRow n b l = true ↔ l.length = n ∧ ∀ v ∈ l, v < b := by
  unfold okRow
  rw [Bool.and_eq_true, List.all_eq_true, beq_iff_eq]
  exact ⟨fun ⟨h1, h2⟩ => ⟨h1, fun v hv => of_decide_eq_true (h2 v hv)⟩, fun ⟨h1, h2⟩ => ⟨h1, fun v hv => decide_eq_true (h2 v hv)⟩⟩
theorem place_lt {k q : Nat} {x : List Nat} (h : okRow k q x = true) : Mir.place q x < q ^ k := by
  obtain ⟨h1, h2⟩ := okRow_iff.mp h
  have g := place_lt_aux q x 0 h2
  rw [h1, Nat.zero_add, Nat.one_mul] at g
  exact g
theorem WG.rows {g : G} (h : WG g) : g.q ^ g.k ≤ 81 := Nat.le_trans (Nat.pow_le_pow_left h.q2 g.k) (Nat.le_trans (Nat.pow_le_pow_right (by decide) h.k2) (by decide))
theorem WG.m6 {g : G} (h : WG g) : g.m ≤ 6 := h.o
theorem getD_lt {α : Type} {l : List α} {i : Nat} {d : α} (h : i < l.length) : l[i]? = some (l.getD i d) := by
  rw [List.getD_eq_getElem?_getD, List.getElem?_eq_getElem h]
  rfl
section
variable {P : Program} {w : World} {K : PySem.W.Frag} {mg : Str → Option Value} {base : Heap} {C CM aT aN aW : Addr} {σ : L2.St} {H : Hp} {ta tb tc td ty tl te : TE}
/-! ### show_row -/
def spRow (C CM : Addr) (K : PySem.W.Frag) : Sp := fun vs H Q _ => ∃ (a r : Addr) (A : GA) (g : G) (x : List Nat), vs = [.ref a, .ref r] ∧ GameAt C CM H a A g ∧ WG g ∧ SqL K H r (iv x) ∧ x.length ≤ 40000 ∧ RetL (rl (Mir.rowM g x)) H Q
theorem c_show_row (D : DefAt K mg "show_row" s_show_row) (T : Txt K mg C CM aT aN aW) (c1 : Cal P w K mg base "is_asked" 1 ["game", "row"] (spIsAsked C CM K)) (c2 : Cal P w K mg base "place_of_row" 1 ["game", "row"] (spPlace C CM K)) :
    Cal P w K mg base "show_row" 2 ["game", "row"] (spRow C CM K) := by
  refine cal_mk D sc_show_row (fun _ _ _ _ _ _ us hl => match us, hl with | [_, _], _ => rfl) (fun vs H Q E h => ?_) (fun hr => d_show_row c2 c1 T hr) fun vs H Q E h => ?_
  · obtain ⟨a, r, A, g, x, rfl, _⟩ := h
    rfl
  · obtain ⟨a, r, A, g, x, rfl, hG, hW, hr, hz, k⟩ := h
    refine q_when (et_not (et_B (e_is_asked (ev_var rfl) (ev_var rfl) hG hr hz))) (fun hb H1 e1 => ?_) fun hb H1 e1 => ?_
    · have hb' : g.asked x = false := by simpa using hb
      refine s_retL (el_lst (ea1 ev_c) (by decide)) fun p H2 hp e2 h2 => k.go e1 hp e2 ?_
      rw [h2]
      unfold Mir.rowM
      rw [if_pos hb']
      rfl
    · have hb' : g.asked x = true := by simpa using hb
      have hG1 := hG.ex e1
      refine q_asg (e_place (ev_var rfl) (ev_var rfl) hG1 (ex_l e1 hr) (by have := hW.q2; omega)) fun H2 e2 => ?_
      have hG2 := hG1.ex e2
      have hp := place_lt hb'
      have i1 : (iv g.weights)[Mir.place g.q x]? = some (nv (g.weights.getD (Mir.place g.q x) 0)) := iv_at (getD_lt (by rw [hW.w]; exact hp))
      have i2 : (iv g.wins)[Mir.place g.q x]? = some (nv (g.wins.getD (Mir.place g.q x) 0)) := iv_at (getD_lt (by rw [hW.v]; exact hp))
      refine s_retL (el_lst (ea2 (e_ixL (g_weights T hG2 (ev_var rfl)) (ev_var rfl) (sq_of hG2.w) i1) (e_ixL (g_winning T hG2 (ev_var rfl)) (ev_var rfl) (sq_of hG2.v) i2)) (by show 2 ≤ 100000; decide)) fun p H3 hp3 e3 h3 => k.go (e1.trans e2) hp3 e3 ?_
      rw [h3]
      unfold Mir.rowM
      rw [if_neg (by rw [hb']; decide)]
      rfl
theorem l_row {a r : Addr} {A : GA} {g : G} {x : List Nat} (ha : Ev ta σ H (.ref a)) (hb : EvL tb σ H (iv x)) (hG : GameAt C CM H a A g) (hW : WG g) (hz : x.length ≤ 40000) :
    EvL (tCall (spRow C CM K) [] E0 (tCons ta (tCons tb tNil))) σ H (rl (Mir.rowM g x)) := fun H1 e Q q =>
  ea2L ha hb H1 e _ fun r H2 hr e2 h2 => ⟨a, r, A, g, x, rfl, hG.ex (e.trans e2), hW, sq_of h2, hz, fun p H3 hp e3 h3 => q p H3 (fresh_back e2 hp) (e2.trans e3) h3⟩
/-! ### rows_with_parity -/
def spParity : Sp := fun vs H Q _ => ∃ (k s : Nat), vs = [nv k, nv s] ∧ k ≤ 10 ∧ RetV (nv (Mir.rowsWithParity k s)) H Q
theorem c_rows_with_parity (D : DefAt K mg "rows_with_parity" s_rows_with_parity) (T : Txt K mg C CM aT aN aW) (c1 : Cal P w K mg base "count_ones" 1 ["number"] spOnes) : Cal P w K mg base "rows_with_parity" 2 ["persons", "parity"] spParity := by
  refine cal_mk D sc_rows_with_parity (fun _ _ _ _ _ _ us hl => match us, hl with | [_, _], _ => rfl) (fun vs H Q E h => ?_) (fun hr => d_rows_with_parity c1 T hr) fun vs H Q E h => ?_
  · obtain ⟨kk, s, rfl, _⟩ := h
    rfl
  · obtain ⟨kk, s, rfl, hk, k⟩ := h
    have hp : 2 ^ kk ≤ 1024 := Nat.pow_le_pow_right (by decide) hk
    refine q_asg ev_c fun H1 e1 => ?_
    refine q_forR1 (n := ((1 * 2 ^ kk : Nat) : Int)) (ea1 (e_shl (e_cn 1) (ev_var rfl) (by omega) (by decide))) (by omega) (fun i σ' H' => Ex H1 H' ∧ ∃ v, σ' = [some (nv kk), some (nv s), some (nv (Mir.parityTo s i)), v]) (fun H2 e2 => ⟨e2, none, rfl⟩) ?_ ?_
    · rintro i σ' H' hi ⟨e2, v, rfl⟩
      refine s_when (b := decide (Mir.ones i % 2 = s)) (et_test (e_eq (e_mod (e_ones (ev_var rfl)) (e_cn 2) (by decide)) (ev_var rfl))) (fun hb H3 e3 => ?_) fun hb H3 e3 => ⟨e2.trans e3, some (nv i), ?_⟩
      · refine s_asg (e_or (ev_var rfl) (e_shl (e_cn 1) (ev_var rfl) (by omega) (by decide))) fun H4 e4 => ⟨(e2.trans e3).trans e4, some (nv i), ?_⟩
        have e : Mir.parityTo s (i + 1) = Mir.parityTo s i ||| (1 * 2 ^ i) := if_pos (of_decide_eq_true hb)
        rw [e]
        rfl
      · have e : Mir.parityTo s (i + 1) = Mir.parityTo s i := if_neg (of_decide_eq_false hb)
        rw [e]
        rfl
    · rintro σ' H' ⟨e2, v, rfl⟩
      rw [Int.toNat_natCast, Nat.one_mul]
      exact s_ret (ev_var rfl) fun H3 e3 => k.go ((e1.trans e2).trans e3)
theorem e_parity {k s : Nat} (ha : Ev ta σ H (nv k)) (hb : Ev tb σ H (nv s)) (hk : k ≤ 10) : Ev (tCall spParity [] E0 (tCons ta (tCons tb tNil))) σ H (nv (Mir.rowsWithParity k s)) :=
  e_call (ea2 ha hb) fun H1 e Q q => ⟨k, s, rfl, hk, q⟩
/-! ### answered_by_plan -/
def spAnswered (C CM : Addr) (K : PySem.W.Frag) : Sp := fun vs H Q _ => ∃ (a r : Addr) (A : GA) (g : G) (f : List Nat), vs = [.ref a, .ref r] ∧ GameAt C CM H a A g ∧ WG g ∧ SqL K H r (iv f) ∧ f.length = g.k * g.q ∧ (∀ x ∈ f, x < 2) ∧ RetL (iv (Mir.answered g.k g.q f)) H Q
theorem answeredTo_len {k q : Nat} {f : List Nat} (hf : f.length = k * q) : ∀ {i : Nat}, i ≤ k → (Mir.answeredTo q f i).length = q ^ i
  | 0, _ => rfl
  | i + 1, h => by
    show (Mir.moreAnswers (Mir.answeredTo q f i) ((f.drop (i * q)).take q) i).length = _
    have h1 : (i + 1) * q ≤ k * q := Nat.mul_le_mul_right _ h
    rw [Nat.succ_mul] at h1
    rw [more_len, answeredTo_len hf (by omega), List.length_take, List.length_drop, hf, Nat.pow_succ, Nat.min_eq_left (by omega)]
theorem c_answered_by_plan (D : DefAt K mg "answered_by_plan" s_answered_by_plan) (T : Txt K mg C CM aT aN aW) (c1 : Cal P w K mg base "answered_by_one_more" 1 ["numbers", "own", "person"] (spOneMore K)) :
    Cal P w K mg base "answered_by_plan" 2 ["game", "row"] (spAnswered C CM K) := by
  refine cal_mk D sc_answered_by_plan (fun _ _ _ _ _ _ us hl => match us, hl with | [_, _], _ => rfl) (fun vs H Q E h => ?_) (fun hr => d_answered_by_plan c1 T hr) fun vs H Q E h => ?_
  · obtain ⟨a, r, A, g, f, rfl, _⟩ := h
    rfl
  · obtain ⟨a, r, A, g, f, rfl, hG, hW, hr, hf, hf2, k⟩ := h
    have := hW.k2
    have := hW.q2
    refine q_asgL (el_lst (ea1 (e_cn 0)) (by decide)) fun l H1 hl e1 h1 => ?_
    refine q_forR1 (ea1 (g_persons T (hG.ex e1) (ev_var rfl))) (by omega) (fun i σ' H' => Ex H H' ∧ ∃ L v v2 v3, H L = none ∧ H' L = some (.lst (iv (Mir.answeredTo g.q f i))) ∧ σ' = [some (.ref a), some (.ref r), some (.ref L), v, v2, v3]) (fun H2 e2 => ⟨e1.trans e2, l, none, none, none, hl, e2 _ _ h1, rfl⟩) ?_ ?_
    · rintro i σ' H' hi ⟨e2, L, v, v2, v3, hL, h2, rfl⟩
      have hi' : i < g.k := by omega
      have hik : (i + 1) * g.q ≤ g.k * g.q := Nat.mul_le_mul_right _ hi'
      rw [Nat.succ_mul] at hik
      have hG2 := hG.ex e2
      refine q_asg (e_mul (ev_var rfl) (g_questions T hG2 (ev_var rfl)) (.inr (by omega))) fun H3 e3 => ?_
      have hG3 := hG2.ex e3
      have g1 := el_sl (K := K) (σ := ([some (.ref a), some (.ref r), some (.ref L), some (nv i), some (nv (i * g.q)), v3] : L2.St)) (H := H3) (te := tVar 1) (tl := tPart (tVar 4)) (th := tPart (tOp rAdd' (tVar 4) (tFld K (tVar 0) "questions"))) (ev_var rfl) (eo_some (i := ((i * g.q : Nat) : Int)) (ev_var rfl)) (eo_some (i := ((i * g.q + g.q : Nat) : Int)) (e_add (i := i * g.q) (ev_var rfl) (g_questions T hG3 (ev_var rfl)))) (ex_l (e2.trans e3) hr)
      rw [cut_both _ _ _ (by omega) (by rw [iv_len, hf]; omega), iv_drop, iv_take, Nat.add_sub_cancel_left] at g1
      refine q_asgL g1 fun p H4 hp e4 h4 => ?_
      have hlen := answeredTo_len (q := g.q) hf (Nat.le_of_lt hi')
      have hpw : g.q ^ i ≤ 81 := Nat.le_trans (Nat.pow_le_pow_left hW.q2 i) (Nat.le_trans (Nat.pow_le_pow_right (by decide) (by omega : i ≤ 4)) (by decide))
      have hle : ((f.drop (i * g.q)).take g.q).length ≤ g.q := by
        rw [List.length_take]
        omega
      have hmul : (Mir.answeredTo g.q f i).length * ((f.drop (i * g.q)).take g.q).length ≤ 81 * 3 := Nat.mul_le_mul (by omega) (by omega)
      refine s_asgL (l_one_more (ev_var rfl) (ev_var rfl) (ev_var rfl) (sq_of (e4 _ _ (e3 _ _ h2))) (sq_of h4) (by omega) (fun x hx => by have := hf2 x (List.mem_of_mem_drop (List.mem_of_mem_take hx)); omega) (by omega)) fun p2 H5 hp2 e5 h5 => ⟨((e2.trans e3).trans e4).trans e5, p2, some (nv i), some (nv (i * g.q)), some (.ref p), fresh_back ((e2.trans e3).trans e4) hp2, h5, rfl⟩
    · rintro σ' H' ⟨e2, L, v, v2, v3, hL, h2, rfl⟩
      rw [Int.toNat_natCast] at h2
      exact s_ret (ev_var rfl) fun H3 e3 => k L H3 hL (e2.trans e3) (e3 _ _ h2)
theorem l_answered {a r : Addr} {A : GA} {g : G} {f : List Nat} (ha : Ev ta σ H (.ref a)) (hb : Ev tb σ H (.ref r)) (hG : GameAt C CM H a A g) (hW : WG g) (hr : SqL K H r (iv f)) (hf : f.length = g.k * g.q) (hf2 : ∀ x ∈ f, x < 2) :
    EvL (tCall (spAnswered C CM K) [] E0 (tCons ta (tCons tb tNil))) σ H (iv (Mir.answered g.k g.q f)) :=
  l_call (ea2 ha hb) fun H1 e Q q => ⟨a, r, A, g, f, rfl, hG.ex e, hW, ex_l e hr, hf, hf2, q⟩
/-! ### worth_of_plan -/
def spWorth (C CM : Addr) (K : PySem.W.Frag) : Sp := fun vs H Q _ => ∃ (a r : Addr) (A : GA) (g : G) (f : List Nat), vs = [.ref a, .ref r] ∧ GameAt C CM H a A g ∧ WG g ∧ SqL K H r (iv f) ∧ f.length = g.k * g.q ∧ (∀ x ∈ f, x < 2) ∧ RetV (nv (g.worth f)) H Q
theorem c_worth_of_plan (D : DefAt K mg "worth_of_plan" s_worth_of_plan) (T : Txt K mg C CM aT aN aW) (c1 : Cal P w K mg base "answered_by_plan" 2 ["game", "row"] (spAnswered C CM K)) :
    Cal P w K mg base "worth_of_plan" 3 ["game", "row"] (spWorth C CM K) := by
  refine cal_mk D sc_worth_of_plan (fun _ _ _ _ _ _ us hl => match us, hl with | [_, _], _ => rfl) (fun vs H Q E h => ?_) (fun hr => d_worth_of_plan c1 T hr) fun vs H Q E h => ?_
  · obtain ⟨a, r, A, g, f, rfl, _⟩ := h
    rfl
  · obtain ⟨a, r, A, g, f, rfl, hG, hW, hr, hf, hf2, k⟩ := h
    refine q_asg ev_c fun H1 e1 => ?_
    have hlen : (Mir.answered g.k g.q f).length = g.q ^ g.k := answeredTo_len hf (Nat.le_refl _)
    refine q_forNE (l_answered (ev_var rfl) (ev_var rfl) (hG.ex e1) hW (ex_l e1 hr) hf hf2) (fun p i σ' H' => Ex H1 H' ∧ H' p = some (.lst (iv (Mir.answered g.k g.q f))) ∧ ∃ v v2, σ' = [some (.ref a), some (.ref r), some (nv (Mir.worthTo g.wins g.weights (Mir.answered g.k g.q f) i)), v, v2]) (fun p H2 hp e2 h2 => ⟨e2, h2, none, none, rfl⟩) (fun p i σ' H' q => sq_of q.2.1) ?_ ?_
    · rintro p i y σ' H0 H' hi ⟨e2, h2, v, v2, rfl⟩ e3
      obtain ⟨n, hn, rfl⟩ := iv_get hi
      have hil := lt_of_get hn
      rw [hlen] at hil
      have hG3 := hG.ex ((e1.trans e2).trans e3)
      have i1 : (iv g.weights)[i]? = some (nv (g.weights.getD i 0)) := iv_at (getD_lt (by rw [hW.w]; exact hil))
      have i2 : (iv g.wins)[i]? = some (nv (g.wins.getD i 0)) := iv_at (getD_lt (by rw [hW.v]; exact hil))
      have ed : (Mir.answered g.k g.q f).getD i 0 = n := getD_of hn
      refine s_when (b := decide (g.wins.getD i 0 / 2 ^ n % 2 = 1)) (et_test (e_eq (e_and1 (e_shr (e_ixL (g_winning T hG3 (ev_var rfl)) (ev_var rfl) (sq_of hG3.v) i2) (ev_var rfl))) (e_cn 1))) (fun hb H4 e4 => ?_) fun hb H4 e4 => ⟨(e2.trans e3).trans e4, (e3.trans e4) _ _ h2, some (nv i), some (nv n), ?_⟩
      · have hG4 := hG3.ex e4
        refine s_aug (a := ((Mir.worthTo g.wins g.weights (Mir.answered g.k g.q f) i : Nat) : Int)) (b := ((g.weights.getD i 0 : Nat) : Int)) rfl (e_ixL (g_weights T hG4 (ev_var rfl)) (ev_var rfl) (sq_of hG4.w) i1) fun H5 e5 => ⟨((e2.trans e3).trans e4).trans e5, ((e3.trans e4).trans e5) _ _ h2, some (nv i), some (nv n), ?_⟩
        have e : Mir.worthTo g.wins g.weights (Mir.answered g.k g.q f) (i + 1) = Mir.worthTo g.wins g.weights (Mir.answered g.k g.q f) i + g.weights.getD i 0 := if_pos (by rw [ed]; exact of_decide_eq_true hb)
        rw [e]
        show [_, _, some (V.int (_ + _)), _, _] = _
        rw [← Int.natCast_add]
      · have e : Mir.worthTo g.wins g.weights (Mir.answered g.k g.q f) (i + 1) = Mir.worthTo g.wins g.weights (Mir.answered g.k g.q f) i := if_neg (by rw [ed]; exact of_decide_eq_false hb)
        rw [e]
        rfl
    · rintro p σ' H' ⟨e2, h2, v, v2, rfl⟩
      rw [iv_len]
      exact s_ret (ev_var rfl) fun H3 e3 => k.go ((e1.trans e2).trans e3)
theorem e_worth {a r : Addr} {A : GA} {g : G} {f : List Nat} (ha : Ev ta σ H (.ref a)) (hb : Ev tb σ H (.ref r)) (hG : GameAt C CM H a A g) (hW : WG g) (hr : SqL K H r (iv f)) (hf : f.length = g.k * g.q) (hf2 : ∀ x ∈ f, x < 2) :
    Ev (tCall (spWorth C CM K) [] E0 (tCons ta (tCons tb tNil))) σ H (nv (g.worth f)) :=
  e_call (ea2 ha hb) fun H1 e Q q => ⟨a, r, A, g, f, rfl, hG.ex e, hW, ex_l e hr, hf, hf2, q⟩
theorem e_worthL {a : Addr} {A : GA} {g : G} {f : List Nat} (ha : Ev ta σ H (.ref a)) (hb : EvL tb σ H (iv f)) (hG : GameAt C CM H a A g) (hW : WG g) (hf : f.length = g.k * g.q) (hf2 : ∀ x ∈ f, x < 2) :
    Ev (tCall (spWorth C CM K) [] E0 (tCons ta (tCons tb tNil))) σ H (nv (g.worth f)) := fun H1 e Q q =>
  ea2L ha hb H1 e _ fun r H2 hr e2 h2 => ⟨a, r, A, g, f, rfl, hG.ex (e.trans e2), hW, sq_of h2, hf, hf2, fun H3 e3 => q H3 (e2.trans e3)⟩
/-! ### try_plan, best_plan, plans_that_win -/
theorem plan_len (g : G) (p : Nat) : (g.plan p).length = g.k * g.q := by
  unfold G.plan Mir.planAt
  rw [List.length_map, List.length_range]
theorem plan_lt (g : G) (p : Nat) : ∀ x ∈ g.plan p, x < 2 := fun x hx => by
  unfold G.plan Mir.planAt at hx
  obtain ⟨j, _, rfl⟩ := List.mem_map.mp hx
  exact Nat.mod_lt _ (by decide)
def spTry (C CM : Addr) (K : PySem.W.Frag) : Sp := fun vs H Q _ => ∃ (a r : Addr) (A : GA) (g : G) (x : List Nat), vs = [.ref a, .ref r] ∧ GameAt C CM H a A g ∧ WG g ∧ SqL K H r (iv x) ∧ x.length ≤ 40000 ∧ RetL (rl (Mir.planM g x)) H Q
theorem c_try_plan (D : DefAt K mg "try_plan" s_try_plan) (T : Txt K mg C CM aT aN aW) (c1 : Cal P w K mg base "is_plan" 1 ["game", "row"] (spIsPlan C CM K)) (c2 : Cal P w K mg base "worth_of_plan" 3 ["game", "row"] (spWorth C CM K)) :
    Cal P w K mg base "try_plan" 4 ["game", "row"] (spTry C CM K) := by
  refine cal_mk D sc_try_plan (fun _ _ _ _ _ _ us hl => match us, hl with | [_, _], _ => rfl) (fun vs H Q E h => ?_) (fun hr => d_try_plan c1 c2 T hr) fun vs H Q E h => ?_
  · obtain ⟨a, r, A, g, x, rfl, _⟩ := h
    rfl
  · obtain ⟨a, r, A, g, x, rfl, hG, hW, hr, hz, k⟩ := h
    have := hW.k2
    refine q_when (et_not (et_B (e_is_plan (ev_var rfl) (ev_var rfl) hG hr hz (by omega)))) (fun hb H1 e1 => ?_) fun hb H1 e1 => ?_
    · have hb' : okRow (g.k * g.q) 2 x = false := by simpa using hb
      refine s_retL (el_lst (ea1 ev_c) (by decide)) fun p H2 hp e2 h2 => k.go e1 hp e2 ?_
      rw [h2]
      unfold Mir.planM
      rw [if_pos hb']
      rfl
    · have hb' : okRow (g.k * g.q) 2 x = true := by simpa using hb
      obtain ⟨x1, x2⟩ := okRow_iff.mp hb'
      have hG1 := hG.ex e1
      refine s_retL (el_lst (ea2 (e_worth (ev_var rfl) (ev_var rfl) hG1 hW (ex_l e1 hr) x1 x2) (e_sum (g_weights T hG1 (ev_var rfl)) (sq_of hG1.w))) (by show 2 ≤ 100000; decide)) fun p H2 hp e2 h2 => k.go e1 hp e2 ?_
      rw [h2]
      unfold Mir.planM
      rw [if_neg (by rw [hb']; decide)]
      rfl
def spBest (C CM : Addr) : Sp := fun vs H Q _ => ∃ (a : Addr) (A : GA) (g : G), vs = [.ref a] ∧ GameAt C CM H a A g ∧ WG g ∧ RetL (rl (Mir.bestM g)) H Q
theorem bestTo_len (g : G) : ∀ i, (g.bestTo i).2.length = g.k * g.q
  | 0 => plan_len g 0
  | i + 1 => by
    unfold G.bestTo
    split
    · exact plan_len g _
    · exact bestTo_len g i
theorem WG.plans {g : G} (h : WG g) : 2 ^ (g.k * g.q) ≤ 256 := pow_le_256 h.kq
theorem c_best_plan (D : DefAt K mg "best_plan" s_best_plan) (T : Txt K mg C CM aT aN aW) (c1 : Cal P w K mg base "plan_at" 1 ["game", "place"] (spPlanAt C CM)) (c2 : Cal P w K mg base "worth_of_plan" 3 ["game", "row"] (spWorth C CM K)) (c3 : Cal P w K mg base "count_plans" 1 ["game"] (spCountPlans C CM)) :
    Cal P w K mg base "best_plan" 4 ["game"] (spBest C CM) := by
  refine cal_mk D sc_best_plan (fun _ _ _ _ _ _ us hl => match us, hl with | [_], _ => rfl) (fun vs H Q E h => ?_) (fun hr => d_best_plan c1 c2 c3 T hr) fun vs H Q E h => ?_
  · obtain ⟨a, A, g, rfl, _⟩ := h
    rfl
  · obtain ⟨a, A, g, rfl, hG, hW, k⟩ := h
    have k2 := hW.k2
    have kq := hW.kq
    have hpl := hW.plans
    have hpos : 0 < 2 ^ (g.k * g.q) := Nat.two_pow_pos _
    refine q_asgL (l_plan_at (p := 0) (ev_var rfl) (e_cn 0) hG (by omega) (by omega)) fun F H1 hF e1 h1 => ?_
    have hG1 := hG.ex e1
    refine q_asg (e_worth (ev_var rfl) (ev_var rfl) hG1 hW (sq_of h1) (plan_len g 0) (plan_lt g 0)) fun H2 e2 => ?_
    have hG2 := hG1.ex e2
    refine q_forR2 (lo := 1) (n := ((2 ^ (g.k * g.q) : Nat) : Int)) (ea2 ev_c (e_count_plans (ev_var rfl) hG2 (by omega) (by omega))) (by omega) (fun i σ' H' => Ex H H' ∧ ∃ F v v2 v3, H F = none ∧ H' F = some (.lst (iv (g.bestTo i).2)) ∧ σ' = [some (.ref a), some (.ref F), some (nv (g.bestTo i).1), v, v2, v3]) (fun H3 e3 => ⟨(e1.trans e2).trans e3, F, none, none, none, hF, (e2.trans e3) _ _ h1, rfl⟩) ?_ ?_
    · rintro i σ' H' hi ⟨e3, F, v, v2, v3, hF, h3, rfl⟩
      have hG3 := hG.ex e3
      have ev1 : ∀ H', Ev (tVar 3) ([some (.ref a), some (.ref F), some (nv (g.bestTo i).1), some (.int (1 + (i : Int))), v2, v3] : L2.St) H' (nv (1 + i)) := fun H' => ev_is (ev_var rfl) (by
        show V.int _ = V.int _
        rw [Int.natCast_add]
        rfl)
      refine q_asgL (l_plan_at (p := 1 + i) (ev_var rfl) (ev1 _) hG3 (by omega) (by omega)) fun R H4 hR e4 h4 => ?_
      have hG4 := hG3.ex e4
      refine q_asg (e_worth (ev_var rfl) (ev_var rfl) hG4 hW (sq_of h4) (plan_len g _) (plan_lt g _)) fun H5 e5 => ?_
      refine s_when (b := decide ((g.bestTo i).1 < g.worth (g.plan (1 + i)))) (et_test (e_gt (ev_var rfl) (ev_var rfl))) (fun hb H6 e6 => ?_) fun hb H6 e6 => ⟨((e3.trans e4).trans e5).trans e6, F, some (.int (1 + (i : Int))), some (.ref R), some (nv (g.worth (g.plan (1 + i)))), hF, ?_, ?_⟩
      · have e : g.bestTo (i + 1) = (g.worth (g.plan (1 + i)), g.plan (1 + i)) := if_pos (of_decide_eq_true hb)
        refine q_asg (ev_var rfl) fun H7 e7 => s_asg (ev_var rfl) fun H8 e8 => ⟨(((e3.trans e4).trans e5).trans e6).trans (e7.trans e8), R, some (.int (1 + (i : Int))), some (.ref R), some (nv (g.worth (g.plan (1 + i)))), fresh_back e3 hR, ?_, ?_⟩
        · rw [e]
          exact (((e5.trans e6).trans e7).trans e8) _ _ h4
        · rw [e]
          rfl
      · have e : g.bestTo (i + 1) = g.bestTo i := if_neg (of_decide_eq_false hb)
        rw [e]
        exact ((e4.trans e5).trans e6) _ _ h3
      · have e : g.bestTo (i + 1) = g.bestTo i := if_neg (of_decide_eq_false hb)
        rw [e]
        rfl
    · rintro σ' H' ⟨e3, F, v, v2, v3, hF, h3, rfl⟩
      have e : (((2 ^ (g.k * g.q) : Nat) : Int) - 1).toNat = 2 ^ (g.k * g.q) - 1 := by omega
      rw [e] at h3
      rw [e]
      have hG3 := hG.ex e3
      refine s_retL (l_cat (xs := [nv (g.bestTo (2 ^ (g.k * g.q) - 1)).1, nv g.weights.sum]) (el_lst (ea2 (ev_var rfl) (e_sum (g_weights T hG3 (ev_var rfl)) (sq_of hG3.w))) (by show 2 ≤ 100000; decide)) (fun H4 _ => ev_var rfl) h3 (by rw [iv_len, bestTo_len]; show 2 + _ ≤ _; omega)) fun p H4 hp e4 h4 => k.go e3 hp e4 ?_
      rw [h4]
      unfold rl Mir.bestM iv G.best
      rw [List.map_append, List.map_map]
      rfl
theorem l_best {a : Addr} {A : GA} {g : G} (ha : Ev ta σ H (.ref a)) (hG : GameAt C CM H a A g) (hW : WG g) : EvL (tCall (spBest C CM) [] E0 (tCons ta tNil)) σ H (rl (Mir.bestM g)) :=
  l_call (ea1 ha) fun H1 e Q q => ⟨a, A, g, rfl, hG.ex e, hW, q⟩
def spPlans (C CM : Addr) : Sp := fun vs H Q _ => ∃ (a : Addr) (A : GA) (g : G) (t : Nat), vs = [.ref a, nv t] ∧ GameAt C CM H a A g ∧ WG g ∧ RetL (rl (Mir.plansM g t)) H Q
theorem c_plans_that_win (D : DefAt K mg "plans_that_win" s_plans_that_win) (T : Txt K mg C CM aT aN aW) (c1 : Cal P w K mg base "plan_at" 1 ["game", "place"] (spPlanAt C CM)) (c2 : Cal P w K mg base "worth_of_plan" 3 ["game", "row"] (spWorth C CM K)) (c3 : Cal P w K mg base "count_plans" 1 ["game"] (spCountPlans C CM)) :
    Cal P w K mg base "plans_that_win" 4 ["game", "much"] (spPlans C CM) := by
  refine cal_mk D sc_plans_that_win (fun _ _ _ _ _ _ us hl => match us, hl with | [_, _], _ => rfl) (fun vs H Q E h => ?_) (fun hr => d_plans_that_win c3 c2 c1 T hr) fun vs H Q E h => ?_
  · obtain ⟨a, A, g, t, rfl, _⟩ := h
    rfl
  · obtain ⟨a, A, g, t, rfl, hG, hW, k⟩ := h
    have k2 := hW.k2
    have kq := hW.kq
    have hpl := hW.plans
    have hpos : 0 < 2 ^ (g.k * g.q) := Nat.two_pow_pos _
    refine q_asg ev_c fun H1 e1 => ?_
    have hG1 := hG.ex e1
    refine q_forR1 (n := ((2 ^ (g.k * g.q) : Nat) : Int)) (ea1 (e_count_plans (ev_var rfl) hG1 (by omega) (by omega))) (by omega) (fun i σ' H' => Ex H1 H' ∧ ∃ v, σ' = [some (.ref a), some (nv t), some (nv (g.winTo t i)), v]) (fun H2 e2 => ⟨e2, none, rfl⟩) ?_ ?_
    · rintro i σ' H' hi ⟨e2, v, rfl⟩
      have hG2 := hG1.ex e2
      refine s_when (b := decide (g.worth (g.plan i) = t)) (et_test (e_eq (e_worthL (ev_var rfl) (l_plan_at (ev_var rfl) (ev_var rfl) hG2 (by omega) (by omega)) hG2 hW (plan_len g _) (plan_lt g _)) (ev_var rfl))) (fun hb H3 e3 => ?_) fun hb H3 e3 => ⟨e2.trans e3, some (nv i), ?_⟩
      · refine s_aug (a := ((g.winTo t i : Nat) : Int)) (b := 1) rfl ev_c fun H4 e4 => ⟨(e2.trans e3).trans e4, some (nv i), ?_⟩
        have e : g.winTo t (i + 1) = g.winTo t i + 1 := if_pos (of_decide_eq_true hb)
        rw [e]
        rfl
      · have e : g.winTo t (i + 1) = g.winTo t i := if_neg (of_decide_eq_false hb)
        rw [e]
        rfl
    · rintro σ' H' ⟨e2, v, rfl⟩
      rw [Int.toNat_natCast]
      have hG2 := hG1.ex e2
      refine s_retL (el_lst (ea2 (ev_var rfl) (e_count_plans (ev_var rfl) hG2 (by omega) (by omega))) (by show 2 ≤ 100000; decide)) fun p H3 hp e3 h3 => k.go (e1.trans e2) hp e3 ?_
      rw [h3]
      rfl
end
end My
set_option Elab.async false
set_option linter.all false
set_option maxRecDepth 100000
set_option maxHeartbeats 4000000
namespace My
open PySem PySem.Spec PyProof.Rows L2 Evl
open Su173 (Spin together)
open Mir (G)
open Su175 (okRow blank)
theorem lastSign_snoc (ps : List Spin) (p : Spin) (l : List Nat) : Mir.lastSign (ps ++ [p]) l = if p.l = l then some p.s else Mir.lastSign ps l := by
  unfold Mir.lastSign
  rw [List.foldl_append]
  rfl
theorem ownRow_get {g : G} {x : List Nat} {i : Nat} {y : Spin} (h : (g.ownRow x)[i]? = some y) : ∃ v, x[i]? = some v ∧ y = g.own.getD (i * g.q + v) (blank g.m) := by
  unfold G.ownRow at h
  rw [List.getElem?_map, List.getElem?_zipIdx] at h
  cases e : x[i]? with
  | none => rw [e] at h; cases h
  | some v =>
    rw [e] at h
    refine ⟨v, rfl, ?_⟩
    have h2 := Option.some.inj h
    rw [← h2, Nat.zero_add]
theorem ownRow_len (g : G) (x : List Nat) : (g.ownRow x).length = x.length := by
  unfold G.ownRow
  rw [List.length_map, List.length_zipIdx]
theorem ix_lt {k q i v : Nat} (hi : i < k) (hv : v < q) : i * q + v < k * q := by
  have h : (i + 1) * q ≤ k * q := Nat.mul_le_mul_right _ hi
  rw [Nat.succ_mul] at h
  omega
theorem sums_len (g : G) {x : List Nat} : (g.sums x).length = 2 ^ x.length := by
  unfold G.sums
  rw [List.length_map, prods_len, ownRow_len]
theorem code2_lt : ∀ {b : List Nat}, (∀ x ∈ b, x ≤ 1) → Mir.code2 b < 2 ^ b.length
  | [], _ => by decide
  | x :: r, h => by
    have ih := code2_lt (b := r) fun y hy => h y (List.mem_cons_of_mem _ hy)
    have hx := h x (List.mem_cons_self ..)
    show x + 2 * Mir.code2 r < 2 ^ (r.length + 1)
    rw [Nat.pow_succ]
    omega
theorem rowAtTo_lt {q : Nat} (p : Nat) (hq : 0 < q) : ∀ i, ∀ v ∈ (Mir.rowAtTo q p i).1, v < q
  | 0 => fun v hv => by cases hv
  | i + 1 => fun v hv => by
    have hv' : v ∈ (Mir.rowAtTo q p i).2 % q :: (Mir.rowAtTo q p i).1 := hv
    rcases List.mem_cons.mp hv' with rfl | h
    · exact Nat.mod_lt _ hq
    · exact rowAtTo_lt p hq i v h
theorem rowAt_ok {k q p : Nat} (hq : 0 < q) : okRow k q (Mir.rowAt k q p) = true := okRow_iff.mpr ⟨rowAtTo_len q p k, rowAtTo_lt p hq k⟩
theorem drop_bits {l : List Nat} {n : Nat} (h : (l.drop n).all (fun b => decide (b ≤ 1)) = true) : ∀ x ∈ l.drop n, x ≤ 1 := fun x hx => of_decide_eq_true (List.all_eq_true.mp h x hx)
section
variable {P : Program} {w : World} {K : PySem.W.Frag} {mg : Str → Option Value} {base : Heap} {C CM aT aN aW : Addr} {σ : L2.St} {H : Hp} {ta tb tc td ty tl te : TE}
/-- a comprehension over a new list of naturals -/
theorem l_mapN {l : List Nat} {j : Nat} {vs : List Nat} (p : Nat → V) (h : EvL tl σ H (iv l)) (hz : l.length ≤ 40000) (hw : ∀ x, wipe ((wipe σ vs).set j (some x)) vs = wipe σ vs)
    (he : ∀ (n : Nat) H1, n ∈ l → Ex H H1 → Ev te ((wipe σ vs).set j (some (nv n))) H1 (p n)) : EvL (tLc (iList K tl) (gName j) tYes te vs) σ H (l.map p) := by
  have g := el_lcNL (K := K) (te := te) (t := tYes) (fun _ => true) (fun i => p (l.getD i 0)) h (by rw [iv_len]; exact hz) hw (fun i x H1 _ _ => fun H2 _ Q q => q H2 (Ex.refl H2)) (fun i x H1 e hi _ => by
    obtain ⟨n, hn, rfl⟩ := iv_get hi
    rw [getD_of hn]
    exact he n H1 (List.mem_of_getElem? hn) e)
  rw [given_all, iv_len, range_getD] at g
  exact g
theorem e_is_askedL {a : Addr} {A : GA} {g : G} {x : List Nat} (ha : Ev ta σ H (.ref a)) (hb : EvL tb σ H (iv x)) (hG : GameAt C CM H a A g) (hz : x.length ≤ 40000) :
    Ev (tCall (spIsAsked C CM K) [] E0 (tCons ta (tCons tb tNil))) σ H (.bl (g.asked x)) := fun H1 e Q q =>
  ea2L ha hb H1 e _ fun r H2 hr e2 h2 => ⟨a, r, A, g, x, rfl, hG.ex (e.trans e2), sq_of h2, hz, fun H3 e3 => q H3 (e2.trans e3)⟩
theorem e_mulZ {i j : Int} (ha : Ev ta σ H (.int i)) (hb : Ev tb σ H (.int j)) (hc : CMul i j) : Ev (tOp rMul' ta tb) σ H (.int (i * j)) := ev_op ha hb (rv_I hc)
/-! ### are_own_letters -/
def spOwnL (C CM : Addr) (K : PySem.W.Frag) : Sp := fun vs H Q _ => ∃ (a r : Addr) (A : GA) (g : G) (i : Nat) (x : List Nat), vs = [.ref a, nv i, .ref r] ∧ GameAt C CM H a A g ∧ SqL K H r (iv x) ∧ x.length ≤ 40000 ∧ RetV (.bl (Mir.ownLetters g i x)) H Q
theorem zip_all (l o : List Nat) (i : Nat) (h : l.length = o.length) : (List.range l.length).map (fun j => V.bl (decide (l.getD j 0 = 0) || decide (o.getD j 0 = i))) = ((l.zip o).map fun p => (p.1 == 0 || p.2 == i)).map V.bl := by
  apply List.ext_getElem
  · simp [h]
  · intro j h1 h2
    simp at h1
    have h3 : j < o.length := by omega
    simp [h1, h3]
    rfl
theorem all_id2 {α : Type} (l : List α) (p : α → Bool) : (l.map p).all id = l.all p := by
  induction l with
  | nil => rfl
  | cons a r ih => rw [List.map_cons, List.all_cons, List.all_cons, ih]; rfl
theorem c_are_own_letters (D : DefAt K mg "are_own_letters" s_are_own_letters) (T : Txt K mg C CM aT aN aW) (c1 : Cal P w K mg base "are_letters" 1 ["row", "spins"] (spLetters K)) :
    Cal P w K mg base "are_own_letters" 2 ["game", "person", "letters"] (spOwnL C CM K) := by
  refine cal_mk D sc_are_own_letters (fun _ _ _ _ _ _ us hl => match us, hl with | [_, _, _], _ => rfl) (fun vs H Q E h => ?_) (fun hr => d_are_own_letters c1 T hr) fun vs H Q E h => ?_
  · obtain ⟨a, r, A, g, i, x, rfl, _⟩ := h
    rfl
  · obtain ⟨a, r, A, g, i, x, rfl, hG, hr, hz, k⟩ := h
    have el : ∀ {σ : L2.St} {H1 : Hp}, Ex H H1 → σ[0]? = some (some (.ref a)) → Ev (tCB (rLen' K) (tCons (tFld K (tVar 0) "owners") tNil)) σ H1 (nv g.m) := fun e1 h0 => by
      have g1 := e_len (K := K) (g_owners T (hG.ex e1) (ev_var h0)) (sq_of (hG.ex e1).o)
      rw [iv_len] at g1
      exact g1
    refine q_when (et_not (et_B (e_letters (ev_var rfl) (el (Ex.refl H) rfl) hr hz))) (fun hb H1 e1 => s_ret ev_c fun H2 e2 => ?_) fun hb H1 e1 => ?_
    · have hb' : okRow g.m 4 x = false := by simpa using hb
      have g1 := k.go (e1.trans e2)
      have e : Mir.ownLetters g i x = false := by
        unfold Mir.ownLetters
        rw [hb', Bool.false_and]
      rw [e] at g1
      exact g1
    · have hb' : okRow g.m 4 x = true := by simpa using hb
      have hl : x.length = g.owners.length := (okRow_iff.mp hb').1
      have hG1 := hG.ex e1
      refine s_ret (e_all (bs := (x.zip g.owners).map fun p => (p.1 == 0 || p.2 == i)) ?_) fun H2 e2 => ?_
      · rw [← zip_all x g.owners i hl]
        have g1 := l_mapZ (K := K) (σ := start ["game", "person", "letters", "letter", "owner"] [.ref a, nv i, .ref r]) (H := H1) (j1 := 3) (j2 := 4) (vs := [3, 4]) (te := tOrV (tOp rEq (tVar 3) (tC (.int 0))) (tOp rEq (tVar 4) (tVar 1))) (fun j => V.bl (decide (x.getD j 0 = 0) || decide (g.owners.getD j 0 = i))) (ea2 (ev_var (i := 2) rfl) (g_owners T hG1 (ev_var (i := 0) rfl))) (ex_l e1 hr) (sq_of hG1.o) (by rw [iv_len, iv_len]; exact hl) (by rw [iv_len]; exact hz) (fun _ _ => rfl) (fun j u u' H2 e2 hj hj2 => by
          obtain ⟨n, hn, rfl⟩ := iv_get hj
          obtain ⟨n', hn', rfl⟩ := iv_get hj2
          rw [getD_of hn, getD_of hn']
          exact ev_orV (e_eq (ev_var rfl) (e_cn 0)) fun _ => e_eq (ev_var rfl) (ev_var rfl))
        rw [iv_len] at g1
        exact g1
      · rw [all_id2]
        have g1 := k.go (e1.trans e2)
        have e : Mir.ownLetters g i x = (x.zip g.owners).all fun p => (p.1 == 0 || p.2 == i) := by
          unfold Mir.ownLetters
          rw [hb', Bool.true_and]
        rw [e] at g1
        exact g1
theorem e_own_letters {a r : Addr} {A : GA} {g : G} {i : Nat} {x : List Nat} (ha : Ev ta σ H (.ref a)) (hb : Ev tb σ H (nv i)) (hc : Ev tc σ H (.ref r)) (hG : GameAt C CM H a A g) (hr : SqL K H r (iv x)) (hz : x.length ≤ 40000) :
    Ev (tCall (spOwnL C CM K) [] E0 (tCons ta (tCons tb (tCons tc tNil)))) σ H (.bl (Mir.ownLetters g i x)) :=
  e_call (ea3 ha hb hc) fun H1 e Q q => ⟨a, r, A, g, i, x, rfl, hG.ex e, ex_l e hr, hz, q⟩
/-! ### are_row_and_bits -/
def spBoth (C CM : Addr) (K : PySem.W.Frag) : Sp := fun vs H Q _ => ∃ (a r : Addr) (A : GA) (g : G) (x : List Nat), vs = [.ref a, .ref r] ∧ GameAt C CM H a A g ∧ WG g ∧ SqL K H r (iv x) ∧ x.length ≤ 40000 ∧ RetV (.bl (Mir.both g x)) H Q
theorem c_are_row_and_bits (D : DefAt K mg "are_row_and_bits" s_are_row_and_bits) (T : Txt K mg C CM aT aN aW) (c1 : Cal P w K mg base "is_asked" 1 ["game", "row"] (spIsAsked C CM K)) :
    Cal P w K mg base "are_row_and_bits" 2 ["game", "both"] (spBoth C CM K) := by
  refine cal_mk D sc_are_row_and_bits (fun _ _ _ _ _ _ us hl => match us, hl with | [_, _], _ => rfl) (fun vs H Q E h => ?_) (fun hr => d_are_row_and_bits c1 T hr) fun vs H Q E h => ?_
  · obtain ⟨a, r, A, g, x, rfl, _⟩ := h
    rfl
  · obtain ⟨a, r, A, g, x, rfl, hG, hW, hr, hz, k⟩ := h
    have k2 := hW.k2
    refine q_when (et_test (e_ne (e_len (ev_var rfl) hr) (e_mul (e_cn 2) (g_persons T hG (ev_var rfl)) (.inl (by decide))))) (fun hb H1 e1 => s_ret ev_c fun H2 e2 => ?_) fun hb H1 e1 => ?_
    · rw [iv_len] at hb
      have g1 := k.go (e1.trans e2)
      have e : Mir.both g x = false := by
        unfold Mir.both
        rw [decide_eq_false (by simpa using hb), Bool.false_and]
      rw [e] at g1
      exact g1
    · rw [iv_len] at hb
      have hG1 := hG.ex e1
      have hr1 := ex_l e1 hr
      refine s_ret (ev_andV (b := (x.drop g.k).all fun b => decide (b ≤ 1)) (e_is_askedL (ev_var rfl) (l_to (ev_var rfl) (g_persons T hG1 (ev_var rfl)) hr1) hG1 (by rw [List.length_take]; omega)) fun _ => ?_) fun H2 e2 => ?_
      · have g1 := e_all (K := K) (bs := (x.drop g.k).map fun b => decide (b ≤ 1)) (σ := start ["game", "both", "bit"] [.ref a, .ref r]) (H := H1) (ta := tLc (iList K (tSl (rSlL K) (tVar 1) (tPart (tFld K (tVar 0) "persons")) tNoPart)) (gName 2) tYes (tOp rLe' (tVar 2) (tC (.int 1))) [2]) (by
          rw [← map_bl]
          exact l_mapN (fun n => V.bl (decide (n ≤ 1))) (l_from (ev_var rfl) (g_persons T hG1 (ev_var rfl)) hr1) (by rw [List.length_drop]; omega) (fun _ => rfl) fun n H2 _ e2 => e_le (ev_var rfl) (e_cn 1))
        rw [all_id] at g1
        exact g1
      · have g1 := k.go (e1.trans e2)
        have e : Mir.both g x = (g.asked (x.take g.k) && (x.drop g.k).all fun b => decide (b ≤ 1)) := by
          unfold Mir.both
          rw [decide_eq_true (by simpa using hb), Bool.true_and]
        rw [e] at g1
        exact g1
theorem e_both {a r : Addr} {A : GA} {g : G} {x : List Nat} (ha : Ev ta σ H (.ref a)) (hb : Ev tb σ H (.ref r)) (hG : GameAt C CM H a A g) (hW : WG g) (hr : SqL K H r (iv x)) (hz : x.length ≤ 40000) :
    Ev (tCall (spBoth C CM K) [] E0 (tCons ta (tCons tb tNil))) σ H (.bl (Mir.both g x)) :=
  e_call (ea2 ha hb) fun H1 e Q q => ⟨a, r, A, g, x, rfl, hG.ex e, hW, ex_l e hr, hz, q⟩
/-! ### chance_of_number, chance_to_win -/
def spChance (K : PySem.W.Frag) : Sp := fun vs H Q _ => ∃ (r : Addr) (sums : List Nat) (n : Nat), vs = [.ref r, nv n] ∧ SqL K H r (iv sums) ∧ RetV (.int (Mir.chanceOf sums n)) H Q
theorem c_chance_of_number (D : DefAt K mg "chance_of_number" s_chance_of_number) (T : Txt K mg C CM aT aN aW) (c1 : Cal P w K mg base "count_ones" 1 ["number"] spOnes) : Cal P w K mg base "chance_of_number" 2 ["sums", "number"] (spChance K) := by
  refine cal_mk D sc_chance_of_number (fun _ _ _ _ _ _ us hl => match us, hl with | [_, _], _ => rfl) (fun vs H Q E h => ?_) (fun hr => d_chance_of_number c1 T hr) fun vs H Q E h => ?_
  · obtain ⟨r, sums, n, rfl, _⟩ := h
    rfl
  · obtain ⟨r, sums, n, rfl, hr, k⟩ := h
    refine q_asg ev_c fun H1 e1 => ?_
    refine q_forE (ev_var rfl) (ex_l e1 hr) (fun i σ' H' => Ex H1 H' ∧ ∃ v v2 v3, σ' = [some (.ref r), some (nv n), some (.int (Mir.chanceTo sums n i)), v, v2, v3]) (fun H2 e2 => ⟨e2, none, none, none, rfl⟩) (fun i σ' H' q => ex_l (e1.trans q.1) hr) ?_ ?_
    · rintro i y σ' H0 H' hi ⟨e2, v, v2, v3, rfl⟩ e3
      obtain ⟨c, hc, rfl⟩ := iv_get hi
      have ed : sums.getD i 0 = c := getD_of hc
      refine s_when (b := !decide (c = 0)) (et_test (e_ne (ev_var rfl) (e_cn 0))) (fun hb H4 e4 => ?_) fun hb H4 e4 => ⟨(e2.trans e3).trans e4, some (nv i), some (nv c), v3, ?_⟩
      · have hb' : c ≠ 0 := by simpa using hb
        have e : Mir.chanceTo sums n (i + 1) = Mir.chanceTo sums n i + (if c = 1 + Mir.ones (i &&& n) % 2 then 1 else -1) := by
          show (if sums.getD i 0 ≠ 0 then Mir.chanceTo sums n i + (if sums.getD i 0 = 1 + Mir.ones (i &&& n) % 2 then 1 else -1) else Mir.chanceTo sums n i) = _
          rw [ed, if_pos hb']
        refine q_asg (e_eq (ev_var rfl) (e_add (e_cn 1) (e_mod (e_ones (e_and (ev_var rfl) (ev_var rfl))) (e_cn 2) (by decide)))) fun H5 e5 => ?_
        refine s_aug (a := Mir.chanceTo sums n i) (b := if c = 1 + Mir.ones (i &&& n) % 2 then 1 else -1) rfl (ev_if (et_B (ev_var rfl)) (fun hb2 => ?_) fun hb2 => ?_) fun H6 e6 => ⟨(((e2.trans e3).trans e4).trans e5).trans e6, some (nv i), some (nv c), some (.bl (decide (c = 1 + Mir.ones (i &&& n) % 2))), ?_⟩
        · rw [if_pos (of_decide_eq_true hb2)]
          exact ev_c
        · rw [if_neg (of_decide_eq_false hb2)]
          exact ev_un ev_c ru_neg
        · rw [e]
          rfl
      · have hb' : c = 0 := by simpa using hb
        have e : Mir.chanceTo sums n (i + 1) = Mir.chanceTo sums n i := by
          show (if sums.getD i 0 ≠ 0 then _ else Mir.chanceTo sums n i) = _
          rw [ed, if_neg (by omega)]
        rw [e]
        rfl
    · rintro σ' H' ⟨e2, v, v2, v3, rfl⟩
      rw [iv_len]
      exact s_ret (ev_var rfl) fun H3 e3 => k.go ((e1.trans e2).trans e3)
theorem e_chance {r : Addr} {sums : List Nat} {n : Nat} (ha : Ev ta σ H (.ref r)) (hb : Ev tb σ H (nv n)) (hr : SqL K H r (iv sums)) : Ev (tCall (spChance K) [] E0 (tCons ta (tCons tb tNil))) σ H (.int (Mir.chanceOf sums n)) :=
  e_call (ea2 ha hb) fun H1 e Q q => ⟨r, sums, n, rfl, ex_l e hr, q⟩
def spToWin (K : PySem.W.Frag) : Sp := fun vs H Q _ => ∃ (r : Addr) (sums : List Nat) (wn : Nat), vs = [.ref r, nv wn] ∧ SqL K H r (iv sums) ∧ sums.length ≤ 40000 ∧ RetV (.int (Mir.winsOf sums wn)) H Q
theorem c_chance_to_win (D : DefAt K mg "chance_to_win" s_chance_to_win) (T : Txt K mg C CM aT aN aW) (c1 : Cal P w K mg base "chance_of_number" 2 ["sums", "number"] (spChance K)) : Cal P w K mg base "chance_to_win" 3 ["sums", "winning"] (spToWin K) := by
  refine cal_mk D sc_chance_to_win (fun _ _ _ _ _ _ us hl => match us, hl with | [_, _], _ => rfl) (fun vs H Q E h => ?_) (fun hr => d_chance_to_win c1 T hr) fun vs H Q E h => ?_
  · obtain ⟨r, sums, wn, rfl, _⟩ := h
    rfl
  · obtain ⟨r, sums, wn, rfl, hr, hz, k⟩ := h
    refine s_ret (e_sumZ (l := ((List.range sums.length).filter fun n => wn / 2 ^ n % 2 = 1).map (Mir.chanceOf sums)) ?_) fun H1 e1 => k.go e1
    rw [List.map_map]
    have hl := e_len (K := K) (σ := start ["sums", "winning", "number"] [V.ref r, nv wn]) (H := H) (ev_var (i := 0) rfl) hr
    rw [iv_len] at hl
    exact l_filR (fun n => decide (wn / 2 ^ n % 2 = 1)) (fun n => V.int (Mir.chanceOf sums n)) (ea1 hl) hz (fun _ => rfl) (fun i H1 hi e1 => et_test (e_eq (e_and1 (e_shr (ev_var rfl) (ev_var rfl))) (e_cn 1))) fun i H1 hi e1 => e_chance (ev_var rfl) (ev_var rfl) (ex_l e1 hr)
theorem e_toWin {r : Addr} {sums : List Nat} {wn : Nat} (ha : Ev ta σ H (.ref r)) (hb : Ev tb σ H (nv wn)) (hr : SqL K H r (iv sums)) (hz : sums.length ≤ 40000) : Ev (tCall (spToWin K) [] E0 (tCons ta (tCons tb tNil))) σ H (.int (Mir.winsOf sums wn)) :=
  e_call (ea2 ha hb) fun H1 e Q q => ⟨r, sums, wn, rfl, ex_l e hr, hz, q⟩
/-! ### signs_that_are_sure -/
theorem s_dputU {tv : TE} {D : Ends} {d : Addr} {l : List Nat} {v : V} {kvs : List (List Key × V)} (hv : Ev tv σ H v) (hd : Ev td σ H (.ref d)) (hy : EvU ty σ H (iv l)) (hD : H d = some (.dT kvs)) (hz : kvs.length < sizeLine)
    (k : ∀ H1, Ex H H1 → D.nx σ (upd H1 d (.dT (putK kvs (ik l) v)))) : sDPut td ty tv D σ H := hv H (Ex.refl H) _ fun H5 e5 => hd H5 e5 _ fun H6 e6 => hy H6 (e5.trans e6) _ fun b H7 hb e7 h7 =>
  ⟨d, upd H7 d (.dT (putK kvs (ik l) v)), rfl, DPut.t (k := ik l) (((e5.trans e6).trans e7) _ _ hD) (by rw [ik_kV]; exact h7) hz, k H7 ((e5.trans e6).trans e7)⟩
def spSigns (C CM : Addr) : Sp := fun vs H Q _ => ∃ (a : Addr) (A : GA) (g : G), vs = [.ref a] ∧ GameAt C CM H a A g ∧ WG g ∧ ∀ d H2, H d = none → Ex H H2 → DictAt H2 d g.signs → Q (.ref d) H2
theorem c_signs (D : DefAt K mg "signs_that_are_sure" s_signs_that_are_sure) (T : Txt K mg C CM aT aN aW) (c1 : Cal P w K mg base "products_of_some" 4 ["measurements", "spins"] (spProds CM K)) : Cal P w K mg base "signs_that_are_sure" 5 ["game"] (spSigns C CM) := by
  refine cal_mk D sc_signs_that_are_sure (fun _ _ _ _ _ _ us hl => match us, hl with | [_], _ => rfl) (fun vs H Q E h => ?_) (fun hr => d_signs_that_are_sure c1 T hr) fun vs H Q E h => ?_
  · obtain ⟨a, A, g, rfl, _⟩ := h
    rfl
  · obtain ⟨a, A, g, rfl, hG, hW, k⟩ := h
    intro d hd
    have e1 : Ex H (upd H d (.dT [])) := Ex.new hd
    have hG1 := hG.ex e1
    obtain ⟨ws, h1, h2⟩ := hG1.s
    have hln : Ev (tCB (rLen' K) (tCons (tFld K (tVar 0) "owners") tNil)) ((start ["game", "signs", "measurement"] [V.ref a]).set 1 (some (.ref d))) (upd H d (.dT [])) (nv g.m) := by
      have g1 := e_len (K := K) (σ := (start ["game", "signs", "measurement"] [V.ref a]).set 1 (some (.ref d))) (g_owners T hG1 (ev_var (i := 0) rfl)) (sq_of hG1.o)
      rw [iv_len] at g1
      exact g1
    refine (ms_prods (g_sure T hG1 (ev_var rfl)) hln (sq_of h1) (paired_mono h2 fun _ _ r => r.mx) hW.s2 (by have := hW.s; omega) (by have := hW.m6; omega)) _ (Ex.refl _) _ fun p ys H2 hp e2 hys hpr => ?_
    have hlen : ys.length ≤ 256 := by
      rw [Paired.length hpr, prods_len]
      exact pow_le_256 (by have := hW.s; omega)
    refine ⟨p, rfl, ⟨ys, sq_of hys⟩, ?_⟩
    refine for_list (K := K) (a := p) (xs := ys) (fun i σ' H' => Ex H H' ∧ H' p = some (.lst ys) ∧ Paired (MX CM H') ys (Mir.prods g.m g.sure) ∧ (∃ kvs : List (List Key × V), H' d = some (.dT kvs) ∧ kvs.length ≤ i ∧ ∀ l, valV kvs (ik l) = (Mir.lastSign ((Mir.prods g.m g.sure).take i) l).map nv) ∧ ∃ v, σ' = [some (.ref a), some (.ref d), v]) ⟨e1.trans e2, hys, paired_mono hpr fun _ _ r => r.mx, ⟨[], e2 _ _ upd_same, Nat.le_refl _, fun l => rfl⟩, none, rfl⟩ (fun i σ' H' _ q => sq_of q.2.1) ?_ ?_
    · rintro i y σ' H' hi ⟨e3, h3, hp3, ⟨kvs, h4, h5, h6⟩, v, rfl⟩
      obtain ⟨x, hx, q, l, rfl, hm⟩ := Paired.get hp3 hi
      have hil := lt_of_get hi
      refine s_dputU (m_sign T hm (ev_var rfl)) (ev_var rfl) (u_tuple (m_letters T hm (ev_var rfl)) (sq_of hm.2)) h4 (small1000 (by omega)) fun H7 e57 => ?_
      have hpd : p ≠ d := fun z => by rw [z, h4] at h3; cases h3
      refine ⟨Ex.mut (e3.trans e57) hd, by rw [upd_ne hpd]; exact e57 _ _ h3, ?_, ⟨_, upd_same, Nat.le_trans (length_putK _ _ _) (by omega), fun l' => ?_⟩, some (.ref q), rfl⟩
      · refine paired_mono hp3 fun _ z r => ?_
        obtain ⟨q1, l1, rfl, ⟨⟨dx, r1⟩, r2⟩⟩ := r
        have n1 : q1 ≠ d := fun z => by rw [z, h4] at r1; cases r1
        have n2 : l1 ≠ d := fun z => by rw [z, h4] at r2; cases r2
        exact ⟨q1, l1, rfl, ⟨⟨dx, by rw [upd_ne n1]; exact e57 _ _ r1⟩, by rw [upd_ne n2]; exact e57 _ _ r2⟩⟩
      · rw [valV_put, take_more hx, lastSign_snoc]
        by_cases hxl : x.l = l'
        · rw [if_pos (by rw [hxl]), if_pos hxl]
          rfl
        · rw [if_neg (fun z => hxl (ik_inj z).symm), if_neg hxl]
          exact h6 l'
    · rintro σ' H' ⟨e3, h3, hp3, ⟨kvs, h4, h5, h6⟩, v, rfl⟩
      refine s_ret (ev_var rfl) fun H5 e5 => k d H5 hd (e3.trans e5) ⟨kvs, e5 _ _ h4, fun l => ?_⟩
      rw [h6, Paired.length hpr, List.take_length]
      rfl
/-- the dict of what is sure, new -/
def EvD (te : TE) (σ : L2.St) (H : Hp) (f : List Nat → Option Nat) : Prop := ∀ H1, Ex H H1 → ∀ Q : VK, (∀ d H2, H1 d = none → Ex H1 H2 → DictAt H2 d f → Q (.ref d) H2) → te σ H1 Q
theorem d_signs {a : Addr} {A : GA} {g : G} (ha : Ev ta σ H (.ref a)) (hG : GameAt C CM H a A g) (hW : WG g) : EvD (tCall (spSigns C CM) [] E0 (tCons ta tNil)) σ H g.signs := fun H1 e Q q =>
  ea1 ha H1 e _ fun H2 e2 => ⟨a, A, g, rfl, hG.ex (e.trans e2), hW, fun d H3 hd e3 h3 => q d H3 (fresh_back e2 hd) (e2.trans e3) h3⟩
theorem q_asgD {D : Ends} {tz : TS} {i : Nat} {f : List Nat → Option Nat} (h : EvD te σ H f) (k : ∀ d H1, Ex H H1 → DictAt H1 d f → tz D (σ.set i (some (.ref d))) H1) : tSeq (tAsg te (gName i)) tz D σ H := h H (Ex.refl H) _ fun d H1 _ e h1 => k d H1 e h1
end
end My
set_option Elab.async false
set_option linter.all false
set_option maxRecDepth 100000
set_option maxHeartbeats 4000000
namespace My
open PySem PySem.Spec PyProof.Rows L2 Evl
open Su173 (Spin together)
open Mir (G)
open Su175 (okRow blank)
section
variable {P : Program} {w : World} {K : PySem.W.Frag} {mg : Str → Option Value} {base : Heap} {C CM aT aN aW : Addr} {σ : L2.St} {H : Hp} {ta tb tc td ty tl te : TE}
theorem e_m {a : Addr} {A : GA} {g : G} (T : Txt K mg C CM aT aN aW) (hG : GameAt C CM H a A g) (ha : Ev ta σ H (.ref a)) : Ev (tCB (rLen' K) (tCons (tFld K ta "owners") tNil)) σ H (nv g.m) := by
  have g1 := e_len (K := K) (g_owners T hG ha) (sq_of hG.o)
  rw [iv_len] at g1
  exact g1
/-! ### sums_at -/
def spSums (C CM : Addr) (K : PySem.W.Frag) : Sp := fun vs H Q _ => ∃ (a d r : Addr) (A : GA) (g : G) (x : List Nat), vs = [.ref a, .ref d, .ref r] ∧ GameAt C CM H a A g ∧ WG g ∧ DictAt H d g.signs ∧ SqL K H r (iv x) ∧ okRow g.k g.q x = true ∧ RetL (iv (g.sums x)) H Q
theorem c_sums_at (D : DefAt K mg "sums_at" s_sums_at) (T : Txt K mg C CM aT aN aW) (c1 : Cal P w K mg base "sum_that_is_sure" 1 ["signs", "product"] (spSumSure CM)) (c2 : Cal P w K mg base "products_of_some" 4 ["measurements", "spins"] (spProds CM K)) :
    Cal P w K mg base "sums_at" 5 ["game", "signs", "row"] (spSums C CM K) := by
  refine cal_mk D sc_sums_at (fun _ _ _ _ _ _ us hl => match us, hl with | [_, _, _], _ => rfl) (fun vs H Q E h => ?_) (fun hr => d_sums_at c1 c2 T hr) fun vs H Q E h => ?_
  · obtain ⟨a, d, r, A, g, x, rfl, _⟩ := h
    rfl
  · obtain ⟨a, d, r, A, g, x, rfl, hG, hW, hD, hr, hx, k⟩ := h
    obtain ⟨x1, x2⟩ := okRow_iff.mp hx
    have k2 := hW.k2
    have q2 := hW.q2
    obtain ⟨ws, h1, h2⟩ := hG.n
    have hwl : ws.length = g.k * g.q := by rw [Paired.length h2, hW.n]
    refine q_asgL (l_mapE (K := K) (fun i => ws.getD (i * g.q + x.getD i 0) .non) (ev_var rfl) hr (by rw [iv_len, x1]; omega) (fun _ _ => rfl) fun i u H1 e1 hi => ?_) fun p H1 hp e1 hp1 => ?_
    · obtain ⟨n, hn, rfl⟩ := iv_get hi
      rw [getD_of hn]
      have hil := lt_of_get hn
      rw [x1] at hil
      have hlt := ix_lt hil (x2 n (List.mem_of_getElem? hn))
      have hG1 := hG.ex e1
      refine e_ixL (g_own T hG1 (ev_var rfl)) (e_add (e_mul (ev_var rfl) (g_questions T hG1 (ev_var rfl)) (.inr (by omega))) (ev_var rfl)) (sq_of (e1 _ _ h1)) ?_
      rw [List.getD_eq_getElem?_getD, List.getElem?_eq_getElem (by omega)]
      rfl
    · have hG1 := hG.ex e1
      have hpair : Paired (MX CM H1) ((List.range (iv x).length).map fun i => ws.getD (i * g.q + x.getD i 0) .non) (g.ownRow x) := by
        refine paired_of_get (by rw [List.length_map, List.length_range, iv_len, ownRow_len]) fun i u y hu hy => ?_
        obtain ⟨n, hn, rfl⟩ := ownRow_get hy
        have hil := lt_of_get hn
        rw [List.getElem?_map, List.getElem?_range (by rw [iv_len]; exact hil)] at hu
        have hu' : ws.getD (i * g.q + x.getD i 0) .non = u := Option.some.inj hu
        rw [x1] at hil
        have hlt := ix_lt hil (x2 n (List.mem_of_getElem? hn))
        rw [getD_of hn] at hu'
        obtain ⟨z, hz, hm⟩ := Paired.get2 h2 (getD_lt (d := blank g.m) (by rw [hW.n]; exact hlt))
        rw [getD_of hz] at hu'
        rw [← hu']
        exact hm.mx.ex e1
      refine s_retL (l_lcMs (K := K) (CM := CM) (xs := Mir.prods g.m (g.ownRow x)) (fun s => nv (g.sumSure s)) (ms_prods (ev_var rfl) (e_m T hG1 (ev_var rfl)) (sq_of hp1) hpair (fun y hy => ?_) (by rw [ownRow_len, x1]; omega) (by have := hW.m6; omega)) (by rw [prods_len, ownRow_len, x1]; have := pow_le_256 (n := g.k) (by omega); omega) (fun _ => rfl) fun y s l H2 e2 hm _ => ?_) fun q H2 hq e2 h3 => k.go e1 hq e2 ?_
      · obtain ⟨i, hi⟩ := List.getElem?_of_mem hy
        obtain ⟨n, hn, rfl⟩ := ownRow_get hi
        have hil := lt_of_get hn
        rw [x1] at hil
        have hlt := ix_lt hil (x2 n (List.mem_of_getElem? hn))
        exact hW.n2 _ (List.mem_of_getElem? (getD_lt (d := blank g.m) (by rw [hW.n]; exact hlt)))
      · exact e_sumSure (ev_var rfl) (ev_var rfl) (hD.ex (e1.trans e2)) hm
      · rw [h3]
        unfold G.sums iv
        rw [List.map_map]
        rfl
theorem l_sumsDV {a r : Addr} {A : GA} {g : G} {x : List Nat} (ha : Ev ta σ H (.ref a)) (hb : EvD tb σ H g.signs) (hc : Ev tc σ H (.ref r)) (hG : GameAt C CM H a A g) (hW : WG g) (hr : SqL K H r (iv x)) (hx : okRow g.k g.q x = true) :
    EvL (tCall (spSums C CM K) [] E0 (tCons ta (tCons tb (tCons tc tNil)))) σ H (iv (g.sums x)) := fun H1 e Q q =>
  ha H1 e _ fun H2 e2 => hb H2 (e.trans e2) _ fun d H3 hd e3 hD => hc H3 ((e.trans e2).trans e3) _ fun H4 e4 => ⟨a, d, r, A, g, x, rfl, hG.ex (((e.trans e2).trans e3).trans e4), hW, hD.ex e4, ex_l (((e.trans e2).trans e3).trans e4) hr, hx, fun p H5 hp e5 h5 => q p H5 (fresh_back ((e2.trans e3).trans e4) hp) (((e2.trans e3).trans e4).trans e5) h5⟩
theorem l_sumsDL {a : Addr} {A : GA} {g : G} {x : List Nat} (ha : Ev ta σ H (.ref a)) (hb : EvD tb σ H g.signs) (hc : EvL tc σ H (iv x)) (hG : GameAt C CM H a A g) (hW : WG g) (hx : okRow g.k g.q x = true) :
    EvL (tCall (spSums C CM K) [] E0 (tCons ta (tCons tb (tCons tc tNil)))) σ H (iv (g.sums x)) := fun H1 e Q q =>
  ha H1 e _ fun H2 e2 => hb H2 (e.trans e2) _ fun d H3 hd e3 hD => hc H3 ((e.trans e2).trans e3) _ fun r H4 hr0 e4 hr => ⟨a, d, r, A, g, x, rfl, hG.ex (((e.trans e2).trans e3).trans e4), hW, hD.ex e4, sq_of hr, hx, fun p H5 hp e5 h5 => q p H5 (fresh_back ((e2.trans e3).trans e4) hp) (((e2.trans e3).trans e4).trans e5) h5⟩
theorem l_sumsVL {a d : Addr} {A : GA} {g : G} {x : List Nat} (ha : Ev ta σ H (.ref a)) (hb : Ev tb σ H (.ref d)) (hD : DictAt H d g.signs) (hc : EvL tc σ H (iv x)) (hG : GameAt C CM H a A g) (hW : WG g) (hx : okRow g.k g.q x = true) :
    EvL (tCall (spSums C CM K) [] E0 (tCons ta (tCons tb (tCons tc tNil)))) σ H (iv (g.sums x)) := fun H1 e Q q =>
  ha H1 e _ fun H2 e2 => hb H2 (e.trans e2) _ fun H3 e3 => hc H3 ((e.trans e2).trans e3) _ fun r H4 hr0 e4 hr => ⟨a, d, r, A, g, x, rfl, hG.ex (((e.trans e2).trans e3).trans e4), hW, hD.ex (((e.trans e2).trans e3).trans e4), sq_of hr, hx, fun p H5 hp e5 h5 => q p H5 (fresh_back ((e2.trans e3).trans e4) hp) (((e2.trans e3).trans e4).trans e5) h5⟩
/-! ### ask_sure -/
def spAsk (C CM : Addr) (K : PySem.W.Frag) : Sp := fun vs H Q _ => ∃ (a r : Addr) (A : GA) (g : G) (x : List Nat), vs = [.ref a, .ref r] ∧ GameAt C CM H a A g ∧ WG g ∧ SqL K H r (iv x) ∧ x.length ≤ 40000 ∧ RetL (rl (Mir.sureM g x)) H Q
theorem c_ask_sure (D : DefAt K mg "ask_sure" s_ask_sure) (T : Txt K mg C CM aT aN aW) (c1 : Cal P w K mg base "signs_that_are_sure" 5 ["game"] (spSigns C CM)) (c2 : Cal P w K mg base "are_letters" 1 ["row", "spins"] (spLetters K)) :
    Cal P w K mg base "ask_sure" 6 ["game", "letters"] (spAsk C CM K) := by
  refine cal_mk D sc_ask_sure (fun _ _ _ _ _ _ us hl => match us, hl with | [_, _], _ => rfl) (fun vs H Q E h => ?_) (fun hr => d_ask_sure c1 c2 T hr) fun vs H Q E h => ?_
  · obtain ⟨a, r, A, g, x, rfl, _⟩ := h
    rfl
  · obtain ⟨a, r, A, g, x, rfl, hG, hW, hr, hz, k⟩ := h
    refine q_when (et_not (et_B (e_letters (ev_var rfl) (e_m T hG (ev_var rfl)) hr hz))) (fun hb H1 e1 => ?_) fun hb H1 e1 => ?_
    · have hb' : okRow g.m 4 x = false := by simpa using hb
      refine s_retL (el_lst (ea1 ev_c) (by decide)) fun p H2 hp e2 h2 => k.go e1 hp e2 ?_
      rw [h2]
      unfold Mir.sureM
      rw [if_pos hb']
      rfl
    · have hb' : okRow g.m 4 x = true := by simpa using hb
      refine q_asgD (d_signs (ev_var rfl) (hG.ex e1) hW) fun d H2 e2 hD => ?_
      have hr2 := ex_l (e1.trans e2) hr
      have em : Mir.sureM g x = match g.signs x with
          | none => [-33]
          | some c => [(c : Int)] := by
        unfold Mir.sureM
        rw [if_neg (by rw [hb']; decide)]
        all_goals (cases g.signs x <;> rfl)
      refine q_when (et_notinU (u_tuple (ev_var rfl) hr2) (fun H3 _ => ev_var rfl) hD) (fun hb2 H3 e3 => ?_) fun hb2 H3 e3 => ?_
      · have hs : g.signs x = none := by
          cases hs : g.signs x with
          | none => rfl
          | some c => rw [hs] at hb2; cases hb2
        refine s_retL (el_lst (ea1 ev_c) (by decide)) fun p H4 hp e4 h4 => k.go ((e1.trans e2).trans e3) hp e4 ?_
        rw [h4, em, hs]
        rfl
      · obtain ⟨c, hs⟩ : ∃ c, g.signs x = some c := by
          cases hs : g.signs x with
          | none => rw [hs] at hb2; cases hb2
          | some c => exact ⟨c, rfl⟩
        refine s_retL (el_lst (ea1 (e_dgetU (ev_var rfl) (u_tuple (ev_var rfl) (ex_l e3 hr2)) (hD.ex e3) hs)) (by show 1 ≤ 100000; decide)) fun p H4 hp e4 h4 => k.go ((e1.trans e2).trans e3) hp e4 ?_
        rw [h4, em, hs]
        rfl
/-! ### chance_of_answers, parity_of_some -/
theorem both_of {g : G} {x : List Nat} (h : Mir.both g x = true) : x.length = 2 * g.k ∧ okRow g.k g.q (x.take g.k) = true ∧ ∀ b ∈ x.drop g.k, b ≤ 1 := by
  unfold Mir.both at h
  rw [Bool.and_eq_true, Bool.and_eq_true] at h
  exact ⟨of_decide_eq_true h.1, h.2.1, drop_bits h.2.2⟩
def spChanceA (C CM : Addr) (K : PySem.W.Frag) : Sp := fun vs H Q _ => ∃ (a r : Addr) (A : GA) (g : G) (x : List Nat), vs = [.ref a, .ref r] ∧ GameAt C CM H a A g ∧ WG g ∧ SqL K H r (iv x) ∧ x.length ≤ 40000 ∧ RetL (rl (Mir.chanceM g x)) H Q
theorem c_chance_of_answers (D : DefAt K mg "chance_of_answers" s_chance_of_answers) (T : Txt K mg C CM aT aN aW) (c1 : Cal P w K mg base "number_of_bits" 1 ["bits"] (spBits K)) (c2 : Cal P w K mg base "sums_at" 5 ["game", "signs", "row"] (spSums C CM K))
    (c3 : Cal P w K mg base "are_row_and_bits" 2 ["game", "both"] (spBoth C CM K)) (c4 : Cal P w K mg base "signs_that_are_sure" 5 ["game"] (spSigns C CM)) (c5 : Cal P w K mg base "chance_of_number" 2 ["sums", "number"] (spChance K)) (c6 : Cal P w K mg base "place_of_row" 1 ["game", "row"] (spPlace C CM K)) :
    Cal P w K mg base "chance_of_answers" 6 ["game", "both"] (spChanceA C CM K) := by
  refine cal_mk D sc_chance_of_answers (fun _ _ _ _ _ _ us hl => match us, hl with | [_, _], _ => rfl) (fun vs H Q E h => ?_) (fun hr => d_chance_of_answers c1 c2 c3 c4 c5 c6 T hr) fun vs H Q E h => ?_
  · obtain ⟨a, r, A, g, x, rfl, _⟩ := h
    rfl
  · obtain ⟨a, r, A, g, x, rfl, hG, hW, hr, hz, k⟩ := h
    have k2 := hW.k2
    have q2 := hW.q2
    refine q_when (et_not (et_B (e_both (ev_var rfl) (ev_var rfl) hG hW hr hz))) (fun hb H1 e1 => ?_) fun hb H1 e1 => ?_
    · have hb' : Mir.both g x = false := by simpa using hb
      refine s_retL (el_lst (ea1 ev_c) (by decide)) fun p H2 hp e2 h2 => k.go e1 hp e2 ?_
      rw [h2]
      unfold Mir.chanceM
      rw [if_pos hb']
      rfl
    · have hb' : Mir.both g x = true := by simpa using hb
      obtain ⟨x1, x2, x3⟩ := both_of hb'
      have hG1 := hG.ex e1
      have hr1 := ex_l e1 hr
      refine q_asgL (l_to (ev_var rfl) (g_persons T hG1 (ev_var rfl)) hr1) fun R H2 hR e2 h2 => ?_
      have hG2 := hG1.ex e2
      refine q_asg (e_bitsL (l_from (ev_var rfl) (g_persons T hG2 (ev_var rfl)) (ex_l e2 hr1)) (by rw [List.length_drop]; omega) (fun b hb => by have := x3 b hb; omega)) fun H3 e3 => ?_
      have hG3 := hG2.ex e3
      refine q_asgL (l_sumsDV (ev_var rfl) (d_signs (ev_var rfl) hG3 hW) (ev_var rfl) hG3 hW (sq_of (e3 _ _ h2)) x2) fun S H4 hS e4 h4 => ?_
      have hG4 := hG3.ex e4
      have hpl := place_lt x2
      have i2 : (iv g.wins)[Mir.place g.q (x.take g.k)]? = some (nv (g.wins.getD (Mir.place g.q (x.take g.k)) 0)) := iv_at (getD_lt (by rw [hW.v]; exact hpl))
      refine q_asg (e_and1 (e_shr (e_ixL (g_winning T hG4 (ev_var rfl)) (e_place (ev_var rfl) (ev_var rfl) hG4 (sq_of (e4 _ _ (e3 _ _ h2))) (by omega)) (sq_of hG4.v) i2) (ev_var rfl))) fun H5 e5 => ?_
      have hG5 := hG4.ex e5
      refine s_retL (el_lst (ea3 (e_chance (ev_var rfl) (ev_var rfl) (sq_of (e5 _ _ h4))) (e_shl (e_cn 1) (g_persons T hG5 (ev_var rfl)) (by omega) (by decide)) (ev_var rfl)) (by show 3 ≤ 100000; decide)) fun p H6 hp e6 h6 => k.go ((((e1.trans e2).trans e3).trans e4).trans e5) hp e6 ?_
      rw [h6]
      unfold Mir.chanceM
      rw [if_neg (by rw [hb']; decide), Nat.one_mul]
      rfl
def spParityA (C CM : Addr) (K : PySem.W.Frag) : Sp := fun vs H Q _ => ∃ (a r : Addr) (A : GA) (g : G) (x : List Nat), vs = [.ref a, .ref r] ∧ GameAt C CM H a A g ∧ WG g ∧ SqL K H r (iv x) ∧ x.length ≤ 40000 ∧ RetL (rl (Mir.parityM g x)) H Q
theorem c_parity_of_some (D : DefAt K mg "parity_of_some" s_parity_of_some) (T : Txt K mg C CM aT aN aW) (c1 : Cal P w K mg base "number_of_bits" 1 ["bits"] (spBits K)) (c2 : Cal P w K mg base "sums_at" 5 ["game", "signs", "row"] (spSums C CM K))
    (c3 : Cal P w K mg base "are_row_and_bits" 2 ["game", "both"] (spBoth C CM K)) (c4 : Cal P w K mg base "signs_that_are_sure" 5 ["game"] (spSigns C CM)) :
    Cal P w K mg base "parity_of_some" 6 ["game", "both"] (spParityA C CM K) := by
  refine cal_mk D sc_parity_of_some (fun _ _ _ _ _ _ us hl => match us, hl with | [_, _], _ => rfl) (fun vs H Q E h => ?_) (fun hr => d_parity_of_some c2 c3 c4 c1 T hr) fun vs H Q E h => ?_
  · obtain ⟨a, r, A, g, x, rfl, _⟩ := h
    rfl
  · obtain ⟨a, r, A, g, x, rfl, hG, hW, hr, hz, k⟩ := h
    have k2 := hW.k2
    have q2 := hW.q2
    refine q_when (et_not (et_B (e_both (ev_var rfl) (ev_var rfl) hG hW hr hz))) (fun hb H1 e1 => ?_) fun hb H1 e1 => ?_
    · have hb' : Mir.both g x = false := by simpa using hb
      refine s_retL (el_lst (ea1 ev_c) (by decide)) fun p H2 hp e2 h2 => k.go e1 hp e2 ?_
      rw [h2]
      unfold Mir.parityM
      rw [if_pos hb']
      rfl
    · have hb' : Mir.both g x = true := by simpa using hb
      obtain ⟨x1, x2, x3⟩ := both_of hb'
      have hG1 := hG.ex e1
      have hr1 := ex_l e1 hr
      refine q_asgL (l_sumsDL (ev_var rfl) (d_signs (ev_var rfl) hG1 hW) (l_to (ev_var rfl) (g_persons T hG1 (ev_var rfl)) hr1) hG1 hW x2) fun S H2 hS e2 h2 => ?_
      have hG2 := hG1.ex e2
      have hc : Mir.code2 (x.drop g.k) < 2 ^ g.k := by
        have g1 := code2_lt x3
        rw [List.length_drop, x1] at g1
        have e : 2 * g.k - g.k = g.k := by omega
        rw [e] at g1
        exact g1
      have i2 : (iv (g.sums (x.take g.k)))[Mir.code2 (x.drop g.k)]? = some (nv ((g.sums (x.take g.k)).getD (Mir.code2 (x.drop g.k)) 0)) := iv_at (getD_lt (by rw [sums_len, (okRow_iff.mp x2).1]; exact hc))
      refine s_retL (el_lst (ea1 (e_ixL (ev_var rfl) (e_bitsL (l_from (ev_var rfl) (g_persons T hG2 (ev_var rfl)) (ex_l e2 hr1)) (by rw [List.length_drop]; omega) (fun b hb => by have := x3 b hb; omega)) (sq_of h2) i2)) (by show 1 ≤ 100000; decide)) fun p H3 hp e3 h3 => k.go (e1.trans e2) hp e3 ?_
      rw [h3]
      unfold Mir.parityM
      rw [if_neg (by rw [hb']; decide)]
      rfl
/-! ### what_spins_win -/
def spValue (C CM : Addr) : Sp := fun vs H Q _ => ∃ (a : Addr) (A : GA) (g : G), vs = [.ref a] ∧ GameAt C CM H a A g ∧ WG g ∧ RetL (rl (Mir.valueM g)) H Q
theorem c_what_spins_win (D : DefAt K mg "what_spins_win" s_what_spins_win) (T : Txt K mg C CM aT aN aW) (c1 : Cal P w K mg base "signs_that_are_sure" 5 ["game"] (spSigns C CM)) (c2 : Cal P w K mg base "sums_at" 5 ["game", "signs", "row"] (spSums C CM K))
    (c3 : Cal P w K mg base "row_at" 1 ["game", "place"] (spRowAt C CM)) (c4 : Cal P w K mg base "chance_to_win" 3 ["sums", "winning"] (spToWin K)) (c5 : Cal P w K mg base "best_plan" 4 ["game"] (spBest C CM)) :
    Cal P w K mg base "what_spins_win" 6 ["game"] (spValue C CM) := by
  refine cal_mk D sc_what_spins_win (fun _ _ _ _ _ _ us hl => match us, hl with | [_], _ => rfl) (fun vs H Q E h => ?_) (fun hr => d_what_spins_win c1 c2 c3 c4 c5 T hr) fun vs H Q E h => ?_
  · obtain ⟨a, A, g, rfl, _⟩ := h
    rfl
  · obtain ⟨a, A, g, rfl, hG, hW, k⟩ := h
    have k2 := hW.k2
    have q1 := hW.q1
    have q2 := hW.q2
    refine q_asg (e_shl (e_cn 1) (g_persons T hG (ev_var rfl)) (by omega) (by decide)) fun H1 e1 => ?_
    refine q_asgD (d_signs (ev_var rfl) (hG.ex e1) hW) fun d H2 e2 hD => ?_
    refine q_asg ev_c fun H3 e3 => ?_
    have hG3 := hG.ex ((e1.trans e2).trans e3)
    have hD3 := hD.ex e3
    refine q_forE (g_weights T hG3 (ev_var rfl)) (sq_of hG3.w) (fun i σ' H' => Ex H3 H' ∧ ∃ v v2 v3, σ' = [some (.ref a), some (nv (1 * 2 ^ g.k)), some (.ref d), some (.int (g.valueTo i)), v, v2, v3]) (fun H4 e4 => ⟨e4, none, none, none, rfl⟩) (fun i σ' H' q => sq_of (q.1 _ _ hG3.w)) ?_ ?_
    · rintro i y σ' H0 H' hi ⟨e4, v, v2, v3, rfl⟩ e5
      obtain ⟨n, hn, rfl⟩ := iv_get hi
      have hil := lt_of_get hn
      rw [hW.w] at hil
      have hG5 := hG3.ex (e4.trans e5)
      have hok := rowAt_ok (k := g.k) (q := g.q) (p := i) (by omega)
      refine q_asgL (l_sumsVL (ev_var rfl) (ev_var rfl) (hD3.ex (e4.trans e5)) (l_rowAt (ev_var rfl) (ev_var rfl) hG5 (by omega) (by omega) (by omega)) hG5 hW hok) fun S H6 hS e6 h6 => ?_
      have hG6 := hG5.ex e6
      have i2 : (iv g.wins)[i]? = some (nv (g.wins.getD i 0)) := iv_at (getD_lt (by rw [hW.v]; exact hil))
      have hn99 := hW.w2 n (List.mem_of_getElem? hn)
      refine s_aug (a := g.valueTo i) (b := (n : Int) * Mir.winsOf (g.sums (Mir.rowAt g.k g.q i)) (g.wins.getD i 0)) rfl (e_mulZ (ev_var rfl) (e_toWin (ev_var rfl) (e_ixL (g_winning T hG6 (ev_var rfl)) (ev_var rfl) (sq_of hG6.v) i2) (sq_of h6) (by rw [sums_len, (okRow_iff.mp hok).1]; have := pow_le_256 (n := g.k) (by omega); omega)) (.inl (by omega))) fun H7 e7 => ⟨((e4.trans e5).trans e6).trans e7, some (nv i), some (nv n), some (.ref S), ?_⟩
      have ed : g.weights.getD i 0 = n := getD_of hn
      show [_, _, _, some (V.int (g.valueTo i + (n : Int) * Mir.winsOf (g.sums (Mir.rowAt g.k g.q i)) (g.wins.getD i 0))), _, _, _] = [_, _, _, some (V.int (g.valueTo i + (g.weights.getD i 0 : Int) * Mir.winsOf (g.sums (Mir.rowAt g.k g.q i)) (g.wins.getD i 0))), _, _, _]
      rw [ed]
    · rintro σ' H' ⟨e4, v, v2, v3, rfl⟩
      rw [iv_len, Nat.one_mul]
      have hG4 := hG3.ex e4
      have hpk := pow_le_256 (n := g.k) (by omega)
      have i0 : (rl (Mir.bestM g))[0]? = some (nv g.best.1) := rfl
      have e_ix0 : ∀ {σ : L2.St}, σ[0]? = some (some (.ref a)) → Ev (tOp (rIxL K) (tCall (spBest C CM) [] E0 (tCons (tVar 0) tNil)) (tC (.int 0))) σ H' (nv g.best.1) := fun h0 => fun H5 e5 Q' q' =>
        l_best (ev_var h0) hG4 hW H5 e5 _ fun p H6 hp e6 h6 => ⟨p, _, 0, _, rfl, rfl, sq_of h6, atI_nat (j := 0) i0, q' H6 e6⟩
      refine s_retL (el_lst (ea3 (ev_var rfl) (e_mul (e_sum (g_weights T hG4 (ev_var rfl)) (sq_of hG4.w)) (ev_var rfl) (.inr (by omega))) (e_mul (e_ix0 rfl) (ev_var rfl) (.inr (by omega)))) (by show 3 ≤ 100000; decide)) fun p H6 hp e6 h6 => k.go (((e1.trans e2).trans e3).trans e4) hp e6 ?_
      rw [h6]
      rfl
end
end My
set_option Elab.async false
set_option linter.all false
set_option maxRecDepth 100000
set_option maxHeartbeats 4000000
namespace My
open PySem PySem.Spec PyProof.Rows L2 Evl
open Su173 (Spin together)
open Mir (G)
open Su175 (okRow blank)
/-! ### a game that is changed -/
structure Chg (C CM : Addr) (H H' : Hp) (a : Addr) (A A' : GA) (g' : G) : Prop where
  at_ : GameAt C CM H' a A' g'
  keep : Keep (mutA a A) H H'
  new : ∀ b ∈ mutA a A', b ∈ mutA a A ∨ H b = none
  old : ∀ b, H' b = none → H b = none
theorem fresh_upd {H : Hp} {p X : Addr} {u : HO} (h : upd H X u p = none) : H p = none := by
  by_cases e : p = X
  · subst e; rw [upd_same] at h; cases h
  · rw [upd_ne e] at h; exact h
theorem Chg.of {C CM : Addr} {H H' : Hp} {a : Addr} {A : GA} {g : G} (h : GameAt C CM H a A g) (e : Ex H H') : Chg C CM H H' a A A g := ⟨h.ex e, Keep.of e, fun _ hb => .inl hb, fun _ h => fresh_back e h⟩
theorem Chg.trans {C CM : Addr} {H H1 H2 : Hp} {a : Addr} {A A1 A2 : GA} {g1 g2 : G} (h1 : Chg C CM H H1 a A A1 g1) (h2 : Chg C CM H1 H2 a A1 A2 g2) : Chg C CM H H2 a A A2 g2 where
  at_ := h2.at_
  keep := fun b o hb hn => h2.keep b o (h1.keep b o hb hn) fun hm => by
    rcases h1.new b hm with h | h
    · exact hn h
    · rw [hb] at h; cases h
  new := fun b hb => by
    rcases h2.new b hb with h | h
    · exact h1.new b h
    · cases e : H b with
      | none => exact .inr rfl
      | some o =>
        refine .inl (Classical.byContradiction fun hn => ?_)
        rw [h1.keep b o e hn] at h
        cases h
  old := fun b hb => h1.old b (h2.old b hb)
theorem Chg.ex {C CM : Addr} {H H1 H2 : Hp} {a : Addr} {A A1 : GA} {g1 : G} (h1 : Chg C CM H H1 a A A1 g1) (e : Ex H1 H2) : Chg C CM H H2 a A A1 g1 := ⟨h1.at_.ex e, h1.keep.trans (Keep.of e), h1.new, fun b hb => h1.old b (fresh_back e hb)⟩
theorem Chg.pre {C CM : Addr} {H H1 H2 : Hp} {a : Addr} {A A1 : GA} {g1 : G} (e : Ex H H1) (h1 : Chg C CM H1 H2 a A A1 g1) : Chg C CM H H2 a A A1 g1 := ⟨h1.at_, (Keep.of e).trans h1.keep, fun b hb => (h1.new b hb).imp id fun h => fresh_back e h, fun b hb => fresh_back e (h1.old b hb)⟩
theorem mem_a {a : Addr} {A : GA} : a ∈ mutA a A := List.mem_cons_self ..
theorem mem_w {a : Addr} {A : GA} : A.w ∈ mutA a A := by simp [mutA]
theorem mem_v {a : Addr} {A : GA} : A.v ∈ mutA a A := by simp [mutA]
theorem mem_l {a : Addr} {A : GA} : A.l ∈ mutA a A := by simp [mutA]
theorem mem_n {a : Addr} {A : GA} : A.n ∈ mutA a A := by simp [mutA]
theorem lst_ne_ins {H : Hp} {p q C dx : Addr} {fs : List (Str × V)} {xs : List V} (h1 : H p = some (.ins C dx fs)) (h2 : H q = some (.lst xs)) : p ≠ q := ne_of h1 h2 (by intro z; cases z)
theorem lst_ne_tup {H : Hp} {p q : Addr} {ys xs : List V} (h1 : H p = some (.tup ys)) (h2 : H q = some (.lst xs)) : p ≠ q := ne_of h1 h2 (by intro z; cases z)
theorem ins_ne_tup {H : Hp} {p q C dx : Addr} {fs : List (Str × V)} {xs : List V} (h1 : H p = some (.ins C dx fs)) (h2 : H q = some (.tup xs)) : p ≠ q := ne_of h1 h2 (by intro z; cases z)
/-- a list that may change is changed: the measurements stand -/
theorem MS.put {CM : Addr} {H : Hp} {M : List Addr} {v : V} {x : Spin} {X : Addr} {ys : List V} {u : HO} (h : MS CM H M v x) (hX : X ∈ M) (hL : H X = some (.lst ys)) : MS CM (upd H X u) M v x := by
  obtain ⟨p, l, rfl, ⟨⟨dx, h1⟩, h2⟩, h3⟩ := h
  exact ⟨p, l, rfl, ⟨⟨dx, by rw [upd_ne (lst_ne_ins h1 hL)]; exact h1⟩, by rw [upd_ne (fun z => h3 (by rw [z]; exact hX))]; exact h2⟩, h3⟩
theorem PT.put {H : Hp} {v : V} {x : Nat × Nat} {X : Addr} {ys : List V} {u : HO} (h : PT H v x) (hL : H X = some (.lst ys)) : PT (upd H X u) v x := by
  obtain ⟨p, rfl, h1⟩ := h
  exact ⟨p, rfl, by rw [upd_ne (lst_ne_tup h1 hL)]; exact h1⟩
theorem MS.putA {C CM : Addr} {H : Hp} {M : List Addr} {v : V} {x : Spin} {a dx : Addr} {A : GA} {g : G} {u : HO} (h : MS CM H M v x) (hX : a ∈ M) (hL : H a = some (.ins C dx (gF g A))) : MS CM (upd H a u) M v x := by
  obtain ⟨p, l, rfl, ⟨⟨dx', h1⟩, h2⟩, h3⟩ := h
  have hp : p ≠ a := fun z => by
    rw [z, hL] at h1
    injection h1 with e
    injection e with _ _ e3
    exact absurd (congrArg List.length e3) (by show ¬ 10 = 2; decide)
  exact ⟨p, l, rfl, ⟨⟨dx', by rw [upd_ne hp]; exact h1⟩, by rw [upd_ne (fun z => h3 (by rw [z]; exact hX))]; exact h2⟩, h3⟩
theorem PT.putA {C : Addr} {H : Hp} {v : V} {x : Nat × Nat} {a dx : Addr} {fs : List (Str × V)} {u : HO} (h : PT H v x) (hL : H a = some (.ins C dx fs)) : PT (upd H a u) v x := by
  obtain ⟨p, rfl, h1⟩ := h
  exact ⟨p, rfl, by rw [upd_ne (fun z => ins_ne_tup hL h1 z.symm)]; exact h1⟩
structure Nd (A : GA) : Prop where
  wv : A.w ≠ A.v
  wo : A.w ≠ A.o
  wl : A.w ≠ A.l
  ws : A.w ≠ A.s
  wn : A.w ≠ A.n
  vo : A.v ≠ A.o
  vl : A.v ≠ A.l
  vs : A.v ≠ A.s
  vn : A.v ≠ A.n
  ol : A.o ≠ A.l
  os : A.o ≠ A.s
  on : A.o ≠ A.n
  ls : A.l ≠ A.s
  ln : A.l ≠ A.n
  sn : A.s ≠ A.n
theorem nd_iff {A : GA} : [A.w, A.v, A.o, A.l, A.s, A.n].Nodup ↔ Nd A := by
  simp only [List.nodup_cons, List.mem_cons, List.not_mem_nil, or_false, not_or, List.nodup_nil, and_true, not_false_eq_true]
  constructor
  · rintro ⟨⟨a1, a2, a3, a4, a5⟩, ⟨b1, b2, b3, b4⟩, ⟨c1, c2, c3⟩, ⟨d1, d2⟩, e1⟩
    exact ⟨a1, a2, a3, a4, a5, b1, b2, b3, b4, c1, c2, c3, d1, d2, e1⟩
  · rintro ⟨a1, a2, a3, a4, a5, b1, b2, b3, b4, c1, c2, c3, d1, d2, e1⟩
    exact ⟨⟨a1, a2, a3, a4, a5⟩, ⟨b1, b2, b3, b4⟩, ⟨c1, c2, c3⟩, ⟨d1, d2⟩, e1⟩
section
variable {C CM : Addr} {H : Hp} {a : Addr} {A : GA} {g : G}
theorem GameAt.setW (h : GameAt C CM H a A g) (ws : List Nat) : Chg C CM H (upd H A.w (.lst (iv ws))) a A A { g with weights := ws } := by
  have n := nd_iff.mp h.nd
  obtain ⟨dx, hob⟩ := h.ob
  refine ⟨⟨⟨dx, by rw [upd_ne (lst_ne_ins hob h.w)]; exact hob⟩, upd_same, by rw [upd_ne n.wv.symm]; exact h.v, by rw [upd_ne n.wo.symm]; exact h.o, ?_, ?_, ?_, h.nd⟩, Keep.put mem_w, fun b hb => .inl hb, fun _ => fresh_upd⟩
  · obtain ⟨vs, h1, h2⟩ := h.l
    exact ⟨vs, by rw [upd_ne n.wl.symm]; exact h1, paired_mono h2 fun _ _ q => q.put h.w⟩
  · obtain ⟨vs, h1, h2⟩ := h.s
    exact ⟨vs, by rw [upd_ne n.ws.symm]; exact h1, paired_mono h2 fun _ _ q => q.put mem_w h.w⟩
  · obtain ⟨vs, h1, h2⟩ := h.n
    exact ⟨vs, by rw [upd_ne n.wn.symm]; exact h1, paired_mono h2 fun _ _ q => q.put mem_w h.w⟩
theorem GameAt.setV (h : GameAt C CM H a A g) (ws : List Nat) : Chg C CM H (upd H A.v (.lst (iv ws))) a A A { g with wins := ws } := by
  have n := nd_iff.mp h.nd
  obtain ⟨dx, hob⟩ := h.ob
  refine ⟨⟨⟨dx, by rw [upd_ne (lst_ne_ins hob h.v)]; exact hob⟩, by rw [upd_ne n.wv]; exact h.w, upd_same, by rw [upd_ne n.vo.symm]; exact h.o, ?_, ?_, ?_, h.nd⟩, Keep.put mem_v, fun b hb => .inl hb, fun _ => fresh_upd⟩
  · obtain ⟨vs, h1, h2⟩ := h.l
    exact ⟨vs, by rw [upd_ne n.vl.symm]; exact h1, paired_mono h2 fun _ _ q => q.put h.v⟩
  · obtain ⟨vs, h1, h2⟩ := h.s
    exact ⟨vs, by rw [upd_ne n.vs.symm]; exact h1, paired_mono h2 fun _ _ q => q.put mem_v h.v⟩
  · obtain ⟨vs, h1, h2⟩ := h.n
    exact ⟨vs, by rw [upd_ne n.vn.symm]; exact h1, paired_mono h2 fun _ _ q => q.put mem_v h.v⟩
theorem GameAt.setL (h : GameAt C CM H a A g) {ys : List V} {ls : List (Nat × Nat)} (hp : Paired (PT H) ys ls) : Chg C CM H (upd H A.l (.lst ys)) a A A { g with links := ls } := by
  have n := nd_iff.mp h.nd
  obtain ⟨dx, hob⟩ := h.ob
  obtain ⟨vs, h1, _⟩ := h.l
  refine ⟨⟨⟨dx, by rw [upd_ne (lst_ne_ins hob h1)]; exact hob⟩, by rw [upd_ne n.wl]; exact h.w, by rw [upd_ne n.vl]; exact h.v, by rw [upd_ne n.ol]; exact h.o, ⟨ys, upd_same, paired_mono hp fun _ _ q => q.put h1⟩, ?_, ?_, h.nd⟩, Keep.put mem_l, fun b hb => .inl hb, fun _ => fresh_upd⟩
  · obtain ⟨ws, h3, h4⟩ := h.s
    exact ⟨ws, by rw [upd_ne n.ls.symm]; exact h3, paired_mono h4 fun _ _ q => q.put mem_l h1⟩
  · obtain ⟨ws, h3, h4⟩ := h.n
    exact ⟨ws, by rw [upd_ne n.ln.symm]; exact h3, paired_mono h4 fun _ _ q => q.put mem_l h1⟩
theorem GameAt.setN (h : GameAt C CM H a A g) {ys : List V} {ls : List Spin} (hp : Paired (MS CM H (mutA a A)) ys ls) : Chg C CM H (upd H A.n (.lst ys)) a A A { g with own := ls } := by
  have n := nd_iff.mp h.nd
  obtain ⟨dx, hob⟩ := h.ob
  obtain ⟨vs, h1, _⟩ := h.n
  refine ⟨⟨⟨dx, by rw [upd_ne (lst_ne_ins hob h1)]; exact hob⟩, by rw [upd_ne n.wn]; exact h.w, by rw [upd_ne n.vn]; exact h.v, by rw [upd_ne n.on]; exact h.o, ?_, ?_, ⟨ys, upd_same, paired_mono hp fun _ _ q => q.put mem_n h1⟩, h.nd⟩, Keep.put mem_n, fun b hb => .inl hb, fun _ => fresh_upd⟩
  · obtain ⟨ws, h3, h4⟩ := h.l
    exact ⟨ws, by rw [upd_ne n.ln]; exact h3, paired_mono h4 fun _ _ q => q.put h1⟩
  · obtain ⟨ws, h3, h4⟩ := h.s
    exact ⟨ws, by rw [upd_ne n.sn]; exact h3, paired_mono h4 fun _ _ q => q.put mem_n h1⟩
/-- the object's own fields -/
theorem GameAt.fld {dx : Addr} {g' : G} (h : GameAt C CM H a A g) (hob : H a = some (.ins C dx (gF g A))) (e1 : g'.weights = g.weights) (e2 : g'.wins = g.wins) (e3 : g'.owners = g.owners) (e4 : g'.links = g.links) (e5 : g'.sure = g.sure) (e6 : g'.own = g.own) :
    Chg C CM H (upd H a (.ins C dx (gF g' A))) a A A g' := by
  refine ⟨⟨⟨dx, upd_same⟩, ?_, ?_, ?_, ?_, ?_, ?_, h.nd⟩, Keep.put mem_a, fun b hb => .inl hb, fun _ => fresh_upd⟩
  · rw [upd_ne (lst_ne_ins hob h.w).symm, e1]; exact h.w
  · rw [upd_ne (lst_ne_ins hob h.v).symm, e2]; exact h.v
  · rw [upd_ne (lst_ne_ins hob h.o).symm, e3]; exact h.o
  · obtain ⟨ws, h3, h4⟩ := h.l
    rw [e4]
    exact ⟨ws, by rw [upd_ne (lst_ne_ins hob h3).symm]; exact h3, paired_mono h4 fun _ _ q => q.putA hob⟩
  · obtain ⟨ws, h3, h4⟩ := h.s
    rw [e5]
    exact ⟨ws, by rw [upd_ne (lst_ne_ins hob h3).symm]; exact h3, paired_mono h4 fun _ _ q => q.putA mem_a hob⟩
  · obtain ⟨ws, h3, h4⟩ := h.n
    rw [e6]
    exact ⟨ws, by rw [upd_ne (lst_ne_ins hob h3).symm]; exact h3, paired_mono h4 fun _ _ q => q.putA mem_a hob⟩
/-- sure: a new list s', H' the heap ahead of the store -/
theorem GameAt.newS {dx s' : Addr} {ys : List V} {xs : List Spin} (h : GameAt C CM H a A g) (hob : H a = some (.ins C dx (gF g A))) (hs : H s' = some (.lst ys)) (hn : s' ≠ A.w ∧ s' ≠ A.v ∧ s' ≠ A.o ∧ s' ≠ A.l ∧ s' ≠ A.n) (hp : Paired (MS CM H (mutA a A)) ys xs) :
    Chg C CM H (upd H a (.ins C dx (gF { g with sure := xs } { A with s := s' }))) a A { A with s := s' } { g with sure := xs } := by
  have n := nd_iff.mp h.nd
  obtain ⟨n1, n2, n3, n4, n5⟩ := hn
  refine ⟨⟨⟨dx, upd_same⟩, ?_, ?_, ?_, ?_, ?_, ?_, nd_iff.mpr ⟨n.wv, n.wo, n.wl, n1.symm, n.wn, n.vo, n.vl, n2.symm, n.vn, n.ol, n3.symm, n.on, n4.symm, n.ln, n5⟩⟩, Keep.put mem_a, fun b hb => .inl hb, fun _ => fresh_upd⟩
  · show upd H a _ A.w = _
    rw [upd_ne (lst_ne_ins hob h.w).symm]; exact h.w
  · show upd H a _ A.v = _
    rw [upd_ne (lst_ne_ins hob h.v).symm]; exact h.v
  · show upd H a _ A.o = _
    rw [upd_ne (lst_ne_ins hob h.o).symm]; exact h.o
  · obtain ⟨ws, h3, h4⟩ := h.l
    exact ⟨ws, by show upd H a _ A.l = _; rw [upd_ne (lst_ne_ins hob h3).symm]; exact h3, paired_mono h4 fun _ _ q => q.putA hob⟩
  · exact ⟨ys, by show upd H a _ s' = _; rw [upd_ne (lst_ne_ins hob hs).symm]; exact hs, paired_mono hp fun _ _ q => q.putA mem_a hob⟩
  · obtain ⟨ws, h3, h4⟩ := h.n
    exact ⟨ws, by show upd H a _ A.n = _; rw [upd_ne (lst_ne_ins hob h3).symm]; exact h3, paired_mono h4 fun _ _ q => q.putA mem_a hob⟩
end
theorem put_sure (g : G) (A : GA) (s' : Addr) (xs : List Spin) : putF "sure" (.ref s') (gF g A) = gF { g with sure := xs } { A with s := s' } := by rfl
theorem put_measured (g : G) (A : GA) (b : Bool) : putF "measured" (.bl b) (gF g A) = gF { g with touched := b } A := by rfl
/-! ### pairs as data -/
def pD (z : Nat × Nat) : PyData := .tuple [.int z.1, .int z.2]
theorem pD_lay (z : Nat × Nat) : (pD z).canLay0 = true := by simp [pD, PyData.canLay0, PyData.canLayAll0]
theorem pD_depth (z : Nat × Nat) : (pD z).depth = 1 := by simp [pD, PyData.depth, PyData.depthAll]
theorem pDs_lay : ∀ zs : List (Nat × Nat), PyData.canLayAll0 (zs.map pD) = true
  | [] => by simp [PyData.canLayAll0]
  | z :: zs => by simp [PyData.canLayAll0, pD_lay z, pDs_lay zs]
theorem pDs_depth : ∀ zs : List (Nat × Nat), PyData.depthAll (zs.map pD) ≤ 2
  | [] => by simp [PyData.depthAll]
  | z :: zs => by
    have h1 := pDs_depth zs
    have h2 := pD_depth z
    simp only [List.map_cons, PyData.depthAll]
    omega
theorem pD_shaped (z : Nat × Nat) : SeqAt.shaped (pD z) = true := by
  have h := pD_depth z
  show ((pD z).canLay0 && decide ((pD z).depth ≤ 64)) = true
  rw [Bool.and_eq_true]
  exact ⟨pD_lay z, decide_eq_true (by omega)⟩
theorem pDs_shaped (zs : List (Nat × Nat)) : SeqAt.shaped (.list (zs.map pD)) = true := by
  have h1 := pDs_depth zs
  have h2 : PyData.depth (.list (zs.map pD)) ≤ 64 := by
    simp only [PyData.depth]
    omega
  show (PyData.canLay0 (.list (zs.map pD)) && decide (PyData.depth (.list (zs.map pD)) ≤ 64)) = true
  rw [Bool.and_eq_true]
  exact ⟨by simp only [PyData.canLay0]; exact pDs_lay zs, decide_eq_true h2⟩
theorem pD_eqv (z w : Nat × Nat) : PyData.eqv (pD z) (pD w) = (z == w) := by
  obtain ⟨a, b⟩ := z
  obtain ⟨a', b'⟩ := w
  have e : PyData.eqv (pD (a, b)) (pD (a', b')) = (((a : Int) == (a' : Int)) && (((b : Int) == (b' : Int)) && true)) := by simp only [pD, PyData.eqv, PyData.eqvAll]
  rw [e, Bool.and_true]
  show _ = ((a == a') && (b == b'))
  congr 1
  · by_cases h : a = a'
    · subst h; simp
    · rw [beq_false_of_ne h, beq_false_of_ne (by omega)]
  · by_cases h : b = b'
    · subst h; simp
    · rw [beq_false_of_ne h, beq_false_of_ne (by omega)]
theorem any_contains (zs : List (Nat × Nat)) (w : Nat × Nat) : ((zs.map pD).any fun z => PyData.eqv z (pD w)) = zs.contains w := by
  induction zs with
  | nil => rfl
  | cons z r ih =>
    rw [List.map_cons, List.any_cons, ih, List.contains_cons, pD_eqv]
    congr 1
    by_cases h : z = w
    · subst h; rfl
    · rw [beq_false_of_ne h, beq_false_of_ne (Ne.symm h)]
theorem dp_pair {K : PySem.W.Frag} {H : Hp} {p : Addr} {z : Nat × Nat} (h : H p = some (.tup [nv z.1, nv z.2])) : Dp K H (.ref p) (pD z) := .tup (st_of h) (.cons (.int _) (.cons (.int _) .nil))
theorem dps_pairs {K : PySem.W.Frag} {H : Hp} : ∀ {vs : List V} {zs : List (Nat × Nat)}, Paired (PT H) vs zs → DpAll K H vs (zs.map pD)
  | _, _, .nil => .nil
  | _, _, .cons r t => by
    obtain ⟨p, rfl, h⟩ := r
    exact .cons (dp_pair h) (dps_pairs t)
section
variable {P : Program} {w : World} {K : PySem.W.Frag} {mg : Str → Option Value} {base : Heap} {C CM aT aN aW : Addr} {σ : L2.St} {H : Hp} {ta tb tc td ty tl te : TE}
theorem et_inU {q : Addr} {vs : List V} {zs : List (Nat × Nat)} {z : Nat × Nat} (ha : EvU ta σ H [nv z.1, nv z.2]) (hb : ∀ H1, Ex H H1 → Ev tb σ H1 (.ref q)) (hq : H q = some (.lst vs)) (hp : Paired (PT H) vs zs) :
    EvT (tTest (tOp (rInD K) ta tb)) σ H (zs.contains z) := fun H1 e Q k => ha H1 e _ fun p H2 hp2 e2 h2 => hb H2 (e.trans e2) H2 (Ex.refl H2) _ fun H3 e3 =>
  ⟨pD z, zs.map pD, dp_pair (e3 _ _ h2), .lst (sq_of (e3 _ _ ((e.trans e2) _ _ hq))) (dps_pairs (paired_mono hp fun _ _ r => r.ex ((e.trans e2).trans e3))), pD_shaped z, pDs_shaped zs, _, rfl, by rw [any_contains]; exact k H3 (e2.trans e3)⟩
theorem et_inB {p q : Addr} {vs : List V} {zs : List (Nat × Nat)} {z : Nat × Nat} (ha : Ev ta σ H (.ref p)) (hb : Ev tb σ H (.ref q)) (hz : H p = some (.tup [nv z.1, nv z.2])) (hq : H q = some (.lst vs)) (hp : Paired (PT H) vs zs) :
    EvT (tTest (tOp (rInD K) ta tb)) σ H (zs.contains z) := fun H1 e Q k => ha H1 e _ fun H2 e2 => hb H2 (e.trans e2) _ fun H3 e3 =>
  ⟨pD z, zs.map pD, dp_pair (((e.trans e2).trans e3) _ _ hz), .lst (sq_of (((e.trans e2).trans e3) _ _ hq)) (dps_pairs (paired_mono hp fun _ _ r => r.ex ((e.trans e2).trans e3))), pD_shaped z, pDs_shaped zs, _, rfl, by rw [any_contains]; exact k H3 (e2.trans e3)⟩
/-! ### sure_at_first -/
def sureTo (links : List (Nat × Nat)) (m i t : Nat) : List Nat := (List.range m).map fun j => if j < t ∧ links.contains (min i j, max i j) = true then 3 else if j = i then 1 else 0
theorem sureTo_len (links : List (Nat × Nat)) (m i t : Nat) : (sureTo links m i t).length = m := by
  unfold sureTo
  rw [List.length_map, List.length_range]
theorem sureTo_zero (links : List (Nat × Nat)) (m i : Nat) : (List.replicate m 0).set i 1 = sureTo links m i 0 := by
  unfold sureTo
  apply List.ext_getElem
  · simp
  · intro j h1 h2
    simp at h1 h2 ⊢
    rw [List.getElem_set]
    by_cases h : i = j
    · subst h; simp
    · rw [if_neg h, if_neg (fun z => h z.symm)]; simp
theorem sureTo_yes {links : List (Nat × Nat)} {m i t : Nat} (h : links.contains (min i t, max i t) = true) : (sureTo links m i t).set t 3 = sureTo links m i (t + 1) := by
  unfold sureTo
  apply List.ext_getElem
  · simp
  · intro j h1 h2
    simp at h1 h2
    rw [List.getElem_set]
    simp only [List.getElem_map, List.getElem_range]
    by_cases e : t = j
    · subst e
      rw [if_pos rfl, if_pos ⟨by omega, h⟩]
    · rw [if_neg e]
      by_cases q : j < t ∧ links.contains (min i j, max i j) = true
      · rw [if_pos q, if_pos ⟨by omega, q.2⟩]
      · have q2 : ¬(j < t + 1 ∧ links.contains (min i j, max i j) = true) := fun z => q ⟨by omega, z.2⟩
        rw [if_neg q, if_neg q2]
theorem sureTo_no {links : List (Nat × Nat)} {m i t : Nat} (h : links.contains (min i t, max i t) = false) : sureTo links m i (t + 1) = sureTo links m i t := by
  unfold sureTo
  refine List.map_congr_left fun j hj => ?_
  by_cases e : t = j
  · subst e
    have q1 : ¬(t < t + 1 ∧ links.contains (min i t, max i t) = true) := fun z => by rw [h] at z; exact absurd z.2 (by decide)
    have q2 : ¬(t < t ∧ links.contains (min i t, max i t) = true) := fun z => Nat.lt_irrefl _ z.1
    rw [if_neg q1, if_neg q2]
  · by_cases q : j < t ∧ links.contains (min i j, max i j) = true
    · have q2 : j < t + 1 ∧ links.contains (min i j, max i j) = true := ⟨by omega, q.2⟩
      rw [if_pos q, if_pos q2]
    · have q2 : ¬(j < t + 1 ∧ links.contains (min i j, max i j) = true) := fun z => q ⟨by omega, z.2⟩
      rw [if_neg q, if_neg q2]
theorem sureTo_end (links : List (Nat × Nat)) (m i : Nat) : sureTo links m i m = (Mir.sureAt links m i).l := by
  unfold sureTo Mir.sureAt
  refine List.map_congr_left fun j hj => ?_
  have hj' := List.mem_range.mp hj
  by_cases q : links.contains (min i j, max i j) = true
  · rw [if_pos ⟨hj', q⟩, if_pos q]
  · rw [if_neg (fun z => q z.2), if_neg q]
def spFirst (C CM : Addr) : Sp := fun vs H Q _ => ∃ (a : Addr) (A : GA) (g : G) (i : Nat), vs = [.ref a, nv i] ∧ GameAt C CM H a A g ∧ g.m ≤ 1000 ∧ i < g.m ∧ ∀ p l H2, H p = none → H l = none → Ex H H2 → MeasAt CM H2 p (Mir.sureAt g.links g.m i) l → Q (.ref p) H2
theorem c_sure_at_first (D : DefAt K mg "sure_at_first" s_sure_at_first) (T : Txt K mg C CM aT aN aW) (cM : MkC P w K mg base "Measurement" CM 1 ["self", "sign", "letters"] (spMInit CM)) : Cal P w K mg base "sure_at_first" 3 ["game", "spin"] (spFirst C CM) := by
  refine cal_mk D sc_sure_at_first (fun _ _ _ _ _ _ us hl => match us, hl with | [_, _], _ => rfl) (fun vs H Q E h => ?_) (fun hr => d_sure_at_first cM T hr) fun vs H Q E h => ?_
  · obtain ⟨a, A, g, i, rfl, _⟩ := h
    rfl
  · obtain ⟨a, A, g, i, rfl, hG, hm, hi, k⟩ := h
    have g1 : EvL (tOp rRep (tLst (tCons (tC (.int 0)) tNil)) (tCB (rLen' K) (tCons (tFld K (tVar 0) "owners") tNil))) (start ["game", "spin", "letters", "other"] [.ref a, nv i]) H (iv (List.replicate g.m 0)) := by
      have g1 := l_rep (σ := start ["game", "spin", "letters", "other"] [.ref a, nv i]) (H := H) (xs := [nv 0]) (n := g.m) (el_lst (ea1 (e_cn 0)) (by decide)) (fun H1 e1 => e_m (K := K) T (hG.ex e1) (ev_var (i := 0) rfl)) (by omega) (by show 1 * g.m ≤ _; omega)
      rw [rep_one] at g1
      unfold iv
      rw [List.map_replicate]
      exact g1
    refine q_asgL g1 fun L H1 hL e1 h1 => ?_
    refine q_setL h1 (e_cn 1) (ev_var rfl) (ev_var rfl) (by rw [iv_len, List.length_replicate]; exact hi) fun H2 e2 => ?_
    rw [iv_set, sureTo_zero g.links]
    have eH : Ex H (upd H2 L (.lst (iv (sureTo g.links g.m i 0)))) := Ex.mut (e1.trans e2) hL
    refine q_forR1 (ea1 (e_m (K := K) T (hG.ex eH) (ev_var rfl))) (by omega) (fun t σ' H' => Ex H H' ∧ H' L = some (.lst (iv (sureTo g.links g.m i t))) ∧ ∃ v, σ' = [some (.ref a), some (nv i), some (.ref L), v]) (fun H3 e3 => ⟨Ex.trans eH e3, e3 _ _ upd_same, none, rfl⟩) ?_ ?_
    · rintro t σ' H' ht ⟨e3, h3, v, rfl⟩
      have hG3 := hG.ex e3
      obtain ⟨vs, h4, h5⟩ := hG3.l
      refine s_if (b := g.links.contains (min i t, max i t)) (et_inU (z := (min i t, max i t)) (eu_tup (ea2 (e_min (ev_var rfl) (ev_var rfl)) (e_max (ev_var rfl) (ev_var rfl))) (by show 2 ≤ 100000; decide)) (fun H4 e4 => g_links T (hG3.ex e4) (ev_var rfl)) h4 h5) (fun hb H4 e4 => ?_) fun hb H4 e4 => ⟨e3.trans e4, ?_, some (nv t), rfl⟩
      · refine s_setL (e4 _ _ h3) (e_cn 3) (ev_var rfl) (ev_var rfl) (by rw [iv_len, sureTo_len]; omega) fun H5 e5 => ⟨Ex.mut ((e3.trans e4).trans e5) hL, ?_, some (nv t), rfl⟩
        rw [iv_set, sureTo_yes hb]
        exact upd_same
      · rw [sureTo_no hb]
        exact e4 _ _ h3
    · rintro σ' H' ⟨e3, h3, v, rfl⟩
      rw [Int.toNat_natCast, sureTo_end] at h3
      refine t_make (CM := CM) (ea2 (e_cn 0) (ev_var rfl)) H' (Ex.refl H') _ fun q H4 hq e4 h4 => ?_
      exact k q L H4 (fresh_back e3 hq) hL (e3.trans e4) ⟨h4, e4 _ _ h3⟩
theorem m_first {a : Addr} {A : GA} {g : G} {i : Nat} (ha : Ev ta σ H (.ref a)) (hb : Ev tb σ H (nv i)) (hG : GameAt C CM H a A g) (hm : g.m ≤ 1000) (hi : i < g.m) : EvM CM (tCall (spFirst C CM) [] E0 (tCons ta (tCons tb tNil))) σ H (Mir.sureAt g.links g.m i) := fun H1 e Q q =>
  ea2 ha hb H1 e _ fun H2 e2 => ⟨a, A, g, i, rfl, hG.ex (e.trans e2), hm, hi, fun p l H3 hp hl e3 h3 => q p l H3 (fresh_back e2 hp) (fresh_back e2 hl) (e2.trans e3) h3⟩
end
end My
set_option Elab.async false
set_option linter.all false
set_option maxRecDepth 100000
set_option maxHeartbeats 4000000
namespace My
open PySem PySem.Spec PyProof.Rows L2 Evl
open Su173 (Spin together)
open Mir (G)
open Su175 (okRow blank)
/-- a list is given back, the game is as told -/
def RetC (C CM : Addr) (a : Addr) (A : GA) (r : G × List Int) (H : Hp) (Q : VK) : Prop := ∀ p A' H', H p = none → Chg C CM H H' a A A' r.1 → H' p = some (.lst (rl r.2)) → Q (.ref p) H'
theorem RetC.go {C CM : Addr} {a : Addr} {A : GA} {r : G × List Int} {H H1 : Hp} {Q : VK} (k : RetC C CM a A r H Q) (e : Ex H H1) {p : Addr} {A' : GA} {H' : Hp} (hp : H1 p = none) (hc : Chg C CM H1 H' a A A' r.1) (h : H' p = some (.lst (rl r.2))) : Q (.ref p) H' := k p A' H' (fresh_back e hp) (Chg.pre e hc) h
theorem game_some {C CM : Addr} {H : Hp} {a : Addr} {A : GA} {g : G} (h : GameAt C CM H a A g) : ∀ b ∈ mutA a A, H b ≠ none := by
  intro b hb
  obtain ⟨dx, h1⟩ := h.ob
  obtain ⟨vs, h2, _⟩ := h.l
  obtain ⟨ws, h3, _⟩ := h.n
  simp only [mutA, List.mem_cons, List.not_mem_nil, or_false] at hb
  rcases hb with rfl | rfl | rfl | rfl | rfl
  · rw [h1]; intro z; cases z
  · rw [h.w]; intro z; cases z
  · rw [h.v]; intro z; cases z
  · rw [h2]; intro z; cases z
  · rw [h3]; intro z; cases z
theorem not_mut {C CM : Addr} {H : Hp} {a p : Addr} {A : GA} {g : G} (h : GameAt C CM H a A g) (hp : H p = none) : p ∉ mutA a A := fun z => game_some h p z hp
section
variable {P : Program} {w : World} {K : PySem.W.Frag} {mg : Str → Option Value} {base : Heap} {C CM aT aN aW : Addr} {σ : L2.St} {H : Hp} {ta tb tc td ty tl te : TE} {D : Ends} {tz : TS}
theorem s_retX {sp : Sp} {ta : TA} (k : ta σ H fun vs H1 => sp vs H1 D.rt E0) : tRet (tCall sp [] E0 ta) D σ H := by
  have e : (fun (vs : List V) (H1 : Hp) => sp (vs ++ []) H1 D.rt E0) = fun vs H1 => sp vs H1 D.rt E0 := by
    funext vs H1
    rw [List.append_nil]
  show ta σ H fun vs H1 => sp (vs ++ []) H1 D.rt E0
  rw [e]
  exact k
theorem s_dropX {sp : Sp} {ta : TA} (k : ta σ H fun vs H1 => sp vs H1 (fun _ H2 => D.nx σ H2) E0) : tDrop (tCall sp [] E0 ta) D σ H := by
  have e : (fun (vs : List V) (H1 : Hp) => sp (vs ++ []) H1 (fun _ H2 => D.nx σ H2) E0) = fun vs H1 => sp vs H1 (fun _ H2 => D.nx σ H2) E0 := by
    funext vs H1
    rw [List.append_nil]
  show ta σ H fun vs H1 => sp (vs ++ []) H1 (fun _ H2 => D.nx σ H2) E0
  rw [e]
  exact k
theorem q_dropX {sp : Sp} {ta : TA} (k : ta σ H fun vs H1 => sp vs H1 (fun _ H2 => tz D σ H2) E0) : tSeq (tDrop (tCall sp [] E0 ta)) tz D σ H := s_dropX (D := { D with nx := tz D }) k
theorem RetC.same {a : Addr} {A : GA} {g : G} {l : List Int} {H1 H2 : Hp} {Q : VK} {p : Addr} (k : RetC C CM a A (g, l) H Q) (hG : GameAt C CM H a A g) (e : Ex H H1) (hp : H1 p = none) (e2 : Ex H1 H2) (h : H2 p = some (.lst (rl l))) : Q (.ref p) H2 :=
  k p A H2 (fresh_back e hp) (Chg.of hG (e.trans e2)) h
/-! ### let_win, let_count, let_sum_win -/
def spWin (C CM : Addr) (K : PySem.W.Frag) : Sp := fun vs H Q _ => ∃ (a r : Addr) (A : GA) (g : G) (n : Nat) (x : List Nat), vs = [.ref a, nv n, .ref r] ∧ GameAt C CM H a A g ∧ WG g ∧ SqL K H r (iv x) ∧ x.length ≤ 40000 ∧ RetC C CM a A (Mir.winsM g n x) H Q
theorem c_let_win (D : DefAt K mg "let_win" s_let_win) (T : Txt K mg C CM aT aN aW) (c1 : Cal P w K mg base "place_of_row" 1 ["game", "row"] (spPlace C CM K)) (c2 : Cal P w K mg base "is_asked" 1 ["game", "row"] (spIsAsked C CM K)) :
    Cal P w K mg base "let_win" 2 ["game", "which", "row"] (spWin C CM K) := by
  refine cal_mk D sc_let_win (fun _ _ _ _ _ _ us hl => match us, hl with | [_, _, _], _ => rfl) (fun vs H Q E h => ?_) (fun hr => d_let_win c1 c2 T hr) fun vs H Q E h => ?_
  · obtain ⟨a, r, A, g, n, x, rfl, _⟩ := h
    rfl
  · obtain ⟨a, r, A, g, n, x, rfl, hG, hW, hr, hz, k⟩ := h
    have k2 := hW.k2
    have q2 := hW.q2
    have hp2 : 1 * 2 ^ g.k ≤ 16 := by
      rw [Nat.one_mul]
      exact Nat.pow_le_pow_right (n := 2) (j := 4) (by decide) k2
    refine q_when (et_or (et_not (et_B (e_is_asked (ev_var rfl) (ev_var rfl) hG hr hz))) fun _ => et_test (e_ge (ev_var rfl) (e_shl (e_cn 1) (e_shl (e_cn 1) (g_persons T hG (ev_var rfl)) (by omega) (by decide)) (by omega) (by decide)))) (fun hb H1 e1 => ?_) fun hb H1 e1 => ?_
    · have e : Mir.winsM g n x = (g, [-22]) := by
        unfold Mir.winsM
        rw [if_pos]
        rw [Nat.one_mul, Nat.one_mul] at hb
        simp at hb
        exact hb
      rw [e] at k
      exact s_retL (el_lst (ea1 ev_c) (by decide)) fun p H2 hp e2 h2 => k.same hG e1 hp e2 h2
    · have hb' : g.asked x = true ∧ n < 2 ^ 2 ^ g.k := by
        rw [Nat.one_mul, Nat.one_mul] at hb
        simp at hb
        exact hb
      have e : Mir.winsM g n x = ({ g with wins := g.wins.set (Mir.place g.q x) n }, [((g.wins.getD (Mir.place g.q x) 0 : Nat) : Int)]) := by
        unfold Mir.winsM
        rw [if_neg (by rw [hb'.1]; intro z; rcases z with z | z; cases z; omega)]
      rw [e] at k
      have hG1 := hG.ex e1
      have hpl := place_lt hb'.1
      refine q_asg (e_place (ev_var rfl) (ev_var rfl) hG1 (ex_l e1 hr) (by omega)) fun H2 e2 => ?_
      have hG2 := hG1.ex e2
      have i2 : (iv g.wins)[Mir.place g.q x]? = some (nv (g.wins.getD (Mir.place g.q x) 0)) := iv_at (getD_lt (by rw [hW.v]; exact hpl))
      refine q_asg (e_ixL (g_winning T hG2 (ev_var rfl)) (ev_var rfl) (sq_of hG2.v) i2) fun H3 e3 => ?_
      have hG3 := hG2.ex e3
      refine q_setL hG3.v (ev_var rfl) (g_winning T hG3 (ev_var rfl)) (ev_var rfl) (by rw [iv_len, hW.v]; exact hpl) fun H4 e4 => ?_
      rw [iv_set]
      refine s_retL (el_lst (ea1 (ev_var rfl)) (by show 1 ≤ 100000; decide)) fun p H5 hp e5 h5 => k.go (((e1.trans e2).trans e3).trans e4) (fresh_upd hp) (((hG3.ex e4).setV _).ex e5) h5
def spCnt (C CM : Addr) (K : PySem.W.Frag) : Sp := fun vs H Q _ => ∃ (a r : Addr) (A : GA) (g : G) (n : Nat) (x : List Nat), vs = [.ref a, nv n, .ref r] ∧ GameAt C CM H a A g ∧ WG g ∧ SqL K H r (iv x) ∧ x.length ≤ 40000 ∧ RetC C CM a A (Mir.countsM g n x) H Q
theorem c_let_count (D : DefAt K mg "let_count" s_let_count) (T : Txt K mg C CM aT aN aW) (c1 : Cal P w K mg base "place_of_row" 1 ["game", "row"] (spPlace C CM K)) (c2 : Cal P w K mg base "is_asked" 1 ["game", "row"] (spIsAsked C CM K)) :
    Cal P w K mg base "let_count" 2 ["game", "much", "row"] (spCnt C CM K) := by
  refine cal_mk D sc_let_count (fun _ _ _ _ _ _ us hl => match us, hl with | [_, _, _], _ => rfl) (fun vs H Q E h => ?_) (fun hr => d_let_count c1 c2 T hr) fun vs H Q E h => ?_
  · obtain ⟨a, r, A, g, n, x, rfl, _⟩ := h
    rfl
  · obtain ⟨a, r, A, g, n, x, rfl, hG, hW, hr, hz, k⟩ := h
    have q2 := hW.q2
    refine q_when (et_or (et_not (et_B (e_is_asked (ev_var rfl) (ev_var rfl) hG hr hz))) fun _ => et_test (e_gt (ev_var rfl) (e_cn 99))) (fun hb H1 e1 => ?_) fun hb H1 e1 => ?_
    · have e : Mir.countsM g n x = (g, [-22]) := by
        unfold Mir.countsM
        rw [if_pos]
        simp at hb
        exact hb
      rw [e] at k
      exact s_retL (el_lst (ea1 ev_c) (by decide)) fun p H2 hp e2 h2 => k.same hG e1 hp e2 h2
    · have hb' : g.asked x = true ∧ n ≤ 99 := by
        simp at hb
        exact hb
      have e : Mir.countsM g n x = ({ g with weights := g.weights.set (Mir.place g.q x) n }, [((g.weights.getD (Mir.place g.q x) 0 : Nat) : Int)]) := by
        unfold Mir.countsM
        rw [if_neg (by rw [hb'.1]; intro z; rcases z with z | z; cases z; omega)]
      rw [e] at k
      have hG1 := hG.ex e1
      have hpl := place_lt hb'.1
      refine q_asg (e_place (ev_var rfl) (ev_var rfl) hG1 (ex_l e1 hr) (by omega)) fun H2 e2 => ?_
      have hG2 := hG1.ex e2
      have i2 : (iv g.weights)[Mir.place g.q x]? = some (nv (g.weights.getD (Mir.place g.q x) 0)) := iv_at (getD_lt (by rw [hW.w]; exact hpl))
      refine q_asg (e_ixL (g_weights T hG2 (ev_var rfl)) (ev_var rfl) (sq_of hG2.w) i2) fun H3 e3 => ?_
      have hG3 := hG2.ex e3
      refine q_setL hG3.w (ev_var rfl) (g_weights T hG3 (ev_var rfl)) (ev_var rfl) (by rw [iv_len, hW.w]; exact hpl) fun H4 e4 => ?_
      rw [iv_set]
      refine s_retL (el_lst (ea1 (ev_var rfl)) (by show 1 ≤ 100000; decide)) fun p H5 hp e5 h5 => k.go (((e1.trans e2).trans e3).trans e4) (fresh_upd hp) (((hG3.ex e4).setW _).ex e5) h5
def spOdd (C CM : Addr) (K : PySem.W.Frag) : Sp := fun vs H Q _ => ∃ (a r : Addr) (A : GA) (g : G) (n : Nat) (x : List Nat), vs = [.ref a, nv n, .ref r] ∧ GameAt C CM H a A g ∧ WG g ∧ SqL K H r (iv x) ∧ x.length ≤ 40000 ∧ RetC C CM a A (Mir.oddM g n x) H Q
theorem c_let_sum_win (D : DefAt K mg "let_sum_win" s_let_sum_win) (T : Txt K mg C CM aT aN aW) (c0 : Cal P w K mg base "rows_with_parity" 2 ["persons", "parity"] spParity) (c1 : Cal P w K mg base "place_of_row" 1 ["game", "row"] (spPlace C CM K)) (c2 : Cal P w K mg base "is_asked" 1 ["game", "row"] (spIsAsked C CM K)) :
    Cal P w K mg base "let_sum_win" 3 ["game", "parity", "row"] (spOdd C CM K) := by
  refine cal_mk D sc_let_sum_win (fun _ _ _ _ _ _ us hl => match us, hl with | [_, _, _], _ => rfl) (fun vs H Q E h => ?_) (fun hr => d_let_sum_win c0 c1 c2 T hr) fun vs H Q E h => ?_
  · obtain ⟨a, r, A, g, n, x, rfl, _⟩ := h
    rfl
  · obtain ⟨a, r, A, g, n, x, rfl, hG, hW, hr, hz, k⟩ := h
    have k2 := hW.k2
    have q2 := hW.q2
    refine q_when (et_or (et_not (et_B (e_is_asked (ev_var rfl) (ev_var rfl) hG hr hz))) fun _ => et_test (e_gt (ev_var rfl) (e_cn 1))) (fun hb H1 e1 => ?_) fun hb H1 e1 => ?_
    · have e : Mir.oddM g n x = (g, [-22]) := by
        unfold Mir.oddM
        rw [if_pos]
        simp at hb
        exact hb
      rw [e] at k
      exact s_retL (el_lst (ea1 ev_c) (by decide)) fun p H2 hp e2 h2 => k.same hG e1 hp e2 h2
    · have hb' : g.asked x = true ∧ n ≤ 1 := by
        simp at hb
        exact hb
      have e : Mir.oddM g n x = ({ g with wins := g.wins.set (Mir.place g.q x) (Mir.rowsWithParity g.k n) }, [((Mir.rowsWithParity g.k n : Nat) : Int)]) := by
        unfold Mir.oddM
        rw [if_neg (by rw [hb'.1]; intro z; rcases z with z | z; cases z; omega)]
      rw [e] at k
      have hG1 := hG.ex e1
      have hpl := place_lt hb'.1
      refine q_asg (e_parity (g_persons T hG1 (ev_var rfl)) (ev_var rfl) (by omega)) fun H2 e2 => ?_
      have hG2 := hG1.ex e2
      refine q_setL hG2.v (ev_var rfl) (g_winning T hG2 (ev_var rfl)) (e_place (ev_var rfl) (ev_var rfl) hG2 (ex_l (e1.trans e2) hr) (by omega)) (by rw [iv_len, hW.v]; exact hpl) fun H4 e4 => ?_
      rw [iv_set]
      refine s_retL (el_lst (ea1 (ev_var rfl)) (by show 1 ≤ 100000; decide)) fun p H5 hp e5 h5 => k.go ((e1.trans e2).trans e4) (fresh_upd hp) (((hG2.ex e4).setV _).ex e5) h5
/-! ### set_own -/
theorem q_makeSub {s j : Nat} {r L : Addr} {ys : List V} {ta : TA} {to ti : TE} (h : EvA ta σ H [nv s, .ref r]) (ho : Ev to σ H (.ref L)) (hi : Ev ti σ H (nv j)) (hL : H L = some (.lst ys)) (hj : j < ys.length)
    (k : ∀ p H1, H p = none → Ex H H1 → (∃ dx, H1 p = some (.ins CM dx (mF s r))) → tz D σ (upd H1 L (.lst (ys.set j (.ref p))))) : tSeq (tAsg (tMake CM (spMInit CM) [] E0 ta) (gSub to ti rSetL)) tz D σ H := by
  show tMake CM (spMInit CM) [] E0 ta σ H fun x H1 => gSub to ti rSetL x σ H1 (tz D)
  exact t_make (CM := CM) h H (Ex.refl H) _ fun p H3 hp e3 h3 => ho H3 e3 _ fun H4 e4 => hi H4 (e3.trans e4) _ fun H5 e5 =>
    ⟨L, ys, _, j, rfl, rfl, ((e3.trans e4).trans e5) _ _ hL, ixN_nat hj, k p H5 hp ((e3.trans e4).trans e5) ⟨_, (e4.trans e5) _ _ h3.choose_spec⟩⟩
theorem q_fldMs {a C dx : Addr} {fs : List (Str × V)} {f : Str} {te : TE} {xs : List Spin} (h : EvMs CM te σ H xs) (ha : Ev ta σ H (.ref a)) (ho : H a = some (.ins C dx fs)) (hc : Cls K C) (hn : NoAttr K C f) (hl : fs.length < 1000)
    (k : ∀ p vs H1, H p = none → Ex H H1 → H1 p = some (.lst vs) → Paired (MN CM H H1) vs xs → tz D σ (upd H1 a (.ins C dx (putF f (.ref p) fs)))) : tSeq (sFld K ta te f) tz D σ H :=
  h H (Ex.refl H) _ fun p vs H1 hp e1 h1 hm => ha H1 e1 _ fun H2 e2 => ⟨a, C, dx, fs, rfl, (e1.trans e2) _ _ ho, hc, hn, hl, k p vs H2 hp (e1.trans e2) (e2 _ _ h1) (paired_mono hm fun _ _ q => q.ex e2)⟩
def spOwn (C CM : Addr) (K : PySem.W.Frag) : Sp := fun vs H Q _ => ∃ (a r : Addr) (A : GA) (g : G) (i x s : Nat) (l : List Nat), vs = [.ref a, nv i, nv x, nv s, .ref r] ∧ GameAt C CM H a A g ∧ WG g ∧ H r = some (.lst (iv l)) ∧ r ∉ mutA a A ∧ l.length ≤ 40000 ∧ RetC C CM a A (Mir.mineM g i x s l) H Q
theorem paired_set {α β : Type} {F : α → β → Prop} {x : α} {y : β} (r : F x y) : ∀ {a : List α} {b : List β} (i : Nat), Paired F a b → Paired F (a.set i x) (b.set i y)
  | _, _, _, .nil => .nil
  | _, _, 0, .cons _ t => .cons r t
  | _, _, i + 1, .cons q t => .cons q (paired_set r i t)
theorem c_set_own (D : DefAt K mg "set_own" s_set_own) (T : Txt K mg C CM aT aN aW) (cM : MkC P w K mg base "Measurement" CM 1 ["self", "sign", "letters"] (spMInit CM)) (c1 : Cal P w K mg base "are_own_letters" 2 ["game", "person", "letters"] (spOwnL C CM K)) :
    Cal P w K mg base "set_own" 3 ["game", "person", "question", "sign", "letters"] (spOwn C CM K) := by
  refine cal_mk D sc_set_own (fun _ _ _ _ _ _ us hl => match us, hl with | [_, _, _, _, _], _ => rfl) (fun vs H Q E h => ?_) (fun hr => d_set_own cM c1 T hr) fun vs H Q E h => ?_
  · obtain ⟨a, r, A, g, i, x, s, l, rfl, _⟩ := h
    rfl
  · obtain ⟨a, r, A, g, i, x, s, l, rfl, hG, hW, hr, hrm, hz, k⟩ := h
    have q2 := hW.q2
    refine q_when (et_or (et_test (e_ge (ev_var rfl) (g_persons T hG (ev_var rfl)))) fun _ => et_test (e_ge (ev_var rfl) (g_questions T hG (ev_var rfl)))) (fun hb H1 e1 => ?_) fun hb H1 e1 => ?_
    · have e : Mir.mineM g i x s l = (g, [-2]) := by
        unfold Mir.mineM
        rw [if_pos]
        simp at hb
        exact hb
      rw [e] at k
      exact s_retL (el_lst (ea1 ev_c) (by decide)) fun p H2 hp e2 h2 => k.same hG e1 hp e2 h2
    · have hb' : i < g.k ∧ x < g.q := by
        simp at hb
        exact hb
      have hG1 := hG.ex e1
      refine q_when (et_or (et_test (e_gt (ev_var rfl) (e_cn 1))) fun _ => et_not (et_B (e_own_letters (ev_var rfl) (ev_var rfl) (ev_var rfl) hG1 (sq_of (e1 _ _ hr)) hz))) (fun hb2 H2 e2 => ?_) fun hb2 H2 e2 => ?_
      · have e : Mir.mineM g i x s l = (g, [-22]) := by
          unfold Mir.mineM
          rw [if_neg (by omega), if_pos]
          simp at hb2
          exact hb2
        rw [e] at k
        exact s_retL (el_lst (ea1 ev_c) (by decide)) fun p H3 hp e3 h3 => k.same hG (e1.trans e2) hp e3 h3
      · have hb2' : s ≤ 1 ∧ Mir.ownLetters g i l = true := by
          simp at hb2
          exact hb2
        have e : Mir.mineM g i x s l = ({ g with own := g.own.set (i * g.q + x) ⟨s, l⟩ }, [0]) := by
          unfold Mir.mineM
          rw [if_neg (by omega), if_neg (by rw [hb2'.2]; intro z; rcases z with z | z; omega; cases z)]
        rw [e] at k
        have e12 := e1.trans e2
        have hG2 := hG.ex e12
        obtain ⟨ws, hn1, hn2⟩ := hG2.n
        have hlt := ix_lt hb'.1 hb'.2
        refine q_makeSub (j := i * g.q + x) (ea2 (ev_var rfl) (ev_var rfl)) (g_own T hG2 (ev_var rfl)) (e_add (e_mul (ev_var rfl) (g_questions T hG2 (ev_var rfl)) (.inr (by omega))) (ev_var rfl)) hn1 (by rw [Paired.length hn2, hW.n]; exact hlt) fun p H5 hp e5 h5 => ?_
        have hG5 := hG2.ex e5
        have hm : MS CM H5 (mutA a A) (.ref p) ⟨s, l⟩ := ⟨p, r, rfl, ⟨h5, (e12.trans e5) _ _ hr⟩, hrm⟩
        have hc := hG5.setN (paired_set hm (i * g.q + x) (paired_mono hn2 fun _ _ q => q.ex e5))
        refine s_retL (el_lst (ea1 ev_c) (by decide)) fun q H6 hq e6 h6 => k.go (e12.trans e5) (fresh_upd hq) (hc.ex e6) h6
/-! ### let_first_be_sure, refresh -/
def spLetFirst (C CM : Addr) : Sp := fun vs H Q _ => ∃ (a : Addr) (A : GA) (g : G), vs = [.ref a] ∧ GameAt C CM H a A g ∧ g.m ≤ 1000 ∧ ∀ A' H', Chg C CM H H' a A A' g.fresh → Q .non H'
theorem firstSure_eq (m : Nat) (links : List (Nat × Nat)) : Mir.firstSure m links = (List.range m).map (Mir.sureAt links m) := rfl
theorem c_let_first (D : DefAt K mg "let_first_be_sure" s_let_first_be_sure) (T : Txt K mg C CM aT aN aW) (c1 : Cal P w K mg base "sure_at_first" 3 ["game", "spin"] (spFirst C CM)) : Cal P w K mg base "let_first_be_sure" 4 ["game"] (spLetFirst C CM) := by
  refine cal_mk D sc_let_first_be_sure (fun _ _ _ _ _ _ us hl => match us, hl with | [_], _ => rfl) (fun vs H Q E h => ?_) (fun hr => d_let_first_be_sure c1 T hr) fun vs H Q E h => ?_
  · obtain ⟨a, A, g, rfl, _⟩ := h
    rfl
  · obtain ⟨a, A, g, rfl, hG, hm, k⟩ := h
    obtain ⟨dx, hob⟩ := hG.ob
    refine q_fldMs (ms_lcR (Mir.sureAt g.links g.m) (ea1 (e_m T hG (ev_var rfl))) (by omega) (fun _ => rfl) (fun i H1 hi e1 => m_first (ev_var rfl) (ev_var rfl) (hG.ex e1) hm hi)) (ev_var rfl) hob T.clG T.g_sure (by show 10 < 1000; decide) fun s' ys H2 hs e2 h2 hp => ?_
    have fr : ∀ {b : Addr} {o : HO}, H b = some o → s' ≠ b := fun hb z => by rw [z, hb] at hs; cases hs
    obtain ⟨_, hl, _⟩ := hG.l
    obtain ⟨_, hn, _⟩ := hG.n
    rw [put_sure _ _ _ (Mir.firstSure g.m g.links)]
    have hG2 := hG.ex e2
    have hc2 := hG2.newS (s' := s') (e2 _ _ hob) h2 ⟨fr hG.w, fr hG.v, fr hG.o, fr hl, fr hn⟩ (paired_mono hp fun _ _ q => by
      obtain ⟨p, l, rfl, q1, q2⟩ := q
      exact ⟨p, l, rfl, q1, not_mut hG q2⟩)
    rw [← firstSure_eq] at hc2
    refine s_fld (v := .bl false) ev_c (ev_var rfl) upd_same T.clG T.g_measured (by show 10 < 1000; decide) fun H3 e3 => ?_
    rw [put_measured]
    have hG3 := hc2.at_.ex e3
    have hc3 := hG3.fld (g' := g.fresh) (e3 _ _ upd_same) rfl rfl rfl rfl rfl rfl
    exact k _ _ (Chg.pre e2 ((hc2.ex e3).trans hc3))
end
end My
set_option Elab.async false
set_option linter.all false
set_option maxRecDepth 100000
set_option maxHeartbeats 4000000
namespace My
open PySem PySem.Spec PyProof.Rows L2 Evl
open Su173 (Spin together)
open Mir (G)
open Su175 (okRow blank)
theorem MS.re {CM : Addr} {H0 H : Hp} {M M' : List Addr} {v : V} {x : Spin} (h : MS CM H0 M v x) (e : Ex H0 H) (hn : ∀ b ∈ M', b ∈ M ∨ H0 b = none) : MS CM H M' v x := by
  obtain ⟨p, l, rfl, h1, h2⟩ := h
  refine ⟨p, l, rfl, h1.ex e, fun hm => ?_⟩
  rcases hn l hm with q | q
  · exact h2 q
  · rw [h1.2] at q; cases q
/-- fields and lists exchanged -/
theorem GameAt.re {C CM : Addr} {H0 H : Hp} {a dx : Addr} {A A' : GA} {g g' : G} (h : GameAt C CM H0 a A g) (e : Ex H0 H) (hob : H a = some (.ins C dx (gF g A)))
    (hw : H A'.w = some (.lst (iv g'.weights))) (hv : H A'.v = some (.lst (iv g'.wins))) (ho : H A'.o = some (.lst (iv g'.owners))) (hl : ∃ vs, H A'.l = some (.lst vs) ∧ Paired (PT H) vs g'.links)
    (hs : ∃ vs, H A'.s = some (.lst vs) ∧ Paired (MS CM H (mutA a A')) vs g'.sure) (hn : ∃ vs, H A'.n = some (.lst vs) ∧ Paired (MS CM H (mutA a A')) vs g'.own) (nd : Nd A') (new : ∀ b ∈ mutA a A', b ∈ mutA a A ∨ H0 b = none) :
    Chg C CM H0 (upd H a (.ins C dx (gF g' A'))) a A A' g' := by
  refine ⟨⟨⟨dx, upd_same⟩, ?_, ?_, ?_, ?_, ?_, ?_, nd_iff.mpr nd⟩, (Keep.of e).trans (Keep.put mem_a), new, fun b hb => fresh_back e (fresh_upd hb)⟩
  · rw [upd_ne (lst_ne_ins hob hw).symm]; exact hw
  · rw [upd_ne (lst_ne_ins hob hv).symm]; exact hv
  · rw [upd_ne (lst_ne_ins hob ho).symm]; exact ho
  · obtain ⟨ws, h3, h4⟩ := hl
    exact ⟨ws, by rw [upd_ne (lst_ne_ins hob h3).symm]; exact h3, paired_mono h4 fun _ _ q => q.putA hob⟩
  · obtain ⟨ws, h3, h4⟩ := hs
    exact ⟨ws, by rw [upd_ne (lst_ne_ins hob h3).symm]; exact h3, paired_mono h4 fun _ _ q => q.putA mem_a hob⟩
  · obtain ⟨ws, h3, h4⟩ := hn
    exact ⟨ws, by rw [upd_ne (lst_ne_ins hob h3).symm]; exact h3, paired_mono h4 fun _ _ q => q.putA mem_a hob⟩
section
variable {C CM : Addr} {H0 H : Hp} {a dx p : Addr} {A : GA} {g : G}
theorem ne_new {q : Addr} {o : HO} (hp : H0 p = none) (hq : H0 q = some o) : q ≠ p := fun z => by rw [z, hp] at hq; cases hq
theorem GameAt.newO {x : List Nat} (h : GameAt C CM H0 a A g) (e : Ex H0 H) (hob : H a = some (.ins C dx (gF g A))) (hp : H0 p = none) (h1 : H p = some (.lst (iv x))) :
    Chg C CM H0 (upd H a (.ins C dx (gF { g with owners := x } { A with o := p }))) a A { A with o := p } { g with owners := x } := by
  have n := nd_iff.mp h.nd
  have hh := h.ex e
  obtain ⟨_, l1, _⟩ := h.l
  obtain ⟨_, s1, _⟩ := h.s
  obtain ⟨_, n1, _⟩ := h.n
  exact h.re e hob hh.w hh.v h1 hh.l hh.s hh.n ⟨n.wv, ne_new hp h.w, n.wl, n.ws, n.wn, ne_new hp h.v, n.vl, n.vs, n.vn, (ne_new hp l1).symm, (ne_new hp s1).symm, (ne_new hp n1).symm, n.ls, n.ln, n.sn⟩ fun b hb => .inl hb
theorem GameAt.newL (h : GameAt C CM H0 a A g) (e : Ex H0 H) (hob : H a = some (.ins C dx (gF g A))) (hp : H0 p = none) (h1 : H p = some (.lst [])) :
    Chg C CM H0 (upd H a (.ins C dx (gF { g with links := [] } { A with l := p }))) a A { A with l := p } { g with links := [] } := by
  have n := nd_iff.mp h.nd
  have hh := h.ex e
  obtain ⟨_, l1, _⟩ := h.l
  obtain ⟨vs, s1, s2⟩ := h.s
  obtain ⟨ws, n1, n2⟩ := h.n
  have new : ∀ b ∈ mutA a { A with l := p }, b ∈ mutA a A ∨ H0 b = none := fun b hb => by
    simp only [mutA, List.mem_cons, List.not_mem_nil, or_false] at hb ⊢
    rcases hb with rfl | rfl | rfl | rfl | rfl
    · exact .inl (.inl rfl)
    · exact .inl (.inr (.inl rfl))
    · exact .inl (.inr (.inr (.inl rfl)))
    · exact .inr hp
    · exact .inl (.inr (.inr (.inr (.inr rfl))))
  exact h.re e hob hh.w hh.v hh.o ⟨[], h1, .nil⟩ ⟨vs, e _ _ s1, paired_mono s2 fun _ _ q => q.re e new⟩ ⟨ws, e _ _ n1, paired_mono n2 fun _ _ q => q.re e new⟩
    ⟨n.wv, n.wo, ne_new hp h.w, n.ws, n.wn, n.vo, ne_new hp h.v, n.vs, n.vn, ne_new hp h.o, n.os, n.on, (ne_new hp s1).symm, (ne_new hp n1).symm, n.sn⟩ new
theorem GameAt.newN {ys : List V} {xs : List Spin} (h : GameAt C CM H0 a A g) (e : Ex H0 H) (hob : H a = some (.ins C dx (gF g A))) (hp : H0 p = none) (h1 : H p = some (.lst ys)) (h2 : Paired (MD CM H0 p H) ys xs) :
    Chg C CM H0 (upd H a (.ins C dx (gF { g with own := xs } { A with n := p }))) a A { A with n := p } { g with own := xs } := by
  have n := nd_iff.mp h.nd
  have hh := h.ex e
  obtain ⟨_, l1, _⟩ := h.l
  obtain ⟨vs, s1, s2⟩ := h.s
  obtain ⟨ws, n1, n2⟩ := h.n
  have new : ∀ b ∈ mutA a { A with n := p }, b ∈ mutA a A ∨ H0 b = none := fun b hb => by
    simp only [mutA, List.mem_cons, List.not_mem_nil, or_false] at hb ⊢
    rcases hb with rfl | rfl | rfl | rfl | rfl
    · exact .inl (.inl rfl)
    · exact .inl (.inr (.inl rfl))
    · exact .inl (.inr (.inr (.inl rfl)))
    · exact .inl (.inr (.inr (.inr (.inl rfl))))
    · exact .inr hp
  refine h.re e hob hh.w hh.v hh.o hh.l ⟨vs, e _ _ s1, paired_mono s2 fun _ _ q => q.re e new⟩ ⟨ys, h1, paired_mono h2 fun v x q => ?_⟩
    ⟨n.wv, n.wo, n.wl, n.ws, ne_new hp h.w, n.vo, n.vl, n.vs, ne_new hp h.v, n.ol, n.os, ne_new hp h.o, n.ls, ne_new hp l1, ne_new hp s1⟩ new
  obtain ⟨q1, l, rfl, m1, m2, _, m3⟩ := q
  refine ⟨q1, l, rfl, m1, fun hm => ?_⟩
  simp only [mutA, List.mem_cons, List.not_mem_nil, or_false] at hm
  rcases hm with z | z | z | z | z
  · exact not_mut h m2 (by rw [z]; exact mem_a)
  · exact not_mut h m2 (by rw [z]; exact mem_w)
  · exact not_mut h m2 (by rw [z]; exact mem_v)
  · exact not_mut h m2 (by rw [z]; exact mem_l)
  · exact m3 z
theorem GameAt.newW {x : List Nat} (h : GameAt C CM H0 a A g) (e : Ex H0 H) (hob : H a = some (.ins C dx (gF g A))) (hp : H0 p = none) (h1 : H p = some (.lst (iv x))) :
    Chg C CM H0 (upd H a (.ins C dx (gF { g with weights := x } { A with w := p }))) a A { A with w := p } { g with weights := x } := by
  have n := nd_iff.mp h.nd
  have hh := h.ex e
  obtain ⟨_, l1, _⟩ := h.l
  obtain ⟨vs, s1, s2⟩ := h.s
  obtain ⟨ws, n1, n2⟩ := h.n
  have new : ∀ b ∈ mutA a { A with w := p }, b ∈ mutA a A ∨ H0 b = none := fun b hb => by
    simp only [mutA, List.mem_cons, List.not_mem_nil, or_false] at hb ⊢
    rcases hb with rfl | rfl | rfl | rfl | rfl
    · exact .inl (.inl rfl)
    · exact .inr hp
    · exact .inl (.inr (.inr (.inl rfl)))
    · exact .inl (.inr (.inr (.inr (.inl rfl))))
    · exact .inl (.inr (.inr (.inr (.inr rfl))))
  exact h.re e hob h1 hh.v hh.o hh.l ⟨vs, e _ _ s1, paired_mono s2 fun _ _ q => q.re e new⟩ ⟨ws, e _ _ n1, paired_mono n2 fun _ _ q => q.re e new⟩
    ⟨(ne_new hp h.v).symm, (ne_new hp h.o).symm, (ne_new hp l1).symm, (ne_new hp s1).symm, (ne_new hp n1).symm, n.vo, n.vl, n.vs, n.vn, n.ol, n.os, n.on, n.ls, n.ln, n.sn⟩ new
theorem GameAt.newV {x : List Nat} (h : GameAt C CM H0 a A g) (e : Ex H0 H) (hob : H a = some (.ins C dx (gF g A))) (hp : H0 p = none) (h1 : H p = some (.lst (iv x))) :
    Chg C CM H0 (upd H a (.ins C dx (gF { g with wins := x } { A with v := p }))) a A { A with v := p } { g with wins := x } := by
  have n := nd_iff.mp h.nd
  have hh := h.ex e
  obtain ⟨_, l1, _⟩ := h.l
  obtain ⟨vs, s1, s2⟩ := h.s
  obtain ⟨ws, n1, n2⟩ := h.n
  have new : ∀ b ∈ mutA a { A with v := p }, b ∈ mutA a A ∨ H0 b = none := fun b hb => by
    simp only [mutA, List.mem_cons, List.not_mem_nil, or_false] at hb ⊢
    rcases hb with rfl | rfl | rfl | rfl | rfl
    · exact .inl (.inl rfl)
    · exact .inl (.inr (.inl rfl))
    · exact .inr hp
    · exact .inl (.inr (.inr (.inr (.inl rfl))))
    · exact .inl (.inr (.inr (.inr (.inr rfl))))
  exact h.re e hob hh.w h1 hh.o hh.l ⟨vs, e _ _ s1, paired_mono s2 fun _ _ q => q.re e new⟩ ⟨ws, e _ _ n1, paired_mono n2 fun _ _ q => q.re e new⟩
    ⟨ne_new hp h.w, n.wo, n.wl, n.ws, n.wn, (ne_new hp h.o).symm, (ne_new hp l1).symm, (ne_new hp s1).symm, (ne_new hp n1).symm, n.ol, n.os, n.on, n.ls, n.ln, n.sn⟩ new
end
theorem put_begun (g : G) (A : GA) (b : Bool) : putF "begun" (.bl b) (gF g A) = gF { g with begun := b } A := by rfl
theorem put_persons (g : G) (A : GA) (k : Nat) : putF "persons" (nv k) (gF g A) = gF { g with k := k } A := by rfl
theorem put_questions (g : G) (A : GA) (k : Nat) : putF "questions" (nv k) (gF g A) = gF { g with q := k } A := by rfl
theorem put_weights (g : G) (A : GA) (p : Addr) (x : List Nat) : putF "weights" (.ref p) (gF g A) = gF { g with weights := x } { A with w := p } := by rfl
theorem put_winning (g : G) (A : GA) (p : Addr) (x : List Nat) : putF "winning" (.ref p) (gF g A) = gF { g with wins := x } { A with v := p } := by rfl
theorem put_owners (g : G) (A : GA) (p : Addr) (x : List Nat) : putF "owners" (.ref p) (gF g A) = gF { g with owners := x } { A with o := p } := by rfl
theorem put_links (g : G) (A : GA) (p : Addr) (x : List (Nat × Nat)) : putF "links" (.ref p) (gF g A) = gF { g with links := x } { A with l := p } := by rfl
theorem put_own (g : G) (A : GA) (p : Addr) (x : List Spin) : putF "own" (.ref p) (gF g A) = gF { g with own := x } { A with n := p } := by rfl
section
variable {P : Program} {w : World} {K : PySem.W.Frag} {mg : Str → Option Value} {base : Heap} {C CM aT aN aW : Addr} {σ : L2.St} {H : Hp} {ta tb tc td ty tl te : TE} {D : Ends} {tz : TS}
theorem q_first {a : Addr} {A : GA} {g : G} (ha : Ev ta σ H (.ref a)) (hG : GameAt C CM H a A g) (hm : g.m ≤ 1000) (k : ∀ A' H', Chg C CM H H' a A A' g.fresh → tz D σ H') : tSeq (tDrop (tCall (spLetFirst C CM) [] E0 (tCons ta tNil))) tz D σ H :=
  q_dropX (ea1 ha H (Ex.refl H) _ fun H2 e2 => ⟨a, A, g, rfl, hG.ex e2, hm, fun A' H' hc => k A' H' (Chg.pre e2 hc)⟩)
/-! ### refresh -/
def spRefresh (C CM : Addr) : Sp := fun vs H Q _ => ∃ (a : Addr) (A : GA) (g : G), vs = [.ref a] ∧ GameAt C CM H a A g ∧ g.m ≤ 1000 ∧ RetC C CM a A (Mir.freshM g) H Q
theorem c_refresh (D : DefAt K mg "refresh" s_refresh) (T : Txt K mg C CM aT aN aW) (c1 : Cal P w K mg base "let_first_be_sure" 4 ["game"] (spLetFirst C CM)) : Cal P w K mg base "refresh" 5 ["game"] (spRefresh C CM) := by
  refine cal_mk D sc_refresh (fun _ _ _ _ _ _ us hl => match us, hl with | [_], _ => rfl) (fun vs H Q E h => ?_) (fun hr => d_refresh c1 T hr) fun vs H Q E h => ?_
  · obtain ⟨a, A, g, rfl, _⟩ := h
    rfl
  · obtain ⟨a, A, g, rfl, hG, hm, k⟩ := h
    refine q_first (ev_var rfl) hG hm fun A' H' hc => ?_
    exact s_retL (el_lst (ea1 (e_m (K := K) T hc.at_ (ev_var rfl))) (by show 1 ≤ 100000; decide)) fun p H2 hp e2 h2 => k p A' H2 (hc.old p hp) (hc.ex e2) h2
/-! ### set_spins, place_spins -/
theorem ms_rep {n : Nat} {x : Spin} (h : EvM CM te σ H x) (hb : ∀ H1, Ex H H1 → Ev tb σ H1 (nv n)) (hn : n ≤ 1000) : ∀ H1, Ex H H1 → ∀ Q : VK, (∀ p vs H2, H1 p = none → Ex H1 H2 → H2 p = some (.lst vs) → Paired (MD CM H1 p H2) vs (List.replicate n x) → Q (.ref p) H2) → tOp rRep (tLst (tCons te tNil)) tb σ H1 Q := fun H1 e Q k =>
  h H1 e _ fun q l H2 hq hl e2 hm => ⟨by show 1 ≤ sizeLine; decide, fun L hL => by
    have e3 : Ex H2 (upd H2 L (.lst [.ref q])) := Ex.new hL
    refine hb _ ((e.trans e2).trans e3) _ (Ex.refl _) _ fun H4 e4 => ⟨L, (n : Int), [.ref q], rfl, rfl, e4 _ _ upd_same, by omega, by omega, small1000 (by rw [List.length_singleton]; omega) |> Nat.le_of_lt, fun p hp => ?_⟩
    rw [Int.toNat_natCast, rep_one]
    have e14 : Ex H1 H4 := (e2.trans e3).trans e4
    have e5 : Ex H4 (upd H4 p (.lst (List.replicate n (V.ref q)))) := Ex.new hp
    have hm4 := (hm.ex e3).ex e4
    obtain ⟨⟨dx, m1⟩, m2⟩ := id hm4
    refine k p _ _ (fresh_back e14 hp) (e14.trans e5) upd_same ?_
    refine paired_of_get (by rw [List.length_replicate, List.length_replicate]) fun i u y hu hy => ?_
    have hu' := List.eq_of_mem_replicate (List.mem_of_getElem? hu)
    have hy' := List.eq_of_mem_replicate (List.mem_of_getElem? hy)
    rw [hu', hy']
    exact ⟨q, l, rfl, hm4.ex e5, hl, ne_new hp m1, ne_new hp m2⟩⟩
theorem s_fldRep {a C dx : Addr} {fs : List (Str × V)} {f : Str} {n : Nat} {x : Spin} (h : EvM CM te σ H x) (hb : ∀ H1, Ex H H1 → Ev tb σ H1 (nv n)) (hn1 : n ≤ 1000) (ha : Ev ta σ H (.ref a)) (ho : H a = some (.ins C dx fs)) (hc : Cls K C) (hn : NoAttr K C f) (hl : fs.length < 1000)
    (k : ∀ p vs H1, H p = none → Ex H H1 → H1 p = some (.lst vs) → Paired (MD CM H p H1) vs (List.replicate n x) → D.nx σ (upd H1 a (.ins C dx (putF f (.ref p) fs)))) : sFld K ta (tOp rRep (tLst (tCons te tNil)) tb) f D σ H :=
  ms_rep h hb hn1 H (Ex.refl H) _ fun p vs H1 hp e1 h1 hm => ha H1 e1 _ fun H2 e2 => ⟨a, C, dx, fs, rfl, (e1.trans e2) _ _ ho, hc, hn, hl, k p vs H2 hp (e1.trans e2) (e2 _ _ h1) (paired_mono hm fun _ _ q => q.ex e2)⟩
def spSetSpins (C CM : Addr) : Sp := fun vs H Q _ => ∃ (a r : Addr) (A : GA) (g : G) (x : List Nat), vs = [.ref a, .ref r] ∧ GameAt C CM H a A g ∧ H r = some (.lst (iv x)) ∧ r ∉ mutA a A ∧ x.length ≤ 1000 ∧ g.k * g.q ≤ 1000 ∧ g.k < 2 ^ 64 ∧ ∀ A' H', Chg C CM H H' a A A' (g.setSpins x) → Q .non H'
theorem c_set_spins (D : DefAt K mg "set_spins" s_set_spins) (T : Txt K mg C CM aT aN aW) (c1 : Cal P w K mg base "let_first_be_sure" 4 ["game"] (spLetFirst C CM)) (c2 : Cal P w K mg base "without_letters" 3 ["spins"] (spBlank CM)) :
    Cal P w K mg base "set_spins" 5 ["game", "owners"] (spSetSpins C CM) := by
  refine cal_mk D sc_set_spins (fun _ _ _ _ _ _ us hl => match us, hl with | [_, _], _ => rfl) (fun vs H Q E h => ?_) (fun hr => d_set_spins c1 c2 T hr) fun vs H Q E h => ?_
  · obtain ⟨a, r, A, g, x, rfl, _⟩ := h
    rfl
  · obtain ⟨a, r, A, g, x, rfl, hG, hr, hrm, hz, hkq, hk, k⟩ := h
    obtain ⟨dx, hob⟩ := hG.ob
    refine q_fldL (l_list (ev_var rfl) (sq_of hr)) (ev_var rfl) hob T.clG T.g_owners (by show 10 < 1000; decide) fun o' H1 ho e1 h1 => ?_
    rw [put_owners _ _ _ x]
    have c1' := hG.newO e1 (e1 _ _ hob) ho h1
    obtain ⟨dx1, hob1⟩ := c1'.at_.ob
    refine q_fldL (el_lst ea_nil (by decide)) (ev_var rfl) hob1 T.clG T.g_links (by show 10 < 1000; decide) fun l' H2 hl e2 h2 => ?_
    rw [put_links _ _ _ []]
    have c2' := c1'.trans (c1'.at_.newL e2 (e2 _ _ hob1) hl h2)
    refine q_first (ev_var rfl) c2'.at_ (by show x.length ≤ 1000; exact hz) fun A3 H3 c3 => ?_
    have c3' := c2'.trans c3
    obtain ⟨dx3, hob3⟩ := c3'.at_.ob
    have hr3 : H3 r = some (.lst (iv x)) := c3'.keep r _ hr hrm
    have hlen : ∀ {σ : L2.St}, σ[1]? = some (some (.ref r)) → Ev (tCB (rLen' K) (tCons (tVar 1) tNil)) σ H3 (nv x.length) := fun h0 => by
      have g1 := e_len (K := K) (H := H3) (ev_var h0) (sq_of hr3)
      rw [iv_len] at g1
      exact g1
    refine s_fldRep (n := g.k * g.q) (m_blank (hlen rfl) hz) (fun H4 e4 => e_mul (i := g.k) (j := g.q) (ev_is (g_persons T (c3'.at_.ex e4) (ev_var rfl)) rfl) (ev_is (g_questions T (c3'.at_.ex e4) (ev_var rfl)) rfl) (.inl hk)) hkq (ev_var rfl) hob3 T.clG T.g_own (by show 10 < 1000; decide) fun n' vs H4 hn e4 h4 hp => ?_
    rw [put_own _ _ _ (List.replicate (g.k * g.q) (blank x.length))]
    exact k _ _ (c3'.trans (c3'.at_.newN e4 (e4 _ _ hob3) hn h4 hp))
theorem q_setSpins {a r : Addr} {A : GA} {g : G} {x : List Nat} (ha : Ev ta σ H (.ref a)) (hb : Ev tb σ H (.ref r)) (hG : GameAt C CM H a A g) (hr : H r = some (.lst (iv x))) (hrm : r ∉ mutA a A) (hz : x.length ≤ 1000) (hkq : g.k * g.q ≤ 1000) (hk : g.k < 2 ^ 64)
    (k : ∀ A' H', Chg C CM H H' a A A' (g.setSpins x) → tz D σ H') : tSeq (tDrop (tCall (spSetSpins C CM) [] E0 (tCons ta (tCons tb tNil)))) tz D σ H :=
  q_dropX (ea2 ha hb H (Ex.refl H) _ fun H2 e2 => ⟨a, r, A, g, x, rfl, hG.ex e2, e2 _ _ hr, hrm, hz, hkq, hk, fun A' H' hc => k A' H' (Chg.pre e2 hc)⟩)
theorem q_setSpinsL {a : Addr} {A : GA} {g : G} {x : List Nat} (ha : Ev ta σ H (.ref a)) (hb : EvL tb σ H (iv x)) (hG : GameAt C CM H a A g) (hz : x.length ≤ 1000) (hkq : g.k * g.q ≤ 1000) (hk : g.k < 2 ^ 64)
    (k : ∀ A' H', Chg C CM H H' a A A' (g.setSpins x) → tz D σ H') : tSeq (tDrop (tCall (spSetSpins C CM) [] E0 (tCons ta (tCons tb tNil)))) tz D σ H :=
  q_dropX (ea2L ha hb H (Ex.refl H) _ fun r H2 hr e2 h2 => ⟨a, r, A, g, x, rfl, hG.ex e2, h2, not_mut hG hr, hz, hkq, hk, fun A' H' hc => k A' H' (Chg.pre e2 hc)⟩)
def spPlace6 (C CM : Addr) (K : PySem.W.Frag) : Sp := fun vs H Q _ => ∃ (a r : Addr) (A : GA) (g : G) (x : List Nat), vs = [.ref a, .ref r] ∧ GameAt C CM H a A g ∧ WG g ∧ H r = some (.lst (iv x)) ∧ r ∉ mutA a A ∧ x.length ≤ 1000 ∧ RetC C CM a A (Mir.spinsM g x) H Q
theorem c_place_spins (D : DefAt K mg "place_spins" s_place_spins) (T : Txt K mg C CM aT aN aW) (c1 : Cal P w K mg base "set_spins" 5 ["game", "owners"] (spSetSpins C CM)) (c2 : Cal P w K mg base "are_owners" 1 ["game", "row"] (spOwners C CM K)) :
    Cal P w K mg base "place_spins" 6 ["game", "row"] (spPlace6 C CM K) := by
  refine cal_mk D sc_place_spins (fun _ _ _ _ _ _ us hl => match us, hl with | [_, _], _ => rfl) (fun vs H Q E h => ?_) (fun hr => d_place_spins c1 c2 T hr) fun vs H Q E h => ?_
  · obtain ⟨a, r, A, g, x, rfl, _⟩ := h
    rfl
  · obtain ⟨a, r, A, g, x, rfl, hG, hW, hr, hrm, hz, k⟩ := h
    have kq := hW.kq
    have k2 := hW.k2
    refine q_when (et_not (et_B (e_owners (ev_var rfl) (ev_var rfl) hG (sq_of hr) (by omega)))) (fun hb H1 e1 => ?_) fun hb H1 e1 => ?_
    · have e : Mir.spinsM g x = (g, [-22]) := by
        unfold Mir.spinsM
        rw [if_pos]
        by_cases h6 : 6 < x.length
        · exact .inl h6
        · rw [decide_eq_false h6] at hb
          exact .inr (by simpa using hb)
      rw [e] at k
      exact s_retL (el_lst (ea1 ev_c) (by decide)) fun p H2 hp e2 h2 => k.same hG e1 hp e2 h2
    · have e : Mir.spinsM g x = (g.setSpins x, [(x.length : Int)]) := by
        unfold Mir.spinsM
        rw [if_neg]
        intro z
        rcases z with z | z
        · rw [decide_eq_true z] at hb
          cases hb
        · rw [z, Bool.and_false] at hb
          cases hb
      rw [e] at k
      have hG1 := hG.ex e1
      refine q_setSpins (ev_var rfl) (ev_var rfl) hG1 (e1 _ _ hr) hrm hz (by omega) (by omega) fun A' H' hc => ?_
      exact s_retL (el_lst (ea1 (e_m (K := K) T hc.at_ (ev_var rfl))) (by show 1 ≤ 100000; decide)) fun p H2 hp e2 h2 => k p A' H2 (fresh_back e1 (hc.old p hp)) (Chg.pre e1 (hc.ex e2)) h2
/-! ### begin -/
def spBegin (C CM : Addr) : Sp := fun vs H Q _ => ∃ (a : Addr) (A : GA) (g : G) (n m : Nat), vs = [.ref a, nv n, nv m] ∧ GameAt C CM H a A g ∧ RetC C CM a A (Mir.beginM g n m) H Q
theorem may_of {n m : Nat} (h : Mir.mayBegin n m = true) : 2 ≤ n ∧ n ≤ 4 ∧ 1 ≤ m ∧ m ≤ 3 ∧ n * m ≤ 8 := of_decide_eq_true h
theorem rows_le {n m : Nat} (h : Mir.mayBegin n m = true) : m ^ n ≤ 81 := by
  obtain ⟨h1, h2, h3, h4, _⟩ := may_of h
  exact Nat.le_trans (Nat.pow_le_pow_left h4 n) (Nat.le_trans (Nat.pow_le_pow_right (by decide) h2) (by decide))
theorem l_reps {n c : Nat} (h : Ev ta σ H (nv c)) (hb : ∀ H1, Ex H H1 → Ev tb σ H1 (nv n)) (hn : n ≤ 1000) : EvL (tOp rRep (tLst (tCons ta tNil)) tb) σ H (iv (List.replicate n c)) := by
  have g1 := l_rep (σ := σ) (H := H) (xs := [nv c]) (n := n) (el_lst (ea1 h) (by show 1 ≤ 100000; decide)) hb (by omega) (by show 1 * n ≤ _; omega)
  rw [rep_one] at g1
  unfold iv
  rw [List.map_replicate]
  exact g1
theorem c_begin (D : DefAt K mg "begin" s_begin) (T : Txt K mg C CM aT aN aW) (c1 : Cal P w K mg base "count_rows" 1 ["persons", "questions"] spCountRows) (c2 : Cal P w K mg base "set_spins" 5 ["game", "owners"] (spSetSpins C CM)) (c3 : Cal P w K mg base "may_begin" 1 ["persons", "questions"] spMay) :
    Cal P w K mg base "begin" 6 ["game", "persons", "questions"] (spBegin C CM) := by
  refine cal_mk D sc_begin (fun _ _ _ _ _ _ us hl => match us, hl with | [_, _, _], _ => rfl) (fun vs H Q E h => ?_) (fun hr => d_begin c1 c2 c3 T hr) fun vs H Q E h => ?_
  · obtain ⟨a, A, g, n, m, rfl, _⟩ := h
    rfl
  · obtain ⟨a, A, g, n, m, rfl, hG, k⟩ := h
    refine q_when (et_not (et_B (e_may (ev_var rfl) (ev_var rfl)))) (fun hb H1 e1 => ?_) fun hb H1 e1 => ?_
    · have hb' : Mir.mayBegin n m = false := by simpa using hb
      have e : Mir.beginM g n m = (g, [-22]) := by
        unfold Mir.beginM
        rw [if_neg (by rw [hb']; decide)]
      rw [e] at k
      exact s_retL (el_lst (ea1 ev_c) (by decide)) fun p H2 hp e2 h2 => k.same hG e1 hp e2 h2
    · have hb' : Mir.mayBegin n m = true := by simpa using hb
      obtain ⟨b1, b2, b3, b4, b5⟩ := may_of hb'
      have hrows := rows_le hb'
      have e : Mir.beginM g n m = (G.setSpins { g with begun := true, k := n, q := m, weights := List.replicate (Mir.countRows n m) 1, wins := List.replicate (Mir.countRows n m) 0 } [], [0]) := by
        unfold Mir.beginM
        rw [if_pos hb']
      rw [e] at k
      refine q_asg (e_count_rows (ev_var rfl) (ev_var rfl) (by omega) (by omega)) fun H2 e2 => ?_
      have hG2 := hG.ex (e1.trans e2)
      obtain ⟨dx, hob⟩ := hG2.ob
      refine q_fld (v := .bl true) ev_c (ev_var rfl) hob T.clG T.g_begun (by show 10 < 1000; decide) fun H3 e3 => ?_
      rw [put_begun]
      have cc1 := Chg.pre e3 ((hG2.ex e3).fld (g' := { g with begun := true }) (e3 _ _ hob) rfl rfl rfl rfl rfl rfl)
      refine q_fld (ev_var rfl) (ev_var rfl) upd_same T.clG T.g_persons (by show 10 < 1000; decide) fun H4 e4 => ?_
      rw [put_persons]
      have cc2 := cc1.trans (Chg.pre e4 ((cc1.at_.ex e4).fld (g' := { g with begun := true, k := n }) (e4 _ _ upd_same) rfl rfl rfl rfl rfl rfl))
      refine q_fld (ev_var rfl) (ev_var rfl) upd_same T.clG T.g_questions (by show 10 < 1000; decide) fun H5 e5 => ?_
      rw [put_questions]
      have cc3 := cc2.trans (Chg.pre e5 ((cc2.at_.ex e5).fld (g' := { g with begun := true, k := n, q := m }) (e5 _ _ upd_same) rfl rfl rfl rfl rfl rfl))
      refine q_fldL (l_reps (n := Mir.countRows n m) (e_cn 1) (fun H6 _ => ev_var rfl) (by show m ^ n ≤ 1000; omega)) (ev_var rfl) upd_same T.clG T.g_weights (by show 10 < 1000; decide) fun w' H6 hw' e6 h6 => ?_
      rw [put_weights _ _ _ (List.replicate (Mir.countRows n m) 1)]
      have cc4 := cc3.trans (cc3.at_.newW e6 (e6 _ _ upd_same) hw' h6)
      refine q_fldL (l_reps (n := Mir.countRows n m) (e_cn 0) (fun H7 _ => ev_var rfl) (by show m ^ n ≤ 1000; omega)) (ev_var rfl) upd_same T.clG T.g_winning (by show 10 < 1000; decide) fun v' H7 hv' e7 h7 => ?_
      rw [put_winning _ _ _ (List.replicate (Mir.countRows n m) 0)]
      have cc5 := cc4.trans (cc4.at_.newV e7 (e7 _ _ upd_same) hv' h7)
      refine q_setSpinsL (x := []) (ev_var rfl) (el_lst ea_nil (by decide)) cc5.at_ (by decide) (by show n * m ≤ 1000; omega) (by show n < 2 ^ 64; omega) fun A' H' hc => ?_
      have cc6 := cc5.trans hc
      exact s_retL (el_lst (ea1 ev_c) (by decide)) fun p H8 hp e8 h8 => k p A' H8 (fresh_back (e1.trans e2) (cc6.old p hp)) (Chg.pre (e1.trans e2) (cc6.ex e8)) h8
end
end My
set_option Elab.async false
set_option linter.all false
set_option maxRecDepth 100000
set_option maxHeartbeats 4000000
namespace My
open PySem PySem.Spec PyProof.Rows L2 Evl
open Su173 (Spin together)
open Mir (G)
open Su175 (okRow blank)
/-! ### link_spins -/
theorem paired_erase {α β : Type} {F : α → β → Prop} : ∀ {a : List α} {b : List β} (i : Nat), Paired F a b → Paired F (a.eraseIdx i) (b.eraseIdx i)
  | _, _, _, .nil => .nil
  | _, _, 0, .cons _ t => t
  | _, _, i + 1, .cons q t => .cons q (paired_erase i t)
theorem erase_at {z : Nat × Nat} : ∀ {zs : List (Nat × Nat)}, zs.contains z = true → ∃ j : Nat, zs[j]? = some z ∧ (∀ (m : Nat) y, m < j → zs[m]? = some y → y ≠ z) ∧ zs.erase z = zs.eraseIdx j
  | [], h => by cases h
  | y :: r, h => by
    by_cases e : y = z
    · subst e
      exact ⟨0, rfl, fun m _ hm => absurd hm (by omega), by rw [List.erase_cons_head]; rfl⟩
    · have h2 : r.contains z = true := by
        rw [List.contains_cons, Bool.or_eq_true] at h
        rcases h with h | h
        · exact absurd (beq_iff_eq.mp h).symm e
        · exact h
      obtain ⟨j, h3, h4, h5⟩ := erase_at h2
      refine ⟨j + 1, h3, fun m u hm hu => ?_, ?_⟩
      · cases m with
        | zero =>
          have e2 : y = u := Option.some.inj hu
          rw [← e2]
          exact e
        | succ m => exact h4 m u (by omega) hu
      · rw [List.erase_cons_tail (by rw [beq_false_of_ne e]; decide), h5]
        rfl
section
variable {P : Program} {w : World} {K : PySem.W.Frag} {mg : Str → Option Value} {base : Heap} {C CM aT aN aW : Addr} {σ : L2.St} {H : Hp} {ta tb tc td ty tl te : TE} {D : Ends} {tz : TS}
theorem s_remP {l p : Addr} {vs : List V} {zs : List (Nat × Nat)} {z : Nat × Nat} (hl : H l = some (.lst vs)) (hp : Paired (PT H) vs zs) (ha : Ev ta σ H (.ref l)) (hb : Ev tb σ H (.ref p)) (hz : H p = some (.tup [nv z.1, nv z.2])) (hin : zs.contains z = true)
    (k : ∀ H1 vs', Ex H H1 → Paired (PT H1) vs' (zs.erase z) → D.nx σ (upd H1 l (.lst vs'))) : tDrop (tBM K "list" (rRemD K) ta (tCons tb tNil)) D σ H := ha H (Ex.refl H) _ fun H1 e1 =>
  ⟨Or.inl ⟨rfl, vs, sq_of (e1 _ _ hl)⟩, hb H1 e1 _ fun H2 e2 => by
    have e12 := e1.trans e2
    obtain ⟨j, h1, h2, h3⟩ := erase_at hin
    have hp2 : Paired (PT H2) vs zs := paired_mono hp fun _ _ q => q.ex e12
    refine ⟨l, .ref p, pD z, vs, zs.map pD, j, pD z, rfl, rfl, e12 _ _ hl, dps_pairs hp2, dp_pair (e12 _ _ hz), pDs_shaped zs, pD_shaped z, by rw [List.getElem?_map, h1]; rfl, by rw [pD_eqv, beq_self_eq_true], fun m z' hm hm2 => ?_, ?_⟩
    · rw [List.getElem?_map] at hm2
      cases h4 : zs[m]? with
      | none => rw [h4] at hm2; cases hm2
      | some y =>
        rw [h4] at hm2
        have e5 := Option.some.inj hm2
        rw [← e5, pD_eqv]
        exact beq_false_of_ne (h2 m y hm h4)
    · refine k H2 _ e12 ?_
      rw [h3]
      exact paired_erase j hp2⟩
def spLink (C CM : Addr) : Sp := fun vs H Q _ => ∃ (a : Addr) (A : GA) (g : G) (i j : Nat), vs = [.ref a, nv i, nv j] ∧ GameAt C CM H a A g ∧ g.m ≤ 1000 ∧ g.links.length ≤ 1000 ∧ RetC C CM a A (Mir.linkM g i j) H Q
theorem c_link_spins (D : DefAt K mg "link_spins" s_link_spins) (T : Txt K mg C CM aT aN aW) (c1 : Cal P w K mg base "let_first_be_sure" 4 ["game"] (spLetFirst C CM)) : Cal P w K mg base "link_spins" 5 ["game", "i", "j"] (spLink C CM) := by
  refine cal_mk D sc_link_spins (fun _ _ _ _ _ _ us hl => match us, hl with | [_, _, _], _ => rfl) (fun vs H Q E h => ?_) (fun hr => d_link_spins c1 T hr) fun vs H Q E h => ?_
  · obtain ⟨a, A, g, i, j, rfl, _⟩ := h
    rfl
  · obtain ⟨a, A, g, i, j, rfl, hG, hm, hll, k⟩ := h
    refine q_when (et_or (et_test (e_ge (ev_var rfl) (e_m (K := K) T hG (ev_var rfl)))) fun _ => et_test (e_ge (ev_var rfl) (e_m (K := K) T hG (ev_var rfl)))) (fun hb H1 e1 => ?_) fun hb H1 e1 => ?_
    · have e : Mir.linkM g i j = (g, [-2]) := by
        unfold Mir.linkM
        rw [if_pos]
        simp at hb
        exact hb
      rw [e] at k
      exact s_retL (el_lst (ea1 ev_c) (by decide)) fun p H2 hp e2 h2 => k.same hG e1 hp e2 h2
    · have hb' : i < g.m ∧ j < g.m := by
        simp at hb
        exact hb
      have n1 : ¬(g.m ≤ i ∨ g.m ≤ j) := by omega
      refine q_when (et_test (e_eq (ev_var rfl) (ev_var rfl))) (fun hb2 H2 e2 => ?_) fun hb2 H2 e2 => ?_
      · have e : Mir.linkM g i j = (g, [-22]) := by
          unfold Mir.linkM
          rw [if_neg n1, if_pos (of_decide_eq_true hb2)]
        rw [e] at k
        exact s_retL (el_lst (ea1 ev_c) (by decide)) fun p H3 hp e3 h3 => k.same hG (e1.trans e2) hp e3 h3
      · have n2 : ¬ i = j := of_decide_eq_false hb2
        have hG2 := hG.ex (e1.trans e2)
        refine q_when (et_B (g_measured T hG2 (ev_var rfl))) (fun hb3 H3 e3 => ?_) fun hb3 H3 e3 => ?_
        · have e : Mir.linkM g i j = (g, [-16]) := by
            unfold Mir.linkM
            rw [if_neg n1, if_neg n2, if_pos hb3]
          rw [e] at k
          exact s_retL (el_lst (ea1 ev_c) (by decide)) fun p H4 hp e4 h4 => k.same hG ((e1.trans e2).trans e3) hp e4 h4
        · have n3 : ¬ g.touched = true := by rw [hb3]; decide
          have e : Mir.linkM g i j = (G.fresh { g with links := if g.links.contains (Mir.pairOf i j) = true then g.links.erase (Mir.pairOf i j) else g.links ++ [Mir.pairOf i j] }, [(((if g.links.contains (Mir.pairOf i j) = true then g.links.erase (Mir.pairOf i j) else g.links ++ [Mir.pairOf i j]).length : Nat) : Int)]) := by
            unfold Mir.linkM
            rw [if_neg n1, if_neg n2, if_neg n3]
          rw [e] at k
          have hG3 := hG2.ex e3
          refine q_asgU (eu_tup (ea2 (e_min (ev_var rfl) (ev_var rfl)) (e_max (ev_var rfl) (ev_var rfl))) (by show 2 ≤ 100000; decide)) fun t H4 ht e4 h4 => ?_
          have e14 := ((e1.trans e2).trans e3).trans e4
          have hG4 := hG3.ex e4
          obtain ⟨vs, l1, l2⟩ := hG4.l
          have rest : ∀ H5 ls, Chg C CM H4 H5 a A A { g with links := ls } → ls = (if g.links.contains (Mir.pairOf i j) = true then g.links.erase (Mir.pairOf i j) else g.links ++ [Mir.pairOf i j]) →
              tSeq (tDrop (tCall (spLetFirst C CM) [] E0 (tCons (tVar 0) tNil))) (tRet (tLst (tCons (tCB (rLen' K) (tCons (tFld K (tVar 0) "links") tNil)) tNil))) { nx := fun _ H' => Q .non H', rt := Q } ((start ["game", "i", "j", "pair"] [.ref a, nv i, nv j]).set 3 (some (.ref t))) H5 := by
            intro H5 ls hc hls
            rw [← hls] at k
            refine q_first (ev_var rfl) hc.at_ hm fun A6 H6 h6 => ?_
            have h46 := hc.trans h6
            obtain ⟨us, u1, u2⟩ := h46.at_.l
            have hl := e_len (K := K) (g_links T h46.at_ (ev_var (σ := (start ["game", "i", "j", "pair"] [.ref a, nv i, nv j]).set 3 (some (.ref t))) (i := 0) rfl)) (sq_of u1)
            rw [Paired.length u2] at hl
            exact s_retL (el_lst (ea1 hl) (by show 1 ≤ 100000; decide)) fun p H7 hp e7 h7 => k p A6 H7 (fresh_back e14 (h46.old p hp)) (Chg.pre e14 (h46.ex e7)) h7
          refine q_if (b := g.links.contains (Mir.pairOf i j)) (et_inB (z := Mir.pairOf i j) (ev_var rfl) (g_links T hG4 (ev_var rfl)) h4 l1 l2) (fun hb5 H5 e5 => ?_) fun hb5 H5 e5 => ?_
          · have hG5 := hG4.ex e5
            refine s_remP (K := K) (z := Mir.pairOf i j) (e5 _ _ l1) (paired_mono l2 fun _ _ q => q.ex e5) (g_links T hG5 (ev_var rfl)) (ev_var rfl) (e5 _ _ h4) hb5 fun H6 vs' e6 hp6 => ?_
            refine rest _ _ (Chg.pre (e5.trans e6) ((hG5.ex e6).setL hp6)) ?_
            rw [if_pos hb5]
          · have hG5 := hG4.ex e5
            refine s_app (K := K) (e5 _ _ l1) (g_links T hG5 (ev_var rfl)) (ev_var rfl) (by have := Paired.length l2; omega) fun H6 e6 => ?_
            have hp6 : Paired (PT H6) (vs ++ [.ref t]) (g.links ++ [Mir.pairOf i j]) := paired_app (paired_mono l2 fun _ _ q => q.ex (e5.trans e6)) (.cons ⟨t, rfl, (e5.trans e6) _ _ h4⟩ .nil)
            refine rest _ _ (Chg.pre (e5.trans e6) ((hG5.ex e6).setL hp6)) ?_
            rw [if_neg (by rw [hb5]; decide)]
/-! ### let_be_sure -/
theorem s_appM {L : Addr} {ys : List V} {x : Spin} (hl : H L = some (.lst ys)) (ha : Ev ta σ H (.ref L)) (h : EvM CM te σ H x) (hz : ys.length < 100000) (k : ∀ p l H1, H l = none → Ex H H1 → MeasAt CM H1 p x l → D.nx σ (upd H1 L (.lst (ys ++ [.ref p])))) :
    tDrop (tBM K "list" rAppend ta (tCons te tNil)) D σ H := ha H (Ex.refl H) _ fun H1 e1 =>
  ⟨Or.inl ⟨rfl, ys, sq_of (e1 _ _ hl)⟩, h H1 e1 _ fun p l H2 hp hl2 e2 hm => ⟨L, ys, .ref p, rfl, rfl, (e1.trans e2) _ _ hl, sz_lt hz, k p l H2 (fresh_back e1 hl2) (e1.trans e2) hm⟩⟩
theorem e_is (h : Ev ta σ H v) : Ev (tOp rIs' ta (tC .non)) σ H (.bl (decide (v = .non))) := fun H1 e Q q => h H1 e _ fun H2 e2 => ⟨rfl, q H2 e2⟩
def besTo (x : Spin) (l : List Spin) (i : Nat) : List Spin × Option Spin := (l.take i).foldl (Mir.besStep x) ([], none)
theorem besTo_more {x y : Spin} {l : List Spin} {i : Nat} (h : l[i]? = some y) : besTo x l (i + 1) = Mir.besStep x (besTo x l i) y := by
  unfold besTo
  rw [take_more h, List.foldl_append]
  rfl
theorem besStep_len (x : Spin) (s : List Spin × Option Spin) (y : Spin) : (Mir.besStep x s y).1.length = s.1.length + 1 := by
  unfold Mir.besStep
  split
  · rw [List.length_append]; rfl
  · split <;> (rw [List.length_append]; rfl)
theorem besTo_len (x : Spin) (l : List Spin) : ∀ i, i ≤ l.length → (besTo x l i).1.length = i
  | 0, _ => rfl
  | i + 1, h => by
    have hi : l[i]? = some l[i] := List.getElem?_eq_getElem (by omega)
    rw [besTo_more hi, besStep_len, besTo_len x l i (by omega)]
def GV (CM : Addr) (L : Addr) (m : Nat) (H : Hp) (v : V) (o : Option Spin) : Prop := (o = none ∧ v = .non) ∨ ∃ s q l, o = some s ∧ v = .ref q ∧ MeasAt CM H q s l ∧ l ≠ L ∧ WM m s
theorem GV.ex {L m} {H H' : Hp} {v : V} {o : Option Spin} (h : GV CM L m H v o) (e : Ex H H') : GV CM L m H' v o := by
  rcases h with h | ⟨s, q, l, h1, h2, h3, h4⟩
  · exact .inl h
  · exact .inr ⟨s, q, l, h1, h2, h3.ex e, h4⟩
theorem GV.put {L m} {H : Hp} {v : V} {o : Option Spin} {ys : List V} {u : HO} (h : GV CM L m H v o) (hL : H L = some (.lst ys)) : GV CM L m (upd H L u) v o := by
  rcases h with h | ⟨s, q, l, h1, h2, ⟨⟨dx, h3⟩, h5⟩, h4, h6⟩
  · exact .inl h
  · exact .inr ⟨s, q, l, h1, h2, ⟨⟨dx, by rw [upd_ne (lst_ne_ins h3 hL)]; exact h3⟩, by rw [upd_ne h4]; exact h5⟩, h4, h6⟩
def spLetBe (C CM : Addr) : Sp := fun vs H Q _ => ∃ (a p l : Addr) (A : GA) (g : G) (x : Spin), vs = [.ref a, .ref p] ∧ GameAt C CM H a A g ∧ WG g ∧ MeasAt CM H p x l ∧ l ∉ mutA a A ∧ WM g.m x ∧ ∀ A' H', Chg C CM H H' a A A' { g with sure := Mir.letBeSure g.sure x } → Q .non H'
theorem c_let_be_sure (D : DefAt K mg "let_be_sure" s_let_be_sure) (T : Txt K mg C CM aT aN aW) (c1 : Cal P w K mg base "go_together" 1 ["one", "other"] (spTogether CM)) (c2 : Cal P w K mg base "product_of" 3 ["one", "other"] (spProd CM)) :
    Cal P w K mg base "let_be_sure" 4 ["game", "measured"] (spLetBe C CM) := by
  refine cal_mk D sc_let_be_sure (fun _ _ _ _ _ _ us hl => match us, hl with | [_, _], _ => rfl) (fun vs H Q E h => ?_) (fun hr => d_let_be_sure c1 c2 T hr) fun vs H Q E h => ?_
  · obtain ⟨a, p, l, A, g, x, rfl, _⟩ := h
    rfl
  · obtain ⟨a, p, l, A, g, x, rfl, hG, hW, hx, hlm, wx, k⟩ := h
    have hs6 := hW.s
    have hm6 := hW.m6
    refine q_asgL (el_lst ea_nil (by decide)) fun L H1 hL e1 h1 => ?_
    refine q_asg ev_c fun H2 e2 => ?_
    have e12 := e1.trans e2
    have hG2 := hG.ex e12
    obtain ⟨ws, s1, s2⟩ := hG.s
    have hLm : L ∉ mutA a A := not_mut hG hL
    have hlL : l ≠ L := ne_new hL hx.2
    refine q_forLn (g_sure T hG2 (ev_var rfl)) (sq_of (e12 _ _ s1)) (fun i σ' H' => Ex H H' ∧ ∃ ys gv v, σ' = [some (.ref a), some (.ref p), some (.ref L), some gv, v] ∧ H' L = some (.lst ys) ∧ Paired (MS CM H' (L :: mutA a A)) ys (besTo x g.sure i).1 ∧ GV CM L g.m H' gv (besTo x g.sure i).2)
      (fun H3 e3 => ⟨e12.trans e3, [], .non, none, rfl, (e2.trans e3) _ _ h1, .nil, .inl ⟨rfl, rfl⟩⟩) (fun i σ' H' _ q => sq_of (q.1 _ _ s1)) ?_ ?_
    · rintro i u σ' H' hi ⟨e3, ys, gv, v, rfl, h3, h4, h5⟩
      obtain ⟨y, hy, q, ly, rfl, hmy, hly⟩ := Paired.get s2 hi
      have hil := lt_of_get hy
      have wy := hW.s2 y (List.mem_of_getElem? hy)
      have hyl := Paired.length h4
      rw [besTo_len x g.sure i (by omega)] at hyl
      have lyL : ly ≠ L := ne_new hL hmy.2
      have hmy3 := hmy.ex e3
      have hx3 := hx.ex e3
      have putMS : ∀ {H4 : Hp} {v : V} {z : Spin} {u : HO}, Ex H' H4 → MS CM H' (L :: mutA a A) v z → MS CM (upd H4 L u) (L :: mutA a A) v z := fun e4 r => (r.ex e4).put (List.mem_cons_self ..) (e4 _ _ h3)
      have keep : ∀ {H4 : Hp} {u : HO}, Ex H' H4 → Ex H (upd H4 L u) := fun e4 => Ex.mut (e3.trans e4) hL
      refine s_if (b := together y x) (et_B (e_together (ev_var rfl) (ev_var rfl) hmy3 hx3 (by rw [wy.1, wx.1]))) (fun hb H4 e4 => ?_) fun hb H4 e4 => ?_
      · have eb : besTo x g.sure (i + 1) = ((besTo x g.sure i).1 ++ [y], (besTo x g.sure i).2) := by
          rw [besTo_more hy]
          unfold Mir.besStep
          rw [if_pos hb]
        refine s_app (e4 _ _ h3) (ev_var rfl) (ev_var rfl) (by omega) fun H5 e5 => ⟨keep (e4.trans e5), _, gv, some (.ref q), rfl, upd_same, ?_, ?_⟩
        · rw [eb]
          refine paired_app (paired_mono h4 fun _ _ r => putMS (e4.trans e5) r) (.cons ?_ .nil)
          exact putMS (e4.trans e5) ⟨q, ly, rfl, hmy3, fun z => by rcases List.mem_cons.mp z with z | z; exact lyL z; exact hly z⟩
        · rw [eb]
          exact (h5.ex (e4.trans e5)).put ((e4.trans e5) _ _ h3)
      · rcases h5 with ⟨h6, rfl⟩ | ⟨s, q', l', h6, rfl, hmg, hlg, wg⟩
        · have eb : besTo x g.sure (i + 1) = ((besTo x g.sure i).1 ++ [x], some y) := by
            rw [besTo_more hy]
            unfold Mir.besStep
            rw [if_neg (by rw [hb]; decide), h6]
          refine s_if (b := true) (et_is (et_test (e_is (ev_var rfl))) (by decide)) (fun _ H5 e5 => ?_) fun hb2 => by cases hb2
          refine q_asg (ev_var rfl) fun H6 e6 => ?_
          have e46 := (e4.trans e5).trans e6
          refine s_app (e46 _ _ h3) (ev_var rfl) (ev_var rfl) (by omega) fun H7 e7 => ⟨keep (e46.trans e7), _, .ref q, some (.ref q), rfl, upd_same, ?_, ?_⟩
          · rw [eb]
            refine paired_app (paired_mono h4 fun _ _ r => putMS (e46.trans e7) r) (.cons ?_ .nil)
            exact putMS (e46.trans e7) ⟨p, l, rfl, hx3, fun z => by rcases List.mem_cons.mp z with z | z; exact hlL z; exact hlm z⟩
          · rw [eb]
            exact GV.put (.inr ⟨y, q, ly, rfl, rfl, hmy3.ex (e46.trans e7), lyL, wy⟩) ((e46.trans e7) _ _ h3)
        · have eb : besTo x g.sure (i + 1) = ((besTo x g.sure i).1 ++ [Mir.mulP y s], some s) := by
            rw [besTo_more hy]
            unfold Mir.besStep
            rw [if_neg (by rw [hb]; decide), h6]
          refine s_if (b := false) (et_is (et_test (e_is (ev_var rfl))) (by exact decide_eq_false (fun z => by cases z))) (fun hb2 => by cases hb2) fun _ H5 e5 => ?_
          have e45 := e4.trans e5
          refine s_appM (e45 _ _ h3) (ev_var rfl) (m_prod (ev_var rfl) (ev_var rfl) (hmy3.ex e45) (hmg.ex e45) (by omega) wy wg) (by omega) fun n ln H6 hln e6 hmn => ⟨keep (e45.trans e6), _, .ref q', some (.ref q), rfl, upd_same, ?_, ?_⟩
          · rw [eb]
            refine paired_app (paired_mono h4 fun _ _ r => putMS (e45.trans e6) r) (.cons ?_ .nil)
            have hLn : ln ≠ L := fun z => by rw [z, e45 _ _ h3] at hln; cases hln
            refine MS.put (ys := ys) ⟨n, ln, rfl, hmn, fun z => ?_⟩ (List.mem_cons_self ..) ((e45.trans e6) _ _ h3)
            rcases List.mem_cons.mp z with z | z
            · exact hLn z
            · exact not_mut (hG.ex (e3.trans e45)) hln z
          · rw [eb]
            exact GV.put (.inr ⟨s, q', l', rfl, rfl, hmg.ex (e45.trans e6), hlg, wg⟩) ((e45.trans e6) _ _ h3)
    · rintro σ' H' ⟨e3, ys, gv, v, rfl, h3, h4, h5⟩
      rw [Paired.length s2] at h4
      have eb : (besTo x g.sure g.sure.length).1 = Mir.letBeSure g.sure x := by
        unfold besTo Mir.letBeSure
        rw [List.take_length]
      rw [eb] at h4
      have hG3 := hG.ex e3
      obtain ⟨dx, hob⟩ := hG3.ob
      refine s_fld (ev_var rfl) (ev_var rfl) hob T.clG T.g_sure (by show 10 < 1000; decide) fun H4 e4 => ?_
      rw [put_sure _ _ _ (Mir.letBeSure g.sure x)]
      have fr : ∀ {b : Addr} {o : HO}, H b = some o → L ≠ b := fun hb z => by rw [z, hb] at hL; cases hL
      obtain ⟨_, hl, _⟩ := hG.l
      obtain ⟨_, hn, _⟩ := hG.n
      have hG4 := hG3.ex e4
      have hc := hG4.newS (s' := L) (e4 _ _ hob) (e4 _ _ h3) ⟨fr hG.w, fr hG.v, fr hG.o, fr hl, fr hn⟩ (paired_mono h4 fun _ _ q => by
        obtain ⟨p1, l1, rfl, q1, q2⟩ := q
        exact ⟨p1, l1, rfl, q1.ex e4, fun z => q2 (List.mem_cons_of_mem _ z)⟩)
      exact k _ _ (Chg.pre (e3.trans e4) hc)
/-! ### measure -/
def spMeasure (C CM : Addr) (K : PySem.W.Frag) : Sp := fun vs H Q _ => ∃ (a r : Addr) (A : GA) (g : G) (c : Nat) (l : List Nat), vs = [.ref a, nv c, .ref r] ∧ GameAt C CM H a A g ∧ WG g ∧ H r = some (.lst (iv l)) ∧ r ∉ mutA a A ∧ l.length ≤ 40000 ∧ RetC C CM a A (Mir.measureM g c l) H Q
theorem wm_of {m c : Nat} {l : List Nat} (h : okRow m 4 l = true) : WM m ⟨c, l⟩ := okRow_iff.mp h
theorem c_measure (D : DefAt K mg "measure" s_measure) (T : Txt K mg C CM aT aN aW) (c1 : Cal P w K mg base "signs_that_are_sure" 5 ["game"] (spSigns C CM)) (c2 : Cal P w K mg base "let_be_sure" 4 ["game", "measured"] (spLetBe C CM)) (c3 : Cal P w K mg base "are_letters" 1 ["row", "spins"] (spLetters K))
    (cM : MkC P w K mg base "Measurement" CM 1 ["self", "sign", "letters"] (spMInit CM)) : Cal P w K mg base "measure" 6 ["game", "outcome", "letters"] (spMeasure C CM K) := by
  refine cal_mk D sc_measure (fun _ _ _ _ _ _ us hl => match us, hl with | [_, _, _], _ => rfl) (fun vs H Q E h => ?_) (fun hr => d_measure c1 c2 c3 cM T hr) fun vs H Q E h => ?_
  · obtain ⟨a, r, A, g, c, l, rfl, _⟩ := h
    rfl
  · obtain ⟨a, r, A, g, c, l, rfl, hG, hW, hr, hrm, hz, k⟩ := h
    refine q_when (et_or (et_not (et_B (e_letters (ev_var rfl) (e_m (K := K) T hG (ev_var rfl)) (sq_of hr) hz))) fun _ => et_test (e_gt (ev_var rfl) (e_cn 1))) (fun hb H1 e1 => ?_) fun hb H1 e1 => ?_
    · have e : Mir.measureM g c l = (g, [-22]) := by
        unfold Mir.measureM
        rw [if_pos]
        simp at hb
        exact hb
      rw [e] at k
      exact s_retL (el_lst (ea1 ev_c) (by decide)) fun p H2 hp e2 h2 => k.same hG e1 hp e2 h2
    · have hb' : okRow g.m 4 l = true ∧ c ≤ 1 := by
        simp at hb
        exact hb
      have e0 : Mir.measureM g c l = match g.signs l with
          | none => ({ g with sure := Mir.letBeSure g.sure ⟨c, l⟩, touched := true }, [1])
          | some s => if s ≠ c then (g, [-33]) else (g, [2]) := by
        unfold Mir.measureM
        rw [if_neg (by rw [hb'.1]; intro z; rcases z with z | z; cases z; omega)]
        all_goals (cases g.signs l <;> rfl)
      have hG1 := hG.ex e1
      refine q_asgD (d_signs (ev_var rfl) hG1 hW) fun d H2 e2 hD => ?_
      have e12 := e1.trans e2
      have hr2 := e12 _ _ hr
      have hG2 := hG.ex e12
      refine q_when (et_notinU (u_tuple (K := K) (ev_var rfl) (sq_of hr2)) (fun H3 _ => ev_var rfl) hD) (fun hb2 H3 e3 => ?_) fun hb2 H3 e3 => ?_
      · have hs : g.signs l = none := by
          cases hs : g.signs l with
          | none => rfl
          | some c => rw [hs] at hb2; cases hb2
        rw [e0, hs] at k
        have e13 := e12.trans e3
        have hG3 := hG.ex e13
        refine q_dropX ?_
        refine (ev_var (i := 0) (v := .ref a) rfl) H3 (Ex.refl H3) _ fun H4 e4 => ?_
        refine t_make (CM := CM) (s := c) (l := r) (ea2 (ev_var (i := 1) rfl) (ev_var (i := 2) rfl)) H4 (Ex.refl H4) _ fun p H5 hp e5 h5 => ?_
        have e15 := (e13.trans e4).trans e5
        refine ⟨a, p, r, A, g, ⟨c, l⟩, rfl, hG.ex e15, hW, ⟨h5, e15 _ _ hr⟩, hrm, wm_of hb'.1, fun A' H' hc => ?_⟩
        obtain ⟨dx, hob⟩ := hc.at_.ob
        refine q_fld (v := .bl true) ev_c (ev_var rfl) hob T.clG T.g_measured (by show 10 < 1000; decide) fun H6 e6 => ?_
        rw [put_measured]
        have hc2 := hc.trans (Chg.pre e6 ((hc.at_.ex e6).fld (g' := { g with sure := Mir.letBeSure g.sure ⟨c, l⟩, touched := true }) (e6 _ _ hob) rfl rfl rfl rfl rfl rfl))
        exact s_retL (el_lst (ea1 ev_c) (by decide)) fun q H7 hq e7 h7 => k q A' H7 (fresh_back e15 (hc2.old q hq)) (Chg.pre e15 (hc2.ex e7)) h7
      · obtain ⟨s, hs⟩ : ∃ s, g.signs l = some s := by
          cases hs : g.signs l with
          | none => rw [hs] at hb2; cases hb2
          | some c => exact ⟨c, rfl⟩
        rw [e0, hs] at k
        have e13 := e12.trans e3
        refine q_when (et_test (e_ne (e_dgetU (ev_var rfl) (u_tuple (K := K) (ev_var rfl) (sq_of (e3 _ _ hr2))) (hD.ex e3) hs) (ev_var rfl))) (fun hb3 H4 e4 => ?_) fun hb3 H4 e4 => ?_
        · have e : (if s ≠ c then (g, ([-33] : List Int)) else (g, [2])) = (g, [-33]) := if_pos (by simpa using hb3)
          rw [show (match some s with | none => ({ g with sure := Mir.letBeSure g.sure ⟨c, l⟩, touched := true }, [1]) | some s => if s ≠ c then (g, ([-33] : List Int)) else (g, [2])) = (g, [-33]) from e] at k
          exact s_retL (el_lst (ea1 ev_c) (by decide)) fun p H5 hp e5 h5 => k.same hG (e13.trans e4) hp e5 h5
        · have e : (if s ≠ c then (g, ([-33] : List Int)) else (g, [2])) = (g, [2]) := if_neg (by simpa using hb3)
          rw [show (match some s with | none => ({ g with sure := Mir.letBeSure g.sure ⟨c, l⟩, touched := true }, [1]) | some s => if s ≠ c then (g, ([-33] : List Int)) else (g, [2])) = (g, [2]) from e] at k
          exact s_retL (el_lst (ea1 ev_c) (by decide)) fun p H5 hp e5 h5 => k.same hG (e13.trans e4) hp e5 h5
end
end My
set_option Elab.async false
set_option linter.all false
set_option maxRecDepth 100000
set_option maxHeartbeats 4000000
namespace My
open PySem PySem.Spec PyProof.Rows L2 Evl
open Su173 (Spin together)
open Mir (G)
open Su175 (okRow blank)
/-! ### Game -/
def spGInit (C CM : Addr) : Sp := fun vs H Q _ => ∃ (x dx : Addr), vs = [.ref x] ∧ H x = some (.ins C dx []) ∧ ∀ A H', GameAt C CM H' x A G.new → (∀ b o, H b = some o → b ≠ x → H' b = some o) → (∀ b ∈ mutA x A, b = x ∨ H b = none) → Q .non H'
def GI (C : Addr) (H : Hp) (x dx : Addr) (fs : List (Str × V)) (ps : List Addr) (H' : Hp) : Prop := H' x = some (.ins C dx fs) ∧ (∀ p ∈ ps, H' p = some (.lst []) ∧ H p = none) ∧ ps.Nodup ∧ (∀ b o, H b = some o → b ≠ x → H' b = some o) ∧ (∀ b, H' b = none → H b = none)
section
variable {P : Program} {w : World} {K : PySem.W.Frag} {mg : Str → Option Value} {base : Heap} {C CM aT aN aW : Addr} {σ : L2.St} {H : Hp} {ta tb tc td ty tl te : TE} {D : Ends} {tz : TS}
theorem gi_v {x dx : Addr} {fs : List (Str × V)} {ps : List Addr} {H' : Hp} {f : Str} {v : V} (h : GI C H x dx fs ps H') (hv : ∀ H1, Ev te σ H1 v) (ha : ∀ H1, Ev ta σ H1 (.ref x)) (hc : Cls K C) (hn : NoAttr K C f) (hl : fs.length < 1000)
    (k : ∀ H1, GI C H x dx (putF f v fs) ps H1 → D.nx σ H1) : sFld K ta te f D σ H' := by
  obtain ⟨h1, h2, h3, h4, h5⟩ := h
  refine s_fld (hv _) (ha _) h1 hc hn hl fun H1 e1 => k _ ⟨upd_same, fun p hp => ?_, h3, upd_keep fun b o hb hx => e1 _ _ (h4 b o hb hx), fun b hb => h5 b (fresh_back e1 (fresh_upd hb))⟩
  obtain ⟨q1, q2⟩ := h2 p hp
  exact ⟨by rw [upd_ne (lst_ne_ins h1 q1).symm]; exact e1 _ _ q1, q2⟩
theorem gi_l {x dx : Addr} {fs : List (Str × V)} {ps : List Addr} {H' : Hp} {f : Str} (h : GI C H x dx fs ps H') (ha : ∀ H1, Ev ta σ H1 (.ref x)) (hc : Cls K C) (hn : NoAttr K C f) (hl : fs.length < 1000)
    (k : ∀ p H1, GI C H x dx (putF f (.ref p) fs) (p :: ps) H1 → D.nx σ H1) : sFld K ta (tLst tNil) f D σ H' := by
  obtain ⟨h1, h2, h3, h4, h5⟩ := h
  refine s_fldL (el_lst ea_nil (by decide)) (ha _) h1 hc hn hl fun p H1 hp e1 hl1 => k p _ ⟨upd_same, fun q hq => ?_, ?_, upd_keep fun b o hb hx => e1 _ _ (h4 b o hb hx), fun b hb => h5 b (fresh_back e1 (fresh_upd hb))⟩
  · rcases List.mem_cons.mp hq with rfl | hq
    · exact ⟨by rw [upd_ne (fun z => by rw [z, h1] at hp; cases hp)]; exact hl1, h5 _ hp⟩
    · obtain ⟨q1, q2⟩ := h2 q hq
      exact ⟨by rw [upd_ne (lst_ne_ins h1 q1).symm]; exact e1 _ _ q1, q2⟩
  · refine List.nodup_cons.mpr ⟨fun hm => ?_, h3⟩
    rw [(h2 p hm).1] at hp
    cases hp
theorem c_Game (D : MDef K mg "Game" C "Game.__init__" s_Game_init) (T : Txt K mg C CM aT aN aW) : MkC P w K mg base "Game" C 1 ["self"] (spGInit C CM) := by
  refine mkc_mk D sc_Game_init (fun _ _ _ _ _ _ us hl => match us, hl with | [_], _ => rfl) (fun vs H Q E h => ?_) (fun hr => d_Game_init T hr) fun vs H Q E h => ?_
  · obtain ⟨x, dx, rfl, _⟩ := h
    rfl
  · obtain ⟨x, dx, rfl, hx, k⟩ := h
    have h0 : GI C H x dx [] [] H := ⟨hx, fun p hp => (by cases hp), List.nodup_nil, fun b o hb _ => hb, fun b hb => hb⟩
    refine gi_v h0 (v := .bl false) (fun _ => ev_c) (fun _ => ev_var rfl) T.clG T.g_begun (by decide) fun H1 h1 => ?_
    refine gi_v h1 (v := nv 0) (fun _ => e_cn 0) (fun _ => ev_var rfl) T.clG T.g_persons (by show 1 < 1000; decide) fun H2 h2 => ?_
    refine gi_v h2 (v := nv 0) (fun _ => e_cn 0) (fun _ => ev_var rfl) T.clG T.g_questions (by show 2 < 1000; decide) fun H3 h3 => ?_
    refine gi_l h3 (fun _ => ev_var rfl) T.clG T.g_weights (by show 3 < 1000; decide) fun p1 H4 h4 => ?_
    refine gi_l h4 (fun _ => ev_var rfl) T.clG T.g_winning (by show 4 < 1000; decide) fun p2 H5 h5 => ?_
    refine gi_l h5 (fun _ => ev_var rfl) T.clG T.g_owners (by show 5 < 1000; decide) fun p3 H6 h6 => ?_
    refine gi_l h6 (fun _ => ev_var rfl) T.clG T.g_links (by show 6 < 1000; decide) fun p4 H7 h7 => ?_
    refine gi_l h7 (fun _ => ev_var rfl) T.clG T.g_sure (by show 7 < 1000; decide) fun p5 H8 h8 => ?_
    refine gi_v h8 (v := .bl false) (fun _ => ev_c) (fun _ => ev_var rfl) T.clG T.g_measured (by show 8 < 1000; decide) fun H9 h9 => ?_
    refine gi_l h9 (fun _ => ev_var rfl) T.clG T.g_own (by show 9 < 1000; decide) fun p6 H10 h10 => ?_
    obtain ⟨g1, g2, g3, g4, g5⟩ := h10
    have nd : Nd ⟨p1, p2, p3, p4, p5, p6⟩ := by
      have := g3
      simp only [List.nodup_cons, List.mem_cons, List.not_mem_nil, or_false, not_or, List.nodup_nil, and_true, not_false_eq_true] at this
      obtain ⟨⟨a1, a2, a3, a4, a5⟩, ⟨b1, b2, b3, b4⟩, ⟨c1, c2, c3⟩, ⟨d1, d2⟩, e1⟩ := this
      exact ⟨Ne.symm e1, Ne.symm d2, Ne.symm c3, Ne.symm b4, Ne.symm a5, Ne.symm d1, Ne.symm c2, Ne.symm b3, Ne.symm a4, Ne.symm c1, Ne.symm b2, Ne.symm a3, Ne.symm b1, Ne.symm a2, Ne.symm a1⟩
    have m1 := g2 p1 (by simp)
    have m2 := g2 p2 (by simp)
    have m3 := g2 p3 (by simp)
    have m4 := g2 p4 (by simp)
    have m5 := g2 p5 (by simp)
    have m6 := g2 p6 (by simp)
    refine k ⟨p1, p2, p3, p4, p5, p6⟩ H10 ⟨⟨dx, ?_⟩, m1.1, m2.1, m3.1, ⟨[], m4.1, .nil⟩, ⟨[], m5.1, .nil⟩, ⟨[], m6.1, .nil⟩, nd_iff.mpr nd⟩ g4 fun b hb => ?_
    · rw [g1]
      rfl
    · simp only [mutA, List.mem_cons, List.not_mem_nil, or_false] at hb
      rcases hb with rfl | rfl | rfl | rfl | rfl
      · exact .inl rfl
      · exact .inr m1.2
      · exact .inr m2.2
      · exact .inr m4.2
      · exact .inr m6.2
/-! ### the calls handed on -/
theorem RetC.ex {a : Addr} {A : GA} {r : G × List Int} {H1 : Hp} {Q : VK} (k : RetC C CM a A r H Q) (e : Ex H H1) : RetC C CM a A r H1 Q := fun p A' H' hp hc h => k p A' H' (fresh_back e hp) (Chg.pre e hc) h
theorem RetC.pure {a : Addr} {A : GA} {g : G} {r : List Int} {Q : VK} (k : RetC C CM a A (g, r) H Q) (hG : GameAt C CM H a A g) : RetL (rl r) H Q := fun p H2 hp e h => k p A H2 hp (Chg.of hG e) h
theorem ea3L {xs : List V} {v v2 : V} {tb2 : TE} (h : Ev ta σ H v) (h2 : Ev tb σ H v2) (h3 : EvL tb2 σ H xs) : ∀ H1, Ex H H1 → ∀ Q : List V → Hp → Prop, (∀ l H2, H1 l = none → Ex H1 H2 → H2 l = some (.lst xs) → Q [v, v2, .ref l] H2) → tCons ta (tCons tb (tCons tb2 tNil)) σ H1 Q := fun H1 e Q q =>
  h H1 e _ fun H2 e2 => h2 H2 (e.trans e2) _ fun H3 e3 => h3 H3 ((e.trans e2).trans e3) _ fun l H4 hl e4 h4 => q l H4 (fresh_back (e2.trans e3) hl) ((e2.trans e3).trans e4) h4
theorem ea5L {xs : List V} {v v2 v3 v4 : V} {t2 t3 t4 t5 : TE} (h : Ev ta σ H v) (h2 : Ev t2 σ H v2) (h3 : Ev t3 σ H v3) (h4 : Ev t4 σ H v4) (h5 : EvL t5 σ H xs) : ∀ H1, Ex H H1 → ∀ Q : List V → Hp → Prop, (∀ l H2, H1 l = none → Ex H1 H2 → H2 l = some (.lst xs) → Q [v, v2, v3, v4, .ref l] H2) → tCons ta (tCons t2 (tCons t3 (tCons t4 (tCons t5 tNil)))) σ H1 Q := fun H1 e Q q =>
  h H1 e _ fun H2 e2 => h2 H2 (e.trans e2) _ fun H3 e3 => h3 H3 ((e.trans e2).trans e3) _ fun H4 e4 => h4 H4 (((e.trans e2).trans e3).trans e4) _ fun H5 e5 => h5 H5 ((((e.trans e2).trans e3).trans e4).trans e5) _ fun l H6 hl e6 h6 => q l H6 (fresh_back (((e2.trans e3).trans e4).trans e5) hl) ((((e2.trans e3).trans e4).trans e5).trans e6) h6
/-- how many numbers must stand behind a call's number -/
def need (p : Nat) : Nat := if p = 0 ∨ p = 8 then 2 else if p = 12 then 3 else if p = 1 ∨ p = 2 ∨ p = 3 ∨ p = 6 ∨ p = 11 then 1 else 0
def spOf (C CM : Addr) (lo hi : Nat) : Sp := fun vs H Q _ => ∃ (a r : Addr) (A : GA) (g : G) (p : Nat) (l : List Nat), vs = [.ref a, nv p, .ref r] ∧ GameAt C CM H a A g ∧ g.begun = true ∧ WG g ∧ H r = some (.lst (iv l)) ∧ l.length ≤ 1000 ∧ lo ≤ p ∧ p ≤ hi ∧ need p ≤ l.length ∧ RetC C CM a A (Mir.doM g p l) H Q
theorem do_of {g : G} {p : Nat} {l : List Nat} (h : g.begun = true) (hp : p ≠ 0) : Mir.doM g p l = match (generalizing := false) p with
  | 1 => Mir.winsM g (l.getD 0 0) (l.drop 2)
  | 2 => Mir.oddM g (l.getD 0 0) (l.drop 2)
  | 3 => Mir.countsM g (l.getD 0 0) (l.drop 2)
  | 4 => (g, Mir.planM g (l.drop 1))
  | 5 => (g, Mir.bestM g)
  | 6 => (g, Mir.plansM g (l.getD 0 0))
  | 7 => Mir.spinsM g (l.drop 1)
  | 8 => Mir.linkM g (l.getD 0 0) (l.getD 1 0)
  | 9 => Mir.freshM g
  | 10 => (g, Mir.sureM g (l.drop 1))
  | 11 => Mir.measureM g (l.getD 0 0) (l.drop 2)
  | 12 => Mir.mineM g (l.getD 0 0) (l.getD 1 0) (l.getD 2 0) (l.drop 4)
  | 13 => (g, Mir.chanceM g (l.drop 1))
  | 14 => (g, Mir.parityM g (l.drop 1))
  | 15 => (g, Mir.valueM g)
  | 16 => (g, Mir.rowM g (l.drop 1))
  | _ => (g, Mir.stateM g) := by
  unfold Mir.doM
  rw [if_neg hp, if_neg (by rw [h]; decide)]
  all_goals rfl
theorem e_at {r : Addr} {l : List Nat} {i : Nat} (ha : Ev ta σ H (.ref r)) (hb : Ev tb σ H (nv i)) (hr : H r = some (.lst (iv l))) (hi : i < l.length) : Ev (tOp (rIxL K) ta tb) σ H (nv (l.getD i 0)) := e_ixL ha hb (sq_of hr) (iv_at (getD_lt hi))
theorem drop_le (l : List Nat) (n : Nat) (h : l.length ≤ 1000) : (l.drop n).length ≤ 40000 := by
  rw [List.length_drop]
  omega
theorem c_of_plans (D : DefAt K mg "answer_of_plans" s_answer_of_plans) (T : Txt K mg C CM aT aN aW) (c1 : Cal P w K mg base "plans_that_win" 4 ["game", "much"] (spPlans C CM)) (c2 : Cal P w K mg base "let_win" 2 ["game", "which", "row"] (spWin C CM K)) (c3 : Cal P w K mg base "let_sum_win" 3 ["game", "parity", "row"] (spOdd C CM K))
    (c4 : Cal P w K mg base "let_count" 2 ["game", "much", "row"] (spCnt C CM K)) (c5 : Cal P w K mg base "try_plan" 4 ["game", "row"] (spTry C CM K)) (c6 : Cal P w K mg base "best_plan" 4 ["game"] (spBest C CM)) : Cal P w K mg base "answer_of_plans" 5 ["game", "kind", "given"] (spOf C CM 1 6) := by
  refine cal_mk D sc_answer_of_plans (fun _ _ _ _ _ _ us hl => match us, hl with | [_, _, _], _ => rfl) (fun vs H Q E h => ?_) (fun hr => d_answer_of_plans c1 c2 c3 c4 c5 c6 T hr) fun vs H Q E h => ?_
  · obtain ⟨a, r, A, g, p, l, rfl, _⟩ := h
    rfl
  · obtain ⟨a, r, A, g, p, l, rfl, hG, hb, hW, hr, hz, lo, hi, hn, k⟩ := h
    rw [do_of hb (by omega)] at k
    have ev0 : ∀ H, Ev (tVar 0) (start ["game", "kind", "given"] [.ref a, nv p, .ref r]) H (.ref a) := fun _ => ev_var rfl
    have ev2 : ∀ H, Ev (tVar 2) (start ["game", "kind", "given"] [.ref a, nv p, .ref r]) H (.ref r) := fun _ => ev_var rfl
    refine q_when (et_test (e_eq (ev_var rfl) (e_cn 1))) (fun t1 H1 e1 => ?_) fun t1 H1 e1 => ?_
    · have := of_decide_eq_true t1
      subst this
      refine s_retX (ea3L (ev0 _) (e_at (K := K) (ev2 _) (e_cn 0) (e1 _ _ hr) hn) (l_from (ev2 _) (e_cn 2) (sq_of (e1 _ _ hr))) H1 (Ex.refl _) _ fun r' H2 hr' e2 h2 => ?_)
      exact ⟨a, r', A, g, _, _, rfl, hG.ex (e1.trans e2), hW, sq_of h2, drop_le _ _ hz, k.ex (e1.trans e2)⟩
    have n1 : p ≠ 1 := of_decide_eq_false t1
    refine q_when (et_test (e_eq (ev_var rfl) (e_cn 2))) (fun t2 H2 e2 => ?_) fun t2 H2 e2 => ?_
    · have := of_decide_eq_true t2
      subst this
      have e12 := e1.trans e2
      refine s_retX (ea3L (ev0 _) (e_at (K := K) (ev2 _) (e_cn 0) (e12 _ _ hr) hn) (l_from (ev2 _) (e_cn 2) (sq_of (e12 _ _ hr))) H2 (Ex.refl _) _ fun r' H3 hr' e3 h3 => ?_)
      exact ⟨a, r', A, g, _, _, rfl, hG.ex (e12.trans e3), hW, sq_of h3, drop_le _ _ hz, k.ex (e12.trans e3)⟩
    have n2 : p ≠ 2 := of_decide_eq_false t2
    refine q_when (et_test (e_eq (ev_var rfl) (e_cn 3))) (fun t3 H3 e3 => ?_) fun t3 H3 e3 => ?_
    · have := of_decide_eq_true t3
      subst this
      have e13 := (e1.trans e2).trans e3
      refine s_retX (ea3L (ev0 _) (e_at (K := K) (ev2 _) (e_cn 0) (e13 _ _ hr) hn) (l_from (ev2 _) (e_cn 2) (sq_of (e13 _ _ hr))) H3 (Ex.refl _) _ fun r' H4 hr' e4 h4 => ?_)
      exact ⟨a, r', A, g, _, _, rfl, hG.ex (e13.trans e4), hW, sq_of h4, drop_le _ _ hz, k.ex (e13.trans e4)⟩
    have n3 : p ≠ 3 := of_decide_eq_false t3
    refine q_when (et_test (e_eq (ev_var rfl) (e_cn 4))) (fun t4 H4 e4 => ?_) fun t4 H4 e4 => ?_
    · have := of_decide_eq_true t4
      subst this
      have e14 := ((e1.trans e2).trans e3).trans e4
      refine s_retX (ea2L (ev0 _) (l_from (ev2 _) (e_cn 1) (sq_of (e14 _ _ hr))) H4 (Ex.refl _) _ fun r' H5 hr' e5 h5 => ?_)
      exact ⟨a, r', A, g, _, rfl, hG.ex (e14.trans e5), hW, sq_of h5, drop_le _ _ hz, (k.ex (e14.trans e5)).pure (hG.ex (e14.trans e5))⟩
    have n4 : p ≠ 4 := of_decide_eq_false t4
    refine q_when (et_test (e_eq (ev_var rfl) (e_cn 5))) (fun t5 H5 e5 => ?_) fun t5 H5 e5 => ?_
    · have := of_decide_eq_true t5
      subst this
      have e15 := (((e1.trans e2).trans e3).trans e4).trans e5
      refine s_retX (ea1 (ev0 _) H5 (Ex.refl _) _ fun H6 e6 => ?_)
      exact ⟨a, A, g, rfl, hG.ex (e15.trans e6), hW, (k.ex (e15.trans e6)).pure (hG.ex (e15.trans e6))⟩
    have n5 : p ≠ 5 := of_decide_eq_false t5
    have : p = 6 := by omega
    subst this
    have e15 := (((e1.trans e2).trans e3).trans e4).trans e5
    refine s_retX (ea2 (ev0 _) (e_at (K := K) (ev2 _) (e_cn 0) (e15 _ _ hr) hn) H5 (Ex.refl _) _ fun H6 e6 => ?_)
    exact ⟨a, A, g, _, rfl, hG.ex (e15.trans e6), hW, (k.ex (e15.trans e6)).pure (hG.ex (e15.trans e6))⟩
theorem c_of_spins (D : DefAt K mg "answer_of_spins" s_answer_of_spins) (T : Txt K mg C CM aT aN aW) (c1 : Cal P w K mg base "measure" 6 ["game", "outcome", "letters"] (spMeasure C CM K)) (c2 : Cal P w K mg base "place_spins" 6 ["game", "row"] (spPlace6 C CM K)) (c3 : Cal P w K mg base "link_spins" 5 ["game", "i", "j"] (spLink C CM))
    (c4 : Cal P w K mg base "refresh" 5 ["game"] (spRefresh C CM)) (c5 : Cal P w K mg base "ask_sure" 6 ["game", "letters"] (spAsk C CM K)) : Cal P w K mg base "answer_of_spins" 7 ["game", "kind", "given"] (spOf C CM 7 11) := by
  refine cal_mk D sc_answer_of_spins (fun _ _ _ _ _ _ us hl => match us, hl with | [_, _, _], _ => rfl) (fun vs H Q E h => ?_) (fun hr => d_answer_of_spins c1 c2 c3 c4 c5 T hr) fun vs H Q E h => ?_
  · obtain ⟨a, r, A, g, p, l, rfl, _⟩ := h
    rfl
  · obtain ⟨a, r, A, g, p, l, rfl, hG, hb, hW, hr, hz, lo, hi, hn, k⟩ := h
    rw [do_of hb (by omega)] at k
    have m6 := hW.m6
    have ev0 : ∀ H, Ev (tVar 0) (start ["game", "kind", "given"] [.ref a, nv p, .ref r]) H (.ref a) := fun _ => ev_var rfl
    have ev2 : ∀ H, Ev (tVar 2) (start ["game", "kind", "given"] [.ref a, nv p, .ref r]) H (.ref r) := fun _ => ev_var rfl
    refine q_when (et_test (e_eq (ev_var rfl) (e_cn 7))) (fun t1 H1 e1 => ?_) fun t1 H1 e1 => ?_
    · have := of_decide_eq_true t1
      subst this
      refine s_retX (ea2L (ev0 _) (l_from (ev2 _) (e_cn 1) (sq_of (e1 _ _ hr))) H1 (Ex.refl _) _ fun r' H2 hr' e2 h2 => ?_)
      exact ⟨a, r', A, g, _, rfl, hG.ex (e1.trans e2), hW, h2, not_mut (hG.ex e1) hr', by rw [List.length_drop]; omega, k.ex (e1.trans e2)⟩
    have n1 : p ≠ 7 := of_decide_eq_false t1
    refine q_when (et_test (e_eq (ev_var rfl) (e_cn 8))) (fun t2 H2 e2 => ?_) fun t2 H2 e2 => ?_
    · have := of_decide_eq_true t2
      subst this
      have e12 := e1.trans e2
      have hn2 : 2 ≤ l.length := hn
      refine s_retX (ea3 (ev0 _) (e_at (K := K) (ev2 _) (e_cn 0) (e12 _ _ hr) (by omega)) (e_at (K := K) (ev2 _) (e_cn 1) (e12 _ _ hr) (by omega)) H2 (Ex.refl _) _ fun H3 e3 => ?_)
      exact ⟨a, A, g, _, _, rfl, hG.ex (e12.trans e3), by omega, hW.l, k.ex (e12.trans e3)⟩
    have n2 : p ≠ 8 := of_decide_eq_false t2
    refine q_when (et_test (e_eq (ev_var rfl) (e_cn 9))) (fun t3 H3 e3 => ?_) fun t3 H3 e3 => ?_
    · have := of_decide_eq_true t3
      subst this
      have e13 := (e1.trans e2).trans e3
      refine s_retX (ea1 (ev0 _) H3 (Ex.refl _) _ fun H4 e4 => ?_)
      exact ⟨a, A, g, rfl, hG.ex (e13.trans e4), by omega, k.ex (e13.trans e4)⟩
    have n3 : p ≠ 9 := of_decide_eq_false t3
    refine q_when (et_test (e_eq (ev_var rfl) (e_cn 10))) (fun t4 H4 e4 => ?_) fun t4 H4 e4 => ?_
    · have := of_decide_eq_true t4
      subst this
      have e14 := ((e1.trans e2).trans e3).trans e4
      refine s_retX (ea2L (ev0 _) (l_from (ev2 _) (e_cn 1) (sq_of (e14 _ _ hr))) H4 (Ex.refl _) _ fun r' H5 hr' e5 h5 => ?_)
      exact ⟨a, r', A, g, _, rfl, hG.ex (e14.trans e5), hW, sq_of h5, drop_le _ _ hz, (k.ex (e14.trans e5)).pure (hG.ex (e14.trans e5))⟩
    have n4 : p ≠ 10 := of_decide_eq_false t4
    have : p = 11 := by omega
    subst this
    have e14 := ((e1.trans e2).trans e3).trans e4
    refine s_retX (ea3L (ev0 _) (e_at (K := K) (ev2 _) (e_cn 0) (e14 _ _ hr) hn) (l_from (ev2 _) (e_cn 2) (sq_of (e14 _ _ hr))) H4 (Ex.refl _) _ fun r' H5 hr' e5 h5 => ?_)
    exact ⟨a, r', A, g, _, _, rfl, hG.ex (e14.trans e5), hW, h5, not_mut (hG.ex e14) hr', drop_le _ _ hz, k.ex (e14.trans e5)⟩
theorem c_of_persons (D : DefAt K mg "answer_of_persons" s_answer_of_persons) (T : Txt K mg C CM aT aN aW) (c1 : Cal P w K mg base "show_state" 1 ["game"] (spState C CM)) (c2 : Cal P w K mg base "set_own" 3 ["game", "person", "question", "sign", "letters"] (spOwn C CM K)) (c3 : Cal P w K mg base "chance_of_answers" 6 ["game", "both"] (spChanceA C CM K))
    (c4 : Cal P w K mg base "parity_of_some" 6 ["game", "both"] (spParityA C CM K)) (c5 : Cal P w K mg base "what_spins_win" 6 ["game"] (spValue C CM)) (c6 : Cal P w K mg base "show_row" 2 ["game", "row"] (spRow C CM K)) : Cal P w K mg base "answer_of_persons" 7 ["game", "kind", "given"] (spOf C CM 12 17) := by
  refine cal_mk D sc_answer_of_persons (fun _ _ _ _ _ _ us hl => match us, hl with | [_, _, _], _ => rfl) (fun vs H Q E h => ?_) (fun hr => d_answer_of_persons c1 c2 c3 c4 c5 c6 T hr) fun vs H Q E h => ?_
  · obtain ⟨a, r, A, g, p, l, rfl, _⟩ := h
    rfl
  · obtain ⟨a, r, A, g, p, l, rfl, hG, hb, hW, hr, hz, lo, hi, hn, k⟩ := h
    rw [do_of hb (by omega)] at k
    have m6 := hW.o
    have ev0 : ∀ H, Ev (tVar 0) (start ["game", "kind", "given"] [.ref a, nv p, .ref r]) H (.ref a) := fun _ => ev_var rfl
    have ev2 : ∀ H, Ev (tVar 2) (start ["game", "kind", "given"] [.ref a, nv p, .ref r]) H (.ref r) := fun _ => ev_var rfl
    refine q_when (et_test (e_eq (ev_var rfl) (e_cn 12))) (fun t1 H1 e1 => ?_) fun t1 H1 e1 => ?_
    · have := of_decide_eq_true t1
      subst this
      have hn3 : 3 ≤ l.length := hn
      have hr1 := e1 _ _ hr
      refine s_retX (ea5L (ev0 _) (e_at (K := K) (ev2 _) (e_cn 0) hr1 (by omega)) (e_at (K := K) (ev2 _) (e_cn 1) hr1 (by omega)) (e_at (K := K) (ev2 _) (e_cn 2) hr1 (by omega)) (l_from (ev2 _) (e_cn 4) (sq_of hr1)) H1 (Ex.refl _) _ fun r' H2 hr' e2 h2 => ?_)
      exact ⟨a, r', A, g, _, _, _, _, rfl, hG.ex (e1.trans e2), hW, h2, not_mut (hG.ex e1) hr', drop_le _ _ hz, k.ex (e1.trans e2)⟩
    have n1 : p ≠ 12 := of_decide_eq_false t1
    refine q_when (et_test (e_eq (ev_var rfl) (e_cn 13))) (fun t2 H2 e2 => ?_) fun t2 H2 e2 => ?_
    · have := of_decide_eq_true t2
      subst this
      have e12 := e1.trans e2
      refine s_retX (ea2L (ev0 _) (l_from (ev2 _) (e_cn 1) (sq_of (e12 _ _ hr))) H2 (Ex.refl _) _ fun r' H3 hr' e3 h3 => ?_)
      exact ⟨a, r', A, g, _, rfl, hG.ex (e12.trans e3), hW, sq_of h3, drop_le _ _ hz, (k.ex (e12.trans e3)).pure (hG.ex (e12.trans e3))⟩
    have n2 : p ≠ 13 := of_decide_eq_false t2
    refine q_when (et_test (e_eq (ev_var rfl) (e_cn 14))) (fun t3 H3 e3 => ?_) fun t3 H3 e3 => ?_
    · have := of_decide_eq_true t3
      subst this
      have e13 := (e1.trans e2).trans e3
      refine s_retX (ea2L (ev0 _) (l_from (ev2 _) (e_cn 1) (sq_of (e13 _ _ hr))) H3 (Ex.refl _) _ fun r' H4 hr' e4 h4 => ?_)
      exact ⟨a, r', A, g, _, rfl, hG.ex (e13.trans e4), hW, sq_of h4, drop_le _ _ hz, (k.ex (e13.trans e4)).pure (hG.ex (e13.trans e4))⟩
    have n3 : p ≠ 14 := of_decide_eq_false t3
    refine q_when (et_test (e_eq (ev_var rfl) (e_cn 15))) (fun t4 H4 e4 => ?_) fun t4 H4 e4 => ?_
    · have := of_decide_eq_true t4
      subst this
      have e14 := ((e1.trans e2).trans e3).trans e4
      refine s_retX (ea1 (ev0 _) H4 (Ex.refl _) _ fun H5 e5 => ?_)
      exact ⟨a, A, g, rfl, hG.ex (e14.trans e5), hW, (k.ex (e14.trans e5)).pure (hG.ex (e14.trans e5))⟩
    have n4 : p ≠ 15 := of_decide_eq_false t4
    refine q_when (et_test (e_eq (ev_var rfl) (e_cn 16))) (fun t5 H5 e5 => ?_) fun t5 H5 e5 => ?_
    · have := of_decide_eq_true t5
      subst this
      have e15 := (((e1.trans e2).trans e3).trans e4).trans e5
      refine s_retX (ea2L (ev0 _) (l_from (ev2 _) (e_cn 1) (sq_of (e15 _ _ hr))) H5 (Ex.refl _) _ fun r' H6 hr' e6 h6 => ?_)
      exact ⟨a, r', A, g, _, rfl, hG.ex (e15.trans e6), hW, sq_of h6, drop_le _ _ hz, (k.ex (e15.trans e6)).pure (hG.ex (e15.trans e6))⟩
    have n5 : p ≠ 16 := of_decide_eq_false t5
    have : p = 17 := by omega
    subst this
    have e15 := (((e1.trans e2).trans e3).trans e4).trans e5
    refine s_retX (ea1 (ev0 _) H5 (Ex.refl _) _ fun H6 e6 => ?_)
    exact ⟨a, A, g, rfl, hG.ex (e15.trans e6), by omega, (k.ex (e15.trans e6)).pure (hG.ex (e15.trans e6))⟩
def spCall (C CM : Addr) : Sp := fun vs H Q _ => ∃ (a r : Addr) (A : GA) (g : G) (p : Nat) (l : List Nat), vs = [.ref a, nv p, .ref r] ∧ GameAt C CM H a A g ∧ (g.begun = true → WG g) ∧ H r = some (.lst (iv l)) ∧ l.length ≤ 1000 ∧ p < 18 ∧ need p ≤ l.length ∧ RetC C CM a A (Mir.doM g p l) H Q
theorem c_answer_call (D : DefAt K mg "answer_call" s_answer_call) (T : Txt K mg C CM aT aN aW) (c1 : Cal P w K mg base "answer_of_persons" 7 ["game", "kind", "given"] (spOf C CM 12 17)) (c2 : Cal P w K mg base "begin" 6 ["game", "persons", "questions"] (spBegin C CM))
    (c3 : Cal P w K mg base "answer_of_plans" 5 ["game", "kind", "given"] (spOf C CM 1 6)) (c4 : Cal P w K mg base "answer_of_spins" 7 ["game", "kind", "given"] (spOf C CM 7 11)) : Cal P w K mg base "answer_call" 8 ["game", "kind", "given"] (spCall C CM) := by
  refine cal_mk D sc_answer_call (fun _ _ _ _ _ _ us hl => match us, hl with | [_, _, _], _ => rfl) (fun vs H Q E h => ?_) (fun hr => d_answer_call c1 c2 c3 c4 T hr) fun vs H Q E h => ?_
  · obtain ⟨a, r, A, g, p, l, rfl, _⟩ := h
    rfl
  · obtain ⟨a, r, A, g, p, l, rfl, hG, hW, hr, hz, hp18, hn, k⟩ := h
    have ev0 : ∀ H, Ev (tVar 0) (start ["game", "kind", "given"] [.ref a, nv p, .ref r]) H (.ref a) := fun _ => ev_var rfl
    have ev1 : ∀ H, Ev (tVar 1) (start ["game", "kind", "given"] [.ref a, nv p, .ref r]) H (nv p) := fun _ => ev_var rfl
    have ev2 : ∀ H, Ev (tVar 2) (start ["game", "kind", "given"] [.ref a, nv p, .ref r]) H (.ref r) := fun _ => ev_var rfl
    refine q_when (et_test (e_eq (ev_var rfl) (e_cn 0))) (fun t1 H1 e1 => ?_) fun t1 H1 e1 => ?_
    · have := of_decide_eq_true t1
      subst this
      have hn2 : 2 ≤ l.length := hn
      have hr1 := e1 _ _ hr
      have e : Mir.doM g 0 l = Mir.beginM g (l.getD 0 0) (l.getD 1 0) := by
        unfold Mir.doM
        rw [if_pos rfl]
      rw [e] at k
      refine s_retX (ea3 (ev0 _) (e_at (K := K) (ev2 _) (e_cn 0) hr1 (by omega)) (e_at (K := K) (ev2 _) (e_cn 1) hr1 (by omega)) H1 (Ex.refl _) _ fun H2 e2 => ?_)
      exact ⟨a, A, g, _, _, rfl, hG.ex (e1.trans e2), k.ex (e1.trans e2)⟩
    have n1 : p ≠ 0 := of_decide_eq_false t1
    refine q_when (et_not (et_B (g_begun T (hG.ex e1) (ev_var rfl)))) (fun t2 H2 e2 => ?_) fun t2 H2 e2 => ?_
    · have hb : g.begun = false := by simpa using t2
      have e : Mir.doM g p l = (g, [-11]) := by
        unfold Mir.doM
        rw [if_neg n1, if_pos hb]
      rw [e] at k
      exact s_retL (el_lst (ea1 ev_c) (by decide)) fun q H3 hq e3 h3 => k.same hG (e1.trans e2) hq e3 h3
    have hb : g.begun = true := by simpa using t2
    have hW' := hW hb
    refine q_when (et_test (e_le (ev_var rfl) (e_cn 6))) (fun t3 H3 e3 => ?_) fun t3 H3 e3 => ?_
    · have e13 := (e1.trans e2).trans e3
      refine s_retX (ea3 (ev0 _) (ev1 _) (ev2 _) H3 (Ex.refl _) _ fun H4 e4 => ?_)
      exact ⟨a, r, A, g, p, l, rfl, hG.ex (e13.trans e4), hb, hW', (e13.trans e4) _ _ hr, hz, by omega, of_decide_eq_true t3, hn, k.ex (e13.trans e4)⟩
    have n3 : ¬ p ≤ 6 := of_decide_eq_false t3
    refine q_when (et_test (e_le (ev_var rfl) (e_cn 11))) (fun t4 H4 e4 => ?_) fun t4 H4 e4 => ?_
    · have e14 := ((e1.trans e2).trans e3).trans e4
      refine s_retX (ea3 (ev0 _) (ev1 _) (ev2 _) H4 (Ex.refl _) _ fun H5 e5 => ?_)
      exact ⟨a, r, A, g, p, l, rfl, hG.ex (e14.trans e5), hb, hW', (e14.trans e5) _ _ hr, hz, by omega, of_decide_eq_true t4, hn, k.ex (e14.trans e5)⟩
    have n4 : ¬ p ≤ 11 := of_decide_eq_false t4
    have e14 := ((e1.trans e2).trans e3).trans e4
    refine s_retX (ea3 (ev0 _) (ev1 _) (ev2 _) H4 (Ex.refl _) _ fun H5 e5 => ?_)
    exact ⟨a, r, A, g, p, l, rfl, hG.ex (e14.trans e5), hb, hW', (e14.trans e5) _ _ hr, hz, by omega, by omega, hn, k.ex (e14.trans e5)⟩
end
end My
set_option Elab.async false
set_option linter.all false
set_option maxRecDepth 100000
set_option maxHeartbeats 4000000
namespace My
open PySem PySem.Spec PyProof.Rows L2 Evl
open Su173 (Spin together)
open Mir (G)
open Su175 (okRow blank)
/-- the list from s on is just these calls -/
inductive Seg (ns : List Nat) : Nat → List (Nat × List Nat) → Prop
  | nil {s : Nat} : s = ns.length → Seg ns s []
  | cons {s p : Nat} {l : List Nat} {cs : List (Nat × List Nat)} : ns[s]? = some p → p < 18 → (ROWS.contains p = true → s + 1 + NUMS.getD p 0 < ns.length) → s + 1 ≤ endOf ns s → endOf ns s ≤ ns.length → l = (ns.drop (s + 1)).take (endOf ns s - (s + 1)) → l.length ≤ 1000 → need p ≤ l.length → Seg ns (endOf ns s) cs → Seg ns s ((p, l) :: cs)
/-- each game on the way is as it may stand -/
def RunOk : G → List (Nat × List Nat) → Prop
  | _, [] => True
  | g, c :: r => (g.begun = true → WG g) ∧ RunOk (Mir.doM g c.1 c.2).1 r
theorem told_cons (a : List Int) (r : List (List Int)) : PyFlat.told (a :: r) = (a.length : Int) :: a ++ PyFlat.told r := by
  unfold PyFlat.told
  rw [List.flatMap_cons]
/-! ### the heap without one address -/
def hide (H : Hp) (t : Addr) : Hp := fun b => if b = t then none else H b
theorem hide_ne {H : Hp} {t b : Addr} (h : b ≠ t) : hide H t b = H b := if_neg h
theorem hide_same {H : Hp} {t : Addr} : hide H t t = none := if_pos rfl
theorem hide_some {H : Hp} {t b : Addr} {o : HO} (h : hide H t b = some o) : b ≠ t ∧ H b = some o := by
  by_cases e : b = t
  · subst e; rw [hide_same] at h; cases h
  · rw [hide_ne e] at h; exact ⟨e, h⟩
theorem hide_upd {H : Hp} {t : Addr} {u : HO} : hide (upd H t u) t = hide H t := by
  funext b
  by_cases e : b = t
  · subst e; rw [hide_same, hide_same]
  · rw [hide_ne e, hide_ne e, upd_ne e]
theorem hide_ex {H H' : Hp} {t : Addr} (e : Ex H H') : Ex (hide H t) (hide H' t) := fun b o h => by
  obtain ⟨h1, h2⟩ := hide_some h
  rw [hide_ne h1]
  exact e b o h2
theorem hide_to {H : Hp} {t : Addr} {u : HO} : Ex (hide H t) (upd H t u) := fun b o h => by
  obtain ⟨h1, h2⟩ := hide_some h
  rw [upd_ne h1]
  exact h2
theorem ne_frz_lst {H : Hp} {t b : Addr} {od : Obj} {u : HO} {xs : List V} (ht : H t = some (.frz od u)) (h : H b = some (.lst xs)) : b ≠ t := ne_of h ht (by intro z; cases z)
theorem ne_frz_ins {H : Hp} {t b C dx : Addr} {od : Obj} {u : HO} {fs : List (Str × V)} (ht : H t = some (.frz od u)) (h : H b = some (.ins C dx fs)) : b ≠ t := ne_of h ht (by intro z; cases z)
theorem ne_frz_tup {H : Hp} {t b : Addr} {od : Obj} {u : HO} {xs : List V} (ht : H t = some (.frz od u)) (h : H b = some (.tup xs)) : b ≠ t := ne_of h ht (by intro z; cases z)
theorem MS.hide {CM : Addr} {H : Hp} {M : List Addr} {v : V} {x : Spin} {t : Addr} {od : Obj} {u : HO} (h : MS CM H M v x) (ht : H t = some (.frz od u)) : MS CM (hide H t) M v x := by
  obtain ⟨p, l, rfl, ⟨⟨dx, h1⟩, h2⟩, h3⟩ := h
  exact ⟨p, l, rfl, ⟨⟨dx, by rw [hide_ne (ne_frz_ins ht h1)]; exact h1⟩, by rw [hide_ne (ne_frz_lst ht h2)]; exact h2⟩, h3⟩
theorem GameAt.hide {C CM : Addr} {H : Hp} {a t : Addr} {A : GA} {g : G} {od : Obj} {u : HO} (h : GameAt C CM H a A g) (ht : H t = some (.frz od u)) : GameAt C CM (hide H t) a A g where
  ob := by
    obtain ⟨dx, h1⟩ := h.ob
    exact ⟨dx, by rw [hide_ne (ne_frz_ins ht h1)]; exact h1⟩
  w := by rw [hide_ne (ne_frz_lst ht h.w)]; exact h.w
  v := by rw [hide_ne (ne_frz_lst ht h.v)]; exact h.v
  o := by rw [hide_ne (ne_frz_lst ht h.o)]; exact h.o
  l := by
    obtain ⟨vs, h1, h2⟩ := h.l
    refine ⟨vs, by rw [hide_ne (ne_frz_lst ht h1)]; exact h1, paired_mono h2 fun _ _ q => ?_⟩
    obtain ⟨p, rfl, q1⟩ := q
    exact ⟨p, rfl, by rw [hide_ne (ne_frz_tup ht q1)]; exact q1⟩
  s := by
    obtain ⟨vs, h1, h2⟩ := h.s
    exact ⟨vs, by rw [hide_ne (ne_frz_lst ht h1)]; exact h1, paired_mono h2 fun _ _ q => q.hide ht⟩
  n := by
    obtain ⟨vs, h1, h2⟩ := h.n
    exact ⟨vs, by rw [hide_ne (ne_frz_lst ht h1)]; exact h1, paired_mono h2 fun _ _ q => q.hide ht⟩
  nd := h.nd
theorem frz_not_mut {C CM : Addr} {H : Hp} {a t : Addr} {A : GA} {g : G} {od : Obj} {u : HO} (h : GameAt C CM H a A g) (ht : H t = some (.frz od u)) : t ∉ mutA a A := fun hm => by
  obtain ⟨dx, h1⟩ := h.ob
  obtain ⟨vs, h2, _⟩ := h.l
  obtain ⟨ws, h3, _⟩ := h.n
  simp only [mutA, List.mem_cons, List.not_mem_nil, or_false] at hm
  rcases hm with rfl | rfl | rfl | rfl | rfl
  · exact ne_frz_ins ht h1 rfl
  · exact ne_frz_lst ht h.w rfl
  · exact ne_frz_lst ht h.v rfl
  · exact ne_frz_lst ht h2 rfl
  · exact ne_frz_lst ht h3 rfl
theorem rl_app (a b : List Int) : rl (a ++ b) = rl a ++ rl b := List.map_append ..
theorem rl_len (a : List Int) : (rl a).length = a.length := List.length_map ..
section
variable {P : Program} {w : World} {K : PySem.W.Frag} {mg : Str → Option Value} {base : Heap} {C CM aT aN aW : Addr} {σ : L2.St} {H : Hp} {ta tb tc td ty tl te : TE} {D : Ends} {tz : TS}
theorem q_asgX {sp : Sp} {ta : TA} {i : Nat} (k : ta σ H fun vs H1 => sp vs H1 (fun v H2 => tz D (σ.set i (some v)) H2) E0) : tSeq (tAsg (tCall sp [] E0 ta) (gName i)) tz D σ H := by
  have e : (fun (vs : List V) (H1 : Hp) => sp (vs ++ []) H1 (fun v H2 => tz D (σ.set i (some v)) H2) E0) = fun vs H1 => sp vs H1 (fun v H2 => tz D (σ.set i (some v)) H2) E0 := by
    funext vs H1
    rw [List.append_nil]
  show ta σ H fun vs H1 => sp (vs ++ []) H1 (fun v H2 => tz D (σ.set i (some v)) H2) E0
  rw [e]
  exact k
theorem q_appZ {l : Addr} {xs : List V} {v : V} (hl : H l = some (.lst xs)) (ha : Ev ta σ H (.ref l)) (h : Ev te σ H v) (hz : xs.length < sizeLine) (k : ∀ H1, Ex H H1 → tz D σ (upd H1 l (.lst (xs ++ [v])))) :
    tSeq (tDrop (tBM K "list" rAppend ta (tCons te tNil))) tz D σ H := ha H (Ex.refl H) _ fun H1 e1 =>
  ⟨Or.inl ⟨rfl, xs, sq_of (e1 l _ hl)⟩, h H1 e1 _ fun H2 e2 => ⟨l, xs, v, rfl, rfl, e2 l _ (e1 l _ hl), hz, k H2 (e1.trans e2)⟩⟩
theorem q_ext {l b : Addr} {xs ys : List V} (hl : H l = some (.lst xs)) (hb : H b = some (.lst ys)) (ha : Ev ta σ H (.ref l)) (h : Ev te σ H (.ref b)) (hz : xs.length + ys.length ≤ sizeLine) (k : ∀ H1, Ex H H1 → tz D σ (upd H1 l (.lst (xs ++ ys)))) :
    tSeq (tDrop (tBM K "list" rExtend ta (tCons te tNil))) tz D σ H := ha H (Ex.refl H) _ fun H1 e1 =>
  ⟨Or.inl ⟨rfl, xs, sq_of (e1 l _ hl)⟩, h H1 e1 _ fun H2 e2 => ⟨l, b, xs, ys, rfl, rfl, e2 l _ (e1 l _ hl), e2 b _ (e1 b _ hb), hz, k H2 (e1.trans e2)⟩⟩
def spAns (K : PySem.W.Frag) : Sp := fun vs H Q _ => ∃ (a : Addr) (ns : List Nat) (cs : List (Nat × List Nat)), vs = [.ref a] ∧ SqL K H a (iv ns) ∧ Seg ns 0 cs ∧ RunOk G.new cs ∧ (PyFlat.told (Mir.runM G.new cs)).length ≤ 10000000 ∧
  ∀ H' p, Ex H H' → H' p = some (.lst (rl (PyFlat.told (Mir.runM G.new cs)))) → Q (.ref p) H'
theorem s_asgX {sp : Sp} {ta : TA} {i : Nat} (k : ta σ H fun vs H1 => sp vs H1 (fun v H2 => D.nx (σ.set i (some v)) H2) E0) : tAsg (tCall sp [] E0 ta) (gName i) D σ H := by
  have e : (fun (vs : List V) (H1 : Hp) => sp (vs ++ []) H1 (fun v H2 => D.nx (σ.set i (some v)) H2) E0) = fun vs H1 => sp vs H1 (fun v H2 => D.nx (σ.set i (some v)) H2) E0 := by
    funext vs H1
    rw [List.append_nil]
  show ta σ H fun vs H1 => sp (vs ++ []) H1 (fun v H2 => D.nx (σ.set i (some v)) H2) E0
  rw [e]
  exact k
theorem q_lock {t : TS} {d : Addr} {u : HO} (hd : H d = some u) (hm : Mut (some u)) (k : ∀ od, t ⟨fun σ' H' => H' d = some (.frz od u) ∧ tz D σ' (upd H' d u), fun v H' => H' d = some (.frz od u) ∧ D.rt v (upd H' d u), fun σ' H' => H' d = some (.frz od u) ∧ D.bk σ' (upd H' d u), fun σ' H' => H' d = some (.frz od u) ∧ D.ct σ' (upd H' d u)⟩ σ (upd H d (.frz od u))) :
    tSeq (tLock t) tz D σ H := ⟨d, u, hd, hm, k⟩
/-- what stands ahead of each turn of answers' loop -/
def AInv (C CM : Addr) (H : Hp) (a x t : Addr) (ns : List Nat) (total : List Int) (m : Nat) (σ : L2.St) (H' : Hp) : Prop := ∃ (s : Nat) (cs : List (Nat × List Nat)) (g : G) (A : GA) (T : List Int) (v4 v5 : Option V), σ = [some (.ref a), some (.ref x), some (.ref t), some (nv s), v4, v5] ∧ m = cs.length ∧ Seg ns s cs ∧ RunOk g cs ∧ GameAt C CM (hide H' t) x A g ∧
  H' t = some (.lst (rl T)) ∧ T ++ PyFlat.told (Mir.runM g cs) = total ∧ Ex H H' ∧ ∀ b ∈ mutA x A, H b = none
theorem ok_answers {fA : Addr} {fdA : FuncData} (D : Fun K "answers" "answers" s_answers fA fdA) (T : Txt K mg C CM aT aN aW) (c1 : MkC P w K mg base "Game" C 1 ["self"] (spGInit C CM)) (c2 : Cal P w K mg base "end_of_call" 1 ["calls", "start"] (spEnd K)) (c3 : Cal P w K mg base "answer_call" 8 ["game", "kind", "given"] (spCall C CM)) :
    FnOk P w K mg base CX0 9 fA fdA ["calls"] (spAns K) := by
  refine fn_mk D sc_answers (fun vs H Q E h => ?_) (fun hr => d_answers c1 c2 c3 T hr) fun vs H Q E h => ?_
  · obtain ⟨a, ns, cs, rfl, _⟩ := h
    rfl
  · obtain ⟨a, ns, cs, rfl, ha, hseg, hrun, hlen, k⟩ := h
    -- game = Game()
    intro x dx hx hdx hne
    refine ⟨x, dx, rfl, upd_same, fun A0 H1 hG1 hk1 hn1 => ⟨rfl, ?_⟩⟩
    have e1 : Ex H H1 := Same.made hx hdx hk1
    have hfr1 : ∀ b ∈ mutA x A0, H b = none := fun b hb => by
      rcases hn1 b hb with rfl | h
      · exact hx
      · have h' := fresh_upd h
        exact fresh_upd h'
    -- told = [], start = 0
    refine q_asgL (el_lst ea_nil (by decide)) fun t H2 ht e2 h2 => ?_
    have htH : H t = none := fresh_back e1 ht
    refine q_asg ev_c fun H3 e3 => ?_
    have hG3 : GameAt C CM (hide H3 t) x A0 G.new := hG1.ex fun b o hb => by
      rw [hide_ne (fun z => by rw [z, ht] at hb; cases hb)]
      exact (e2.trans e3) b o hb
    refine q_while (AInv C CM H a x t ns (PyFlat.told (Mir.runM G.new cs))) cs.length ⟨0, cs, G.new, A0, [], none, none, rfl, rfl, hseg, hrun, hG3, e3 _ _ h2, rfl, (e1.trans e2).trans e3, hfr1⟩ ?_
    rintro m σ' H' ⟨s, cs', g, A, T0, v4, v5, rfl, rfl, hs, hro, hG, hT, htot, eH, hfr⟩
    have hlt : Ev (tCB (rLen' K) (tCons (tVar 0) tNil)) ([some (.ref a), some (.ref x), some (.ref t), some (nv s), v4, v5] : L2.St) H' (nv ns.length) := by
      have g1 := e_len (K := K) (σ := ([some (.ref a), some (.ref x), some (.ref t), some (nv s), v4, v5] : L2.St)) (ev_var (i := 0) rfl) (ex_l eH ha)
      rw [iv_len] at g1
      exact g1
    refine ⟨decide (s < ns.length), et_test (e_lt (ev_var rfl) hlt), fun hb H4 e4 => ?_, fun hb H4 e4 => ?_⟩
    · have hsl := of_decide_eq_true hb
      cases hs with
      | nil h => omega
      | @cons _ p l r hp hp18 hrow hse hen hl hl1000 hneed hrest =>
        obtain ⟨hw, hro2⟩ := hro
        refine ⟨AInv C CM H a x t ns (PyFlat.told (Mir.runM G.new cs)) r.length, fun σ2 H2 q => ⟨r.length, Nat.lt_succ_self _, q⟩, ?_⟩
        have eH4 := eH.trans e4
        refine q_asg (e_end (ev_var rfl) (ev_var rfl) (ex_l eH4 ha) hp hp18 hrow) fun H5 e5 => ?_
        have eH5 := eH4.trans e5
        have hT5 := (e4.trans e5) _ _ hT
        refine q_lock hT5 trivial fun od => ?_
        have eHL : Ex H (upd H5 t (.frz od (.lst (rl T0)))) := Ex.mut eH5 htH
        have hGL : GameAt C CM (upd H5 t (.frz od (.lst (rl T0)))) x A g := (hG.ex (hide_ex (e4.trans e5))).ex hide_to
        have hsl2 : EvL (tSl (rSlL K) (tVar 0) (tPart (tOp rAdd' (tVar 3) (tC (.int 1)))) (tPart (tVar 4))) ([some (.ref a), some (.ref x), some (.ref t), some (nv s), some (nv (endOf ns s)), v5] : L2.St) (upd H5 t (.frz od (.lst (rl T0)))) (iv l) := by
          have g1 := el_sl (K := K) (σ := ([some (.ref a), some (.ref x), some (.ref t), some (nv s), some (nv (endOf ns s)), v5] : L2.St)) (te := tVar 0) (tl := tPart (tOp rAdd' (tVar 3) (tC (.int 1)))) (th := tPart (tVar 4)) (ev_var rfl) (eo_some (i := ((s + 1 : Nat) : Int)) (e_add (i := s) (j := 1) (ev_var rfl) (e_cn 1))) (eo_some (i := ((endOf ns s : Nat) : Int)) (ev_var rfl)) (ex_l eHL ha)
          rw [cut_both _ _ _ hse (by rw [iv_len]; exact hen), iv_drop, iv_take, ← hl] at g1
          exact g1
        refine s_asgX ?_
        refine ea3L (v := .ref x) (v2 := nv p) (ev_var rfl) (e_ixL (ev_var rfl) (ev_var rfl) (ex_l eHL ha) (iv_at hp)) hsl2 _ (Ex.refl _) _ fun r' H6 hr' e6 h6 => ?_
        have hG6 := hGL.ex e6
        have ht6 : H6 t = some (.frz od (.lst (rl T0))) := e6 _ _ upd_same
        refine ⟨x, r', A, g, p, l, rfl, hG6, hw, h6, hl1000, hp18, hneed, fun q A' H7 hq hc h7 => ⟨hc.keep t _ ht6 (frz_not_mut hG6 ht6), ?_⟩⟩
        have ht7 := hc.keep t _ ht6 (frz_not_mut hG6 ht6)
        have hG7 := hc.at_.hide ht7
        have hqt : q ≠ t := fun z => by rw [z, ht6] at hq; cases hq
        have eH6 := eHL.trans e6
        have eH7 : Ex H H7 := fun b o hb => hc.keep b o (eH6 b o hb) fun hm => by rw [hfr b hm] at hb; cases hb
        have htot2 : T0 ++ (((Mir.doM g p l).2.length : Int) :: (Mir.doM g p l).2 ++ PyFlat.told (Mir.runM (Mir.doM g p l).1 r)) = PyFlat.told (Mir.runM G.new cs) := by
          rw [← htot]
          show _ = T0 ++ PyFlat.told ((Mir.doM g p l).2 :: Mir.runM (Mir.doM g p l).1 r)
          rw [told_cons]
        have hlens : T0.length + ((Mir.doM g p l).2.length + 1) ≤ 10000000 := by
          have := congrArg List.length htot2
          simp only [List.length_append, List.length_cons] at this
          omega
        have hsz := sizeLine_eq
        have hq8 : (upd H7 t (.lst (rl T0))) q = some (.lst (rl (Mir.doM g p l).2)) := by rw [upd_ne hqt]; exact h7
        refine q_appZ upd_same (ev_var rfl) (e_len (K := K) (ev_var rfl) (sq_of hq8)) (by rw [rl_len]; omega) fun H8 e8 => ?_
        refine q_ext upd_same (by rw [upd_ne hqt]; exact e8 _ _ hq8) (ev_var rfl) (ev_var rfl) (by rw [List.length_append, rl_len, rl_len, List.length_singleton]; omega) fun H9 e9 => ?_
        have hGe : GameAt C CM (hide H9 t) x A' (Mir.doM g p l).1 := by
          have g1 := hG7.ex (hide_ex (t := t) (H := H7) (H' := H7) (Ex.refl _))
          rw [← hide_upd (u := .lst (rl T0))] at g1
          have g2 := g1.ex (hide_ex (t := t) e8)
          rw [← hide_upd (u := .lst (rl T0 ++ [nv (rl (Mir.doM g p l).2).length]))] at g2
          exact g2.ex (hide_ex (t := t) e9)
        have eH9 : Ex H H9 := Ex.trans (Ex.mut (Ex.trans (Ex.mut eH7 htH) e8) htH) e9
        refine s_asg (ev_var rfl) fun H10 e10 => ⟨endOf ns s, r, (Mir.doM g p l).1, A', T0 ++ (((Mir.doM g p l).2.length : Int) :: (Mir.doM g p l).2), some (nv (endOf ns s)), some (.ref q), rfl, rfl, hrest, hro2, ?_, ?_, ?_, Ex.trans (Ex.mut eH9 htH) e10, fun b hb => ?_⟩
        · rw [← hide_upd (u := .lst (rl T0 ++ [nv (rl (Mir.doM g p l).2).length] ++ rl (Mir.doM g p l).2))] at hGe
          exact hGe.ex (hide_ex (t := t) e10)
        · refine (e10 _ _ upd_same).trans (congrArg (fun q => some (HO.lst q)) ?_)
          rw [rl_app, rl_len, List.append_assoc]
          rfl
        · rw [List.append_assoc]
          exact htot2
        · rcases hc.new b hb with h | h
          · exact hfr b h
          · exact fresh_back eH6 h
    · have hsl := of_decide_eq_false hb
      cases hs with
      | cons hp => exact absurd (lt_of_get hp) hsl
      | nil h =>
        refine s_ret (ev_var rfl) fun H5 e5 => k H5 t ((eH.trans e4).trans e5) ((e4.trans e5) _ _ ?_)
        have e : T0 = PyFlat.told (Mir.runM G.new cs) := by
          rw [← htot]
          show T0 = T0 ++ PyFlat.told []
          rw [show PyFlat.told [] = [] from rfl, List.append_nil]
        rw [← e]
        exact hT
end
end My
set_option Elab.async false
set_option linter.all false
set_option maxRecDepth 100000
set_option maxHeartbeats 4000000
namespace My
open Mir (G)
open Su175 (rows code okRow Abs answerOf oddMask)
/-! ### rows -/
def KQ : List (Nat × Nat) := [(2, 1), (2, 2), (2, 3), (3, 1), (3, 2), (4, 1), (4, 2)]
theorem kq_of {k q : Nat} (h : Mir.mayBegin k q = true) : (k, q) ∈ KQ := by
  obtain ⟨h1, h2, h3, h4, h5⟩ := may_of h
  have hk : k = 2 ∨ k = 3 ∨ k = 4 := by omega
  have hq : q = 1 ∨ q = 2 ∨ q = 3 := by omega
  rcases hk with rfl | rfl | rfl <;> rcases hq with rfl | rfl | rfl <;> first | decide | omega
theorem rows_place : ∀ p ∈ KQ, (rows p.2 p.1).map (Mir.place p.2) = List.range (p.2 ^ p.1) := by decide +kernel
theorem rows_code : ∀ p ∈ KQ, ((rows p.2 p.1).map (code p.2)).isPerm (List.range (p.2 ^ p.1)) = true := by decide +kernel
theorem mem_rows {b : Nat} : ∀ {n : Nat} {x : List Nat}, x ∈ rows b n ↔ x.length = n ∧ ∀ v ∈ x, v < b
  | 0, x => by
    show x ∈ [[]] ↔ _
    rw [List.mem_singleton]
    constructor
    · rintro rfl
      exact ⟨rfl, fun v hv => by cases hv⟩
    · rintro ⟨h, _⟩
      exact List.length_eq_zero_iff.mp h
  | n + 1, x => by
    show x ∈ (List.range b).flatMap (fun c => (rows b n).map fun l => c :: l) ↔ _
    rw [List.mem_flatMap]
    constructor
    · rintro ⟨c, hc, hx⟩
      obtain ⟨l, hl, rfl⟩ := List.mem_map.mp hx
      obtain ⟨h1, h2⟩ := mem_rows.mp hl
      refine ⟨by rw [List.length_cons, h1], fun v hv => ?_⟩
      rcases List.mem_cons.mp hv with rfl | hv
      · exact List.mem_range.mp hc
      · exact h2 v hv
    · rintro ⟨h1, h2⟩
      cases x with
      | nil => cases h1
      | cons c l =>
        refine ⟨c, List.mem_range.mpr (h2 c (List.mem_cons_self ..)), List.mem_map.mpr ⟨l, mem_rows.mpr ⟨by simpa using h1, fun v hv => h2 v (List.mem_cons_of_mem _ hv)⟩, rfl⟩⟩
theorem mem_rows_ok {k q : Nat} {x : List Nat} : x ∈ rows q k ↔ okRow k q x = true := mem_rows.trans okRow_iff.symm
section
variable {k q : Nat}
theorem rows_len (h : Mir.mayBegin k q = true) : (rows q k).length = q ^ k := by
  have g := congrArg List.length (rows_place _ (kq_of h))
  rw [List.length_map, List.length_range] at g
  exact g
theorem rows_at (h : Mir.mayBegin k q = true) {i : Nat} {x : List Nat} (hi : (rows q k)[i]? = some x) : Mir.place q x = i := by
  have g := rows_place _ (kq_of h)
  have hl : i < q ^ k := by rw [← rows_len h]; exact lt_of_get hi
  have g2 : ((rows q k).map (Mir.place q))[i]? = (List.range (q ^ k))[i]? := by rw [g]
  rw [List.getElem?_map, hi, List.getElem?_range hl] at g2
  exact Option.some.inj g2
theorem rows_get (h : Mir.mayBegin k q = true) {x : List Nat} (hx : x ∈ rows q k) : (rows q k)[Mir.place q x]? = some x := by
  obtain ⟨i, hi⟩ := List.getElem?_of_mem hx
  rw [rows_at h hi]
  exact hi
theorem rows_perm (h : Mir.mayBegin k q = true) : ((rows q k).map (code q)).Perm (List.range (q ^ k)) := List.isPerm_iff.mp (rows_code _ (kq_of h))
theorem code_lt (h : Mir.mayBegin k q = true) {x : List Nat} (hx : x ∈ rows q k) : code q x < q ^ k := List.mem_range.mp ((rows_perm h).mem_iff.mp (List.mem_map.mpr ⟨x, hx, rfl⟩))
theorem nodup_map_inj {α β : Type} {f : α → β} : ∀ {l : List α}, (l.map f).Nodup → ∀ {x y : α}, x ∈ l → y ∈ l → f x = f y → x = y
  | [], _, _, _, hx, _, _ => by cases hx
  | a :: l, h, x, y, hx, hy, e => by
    rw [List.map_cons, List.nodup_cons] at h
    rcases List.mem_cons.mp hx with ex | hx
    · rcases List.mem_cons.mp hy with ey | hy
      · rw [ex, ey]
      · exact absurd (List.mem_map.mpr ⟨y, hy, by rw [← e, ex]⟩) h.1
    · rcases List.mem_cons.mp hy with ey | hy
      · exact absurd (List.mem_map.mpr ⟨x, hx, by rw [e, ey]⟩) h.1
      · exact nodup_map_inj h.2 hx hy e
theorem code_inj (h : Mir.mayBegin k q = true) {x y : List Nat} (hx : x ∈ rows q k) (hy : y ∈ rows q k) (e : code q x = code q y) : x = y :=
  nodup_map_inj ((rows_perm h).nodup_iff.mpr List.nodup_range) hx hy e
/-- a list by codes, told row by row -/
def byRow (q k : Nat) (c : List Nat) : List Nat := (rows q k).map fun x => c.getD (code q x) 0
theorem byRow_len (h : Mir.mayBegin k q = true) (c : List Nat) : (byRow q k c).length = q ^ k := by
  unfold byRow
  rw [List.length_map, rows_len h]
theorem byRow_at (h : Mir.mayBegin k q = true) (c : List Nat) {x : List Nat} (hx : x ∈ rows q k) : (byRow q k c).getD (Mir.place q x) 0 = c.getD (code q x) 0 := by
  unfold byRow
  rw [List.getD_eq_getElem?_getD, List.getElem?_map, rows_get h hx]
  rfl
theorem byRow_set (h : Mir.mayBegin k q = true) {c : List Nat} (hc : c.length = q ^ k) {x : List Nat} (hx : x ∈ rows q k) (w : Nat) : (byRow q k c).set (Mir.place q x) w = byRow q k (c.set (code q x) w) := by
  apply List.ext_getElem?
  intro i
  rw [List.getElem?_set]
  unfold byRow
  by_cases e : Mir.place q x = i
  · subst e
    rw [if_pos rfl, List.length_map, if_pos (by rw [rows_len h]; exact place_lt (mem_rows_ok.mp hx)), List.getElem?_map, rows_get h hx]
    show some w = some ((c.set (code q x) w).getD (code q x) 0)
    rw [List.getD_eq_getElem?_getD, List.getElem?_set_self (by rw [hc]; exact code_lt h hx)]
    rfl
  · rw [if_neg e, List.getElem?_map, List.getElem?_map]
    cases hy : (rows q k)[i]? with
    | none => rfl
    | some y =>
      have hym := List.mem_of_getElem? hy
      have hne : code q x ≠ code q y := fun z => e (by rw [code_inj h hx hym z]; exact rows_at h hy)
      show some (c.getD (code q y) 0) = some ((c.set (code q x) w).getD (code q y) 0)
      rw [List.getD_eq_getElem?_getD, List.getD_eq_getElem?_getD, List.getElem?_set_ne hne]
theorem map_getD_range (c : List Nat) : (List.range c.length).map (fun i => c.getD i 0) = c := by
  have g := range_getD c (fun n => L2.V.int (n : Int))
  apply List.ext_getElem
  · simp
  · intro i h1 h2
    simp at h1
    simp [h1]
theorem byRow_sum (h : Mir.mayBegin k q = true) {c : List Nat} (hc : c.length = q ^ k) : (byRow q k c).sum = c.sum := by
  have e : byRow q k c = ((rows q k).map (code q)).map (fun i => c.getD i 0) := by
    unfold byRow
    rw [List.map_map]
    rfl
  have p := (rows_perm h).map (fun i => c.getD i 0)
  rw [← e, ← hc, map_getD_range] at p
  exact p.sum_nat
theorem byRow_rep (h : Mir.mayBegin k q = true) (c : Nat) : byRow q k (List.replicate (q ^ k) c) = List.replicate (q ^ k) c := by
  unfold byRow
  apply List.ext_getElem
  · rw [List.length_map, rows_len h, List.length_replicate]
  · intro i h1 h2
    rw [List.length_map] at h1
    rw [List.getElem_map, List.getElem_replicate]
    have := code_lt h (List.getElem_mem h1)
    rw [List.getD_eq_getElem?_getD, List.getElem?_replicate, if_pos this]
    rfl
end
/-! ### plans -/
theorem rows_snoc (b : Nat) : ∀ n, rows b (n + 1) = (rows b n).flatMap fun l => (List.range b).map fun c => l ++ [c]
  | 0 => by
    show (List.range b).flatMap (fun c => ([[]] : List (List Nat)).map fun l => c :: l) = ([[]] : List (List Nat)).flatMap fun l => (List.range b).map fun c => l ++ [c]
    rw [List.flatMap_cons, List.flatMap_nil, List.append_nil]
    induction List.range b with
    | nil => rfl
    | cons a r ih => rw [List.flatMap_cons, ih]; rfl
  | n + 1 => by
    have ih := rows_snoc b n
    show (List.range b).flatMap (fun c => (rows b (n + 1)).map fun l => c :: l) = ((List.range b).flatMap fun c => (rows b n).map fun l => c :: l).flatMap fun l => (List.range b).map fun c => l ++ [c]
    rw [List.flatMap_assoc]
    congr 1
    funext c
    rw [ih, List.map_flatMap, List.flatMap_map]
    congr 1
    funext l
    rw [List.map_map]
    rfl
theorem answerOf_snoc (q : Nat) (f : List Nat) (x : List Nat) (c : Nat) : answerOf q f (x ++ [c]) = answerOf q f x ++ [f.getD (x.length * q + c) 0] := by
  unfold answerOf
  rw [List.length_append, List.length_singleton, List.range_succ, List.map_append]
  congr 1
  · refine List.map_congr_left fun i hi => ?_
    have := List.mem_range.mp hi
    have e : (x ++ [c]).getD i 0 = x.getD i 0 := by rw [List.getD_eq_getElem?_getD, List.getD_eq_getElem?_getD, List.getElem?_append_left this]
    show f.getD (i * q + (x ++ [c]).getD i 0) 0 = f.getD (i * q + x.getD i 0) 0
    rw [e]
  · have e : (x ++ [c]).getD x.length 0 = c := by
      rw [List.getD_eq_getElem?_getD, List.getElem?_append_right (Nat.le_refl _), Nat.sub_self]
      rfl
    show [f.getD (x.length * q + (x ++ [c]).getD x.length 0) 0] = _
    rw [e]
theorem code_two (l : List Nat) : code 2 l = Mir.code2 l := rfl
theorem answeredTo_rows {q : Nat} {f : List Nat} : ∀ (i : Nat), i * q ≤ f.length → Mir.answeredTo q f i = (rows q i).map fun x => Mir.code2 (answerOf q f x)
  | 0, _ => rfl
  | i + 1, h => by
    have h1 : i * q + q ≤ f.length := by rw [Nat.succ_mul] at h; exact h
    have ih := answeredTo_rows (q := q) (f := f) i (by omega)
    show Mir.moreAnswers (Mir.answeredTo q f i) ((f.drop (i * q)).take q) i = _
    rw [ih, rows_snoc, List.map_flatMap]
    unfold Mir.moreAnswers
    rw [List.flatMap_map]
    refine flatMap_congr_mem fun x hx => ?_
    have hxl := (mem_rows.mp hx).1
    rw [List.map_map]
    have e : (f.drop (i * q)).take q = (List.range q).map fun c => f.getD (i * q + c) 0 := by
      apply List.ext_getElem
      · rw [List.length_take, List.length_drop, List.length_map, List.length_range]
        omega
      · intro j h2 h3
        rw [List.length_map, List.length_range] at h3
        rw [List.getElem_take, List.getElem_drop, List.getElem_map, List.getElem_range, List.getD_eq_getElem?_getD, List.getElem?_eq_getElem (by omega)]
        rfl
    rw [e, List.map_map]
    refine List.map_congr_left fun c hc => ?_
    show _ = Mir.code2 (answerOf q f (x ++ [c]))
    rw [answerOf_snoc, code2_snoc, hxl]
    show _ + f.getD (i * q + c) 0 * 2 ^ i = _
    unfold answerOf
    rw [List.length_map, List.length_range, hxl]
where
  flatMap_congr_mem {α β : Type} {l : List α} {f g : α → List β} (h : ∀ x ∈ l, f x = g x) : l.flatMap f = l.flatMap g := by
    induction l with
    | nil => rfl
    | cons a r ih => rw [List.flatMap_cons, List.flatMap_cons, h a (List.mem_cons_self ..), ih fun x hx => h x (List.mem_cons_of_mem _ hx)]
theorem worthTo_map {α : Type} (l : List α) (a b c : α → Nat) : Mir.worthTo (l.map a) (l.map b) (l.map c) l.length = (l.map fun x => if a x / 2 ^ c x % 2 = 1 then b x else 0).sum := by
  suffices h : ∀ n, n ≤ l.length → Mir.worthTo (l.map a) (l.map b) (l.map c) n = ((l.take n).map fun x => if a x / 2 ^ c x % 2 = 1 then b x else 0).sum by
    rw [h _ (Nat.le_refl _), List.take_length]
  intro n
  induction n with
  | zero => intro _; rfl
  | succ n ih =>
    intro hn
    have hx : l[n]? = some l[n] := List.getElem?_eq_getElem (by omega)
    have g : ∀ (f : α → Nat), (l.map f).getD n 0 = f l[n] := fun f => by
      rw [List.getD_eq_getElem?_getD, List.getElem?_map, hx]
      rfl
    rw [take_more hx, List.map_append, List.sum_append]
    show (if (l.map a).getD n 0 / 2 ^ (l.map c).getD n 0 % 2 = 1 then Mir.worthTo (l.map a) (l.map b) (l.map c) n + (l.map b).getD n 0 else Mir.worthTo (l.map a) (l.map b) (l.map c) n) = _
    rw [g, g, g, ih (by omega)]
    show _ = _ + ((if a l[n] / 2 ^ c l[n] % 2 = 1 then b l[n] else 0) + 0)
    split <;> omega
theorem planAt_rows : ∀ L ∈ ([2, 3, 4, 6, 8] : List Nat), rows 2 L = (List.range (2 ^ L)).map (Mir.planAt L) := by decide +kernel
theorem plan_zero : ∀ L ∈ ([2, 3, 4, 6, 8] : List Nat), Mir.planAt L 0 = List.replicate L 0 := by decide +kernel
theorem kq_prod {k q : Nat} (h : Mir.mayBegin k q = true) : k * q ∈ ([2, 3, 4, 6, 8] : List Nat) := by
  have g : ∀ p ∈ KQ, p.1 * p.2 ∈ ([2, 3, 4, 6, 8] : List Nat) := by decide +kernel
  exact g _ (kq_of h)
theorem odd_mask : ∀ k ∈ ([2, 3, 4] : List Nat), ∀ s ∈ ([0, 1] : List Nat), Mir.rowsWithParity k s = oddMask k s := by decide +kernel
/-- the best of the first plans, by places -/
def bestF (v : List Nat → Nat) (L : Nat) : Nat → List Nat
  | 0 => Mir.planAt L 0
  | i + 1 => if v (bestF v L i) < v (Mir.planAt L (1 + i)) then Mir.planAt L (1 + i) else bestF v L i
theorem bestF_fold (v : List Nat → Nat) (L : Nat) (b0 : List Nat) (hb : Mir.planAt L 0 = b0) : ∀ n, ((List.range (n + 1)).map (Mir.planAt L)).foldl (fun b f => if v b < v f then f else b) b0 = bestF v L n
  | 0 => by
    show (if v b0 < v (Mir.planAt L 0) then Mir.planAt L 0 else b0) = Mir.planAt L 0
    rw [hb, if_neg (Nat.lt_irrefl _)]
  | n + 1 => by
    rw [List.range_succ, List.map_append, List.foldl_append, bestF_fold v L b0 hb n]
    have e : n + 1 = 1 + n := Nat.add_comm n 1
    show (if v (bestF v L n) < v (Mir.planAt L (n + 1)) then Mir.planAt L (n + 1) else bestF v L n) = (if v (bestF v L n) < v (Mir.planAt L (1 + n)) then Mir.planAt L (1 + n) else bestF v L n)
    rw [e]
theorem bestTo_bestF (g : G) (v : List Nat → Nat) (h : ∀ p, g.worth (g.plan p) = v (g.plan p)) : ∀ i, g.bestTo i = (v (bestF v (g.k * g.q) i), bestF v (g.k * g.q) i)
  | 0 => by
    show (g.worth (g.plan 0), g.plan 0) = _
    rw [h]
    rfl
  | i + 1 => by
    have ih := bestTo_bestF g v h i
    show (if (g.bestTo i).1 < g.worth (g.plan (1 + i)) then (g.worth (g.plan (1 + i)), g.plan (1 + i)) else g.bestTo i) = _
    rw [ih, h]
    show _ = (v (if v (bestF v (g.k * g.q) i) < v (g.plan (1 + i)) then g.plan (1 + i) else bestF v (g.k * g.q) i), (if v (bestF v (g.k * g.q) i) < v (g.plan (1 + i)) then g.plan (1 + i) else bestF v (g.k * g.q) i))
    split <;> rfl
theorem winTo_filter (g : G) (v : List Nat → Nat) (h : ∀ p, g.worth (g.plan p) = v (g.plan p)) (t : Nat) : ∀ n, g.winTo t n = (((List.range n).map g.plan).filter fun f => v f == t).length
  | 0 => rfl
  | n + 1 => by
    rw [List.range_succ, List.map_append, List.filter_append, List.length_append, ← winTo_filter g v h t n]
    show (if g.worth (g.plan n) = t then g.winTo t n + 1 else g.winTo t n) = g.winTo t n + (List.filter (fun f => v f == t) [g.plan n]).length
    rw [h, List.filter_cons]
    by_cases e : v (g.plan n) = t
    · rw [if_pos e, if_pos (by rw [e]; exact beq_self_eq_true t)]
      rfl
    · rw [if_neg e, if_neg (by rw [beq_iff_eq]; exact e)]
      rfl
end My
set_option Elab.async false
set_option linter.all false
set_option maxRecDepth 100000
set_option maxHeartbeats 4000000
namespace My
open Mir (G xorL tn turns mulP)
open Su173 (Spin together mul signOf times2)
open Su175 (blank subs prodOf)
/-! ### letters -/
theorem l_xor : ∀ a, a < 4 → ∀ b, b < 4 → a ^^^ b < 4 := by decide +kernel
theorem l_self : ∀ a, a < 4 → tn a a = 0 ∧ a ^^^ a = 0 := by decide +kernel
theorem l_zero : ∀ a, a < 4 → tn 0 a = 0 ∧ tn a 0 = 0 := by decide +kernel
theorem l_swap : ∀ a, a < 4 → ∀ b, b < 4 → (tn a b + tn b a) % 4 = 0 := by decide +kernel
theorem l_assoc : ∀ a, a < 4 → ∀ b, b < 4 → ∀ c, c < 4 → (tn a b + tn (a ^^^ b) c) % 4 = (tn b c + tn a (b ^^^ c)) % 4 := by decide +kernel
theorem l_bil : ∀ a, a < 4 → ∀ b, b < 4 → ∀ c, c < 4 → tn (a ^^^ b) c % 2 = (tn a c + tn b c) % 2 := by decide +kernel
theorem l_times : ∀ a, a < 4 → ∀ b, b < 4 → times2 a b = (a ^^^ b, tn a b) := by decide +kernel
theorem l_tog : ∀ a, a < 4 → ∀ b, b < 4 → tn a b % 2 = if (a != 0 && (b != 0 && a != b)) = true then 1 else 0 := by decide +kernel
def WL (m : Nat) (l : List Nat) : Prop := l.length = m ∧ ∀ c ∈ l, c < 4
theorem WL.nil : WL 0 [] := ⟨rfl, fun _ h => by cases h⟩
theorem WL.cons {m c : Nat} {l : List Nat} (h : c < 4) (g : WL m l) : WL (m + 1) (c :: l) := ⟨by rw [List.length_cons, g.1], fun x hx => by
  rcases List.mem_cons.mp hx with rfl | hx
  · exact h
  · exact g.2 x hx⟩
theorem WL.rec2 {P : (m : Nat) → List Nat → Prop} (h0 : P 0 []) (h1 : ∀ m c l, c < 4 → WL m l → P m l → P (m + 1) (c :: l)) : ∀ {m : Nat} {l : List Nat}, WL m l → P m l
  | m, [], h => by
    obtain rfl : 0 = m := h.1
    exact h0
  | m, c :: l, h => by
    obtain rfl : l.length + 1 = m := h.1
    have g : WL l.length l := ⟨rfl, fun x hx => h.2 x (List.mem_cons_of_mem _ hx)⟩
    exact h1 _ c l (h.2 c (List.mem_cons_self ..)) g (WL.rec2 h0 h1 g)
theorem WL.un {m : Nat} {l : List Nat} (h : WL (m + 1) l) : ∃ c r, l = c :: r ∧ c < 4 ∧ WL m r := by
  obtain ⟨h1, h2⟩ := h
  cases l with
  | nil => cases h1
  | cons c r => exact ⟨c, r, rfl, h2 c (List.mem_cons_self ..), by simpa using h1, fun x hx => h2 x (List.mem_cons_of_mem _ hx)⟩
theorem WL.un0 {l : List Nat} (h : WL 0 l) : l = [] := List.length_eq_zero_iff.mp h.1
def zs (m : Nat) : List Nat := List.replicate m 0
theorem wl_zs (m : Nat) : WL m (zs m) := ⟨List.length_replicate, fun c hc => by rw [(List.mem_replicate.mp hc).2]; decide⟩
theorem xorL_wl {m : Nat} {a b : List Nat} (ha : WL m a) (hb : WL m b) : WL m (xorL a b) := by
  revert b
  refine WL.rec2 (P := fun m a => ∀ {b}, WL m b → WL m (xorL a b)) ?_ ?_ ha
  · intro b hb
    rw [hb.un0]
    exact .nil
  · intro m c l hc _ ih b hb
    obtain ⟨d, r, rfl, hd, hr⟩ := hb.un
    exact .cons (l_xor _ hc _ hd) (ih hr)
theorem xorL_assoc : ∀ (a b c : List Nat), xorL (xorL a b) c = xorL a (xorL b c)
  | [], _, _ => rfl
  | _ :: _, [], _ => rfl
  | _ :: _, _ :: _, [] => rfl
  | x :: a, y :: b, z :: c => by
    show (x ^^^ y ^^^ z) :: xorL (xorL a b) c = (x ^^^ (y ^^^ z)) :: xorL a (xorL b c)
    rw [xorL_assoc a b c, Nat.xor_assoc]
theorem xorL_comm : ∀ (a b : List Nat), xorL a b = xorL b a
  | [], [] => rfl
  | [], _ :: _ => rfl
  | _ :: _, [] => rfl
  | x :: a, y :: b => by
    show (x ^^^ y) :: xorL a b = (y ^^^ x) :: xorL b a
    rw [xorL_comm a b, Nat.xor_comm]
theorem xorL_zs {m : Nat} {a : List Nat} (ha : WL m a) : xorL (zs m) a = a := by
  refine WL.rec2 (P := fun m a => xorL (zs m) a = a) rfl ?_ ha
  intro m c l _ _ ih
  show (0 ^^^ c) :: xorL (zs m) l = _
  rw [ih, Nat.zero_xor]
theorem xorL_zs2 {m : Nat} {a : List Nat} (ha : WL m a) : xorL a (zs m) = a := by rw [xorL_comm, xorL_zs ha]
theorem xorL_self {m : Nat} {a : List Nat} (ha : WL m a) : xorL a a = zs m := by
  refine WL.rec2 (P := fun m a => xorL a a = zs m) rfl ?_ ha
  intro m c l _ _ ih
  show (c ^^^ c) :: xorL l l = 0 :: zs m
  rw [ih, Nat.xor_self]
theorem xorL_back {m : Nat} {a b : List Nat} (ha : WL m a) (hb : WL m b) : xorL a (xorL a b) = b := by rw [← xorL_assoc, xorL_self ha, xorL_zs hb]
theorem turns_cons (x y : Nat) (a b : List Nat) : turns (x :: a) (y :: b) = tn x y + turns a b := rfl
theorem turns_nil (a : List Nat) : turns [] a = 0 := rfl
theorem turns_self {m : Nat} {a : List Nat} (ha : WL m a) : turns a a = 0 := by
  refine WL.rec2 (P := fun m a => turns a a = 0) rfl ?_ ha
  intro m c l hc _ ih
  rw [turns_cons, ih, (l_self c hc).1]
theorem turns_zs {m : Nat} {a : List Nat} (ha : WL m a) : turns (zs m) a = 0 := by
  refine WL.rec2 (P := fun m a => turns (zs m) a = 0) rfl ?_ ha
  intro m c l hc _ ih
  show turns (0 :: zs m) (c :: l) = 0
  rw [turns_cons, ih, (l_zero c hc).1]
theorem turns_zs2 {m : Nat} {a : List Nat} (ha : WL m a) : turns a (zs m) = 0 := by
  refine WL.rec2 (P := fun m a => turns a (zs m) = 0) rfl ?_ ha
  intro m c l hc _ ih
  show turns (c :: l) (0 :: zs m) = 0
  rw [turns_cons, ih, (l_zero c hc).2]
theorem turns_swap {m : Nat} {a b : List Nat} (ha : WL m a) (hb : WL m b) : (turns a b + turns b a) % 4 = 0 := by
  revert b
  refine WL.rec2 (P := fun m a => ∀ {b}, WL m b → (turns a b + turns b a) % 4 = 0) ?_ ?_ ha
  · intro b hb
    rw [hb.un0]
    rfl
  · intro m c l hc _ ih b hb
    obtain ⟨d, r, rfl, hd, hr⟩ := hb.un
    have h1 := ih hr
    have h2 := l_swap c hc d hd
    rw [turns_cons, turns_cons]
    omega
theorem turns_assoc {m : Nat} {a b c : List Nat} (ha : WL m a) (hb : WL m b) (hc : WL m c) : (turns a b + turns (xorL a b) c) % 4 = (turns b c + turns a (xorL b c)) % 4 := by
  revert b c
  refine WL.rec2 (P := fun m a => ∀ {b c}, WL m b → WL m c → (turns a b + turns (xorL a b) c) % 4 = (turns b c + turns a (xorL b c)) % 4) ?_ ?_ ha
  · intro b c hb hc
    rw [hb.un0, hc.un0]
    rfl
  · intro m x l hx _ ih b c hb hc
    obtain ⟨y, r, rfl, hy, hr⟩ := hb.un
    obtain ⟨z, s, rfl, hz, hs⟩ := hc.un
    have h1 := ih hr hs
    have h2 := l_assoc x hx y hy z hz
    show (turns (x :: l) (y :: r) + turns ((x ^^^ y) :: xorL l r) (z :: s)) % 4 = (turns (y :: r) (z :: s) + turns (x :: l) ((y ^^^ z) :: xorL r s)) % 4
    rw [turns_cons, turns_cons, turns_cons, turns_cons]
    omega
theorem turns_bil {m : Nat} {a b c : List Nat} (ha : WL m a) (hb : WL m b) (hc : WL m c) : turns (xorL a b) c % 2 = (turns a c + turns b c) % 2 := by
  revert b c
  refine WL.rec2 (P := fun m a => ∀ {b c}, WL m b → WL m c → turns (xorL a b) c % 2 = (turns a c + turns b c) % 2) ?_ ?_ ha
  · intro b c hb hc
    rw [hb.un0, hc.un0]
    rfl
  · intro m x l hx _ ih b c hb hc
    obtain ⟨y, r, rfl, hy, hr⟩ := hb.un
    obtain ⟨z, s, rfl, hz, hs⟩ := hc.un
    have h1 := ih hr hs
    have h2 := l_bil x hx y hy z hz
    show turns ((x ^^^ y) :: xorL l r) (z :: s) % 2 = _
    rw [turns_cons, turns_cons, turns_cons]
    omega
theorem turns_sw2 {m : Nat} {a b : List Nat} (ha : WL m a) (hb : WL m b) : turns a b % 2 = turns b a % 2 := by
  have := turns_swap ha hb
  omega
theorem turns_bil2 {m : Nat} {a b c : List Nat} (ha : WL m a) (hb : WL m b) (hc : WL m c) : turns c (xorL a b) % 2 = (turns c a + turns c b) % 2 := by
  have h1 := turns_bil ha hb hc
  have h2 := turns_sw2 hc (xorL_wl ha hb)
  have h3 := turns_sw2 ha hc
  have h4 := turns_sw2 hb hc
  omega
theorem tog_turns {m : Nat} {x y : Spin} (hx : WL m x.l) (hy : WL m y.l) : together x y = (turns x.l y.l % 2 == 0) := by
  suffices h : ∀ {a b : List Nat}, WL m a → WL m b → (((a.zip b).filter fun p => p.1 != 0 && (p.2 != 0 && p.1 != p.2)).length) % 2 = turns a b % 2 by
    unfold together
    rw [h hx hy]
  intro a b ha
  revert b
  refine WL.rec2 (P := fun m a => ∀ {b}, WL m b → (((a.zip b).filter fun p => p.1 != 0 && (p.2 != 0 && p.1 != p.2)).length) % 2 = turns a b % 2) ?_ ?_ ha
  · intro b hb
    rw [hb.un0]
    rfl
  · intro m c l hc _ ih b hb
    obtain ⟨d, r, rfl, hd, hr⟩ := hb.un
    have h1 := ih hr
    have h2 := l_tog c hc d hd
    rw [turns_cons, List.zip_cons_cons, List.filter_cons]
    by_cases e : (c != 0 && (d != 0 && c != d)) = true
    · rw [if_pos e] at h2 ⊢
      rw [List.length_cons]
      omega
    · rw [if_neg e] at h2 ⊢
      omega
theorem product_eq {m : Nat} {a b : List Nat} (ha : WL m a) (hb : WL m b) : Su173.product a b = (xorL a b, turns a b % 4) := by
  suffices h : ((a.zip b).map fun p => times2 p.1 p.2).map Prod.fst = xorL a b ∧ (((a.zip b).map fun p => times2 p.1 p.2).map Prod.snd).sum = turns a b by
    unfold Su173.product
    rw [← h.1, ← h.2]
  revert b
  refine WL.rec2 (P := fun m a => ∀ {b}, WL m b → ((a.zip b).map fun p => times2 p.1 p.2).map Prod.fst = xorL a b ∧ (((a.zip b).map fun p => times2 p.1 p.2).map Prod.snd).sum = turns a b) ?_ ?_ ha
  · intro b hb
    rw [hb.un0]
    exact ⟨rfl, rfl⟩
  · intro m c l hc _ ih b hb
    obtain ⟨d, r, rfl, hd, hr⟩ := hb.un
    obtain ⟨h1, h2⟩ := ih hr
    have h3 := l_times c hc d hd
    refine ⟨?_, ?_⟩
    · show (times2 c d).1 :: ((l.zip r).map fun p => times2 p.1 p.2).map Prod.fst = (c ^^^ d) :: xorL l r
      rw [h1, h3]
    · show (times2 c d).2 + (((l.zip r).map fun p => times2 p.1 p.2).map Prod.snd).sum = _
      rw [h2, h3, turns_cons]
/-! ### products with quarter turns -/
abbrev PE := Nat × List Nat
def om (a b : PE) : PE := ((a.1 + b.1 + turns a.2 b.2) % 4, xorL a.2 b.2)
def of (x : Spin) : PE := (2 * x.s, x.l)
def e1 (m : Nat) : PE := (0, zs m)
structure WE (m : Nat) (a : PE) : Prop where
  f : a.1 < 4
  l : WL m a.2
structure WS (m : Nat) (x : Spin) : Prop where
  s : x.s < 2
  l : WL m x.l
theorem we_of {m : Nat} {x : Spin} (h : WS m x) : WE m (of x) := ⟨by have := h.s; show 2 * x.s < 4; omega, h.l⟩
theorem we_e1 (m : Nat) : WE m (e1 m) := ⟨by show 0 < 4; decide, wl_zs m⟩
theorem we_om {m : Nat} {a b : PE} (ha : WE m a) (hb : WE m b) : WE m (om a b) := ⟨Nat.mod_lt _ (by decide), xorL_wl ha.l hb.l⟩
theorem om_assoc {m : Nat} {a b c : PE} (ha : WE m a) (hb : WE m b) (hc : WE m c) : om (om a b) c = om a (om b c) := by
  have h1 := turns_assoc ha.l hb.l hc.l
  unfold om
  rw [xorL_assoc]
  congr 1
  show ((a.1 + b.1 + turns a.2 b.2) % 4 + c.1 + turns (xorL a.2 b.2) c.2) % 4 = (a.1 + (b.1 + c.1 + turns b.2 c.2) % 4 + turns a.2 (xorL b.2 c.2)) % 4
  omega
theorem e1_om {m : Nat} {a : PE} (ha : WE m a) : om (e1 m) a = a := by
  have := ha.f
  obtain ⟨x, l⟩ := a
  show ((0 + x + turns (zs m) l) % 4, xorL (zs m) l) = (x, l)
  rw [turns_zs ha.l, xorL_zs ha.l]
  congr 1
  show (0 + x + 0) % 4 = x
  have : x < 4 := this
  omega
theorem om_e1 {m : Nat} {a : PE} (ha : WE m a) : om a (e1 m) = a := by
  have := ha.f
  obtain ⟨x, l⟩ := a
  show ((x + 0 + turns l (zs m)) % 4, xorL l (zs m)) = (x, l)
  rw [turns_zs2 ha.l, xorL_zs2 ha.l]
  congr 1
  show (x + 0 + 0) % 4 = x
  have : x < 4 := this
  omega
theorem om_swap {m : Nat} {a b : PE} (ha : WE m a) (hb : WE m b) (h : turns a.2 b.2 % 2 = 0) : om a b = om b a := by
  have h1 := turns_swap ha.l hb.l
  unfold om
  rw [xorL_comm]
  congr 1
  omega
theorem of_sq {m : Nat} {x : Spin} (h : WS m x) : om (of x) (of x) = e1 m := by
  unfold om of e1
  rw [xorL_self h.l, turns_self h.l]
  congr 1
  have := h.s
  show (2 * x.s + 2 * x.s + 0) % 4 = 0
  omega
theorem of_mulP {x y : Spin} (h : turns x.l y.l % 2 = 0) : of (mulP x y) = om (of x) (of y) := by
  unfold of om mulP
  congr 1
  show 2 * ((x.s + y.s + turns x.l y.l % 4 / 2) % 2) = (2 * x.s + 2 * y.s + turns x.l y.l) % 4
  omega
theorem ws_mulP {m : Nat} {x y : Spin} (hx : WS m x) (hy : WS m y) : WS m (mulP x y) := ⟨Nat.mod_lt _ (by decide), xorL_wl hx.l hy.l⟩
theorem ws_blank (m : Nat) : WS m (blank m) := ⟨by show 0 < 2; decide, wl_zs m⟩
theorem of_blank (m : Nat) : of (blank m) = e1 m := rfl
theorem of_inj {x y : Spin} (h : of x = of y) : x = y := by
  obtain ⟨s, l⟩ := x
  obtain ⟨t, r⟩ := y
  have h1 : 2 * s = 2 * t := congrArg Prod.fst h
  have h2 : l = r := congrArg Prod.snd h
  rw [h2, show s = t by omega]
/-- what some generate -/
inductive In (m : Nat) (S : List Spin) : PE → Prop
  | one : In m S (e1 m)
  | mul {s : Spin} {g : PE} : s ∈ S → In m S g → In m S (om (of s) g)
/-- such as can be measured together -/
structure Com (m : Nat) (S : List Spin) : Prop where
  w : ∀ s ∈ S, WS m s
  c : ∀ s ∈ S, ∀ t ∈ S, turns s.l t.l % 2 = 0
theorem Com.sub {m : Nat} {S T : List Spin} (h : Com m S) (hs : ∀ x ∈ T, x ∈ S) : Com m T := ⟨fun s hx => h.w s (hs s hx), fun s hx t ht => h.c s (hs s hx) t (hs t ht)⟩
theorem In.mono {m : Nat} {S T : List Spin} (hs : ∀ x ∈ T, x ∈ S) {g : PE} (h : In m T g) : In m S g := by
  induction h with
  | one => exact .one
  | mul h1 _ ih => exact .mul (hs _ h1) ih
section
variable {m : Nat} {S : List Spin}
theorem In.we (hw : ∀ s ∈ S, WS m s) {g : PE} (h : In m S g) : WE m g := by
  induction h with
  | one => exact we_e1 m
  | mul h1 _ ih => exact we_om (we_of (hw _ h1)) ih
theorem In.comm (hw : ∀ s ∈ S, WS m s) {x : List Nat} (hx : WL m x) (hc : ∀ s ∈ S, turns s.l x % 2 = 0) {g : PE} (h : In m S g) : turns g.2 x % 2 = 0 := by
  induction h with
  | one =>
    show turns (zs m) x % 2 = 0
    rw [turns_zs hx]
  | @mul s g h1 h2 ih =>
    have := turns_bil (hw s h1).l (In.we hw h2).l hx
    have := hc s h1
    show turns (xorL s.l g.2) x % 2 = 0
    omega
theorem In.comm2 (h : Com m S) {g k : PE} (hg : In m S g) (hk : In m S k) : turns g.2 k.2 % 2 = 0 := by
  refine In.comm h.w (In.we h.w hk).l (fun s hs => ?_) hg
  rw [turns_sw2 (h.w s hs).l (In.we h.w hk).l]
  exact In.comm h.w (h.w s hs).l (fun t ht => h.c t ht s hs) hk
theorem In.even (h : Com m S) {g : PE} (hg : In m S g) : g.1 % 2 = 0 := by
  induction hg with
  | one => rfl
  | @mul s g h1 h2 ih =>
    have h3 : turns s.l g.2 % 2 = 0 := by
      have := In.comm2 h (In.mul h1 .one) h2
      have e : (om (of s) (e1 m)).2 = s.l := xorL_zs2 (h.w s h1).l
      rw [e] at this
      exact this
    show ((2 * s.s + g.1 + turns s.l g.2) % 4) % 2 = 0
    omega
theorem In.of (h : Com m S) {s : Spin} (hs : s ∈ S) : In m S (of s) := by
  have := In.mul hs (.one (m := m))
  rw [om_e1 (we_of (h.w s hs))] at this
  exact this
theorem In.om (hw : ∀ s ∈ S, WS m s) {g k : PE} (hg : In m S g) (hk : In m S k) : In m S (om g k) := by
  induction hg with
  | one => rw [e1_om (In.we hw hk)]; exact hk
  | @mul s g h1 h2 ih =>
    rw [om_assoc (we_of (hw s h1)) (In.we hw h2) (In.we hw hk)]
    exact .mul h1 ih
/-- the product of some, from the right -/
def pfr (m : Nat) (T : List Spin) : PE := T.foldr (fun x g => om (of x) g) (e1 m)
theorem pfr_in : ∀ {T : List Spin}, (∀ x ∈ T, x ∈ S) → In m S (pfr m T)
  | [], _ => .one
  | x :: T, h => .mul (h x (List.mem_cons_self ..)) (pfr_in fun y hy => h y (List.mem_cons_of_mem _ hy))
theorem sub_step (h : Com m S) {s : Spin} {R T : List Spin} (hsub : List.Sublist T R) : (∀ x ∈ R, x ∈ S) → s ∈ R → ∃ T', List.Sublist T' R ∧ om (of s) (pfr m T) = pfr m T' := by
  induction hsub with
  | slnil => intro _ hs; cases hs
  | @cons T R x hsub ih =>
    intro hR hs
    rcases List.mem_cons.mp hs with rfl | hs
    · exact ⟨s :: T, .cons_cons s hsub, rfl⟩
    · obtain ⟨T', h1, h2⟩ := ih (fun y hy => hR y (List.mem_cons_of_mem _ hy)) hs
      exact ⟨T', .cons x h1, h2⟩
  | @cons_cons T R x hsub ih =>
    intro hR hs
    have hxS := hR x (List.mem_cons_self ..)
    have hT : ∀ y ∈ T, y ∈ S := fun y hy => hR y (List.mem_cons_of_mem _ (hsub.subset hy))
    have wT : WE m (pfr m T) := In.we h.w (pfr_in hT)
    have wx := we_of (h.w x hxS)
    rcases List.mem_cons.mp hs with rfl | hs
    · refine ⟨T, .cons s hsub, ?_⟩
      show om (My.of s) (om (My.of s) (pfr m T)) = _
      rw [← om_assoc wx wx wT, of_sq (h.w s hxS), e1_om wT]
    · obtain ⟨T', h1, h2⟩ := ih (fun y hy => hR y (List.mem_cons_of_mem _ hy)) hs
      have hsS := hR s (List.mem_cons_of_mem _ hs)
      have ws := we_of (h.w s hsS)
      refine ⟨x :: T', .cons_cons x h1, ?_⟩
      show om (My.of s) (om (My.of x) (pfr m T)) = om (My.of x) (pfr m T')
      rw [← om_assoc ws wx wT, om_swap ws wx (h.c s hsS x hxS), om_assoc wx ws wT, h2]
theorem in_sub (h : Com m S) {g : PE} (hg : In m S g) : ∃ T, List.Sublist T S ∧ pfr m T = g := by
  induction hg with
  | one => exact ⟨[], List.nil_sublist _, rfl⟩
  | mul h1 _ ih =>
    obtain ⟨T, h3, rfl⟩ := ih
    obtain ⟨T', h4, h5⟩ := sub_step h h3 (fun x hx => hx) h1
    exact ⟨T', h4, h5.symm⟩
theorem fold_pfr : ∀ {T : List Spin} {a : PE}, WE m a → (∀ x ∈ T, WS m x) → T.foldl (fun g x => om g (of x)) a = om a (pfr m T)
  | [], a, ha, _ => (om_e1 ha).symm
  | x :: T, a, ha, hT => by
    have hx := we_of (hT x (List.mem_cons_self ..))
    have hT2 : ∀ y ∈ T, WS m y := fun y hy => hT y (List.mem_cons_of_mem _ hy)
    have hp : WE m (pfr m T) := In.we hT2 (pfr_in fun _ h => h)
    show T.foldl (fun g x => om g (of x)) (om a (of x)) = _
    rw [fold_pfr (we_om ha hx) hT2, om_assoc ha hx hp]
    rfl
/-! ### the document's product -/
def phz (z : Spin × Nat) : PE := ((2 * z.1.s + z.2) % 4, z.1.l)
theorem phz_mul {z : Spin × Nat} {x : Spin} (hz : WL m z.1.l) (hx : WL m x.l) : phz (mul z (x, 0)) = om (phz z) (of x) := by
  unfold Su173.mul phz om of
  rw [product_eq hz hx]
  congr 1
  show (2 * ((z.1.s + x.s) % 2) + (z.2 + 0 + turns z.1.l x.l % 4) % 4) % 4 = ((2 * z.1.s + z.2) % 4 + 2 * x.s + turns z.1.l x.l) % 4
  omega
theorem prodOf_fold : ∀ {T : List Spin} {z : Spin × Nat}, WL m z.1.l → z.2 < 4 → (∀ x ∈ T, WS m x) → phz (T.foldl (fun s x => mul s (x, 0)) z) = T.foldl (fun g x => om g (of x)) (phz z) ∧ (T.foldl (fun s x => mul s (x, 0)) z).2 < 4
  | [], _, _, hz, _ => ⟨rfl, hz⟩
  | x :: T, z, hl, hz, hT => by
    have hx := hT x (List.mem_cons_self ..)
    have g : WL m (mul z (x, 0)).1.l := by
      show WL m (Su173.product z.1.l x.l).1
      rw [product_eq hl hx.l]
      exact xorL_wl hl hx.l
    have ih := prodOf_fold (T := T) (z := mul z (x, 0)) g (Nat.mod_lt _ (by decide)) fun y hy => hT y (List.mem_cons_of_mem _ hy)
    refine ⟨?_, ih.2⟩
    show phz (T.foldl (fun s x => mul s (x, 0)) (mul z (x, 0))) = T.foldl (fun g x => om g (of x)) (om (phz z) (of x))
    rw [ih.1, phz_mul hl hx.l]
theorem prodOf_pfr {T : List Spin} (hT : ∀ x ∈ T, WS m x) : (prodOf m T).1.l = (pfr m T).2 ∧ signOf (prodOf m T) = (pfr m T).1 / 2 := by
  have h := prodOf_fold (T := T) (z := (blank m, 0)) (wl_zs m) (by show 0 < 4; decide) hT
  have hw : WE m (pfr m T) := In.we hT (pfr_in fun _ h => h)
  have e : phz (prodOf m T) = pfr m T := by
    unfold prodOf
    rw [h.1, fold_pfr (m := m) (a := phz (blank m, 0)) (we_e1 m) hT]
    exact e1_om hw
  have h2 : (prodOf m T).2 < 4 := h.2
  rw [← e]
  refine ⟨rfl, ?_⟩
  show ((prodOf m T).1.s + (prodOf m T).2 / 2) % 2 = ((2 * (prodOf m T).1.s + (prodOf m T).2) % 4) / 2
  omega
/-! ### the program's products -/
def mprod (m : Nat) (T : List Spin) : Spin := T.foldl mulP (blank m)
theorem mfold : ∀ {T : List Spin} {a : Spin}, Com m (a :: T) → WS m (T.foldl mulP a) ∧ of (T.foldl mulP a) = T.foldl (fun g x => om g (of x)) (of a)
  | [], a, h => ⟨h.w a (List.mem_cons_self ..), rfl⟩
  | x :: T, a, h => by
    have ha := List.mem_cons_self (a := a) (l := x :: T)
    have hx : x ∈ a :: x :: T := List.mem_cons_of_mem _ (List.mem_cons_self ..)
    have hT : ∀ y ∈ T, y ∈ a :: x :: T := fun y hy => List.mem_cons_of_mem _ (List.mem_cons_of_mem _ hy)
    have wa := h.w a ha
    have wx := h.w x hx
    have g : Com m (mulP a x :: T) := by
      refine ⟨fun s hs => ?_, fun s hs t ht => ?_⟩
      · rcases List.mem_cons.mp hs with rfl | hs
        · exact ws_mulP wa wx
        · exact h.w s (hT s hs)
      · have key : ∀ y ∈ T, turns (xorL a.l x.l) y.l % 2 = 0 := fun y hy => by
          have h1 := turns_bil wa.l wx.l (h.w y (hT y hy)).l
          have h2 := h.c a ha y (hT y hy)
          have h3 := h.c x hx y (hT y hy)
          omega
        rcases List.mem_cons.mp hs with rfl | hs
        · rcases List.mem_cons.mp ht with rfl | ht
          · rw [turns_self (ws_mulP wa wx).l]
          · exact key t ht
        · rcases List.mem_cons.mp ht with rfl | ht
          · rw [turns_sw2 (h.w s (hT s hs)).l (ws_mulP wa wx).l]
            exact key s hs
          · exact h.c s (hT s hs) t (hT t ht)
    have ih := mfold g
    refine ⟨ih.1, ?_⟩
    show of (T.foldl mulP (mulP a x)) = T.foldl (fun g x => om g (of x)) (om (of a) (of x))
    rw [ih.2, of_mulP (h.c a ha x hx)]
theorem com_blank {T : List Spin} (h : Com m T) : Com m (blank m :: T) := by
  refine ⟨fun s hs => ?_, fun s hs t ht => ?_⟩
  · rcases List.mem_cons.mp hs with rfl | hs
    · exact ws_blank m
    · exact h.w s hs
  · rcases List.mem_cons.mp hs with rfl | hs
    · rcases List.mem_cons.mp ht with rfl | ht
      · rw [turns_self (ws_blank m).l]
      · show turns (zs m) t.l % 2 = 0
        rw [turns_zs (h.w t ht).l]
    · rcases List.mem_cons.mp ht with rfl | ht
      · show turns s.l (zs m) % 2 = 0
        rw [turns_zs2 (h.w s hs).l]
      · exact h.c s hs t ht
theorem mprod_pfr {T : List Spin} (h : Com m T) : WS m (mprod m T) ∧ of (mprod m T) = pfr m T := by
  have g := mfold (com_blank h)
  refine ⟨g.1, ?_⟩
  unfold mprod
  rw [g.2, fold_pfr (by rw [of_blank]; exact we_e1 m) h.w, of_blank, e1_om (In.we h.w (pfr_in fun _ h => h))]
theorem mprod_snoc (T : List Spin) (x : Spin) : mprod m (T ++ [x]) = mulP (mprod m T) x := by
  unfold mprod
  rw [List.foldl_append]
  rfl
theorem prods_snoc2 (S : List Spin) (x : Spin) : Mir.prods m (S ++ [x]) = Mir.prods m S ++ (Mir.prods m S).map fun p => mulP p x := by
  unfold Mir.prods
  rw [List.foldl_append]
  rfl
theorem prods_mem {p : Spin} : ∀ {n : Nat} {S : List Spin}, S.length = n → (p ∈ Mir.prods m S ↔ ∃ T, List.Sublist T S ∧ mprod m T = p)
  | 0, S, hn => by
    rw [List.length_eq_zero_iff.mp hn]
    show p ∈ [blank m] ↔ _
    rw [List.mem_singleton]
    constructor
    · rintro rfl
      exact ⟨[], .slnil, rfl⟩
    · rintro ⟨T, h1, rfl⟩
      rw [List.eq_nil_of_sublist_nil h1]
      rfl
  | n + 1, S, hn => by
    obtain ⟨R, x, rfl⟩ : ∃ R x, S = R ++ [x] := ⟨S.dropLast, S.getLast (by intro h; rw [h] at hn; cases hn), (List.dropLast_concat_getLast _).symm⟩
    have hR : R.length = n := by rw [List.length_append] at hn; simpa using hn
    rw [prods_snoc2, List.mem_append, List.mem_map]
    constructor
    · rintro (h | ⟨p', h, rfl⟩)
      · obtain ⟨T, h1, h2⟩ := (prods_mem hR).mp h
        exact ⟨T, h1.trans (List.sublist_append_left ..), h2⟩
      · obtain ⟨T, h1, rfl⟩ := (prods_mem (p := p') hR).mp h
        exact ⟨T ++ [x], h1.append (List.Sublist.refl _), mprod_snoc T x⟩
    · rintro ⟨T, h1, rfl⟩
      obtain ⟨T1, T2, rfl, h2, h3⟩ := List.sublist_append_iff.mp h1
      cases h3 with
      | cons _ h4 =>
        rw [List.eq_nil_of_sublist_nil h4, List.append_nil]
        exact .inl ((prods_mem hR).mpr ⟨T1, h2, rfl⟩)
      | cons_cons _ h4 =>
        rw [List.eq_nil_of_sublist_nil h4, mprod_snoc]
        exact .inr ⟨mprod m T1, (prods_mem hR).mpr ⟨T1, h2, rfl⟩, rfl⟩
theorem subs_mem : ∀ {S T : List Spin}, T ∈ subs S ↔ List.Sublist T S
  | [], T => by
    show T ∈ [[]] ↔ _
    rw [List.mem_singleton]
    exact ⟨fun h => by rw [h]; exact .slnil, fun h => List.eq_nil_of_sublist_nil h⟩
  | x :: S, T => by
    show T ∈ subs S ++ (subs S).map (fun s => x :: s) ↔ _
    rw [List.mem_append, List.mem_map]
    constructor
    · rintro (h | ⟨T', h, rfl⟩)
      · exact .cons x (subs_mem.mp h)
      · exact .cons_cons x (subs_mem.mp h)
    · intro h
      cases h with
      | cons _ h => exact .inl (subs_mem.mpr h)
      | cons_cons _ h => exact .inr ⟨_, subs_mem.mpr h, rfl⟩
/-! ### which sign -/
theorem lastSign_none {l : List Nat} {ps : List Spin} (h : ∀ p ∈ ps, p.l ≠ l) : Mir.lastSign ps l = none := by
  unfold Mir.lastSign
  suffices g : ∀ o : Option Nat, ps.foldl (fun o p => if p.l = l then some p.s else o) o = o by exact g none
  induction ps with
  | nil => intro o; rfl
  | cons p r ih =>
    intro o
    rw [List.foldl_cons, if_neg (h p (List.mem_cons_self ..))]
    exact ih (fun q hq => h q (List.mem_cons_of_mem _ hq)) o
theorem lastSign_some {l : List Nat} {c : Nat} {ps : List Spin} (h : ∃ p ∈ ps, p.l = l) (hc : ∀ p ∈ ps, p.l = l → p.s = c) : Mir.lastSign ps l = some c := by
  unfold Mir.lastSign
  suffices g : ∀ o : Option Nat, (o = some c ∨ ∃ p ∈ ps, p.l = l) → ps.foldl (fun o p => if p.l = l then some p.s else o) o = some c by exact g none (.inr h)
  clear h
  induction ps with
  | nil =>
    rintro o (h | ⟨p, h, _⟩)
    · exact h
    · cases h
  | cons p r ih =>
    intro o h
    rw [List.foldl_cons]
    refine ih (fun q hq => hc q (List.mem_cons_of_mem _ hq)) _ ?_
    by_cases e : p.l = l
    · rw [if_pos e, hc p (List.mem_cons_self ..) e]
      exact .inl rfl
    · rw [if_neg e]
      rcases h with h | ⟨q, hq, h⟩
      · exact .inl h
      · rcases List.mem_cons.mp hq with rfl | hq
        · exact absurd h e
        · exact .inr ⟨q, hq, h⟩
/-- such as are what's sure -/
structure Good (m : Nat) (S : List Spin) : Prop extends Com m S where
  cons : ∀ f, In m S (f, zs m) → f = 0
  len : S.length = m
  max : ∀ l, WL m l → (∀ s ∈ S, turns s.l l % 2 = 0) → ∃ f, In m S (f, l)
theorem Good.uniq (h : Good m S) {a b : Nat} {l : List Nat} (ha : In m S (a, l)) (hb : In m S (b, l)) : a = b := by
  have wa := In.we h.w ha
  have h1 := In.om h.w ha hb
  have e : om (a, l) (b, l) = ((a + b + 0) % 4, zs m) := by
    unfold om
    rw [xorL_self wa.l, turns_self wa.l]
  rw [e] at h1
  have h2 := h.cons _ h1
  have h3 := In.even h.toCom ha
  have h4 := In.even h.toCom hb
  have h5 := wa.f
  have h6 := (In.we h.w hb).f
  simp only at h3 h4 h5 h6
  omega
/-- the sign -/
def sg (m : Nat) (S : List Spin) (l : List Nat) : Option Nat := Mir.lastSign (Mir.prods m S) l
theorem sg_some (h : Good m S) {c : Nat} {l : List Nat} (hl : In m S (2 * c, l)) : sg m S l = some c := by
  have key : ∀ p ∈ Mir.prods m S, p.l = l → p.s = c := fun p hp e => by
    obtain ⟨T, h1, rfl⟩ := (prods_mem rfl).mp hp
    have g := mprod_pfr (h.toCom.sub (T := T) fun x hx => h1.subset hx)
    have k := pfr_in (m := m) (S := S) (T := T) fun x hx => h1.subset hx
    rw [← g.2] at k
    have k2 : In m S (2 * (mprod m T).s, l) := by
      rw [← e]
      exact k
    have := h.uniq k2 hl
    omega
  refine lastSign_some ?_ key
  obtain ⟨T, h1, h2⟩ := in_sub h.toCom hl
  have g := mprod_pfr (h.toCom.sub (T := T) fun x hx => h1.subset hx)
  exact ⟨mprod m T, (prods_mem rfl).mpr ⟨T, h1, rfl⟩, by
    have := congrArg Prod.snd (g.2.trans h2)
    exact this⟩
theorem sg_none (h : Good m S) {l : List Nat} (hl : ∀ f, ¬ In m S (f, l)) : sg m S l = none := by
  refine lastSign_none fun p hp e => ?_
  obtain ⟨T, h1, rfl⟩ := (prods_mem rfl).mp hp
  have g := mprod_pfr (h.toCom.sub (T := T) fun x hx => h1.subset hx)
  have k := pfr_in (m := m) (S := S) (T := T) fun x hx => h1.subset hx
  rw [← g.2] at k
  refine hl (2 * (mprod m T).s) ?_
  rw [← e]
  exact k
theorem In.two (h : Com m S) {f : Nat} {l : List Nat} (hf : In m S (f, l)) : ∃ c, c < 2 ∧ f = 2 * c := by
  have h1 := In.even h hf
  have h2 := (In.we h.w hf).f
  simp only at h1 h2
  exact ⟨f / 2, by omega, by omega⟩
theorem sg_iff (h : Good m S) {c : Nat} {l : List Nat} : sg m S l = some c ↔ In m S (2 * c, l) := by
  constructor
  · intro e
    by_cases g : ∃ f, In m S (f, l)
    · obtain ⟨f, g⟩ := g
      obtain ⟨d, hd, rfl⟩ := In.two h.toCom g
      rw [sg_some h g] at e
      cases e
      exact g
    · rw [sg_none h fun f hf => g ⟨f, hf⟩] at e
      cases e
  · exact sg_some h
theorem sg_spec (h : Good m S) (l : List Nat) : ((subs S).find? fun s => (prodOf m s).1.l == l).map (fun s => signOf (prodOf m s)) = sg m S l := by
  cases hf : (subs S).find? fun s => (prodOf m s).1.l == l with
  | none =>
    symm
    refine sg_none h fun f hi => ?_
    obtain ⟨T, h1, h2⟩ := in_sub h.toCom hi
    have g := List.find?_eq_none.mp hf T (subs_mem.mpr h1)
    refine g ?_
    rw [(prodOf_pfr fun x hx => h.w x (h1.subset hx)).1, h2]
    exact beq_self_eq_true l
  | some T =>
    symm
    have h1 := subs_mem.mp (List.mem_of_find?_eq_some hf)
    have h2 := List.find?_some (p := fun s => (prodOf m s).1.l == l) hf
    replace h2 : (prodOf m T).1.l = l := eq_of_beq h2
    have g := prodOf_pfr (m := m) fun x hx => h.w x (h1.subset hx)
    have k := pfr_in (m := m) (S := S) (T := T) fun x hx => h1.subset hx
    refine sg_some h ?_
    obtain ⟨c, hc, e⟩ := In.two (f := (pfr m T).1) (l := (pfr m T).2) h.toCom k
    have e2 : signOf (prodOf m T) = c := by rw [g.2, e]; omega
    show In m S (2 * signOf (prodOf m T), l)
    rw [e2, ← h2, g.1, ← e]
    exact k
end
end My
set_option Elab.async false
set_option linter.all false
set_option maxRecDepth 100000
set_option maxHeartbeats 4000000
namespace My
open Mir (G xorL tn turns mulP)
open Su173 (Spin together mul signOf times2)
open Su175 (blank subs prodOf linked first)
/-- what those besides one span -/
inductive SpI (m : Nat) (S : List Spin) (i : Nat) : List Nat → Prop
  | one : SpI m S i (zs m)
  | add {j : Nat} {s : Spin} {l : List Nat} : j ≠ i → S[j]? = some s → SpI m S i l → SpI m S i (xorL s.l l)
structure Sure (m : Nat) (S : List Spin) : Prop extends Good m S where
  ind : ∀ i s, S[i]? = some s → ¬ SpI m S i s.l
section
variable {m : Nat} {S : List Spin}
theorem SpI.wl (h : ∀ s ∈ S, WS m s) {i : Nat} {l : List Nat} (g : SpI m S i l) : WL m l := by
  induction g with
  | one => exact wl_zs m
  | add _ h2 _ ih => exact xorL_wl (h _ (List.mem_of_getElem? h2)).l ih
theorem SpI.to {i j : Nat} {s : Spin} (h : ∀ s ∈ S, WS m s) (hj : j ≠ i) (hs : S[j]? = some s) : SpI m S i s.l := by
  have := SpI.add hj hs (.one (m := m))
  rw [xorL_zs2 (h s (List.mem_of_getElem? hs)).l] at this
  exact this
theorem Sure.once (h : Sure m S) {a b : List Spin} {p : Spin} (e : S = a ++ p :: b) : p ∉ b := fun hp => by
  obtain ⟨k, hk⟩ := List.getElem?_of_mem hp
  have h1 : S[a.length]? = some p := by rw [e, List.getElem?_append_right (Nat.le_refl _), Nat.sub_self]; rfl
  have h2 : S[a.length + 1 + k]? = some p := by
    rw [e, List.getElem?_append_right (by omega), show a.length + 1 + k - a.length = k + 1 by omega]
    exact hk
  exact h.ind _ _ h2 (SpI.to h.w (by omega) h1)
/-! ### measured -/
/-- what becomes of one -/
def turned (x p y : Spin) : Spin := if together y x = true then y else mulP y p
theorem bes_more {x p : Spin} : ∀ (b r : List Spin), b.foldl (Mir.besStep x) (r, some p) = (r ++ b.map (turned x p), some p)
  | [], r => by rw [List.map_nil, List.append_nil]; rfl
  | y :: b, r => by
    rw [List.foldl_cons]
    have e : Mir.besStep x (r, some p) y = (r ++ [turned x p y], some p) := by
      unfold Mir.besStep turned
      by_cases h : together y x = true
      · rw [if_pos h, if_pos h]
      · rw [if_neg h, if_neg h]
    rw [e, bes_more b, List.append_assoc]
    rfl
theorem bes_first {x : Spin} : ∀ (a r : List Spin), (∀ y ∈ a, together y x = true) → a.foldl (Mir.besStep x) (r, none) = (r ++ a, none)
  | [], r, _ => by rw [List.append_nil]; rfl
  | y :: a, r, h => by
    rw [List.foldl_cons]
    have e : Mir.besStep x (r, none) y = (r ++ [y], none) := by
      unfold Mir.besStep
      rw [if_pos (h y (List.mem_cons_self ..))]
    rw [e, bes_first a _ fun z hz => h z (List.mem_cons_of_mem _ hz), List.append_assoc]
    rfl
theorem letBe_eq {a b : List Spin} {x p : Spin} (ha : ∀ y ∈ a, together y x = true) (hp : ¬ together p x = true) : Mir.letBeSure (a ++ p :: b) x = a ++ x :: b.map (turned x p) := by
  unfold Mir.letBeSure
  rw [List.foldl_append, bes_first a [] ha, List.foldl_cons]
  have e : Mir.besStep x ([] ++ a, none) p = (a ++ [x], some p) := by
    unfold Mir.besStep
    rw [if_neg hp]
    rfl
  rw [e, bes_more, List.append_assoc]
  rfl
theorem splits {f : Spin → Bool} : ∀ {S : List Spin}, (∃ s ∈ S, f s = true) → ∃ a p b, S = a ++ p :: b ∧ (∀ y ∈ a, f y = false) ∧ f p = true ∧ S.find? f = some p
  | [], h => by
    obtain ⟨s, hs, _⟩ := h
    cases hs
  | y :: S, h => by
    by_cases e : f y = true
    · exact ⟨[], y, S, rfl, (fun z hz => by cases hz), e, by rw [List.find?_cons, e]⟩
    · have e' : f y = false := by simpa using e
      obtain ⟨s, hs, h2⟩ := h
      rcases List.mem_cons.mp hs with rfl | hs
      · exact absurd h2 e
      · obtain ⟨a, p, b, h3, h4, h5, h6⟩ := splits ⟨s, hs, h2⟩
        refine ⟨y :: a, p, b, by rw [h3]; rfl, fun z hz => ?_, h5, by rw [List.find?_cons, e']; exact h6⟩
        rcases List.mem_cons.mp hz with rfl | hz
        · exact e'
        · exact h4 z hz
/-- the document's measurement -/
theorem after_eq (h : Sure m S) {a b : List Spin} {x p : Spin} {l : List Nat} (e : S = a ++ p :: b) (ha : ∀ y ∈ a, together y x = true) (hp : ¬ together p x = true) :
    (S.map fun s => if s = p then x else if together s x = true then s else ⟨signOf (mul (s, 0) (p, 0)), (mul (s, 0) (p, 0)).1.l⟩) = Mir.letBeSure S x := by
  have hm := h.once e
  have hw := h.w
  subst e
  rw [letBe_eq ha hp, List.map_append, List.map_cons, if_pos rfl]
  have hpS : p ∈ a ++ p :: b := List.mem_append_right _ (List.mem_cons_self ..)
  congr 1
  · refine (List.map_congr_left fun y hy => ?_).trans (List.map_id _)
    rw [if_neg (fun z : y = p => hp (z ▸ ha y hy)), if_pos (ha y hy)]
    rfl
  · congr 1
    refine List.map_congr_left fun y hy => ?_
    rw [if_neg (fun z : y = p => hm (z ▸ hy))]
    unfold turned
    split
    · rfl
    · have w1 := hw y (List.mem_append_right _ (List.mem_cons_of_mem _ hy))
      have w2 := hw p hpS
      show (⟨((y.s + p.s) % 2 + (0 + 0 + (Su173.product y.l p.l).2) % 4 / 2) % 2, (Su173.product y.l p.l).1⟩ : Spin) = _
      rw [product_eq w1.l w2.l]
      unfold Mir.mulP
      congr 1
      show ((y.s + p.s) % 2 + (0 + 0 + turns y.l p.l % 4) % 4 / 2) % 2 = (y.s + p.s + turns y.l p.l % 4 / 2) % 2
      omega
/-! the measured ones keep all that holds -/
structure Meas (m : Nat) (S : List Spin) (x p : Spin) (a b : List Spin) : Prop where
  g : Sure m S
  hx : WS m x
  e : S = a ++ p :: b
  ha : ∀ y ∈ a, turns y.l x.l % 2 = 0
  hp : turns p.l x.l % 2 = 1
variable {x p : Spin} {a b : List Spin}
theorem turned_eq (hy : WS m y) (hx : WS m x) : turned x p y = if turns y.l x.l % 2 = 0 then y else mulP y p := by
  unfold turned
  rw [tog_turns hy.l hx.l]
  by_cases e : turns y.l x.l % 2 = 0
  · rw [if_pos e, if_pos (by rw [e]; rfl)]
  · rw [if_neg e, if_neg (by rw [beq_iff_eq]; exact e)]
namespace Meas
theorem pS (h : Meas m S x p a b) : p ∈ S := by rw [h.e]; exact List.mem_append_right _ (List.mem_cons_self ..)
theorem aS (h : Meas m S x p a b) {y : Spin} (hy : y ∈ a) : y ∈ S := by rw [h.e]; exact List.mem_append_left _ hy
theorem bS (h : Meas m S x p a b) {y : Spin} (hy : y ∈ b) : y ∈ S := by rw [h.e]; exact List.mem_append_right _ (List.mem_cons_of_mem _ hy)
theorem cases (h : Meas m S x p a b) {y : Spin} (hy : y ∈ S) : y ∈ a ∨ y = p ∨ y ∈ b := by
  rw [h.e] at hy
  rcases List.mem_append.mp hy with hy | hy
  · exact .inl hy
  · exact .inr (List.mem_cons.mp hy)
/-- the new ones -/
def new (x p : Spin) (a b : List Spin) : List Spin := a ++ x :: b.map (turned x p)
theorem x_new : x ∈ new x p a b := List.mem_append_right _ (List.mem_cons_self ..)
theorem a_new {y : Spin} (hy : y ∈ a) : y ∈ new x p a b := List.mem_append_left _ hy
theorem b_new {y : Spin} (hy : y ∈ b) : turned x p y ∈ new x p a b := List.mem_append_right _ (List.mem_cons_of_mem _ (List.mem_map.mpr ⟨y, hy, rfl⟩))
theorem new_cases (h : Meas m S x p a b) {s : Spin} (hs : s ∈ new x p a b) : s = x ∨ (WS m s ∧ In m S (of s) ∧ turns s.l x.l % 2 = 0) := by
  rcases List.mem_append.mp hs with hs | hs
  · exact .inr ⟨h.g.w s (h.aS hs), In.of h.g.toCom (h.aS hs), h.ha s hs⟩
  · rcases List.mem_cons.mp hs with rfl | hs
    · exact .inl rfl
    · obtain ⟨y, hy, rfl⟩ := List.mem_map.mp hs
      have wy := h.g.w y (h.bS hy)
      have wp := h.g.w p h.pS
      rw [turned_eq wy h.hx]
      by_cases e : turns y.l x.l % 2 = 0
      · rw [if_pos e]
        exact .inr ⟨wy, In.of h.g.toCom (h.bS hy), e⟩
      · rw [if_neg e]
        refine .inr ⟨ws_mulP wy wp, ?_, ?_⟩
        · rw [of_mulP (h.g.c y (h.bS hy) p h.pS)]
          exact .mul (h.bS hy) (In.of h.g.toCom h.pS)
        · have := turns_bil wy.l wp.l h.hx.l
          have := h.hp
          show turns (xorL y.l p.l) x.l % 2 = 0
          omega
theorem com (h : Meas m S x p a b) : Com m (new x p a b) := by
  refine ⟨fun s hs => ?_, fun s hs t ht => ?_⟩
  · rcases h.new_cases hs with rfl | hs
    · exact h.hx
    · exact hs.1
  · rcases h.new_cases hs with rfl | hs
    · rcases h.new_cases ht with rfl | ht
      · rw [turns_self h.hx.l]
      · rw [turns_sw2 h.hx.l ht.1.l]
        exact ht.2.2
    · rcases h.new_cases ht with rfl | ht
      · exact hs.2.2
      · exact In.comm2 h.g.toCom hs.2.1 ht.2.1
theorem back (h : Meas m S x p a b) {g : PE} (hg : In m (new x p a b) g) : In m S g ∨ ∃ k, In m S k ∧ g = om (of x) k := by
  have wx := we_of h.hx
  induction hg with
  | one => exact .inl .one
  | @mul s g hs hg ih =>
    rcases h.new_cases hs with rfl | hs
    · rcases ih with ih | ⟨k, hk, rfl⟩
      · exact .inr ⟨g, ih, rfl⟩
      · refine .inl ?_
        rw [← om_assoc wx wx (In.we h.g.w hk), of_sq h.hx, e1_om (In.we h.g.w hk)]
        exact hk
    · have ws := we_of hs.1
      rcases ih with ih | ⟨k, hk, rfl⟩
      · exact .inl (In.om h.g.w hs.2.1 ih)
      · have wk := In.we h.g.w hk
        refine .inr ⟨om (of s) k, In.om h.g.w hs.2.1 hk, ?_⟩
        rw [← om_assoc ws wx wk, om_swap ws wx hs.2.2, om_assoc wx ws wk]
theorem p_in (h : Meas m S x p a b) {k : PE} (hk : In m S k) : turns k.2 p.l % 2 = 0 := In.comm h.g.w (h.g.w p h.pS).l (fun s hs => h.g.c s hs p h.pS) hk
theorem x_p (h : Meas m S x p a b) : turns x.l p.l % 2 = 1 := by
  rw [turns_sw2 h.hx.l (h.g.w p h.pS).l]
  exact h.hp
theorem cons (h : Meas m S x p a b) {f : Nat} (hf : In m (new x p a b) (f, zs m)) : f = 0 := by
  rcases h.back hf with hf | ⟨k, hk, e⟩
  · exact h.g.cons f hf
  · have wk := In.we h.g.w hk
    have e2 : zs m = xorL x.l k.2 := congrArg Prod.snd e
    have e3 : x.l = k.2 := by
      have := xorL_back wk.l h.hx.l
      rw [xorL_comm k.2 x.l, ← e2, xorL_zs2 wk.l] at this
      exact this.symm
    have h1 := h.p_in hk
    have h2 := h.x_p
    rw [← e3] at h1
    omega
theorem forth (h : Meas m S x p a b) {g : PE} (hg : In m S g) : if turns g.2 x.l % 2 = 0 then In m (new x p a b) g else In m (new x p a b) (om g (of p)) := by
  have wx := we_of h.hx
  have wp := we_of (h.g.w p h.pS)
  have pp := of_sq (h.g.w p h.pS)
  induction hg with
  | one =>
    rw [if_pos (by show turns (zs m) x.l % 2 = 0; rw [turns_zs h.hx.l])]
    exact .one
  | @mul s g hs hg ih =>
    have ws := we_of (h.g.w s hs)
    have wg := In.we h.g.w hg
    have hb : turns (om (of s) g).2 x.l % 2 = (turns s.l x.l + turns g.2 x.l) % 2 := turns_bil ws.l wg.l h.hx.l
    have gp : om g (of p) = om (of p) g := om_swap wg wp (h.p_in hg)
    have sp : om (of s) (of p) = om (of p) (of s) := om_swap ws wp (h.g.c s hs p h.pS)
    have keep : turns s.l x.l % 2 = 0 → s ∈ new x p a b → if turns (om (of s) g).2 x.l % 2 = 0 then In m (new x p a b) (om (of s) g) else In m (new x p a b) (om (om (of s) g) (of p)) := fun h1 h2 => by
      by_cases e : turns g.2 x.l % 2 = 0
      · rw [if_pos e] at ih
        rw [if_pos (by omega)]
        exact .mul h2 ih
      · rw [if_neg e] at ih
        rw [if_neg (by omega), om_assoc ws wg wp]
        exact .mul h2 ih
    rcases h.cases hs with hs' | rfl | hs'
    · exact keep (h.ha s hs') (a_new hs')
    · have h1 := h.hp
      by_cases e : turns g.2 x.l % 2 = 0
      · rw [if_pos e] at ih
        rw [if_neg (by omega), ← gp, om_assoc wg wp wp, pp, om_e1 wg]
        exact ih
      · rw [if_neg e] at ih
        rw [if_pos (by omega), ← gp]
        exact ih
    · have hn := b_new (x := x) (p := p) (a := a) hs'
      rw [turned_eq (h.g.w s hs) h.hx] at hn
      by_cases es : turns s.l x.l % 2 = 0
      · rw [if_pos es] at hn
        exact keep es hn
      · rw [if_neg es] at hn
        have ot : of (mulP s p) = om (of s) (of p) := of_mulP (h.g.c s hs p h.pS)
        by_cases e : turns g.2 x.l % 2 = 0
        · rw [if_pos e] at ih
          rw [if_neg (by omega), om_assoc ws wg wp, gp, ← om_assoc ws wp wg, ← ot]
          exact .mul hn ih
        · rw [if_neg e] at ih
          rw [if_pos (by omega)]
          have e2 : om (of s) g = om (of (mulP s p)) (om g (of p)) := by
            rw [ot, gp, om_assoc ws wp (we_om wp wg), ← om_assoc wp wp wg, pp, e1_om wg]
          rw [e2]
          exact .mul hn ih
theorem maxA (h : Meas m S x p a b) {k : List Nat} (hk : WL m k) (hc : ∀ s ∈ new x p a b, turns s.l k % 2 = 0) (hpk : turns p.l k % 2 = 0) : ∃ f, In m (new x p a b) (f, k) := by
  obtain ⟨f, hf⟩ := h.g.max k hk fun s hs => by
    rcases h.cases hs with hs' | rfl | hs'
    · exact hc s (a_new hs')
    · exact hpk
    · have g := hc _ (b_new hs')
      rw [turned_eq (h.g.w s hs) h.hx] at g
      by_cases e : turns s.l x.l % 2 = 0
      · rw [if_pos e] at g
        exact g
      · rw [if_neg e] at g
        have g2 := turns_bil (h.g.w s hs).l (h.g.w p h.pS).l hk
        have g3 : turns (xorL s.l p.l) k % 2 = 0 := g
        omega
  have g := h.forth hf
  rw [if_pos (by show turns k x.l % 2 = 0; rw [turns_sw2 hk h.hx.l]; exact hc x x_new)] at g
  exact ⟨f, g⟩
theorem max (h : Meas m S x p a b) {k : List Nat} (hk : WL m k) (hc : ∀ s ∈ new x p a b, turns s.l k % 2 = 0) : ∃ f, In m (new x p a b) (f, k) := by
  have wp := h.g.w p h.pS
  by_cases e : turns p.l k % 2 = 0
  · exact h.maxA hk hc e
  · have wk := xorL_wl h.hx.l hk
    obtain ⟨f, hf⟩ := h.maxA (k := xorL x.l k) wk (fun s hs => by
      have h1 := turns_bil2 h.hx.l hk (h.com.w s hs).l
      have h2 := hc s hs
      have h3 := h.com.c s hs x x_new
      omega) (by
      have h1 := turns_bil2 h.hx.l hk wp.l
      have h2 := h.hp
      omega)
    have g := In.mul x_new hf
    have e2 : (om (of x) (f, xorL x.l k)).2 = k := xorL_back h.hx.l hk
    exact ⟨(om (of x) (f, xorL x.l k)).1, by
      have e3 : om (of x) (f, xorL x.l k) = ((om (of x) (f, xorL x.l k)).1, k) := Prod.ext rfl e2
      rw [← e3]
      exact g⟩
theorem at_new (h : Meas m S x p a b) {j : Nat} {s : Spin} (hs : (new x p a b)[j]? = some s) : (j = a.length ∧ s = x) ∨ (j ≠ a.length ∧ WS m s ∧ turns s.l p.l % 2 = 0 ∧ ∃ y, S[j]? = some y ∧ (s.l = y.l ∨ s.l = xorL y.l p.l)) := by
  have key : ∀ y ∈ S, turns y.l p.l % 2 = 0 := fun y hy => h.g.c y hy p h.pS
  rcases Nat.lt_trichotomy j a.length with hj | rfl | hj
  · unfold new at hs
    rw [List.getElem?_append_left hj] at hs
    have hm := h.aS (List.mem_of_getElem? hs)
    exact .inr ⟨by omega, h.g.w s hm, key s hm, s, by rw [h.e, List.getElem?_append_left hj]; exact hs, .inl rfl⟩
  · unfold new at hs
    rw [List.getElem?_append_right (Nat.le_refl _), Nat.sub_self] at hs
    exact .inl ⟨rfl, (Option.some.inj hs).symm⟩
  · unfold new at hs
    obtain ⟨k, rfl⟩ : ∃ k, j = a.length + (k + 1) := ⟨j - a.length - 1, by omega⟩
    rw [List.getElem?_append_right (by omega), show a.length + (k + 1) - a.length = k + 1 by omega, List.getElem?_cons_succ, List.getElem?_map] at hs
    cases hy : b[k]? with
    | none => rw [hy] at hs; cases hs
    | some y =>
      rw [hy] at hs
      have hs' : turned x p y = s := Option.some.inj hs
      have hm := h.bS (List.mem_of_getElem? hy)
      have wy := h.g.w y hm
      have wp := h.g.w p h.pS
      have hat : S[a.length + (k + 1)]? = some y := by
        rw [h.e, List.getElem?_append_right (by omega), show a.length + (k + 1) - a.length = k + 1 by omega]
        exact hy
      rw [turned_eq wy h.hx] at hs'
      split at hs'
      · subst hs'
        exact .inr ⟨by omega, wy, key _ hm, y, hat, .inl rfl⟩
      · subst hs'
        refine .inr ⟨by omega, ws_mulP wy wp, ?_, y, hat, .inr rfl⟩
        have h1 := turns_bil wy.l wp.l wp.l
        have h2 := key y hm
        have h3 := turns_self wp.l
        show turns (xorL y.l p.l) p.l % 2 = 0
        omega
theorem pat (h : Meas m S x p a b) : S[a.length]? = some p := by rw [h.e, List.getElem?_append_right (Nat.le_refl _), Nat.sub_self]; rfl
theorem sp_p (h : Meas m S x p a b) {i : Nat} {l : List Nat} (hl : SpI m S i l) : turns l p.l % 2 = 0 := by
  have wp := h.g.w p h.pS
  induction hl with
  | one => rw [turns_zs wp.l]
  | @add j s l h1 h2 h3 ih =>
    have hm := List.mem_of_getElem? h2
    have g1 := turns_bil (h.g.w s hm).l (SpI.wl h.g.w h3) wp.l
    have g2 := h.g.c s hm p h.pS
    omega
theorem sp_back (h : Meas m S x p a b) {i : Nat} (hi : i ≠ a.length) {l : List Nat} (hl : SpI m (new x p a b) i l) : SpI m S i l ∨ ∃ k, SpI m S i k ∧ l = xorL x.l k := by
  have wp := h.g.w p h.pS
  have add1 : ∀ {j : Nat} {s : Spin} {k : List Nat}, j ≠ i → (WS m s ∧ turns s.l p.l % 2 = 0 ∧ ∃ y, S[j]? = some y ∧ (s.l = y.l ∨ s.l = xorL y.l p.l)) → SpI m S i k → SpI m S i (xorL s.l k) := by
    rintro j s k hj ⟨_, _, y, hy, e | e⟩ hk
    · rw [e]
      exact .add hj hy hk
    · rw [e, xorL_assoc]
      exact .add hj hy (.add (Ne.symm hi) h.pat hk)
  induction hl with
  | one => exact .inl .one
  | @add j s l h1 h2 h3 ih =>
    rcases h.at_new h2 with ⟨rfl, rfl⟩ | ⟨hj, hs⟩
    · rcases ih with ih | ⟨k, hk, rfl⟩
      · exact .inr ⟨l, ih, rfl⟩
      · refine .inl ?_
        rw [xorL_back h.hx.l (SpI.wl h.g.w hk)]
        exact hk
    · rcases ih with ih | ⟨k, hk, rfl⟩
      · exact .inl (add1 h1 hs ih)
      · refine .inr ⟨xorL s.l k, add1 h1 hs hk, ?_⟩
        rw [← xorL_assoc, xorL_comm s.l x.l, xorL_assoc]
theorem sp_x (h : Meas m S x p a b) {l : List Nat} (hl : SpI m (new x p a b) a.length l) : turns l p.l % 2 = 0 := by
  have wp := h.g.w p h.pS
  induction hl with
  | one => rw [turns_zs wp.l]
  | @add j s l h1 h2 h3 ih =>
    rcases h.at_new h2 with ⟨e, _⟩ | ⟨hj, ws, hc, _⟩
    · exact absurd e h1
    · have g1 := turns_bil ws.l (SpI.wl h.com.w h3) wp.l
      omega
theorem ind (h : Meas m S x p a b) : ∀ i s, (new x p a b)[i]? = some s → ¬ SpI m (new x p a b) i s.l := by
  intro i s hs hl
  have wp := h.g.w p h.pS
  rcases h.at_new hs with ⟨rfl, rfl⟩ | ⟨hi, ws, hc, y, hy, e⟩
  · have h1 := h.sp_x hl
    have h2 := h.x_p
    omega
  · rcases h.sp_back hi hl with g | ⟨k, hk, e2⟩
    · rcases e with e | e
      · rw [e] at g
        exact h.g.ind i y hy g
      · have g2 := SpI.add (Ne.symm hi) h.pat g
        have wy := h.g.w y (List.mem_of_getElem? hy)
        rw [e, xorL_comm y.l p.l, xorL_back wp.l wy.l] at g2
        exact h.g.ind i y hy g2
    · have h1 := turns_bil h.hx.l (SpI.wl h.g.w hk) wp.l
      have h2 := h.sp_p hk
      have h3 := h.x_p
      rw [← e2] at h1
      omega
theorem sure (h : Meas m S x p a b) : Sure m (new x p a b) where
  w := h.com.w
  c := h.com.c
  cons := fun _ hf => h.cons hf
  len := by
    have := h.g.len
    rw [h.e] at this
    unfold new
    rw [List.length_append, List.length_cons] at this ⊢
    rw [List.length_map]
    exact this
  max := fun _ hk hc => h.max hk hc
  ind := h.ind
end Meas
/-- measured, sure it stays -/
theorem measured (h : Sure m S) {x : Spin} (hx : WS m x) (hn : ∃ s ∈ S, (!(together s x)) = true) :
    Sure m (Mir.letBeSure S x) ∧ ∃ p, (S.find? fun s => !(together s x)) = some p ∧ (S.map fun s => if s = p then x else if together s x = true then s else ⟨signOf (mul (s, 0) (p, 0)), (mul (s, 0) (p, 0)).1.l⟩) = Mir.letBeSure S x := by
  obtain ⟨a, p, b, e, ha, hp, hf⟩ := splits hn
  have ha' : ∀ y ∈ a, together y x = true := fun y hy => by have := ha y hy; simpa using this
  have hp' : ¬ together p x = true := by simpa using hp
  have hM : Meas m S x p a b := ⟨h, hx, e, fun y hy => by
    have g := ha' y hy
    rw [tog_turns (h.w y (by rw [e]; exact List.mem_append_left _ hy)).l hx.l] at g
    exact eq_of_beq g, by
    have wp : WS m p := h.w p (by rw [e]; exact List.mem_append_right _ (List.mem_cons_self ..))
    rw [tog_turns wp.l hx.l, beq_iff_eq] at hp'
    omega⟩
  refine ⟨?_, p, hf, after_eq (l := []) h e ha' hp'⟩
  rw [e, letBe_eq ha' hp']
  exact hM.sure
/-- an even chance just if one can't be measured with it -/
theorem even_chance (h : Sure m S) {c : Nat} {l : List Nat} (hl : WL m l) : sg m S l = none ↔ ∃ s ∈ S, (!(together s ⟨c, l⟩)) = true := by
  constructor
  · intro e
    by_cases g : ∃ s ∈ S, (!(together s ⟨c, l⟩)) = true
    · exact g
    · exfalso
      obtain ⟨f, hf⟩ := h.max l hl fun s hs => by
        have g1 : together s ⟨c, l⟩ = true := by
          cases g2 : together s ⟨c, l⟩ with
          | true => rfl
          | false => exact absurd ⟨s, hs, by rw [g2]; rfl⟩ g
        rw [tog_turns (y := ⟨c, l⟩) (h.w s hs).l hl] at g1
        exact eq_of_beq g1
      obtain ⟨d, _, rfl⟩ := In.two h.toCom hf
      rw [sg_some h.toGood hf] at e
      cases e
  · rintro ⟨s, hs, g⟩
    refine sg_none h.toGood fun f hf => ?_
    have h1 := In.comm h.w (h.w s hs).l (fun t ht => h.c t ht s hs) hf
    have h2 := turns_sw2 (h.w s hs).l hl
    rw [tog_turns (y := ⟨c, l⟩) (h.w s hs).l hl] at g
    have h3 : turns l s.l % 2 = 0 := h1
    have h4 : turns s.l l % 2 = 0 := by omega
    rw [show turns s.l (⟨c, l⟩ : Spin).l % 2 = 0 from h4] at g
    cases g
end
/-! ### at first -/
def entry (l : List (Nat × Nat)) (i j : Nat) : Nat := if j = i then 1 else if linked l i j = true then 3 else 0
def fi (m : Nat) (l : List (Nat × Nat)) (i : Nat) : Spin := ⟨0, (List.range m).map (entry l i)⟩
theorem first_eq (m : Nat) (l : List (Nat × Nat)) : first m l = (List.range m).map (fi m l) := rfl
theorem linked_sym (l : List (Nat × Nat)) (i j : Nat) : linked l i j = linked l j i := Bool.or_comm ..
theorem entry_lt (l : List (Nat × Nat)) (i j : Nat) : entry l i j < 4 := by
  unfold entry
  split
  · decide
  · split <;> decide
theorem fi_ws (m : Nat) (l : List (Nat × Nat)) (i : Nat) : WS m (fi m l i) := ⟨by show 0 < 2; decide, by
  refine ⟨by show ((List.range m).map _).length = m; rw [List.length_map, List.length_range], fun c hc => ?_⟩
  obtain ⟨j, _, rfl⟩ := List.mem_map.mp hc
  exact entry_lt l i j⟩
theorem fi_at {m : Nat} (l : List (Nat × Nat)) (i : Nat) {j : Nat} (hj : j < m) : (fi m l i).l.getD j 0 = entry l i j := by
  show ((List.range m).map (entry l i)).getD j 0 = _
  rw [List.getD_eq_getElem?_getD, List.getElem?_map, List.getElem?_range hj]
  rfl
def xp (a : Nat) : Nat := if a = 1 ∨ a = 2 then 1 else 0
theorem xp_xor : ∀ a, a < 4 → ∀ b, b < 4 → xp (a ^^^ b) = (xp a + xp b) % 2 := by decide +kernel
theorem xorL_at : ∀ {m : Nat} {a b : List Nat} {i : Nat}, WL m a → WL m b → (xorL a b).getD i 0 = a.getD i 0 ^^^ b.getD i 0
  | _, [], b, i, ha, hb => by
    obtain rfl : 0 = _ := ha.1
    rw [hb.un0]
    have e : ([] : List Nat).getD i 0 = 0 := by cases i <;> rfl
    show ([] : List Nat).getD i 0 = _
    rw [e]
    rfl
  | _, x :: a, b, i, ha, hb => by
    obtain rfl : a.length + 1 = _ := ha.1
    obtain ⟨y, r, rfl, _, hr⟩ := hb.un
    obtain ⟨_, _, e, _, ha'⟩ := ha.un
    cases e
    cases i with
    | zero => rfl
    | succ i =>
      show (xorL a r).getD i 0 = a.getD i 0 ^^^ r.getD i 0
      exact xorL_at ha' hr
theorem wl_at {m : Nat} {a : List Nat} (ha : WL m a) (i : Nat) : a.getD i 0 < 4 := by
  rw [List.getD_eq_getElem?_getD]
  cases h : a[i]? with
  | none => show 0 < 4; decide
  | some c => exact ha.2 c (List.mem_of_getElem? h)
def xa (a : List Nat) (i : Nat) : Nat := xp (a.getD i 0)
theorem xa_xor {m : Nat} {a b : List Nat} (i : Nat) (ha : WL m a) (hb : WL m b) : xa (xorL a b) i = (xa a i + xa b i) % 2 := by
  unfold xa
  rw [xorL_at ha hb]
  exact xp_xor _ (wl_at ha i) _ (wl_at hb i)
theorem zs_at (m i : Nat) : (zs m).getD i 0 = 0 := by
  unfold zs
  rw [List.getD_eq_getElem?_getD, List.getElem?_replicate]
  split <;> rfl
theorem xa_zs (m i : Nat) : xa (zs m) i = 0 := by
  unfold xa
  rw [zs_at]
  rfl
theorem xa_fi {m : Nat} (l : List (Nat × Nat)) (i : Nat) {j : Nat} (hj : j < m) : xa (fi m l i).l j = if j = i then 1 else 0 := by
  unfold xa
  rw [fi_at l i hj]
  unfold entry
  split
  · rfl
  · split <;> rfl
theorem turns_sum : ∀ {m : Nat} {a b : List Nat}, a.length = m → b.length = m → turns a b = ((List.range m).map fun v => tn (a.getD v 0) (b.getD v 0)).sum
  | m, [], b, ha, hb => by
    obtain rfl : 0 = m := ha
    rfl
  | m, x :: a, b, ha, hb => by
    obtain rfl : a.length + 1 = m := ha
    cases b with
    | nil => cases hb
    | cons y r =>
      rw [turns_cons, turns_sum (m := a.length) rfl (by simpa using hb), List.range_succ_eq_map, List.map_cons, List.sum_cons, List.map_map]
      rfl
theorem sum_ind (i a : Nat) : ∀ n, ((List.range n).map fun v => if v = i then a else 0).sum = if i < n then a else 0
  | 0 => rfl
  | n + 1 => by
    rw [List.range_succ, List.map_append, List.sum_append, sum_ind i a n]
    show _ + ((if n = i then a else 0) + 0) = _
    by_cases h1 : n = i
    · rw [if_pos h1, if_neg (by omega), if_pos (by omega)]
      omega
    · rw [if_neg h1]
      by_cases h2 : i < n
      · rw [if_pos h2, if_pos (by omega)]
        omega
      · rw [if_neg h2, if_neg (by omega)]
theorem sum_mod (f g : Nat → Nat) : ∀ n, (∀ v, v < n → f v % 2 = g v % 2) → ((List.range n).map f).sum % 2 = ((List.range n).map g).sum % 2
  | 0, _ => rfl
  | n + 1, h => by
    have ih := sum_mod f g n fun v hv => h v (by omega)
    have h1 := h n (by omega)
    rw [List.range_succ, List.map_append, List.map_append, List.sum_append, List.sum_append]
    show (_ + (f n + 0)) % 2 = (_ + (g n + 0)) % 2
    omega
theorem sum_add (f g : Nat → Nat) : ∀ n, ((List.range n).map fun v => f v + g v).sum = ((List.range n).map f).sum + ((List.range n).map g).sum
  | 0 => rfl
  | n + 1 => by
    rw [List.range_succ, List.map_append, List.map_append, List.map_append, List.sum_append, List.sum_append, List.sum_append, sum_add f g n]
    show _ + (f n + g n + 0) = (_ + (f n + 0)) + (_ + (g n + 0))
    omega
theorem fi_com {m : Nat} (l : List (Nat × Nat)) {i j : Nat} (hi : i < m) (hj : j < m) : turns (fi m l i).l (fi m l j).l % 2 = 0 := by
  by_cases hij : i = j
  · rw [hij, turns_self (fi_ws m l j).l]
  · rw [turns_sum (m := m) (fi_ws m l i).l.1 (fi_ws m l j).l.1]
    have z : ∃ z, z = bif linked l i j then 1 else 0 := ⟨_, rfl⟩
    obtain ⟨z, hz⟩ := z
    rw [sum_mod _ (fun v => (if v = i then z else 0) + (if v = j then z else 0)) m fun v hv => ?_, sum_add, sum_ind, sum_ind, if_pos hi, if_pos hj]
    · omega
    · show tn ((fi m l i).l.getD v 0) ((fi m l j).l.getD v 0) % 2 = _
      rw [fi_at l i hv, fi_at l j hv]
      unfold entry
      by_cases h1 : v = i
      · subst h1
        rw [if_pos rfl, if_neg hij, if_pos rfl, if_neg hij, linked_sym l j v, hz]
        cases linked l v j <;> rfl
      · rw [if_neg h1, if_neg h1]
        by_cases h2 : v = j
        · subst h2
          rw [if_pos rfl, if_pos rfl, hz]
          cases linked l i v <;> rfl
        · rw [if_neg h2, if_neg h2]
          cases linked l i v <;> cases linked l j v <;> rfl
theorem first_com (m : Nat) (l : List (Nat × Nat)) : Com m (first m l) := by
  refine ⟨fun s hs => ?_, fun s hs t ht => ?_⟩
  · obtain ⟨i, _, rfl⟩ := List.mem_map.mp hs
    exact fi_ws m l i
  · obtain ⟨i, hi, rfl⟩ := List.mem_map.mp hs
    obtain ⟨j, hj, rfl⟩ := List.mem_map.mp ht
    exact fi_com l (List.mem_range.mp hi) (List.mem_range.mp hj)
theorem first_mem {m : Nat} (l : List (Nat × Nat)) {i : Nat} (hi : i < m) : fi m l i ∈ first m l := List.mem_map.mpr ⟨i, List.mem_range.mpr hi, rfl⟩
theorem xa_pfr {m : Nat} (l : List (Nat × Nat)) {i : Nat} (hi : i < m) : ∀ {T : List Nat}, (∀ t ∈ T, t < m) → xa (pfr m (T.map (fi m l))).2 i = T.count i % 2
  | [], _ => xa_zs m i
  | t :: T, h => by
    have ih := xa_pfr l hi (T := T) fun x hx => h x (List.mem_cons_of_mem _ hx)
    have w : WE m (pfr m (T.map (fi m l))) := In.we (first_com m l).w (pfr_in fun x hx => by
      obtain ⟨y, hy, rfl⟩ := List.mem_map.mp hx
      exact first_mem l (h y (List.mem_cons_of_mem _ hy)))
    show xa (xorL (fi m l t).l (pfr m (T.map (fi m l))).2) i = _
    rw [xa_xor i (fi_ws m l t).l w.l, xa_fi l t hi, ih, List.count_cons]
    by_cases e : i = t
    · rw [if_pos e, if_pos (by rw [e]; exact beq_self_eq_true t)]
      omega
    · rw [if_neg e, if_neg (by rw [beq_iff_eq]; exact Ne.symm e)]
      omega
theorem first_sure (m : Nat) (l : List (Nat × Nat)) : Sure m (first m l) where
  w := (first_com m l).w
  c := (first_com m l).c
  cons := fun f hf => by
    obtain ⟨T, h1, h2⟩ := in_sub (first_com m l) hf
    obtain ⟨T0, h3, rfl⟩ := List.sublist_map_iff.mp h1
    have hlt : ∀ t ∈ T0, t < m := fun t ht => List.mem_range.mp (h3.subset ht)
    have nd : T0.Nodup := h3.nodup List.nodup_range
    cases T0 with
    | nil => exact (congrArg Prod.fst h2).symm
    | cons t T0 =>
      exfalso
      have g := xa_pfr l (hlt t (List.mem_cons_self ..)) hlt
      change pfr m ((t :: T0).map (fi m l)) = (f, zs m) at h2
      rw [h2, List.count_cons_self, List.count_eq_zero.mpr (List.nodup_cons.mp nd).1] at g
      rw [show xa (f, zs m).2 t = 0 from xa_zs m t] at g
      cases g
  len := by
    rw [first_eq, List.length_map, List.length_range]
  max := fun k hk hc => by
    have hw := (first_com m l).w
    have key : ∀ n, n ≤ m → ∃ g, In m (first m l) g ∧ ∀ i, i < m → xa g.2 i = if i < n then xa k i else 0 := by
      intro n
      induction n with
      | zero => exact fun _ => ⟨e1 m, .one, fun i _ => xa_zs m i⟩
      | succ n ih =>
        intro hn
        obtain ⟨g, h1, h2⟩ := ih (by omega)
        have h3 : xa k n = 0 ∨ xa k n = 1 := by
          unfold xa xp
          split
          · exact .inr rfl
          · exact .inl rfl
        rcases h3 with h3 | h3
        · refine ⟨g, h1, fun i hi => ?_⟩
          rw [h2 i hi]
          by_cases e : i = n
          · rw [if_neg (by omega), if_pos (by omega), e, h3]
          · by_cases e2 : i < n
            · rw [if_pos e2, if_pos (by omega)]
            · rw [if_neg e2, if_neg (by omega)]
        · refine ⟨om (of (fi m l n)) g, .mul (first_mem l (by omega)) h1, fun i hi => ?_⟩
          show xa (xorL (fi m l n).l g.2) i = _
          rw [xa_xor i (fi_ws m l n).l (In.we hw h1).l, xa_fi l n hi, h2 i hi]
          by_cases e : i = n
          · rw [if_pos e, if_neg (by omega), if_pos (by omega), e, h3]
          · rw [if_neg e]
            have h4 : xa k i % 2 = xa k i := by
              unfold xa xp
              split <;> rfl
            by_cases e2 : i < n
            · rw [if_pos e2, if_pos (by omega)]
              omega
            · rw [if_neg e2, if_neg (by omega)]
    obtain ⟨g, h1, h2⟩ := key m (Nat.le_refl _)
    have wg := In.we hw h1
    have wd := xorL_wl wg.l hk
    have d0 : ∀ i, i < m → xa (xorL g.2 k) i = 0 := fun i hi => by
      rw [xa_xor i wg.l hk, h2 i hi, if_pos hi]
      omega
    have dv : ∀ i, i < m → (xorL g.2 k).getD i 0 = 0 ∨ (xorL g.2 k).getD i 0 = 3 := fun i hi => by
      have h3 := wl_at wd i
      have h4 := d0 i hi
      unfold xa xp at h4
      split at h4
      · cases h4
      · omega
    have dz : ∀ i, i < m → (xorL g.2 k).getD i 0 = 0 := fun i hi => by
      rcases dv i hi with h | h
      · exact h
      · exfalso
        have c1 := turns_bil2 wg.l hk (fi_ws m l i).l
        have c2 := hc _ (first_mem l hi)
        have c3 := In.comm hw (fi_ws m l i).l (fun s hs => (first_com m l).c s hs _ (first_mem l hi)) h1
        have c4 := turns_sw2 wg.l (fi_ws m l i).l
        have c5 : turns (fi m l i).l (xorL g.2 k) % 2 = 0 := by omega
        rw [turns_sum (m := m) (fi_ws m l i).l.1 wd.1, sum_mod _ (fun v => if v = i then 1 else 0) m fun v hv => ?_, sum_ind, if_pos hi] at c5
        · cases c5
        · show tn ((fi m l i).l.getD v 0) ((xorL g.2 k).getD v 0) % 2 = _
          rw [fi_at l i hv]
          unfold entry
          by_cases e : v = i
          · rw [if_pos e, if_pos e, e, h]
            rfl
          · rw [if_neg e, if_neg e]
            rcases dv v hv with hv | hv <;> rw [hv] <;> cases linked l i v <;> rfl
    have ez : xorL g.2 k = zs m := by
      apply List.ext_getElem
      · rw [wd.1, (wl_zs m).1]
      · intro i h3 h4
        have hi : i < m := by rw [wd.1] at h3; exact h3
        have := dz i hi
        rw [List.getD_eq_getElem?_getD, List.getElem?_eq_getElem h3] at this
        have e2 : (zs m)[i] = 0 := List.getElem_replicate ..
        rw [e2]
        exact this
    have ek : g.2 = k := by
      have := xorL_back wg.l hk
      rw [ez, xorL_zs2 wg.l] at this
      exact this
    exact ⟨g.1, by rw [← ek]; exact h1⟩
  ind := fun i s hs hl => by
    have hi : i < m := by
      have := lt_of_get hs
      rw [first_eq, List.length_map, List.length_range] at this
      exact this
    have es : s = fi m l i := by
      rw [first_eq, List.getElem?_map, List.getElem?_range hi] at hs
      exact (Option.some.inj hs).symm
    have key : ∀ k, SpI m (first m l) i k → xa k i = 0 := fun k hk => by
      induction hk with
      | one => exact xa_zs m i
      | @add j t k h1 h2 h3 ih =>
        have hj : j < m := by
          have := lt_of_get h2
          rw [first_eq, List.length_map, List.length_range] at this
          exact this
        rw [first_eq, List.getElem?_map, List.getElem?_range hj] at h2
        have et : t = fi m l j := (Option.some.inj h2).symm
        rw [et, xa_xor i (fi_ws m l j).l (SpI.wl (first_com m l).w h3), xa_fi l j hi, ih, if_neg (Ne.symm h1)]
    have g := key _ hl
    rw [es, xa_fi l i hi, if_pos rfl] at g
    cases g
end My
set_option Elab.async false
set_option linter.all false
set_option maxRecDepth 100000
set_option maxHeartbeats 4000000
namespace My
open Mir (G xorL tn turns mulP)
open Su173 (Spin together mul signOf times2)
open Su175 (blank subs prodOf linked first rows code)
/-! ### some of a row -/
def sel (r : List Spin) (t : List Nat) : List Spin := (r.zip t).filterMap fun p => if p.2 = 1 then some p.1 else none
theorem sel_cons (x : Spin) (r : List Spin) (b : Nat) (t : List Nat) : sel (x :: r) (b :: t) = if b = 1 then x :: sel r t else sel r t := by
  unfold sel
  rw [List.zip_cons_cons, List.filterMap_cons]
  by_cases e : b = 1 <;> simp [e]
theorem sel_snoc {r : List Spin} {t : List Nat} (h : r.length = t.length) (x : Spin) (b : Nat) : sel (r ++ [x]) (t ++ [b]) = sel r t ++ if b = 1 then [x] else [] := by
  have e : sel [x] [b] = if b = 1 then [x] else [] := by
    rw [sel_cons]
    rfl
  rw [← e]
  unfold sel
  rw [List.zip_append h, List.filterMap_append]
theorem sel_sub : ∀ (r : List Spin) (t : List Nat), ∀ y ∈ sel r t, y ∈ r
  | [], _, y, h => by
    unfold sel at h
    rw [List.zip_nil_left] at h
    cases h
  | x :: r, [], y, h => by
    unfold sel at h
    rw [List.zip_nil_right] at h
    cases h
  | x :: r, b :: t, y, h => by
    rw [sel_cons] at h
    split at h
    · rcases List.mem_cons.mp h with rfl | h
      · exact List.mem_cons_self ..
      · exact List.mem_cons_of_mem _ (sel_sub r t y h)
    · exact List.mem_cons_of_mem _ (sel_sub r t y h)
theorem prods_at {m : Nat} : ∀ {n : Nat} {r : List Spin} {t : List Nat}, r.length = n → t.length = n → (∀ v ∈ t, v < 2) → (Mir.prods m r)[Mir.code2 t]? = some (mprod m (sel r t))
  | 0, r, t, hr, ht, _ => by
    rw [List.length_eq_zero_iff.mp hr, List.length_eq_zero_iff.mp ht]
    rfl
  | n + 1, r, t, hr, ht, h => by
    obtain ⟨R, x, rfl⟩ : ∃ R x, r = R ++ [x] := ⟨r.dropLast, r.getLast (by intro h; rw [h] at hr; cases hr), (List.dropLast_concat_getLast _).symm⟩
    obtain ⟨T, b, rfl⟩ : ∃ T b, t = T ++ [b] := ⟨t.dropLast, t.getLast (by intro h; rw [h] at ht; cases ht), (List.dropLast_concat_getLast _).symm⟩
    have hR : R.length = n := by rw [List.length_append] at hr; simpa using hr
    have hT : T.length = n := by rw [List.length_append] at ht; simpa using ht
    have hT2 : ∀ v ∈ T, v < 2 := fun v hv => h v (List.mem_append_left _ hv)
    have hb : b < 2 := h b (List.mem_append_right _ (List.mem_singleton.mpr rfl))
    have ih := prods_at (m := m) hR hT hT2
    have hlt : Mir.code2 T < (Mir.prods m R).length := lt_of_get ih
    have hl : (Mir.prods m R).length = 2 ^ T.length := by rw [prods_len, hR, hT]
    rw [prods_snoc2, code2_snoc, sel_snoc (by rw [hR, hT])]
    have hb2 : b = 0 ∨ b = 1 := by omega
    rcases hb2 with rfl | rfl
    · rw [Nat.zero_mul, Nat.add_zero, List.getElem?_append_left hlt, ih, if_neg (by decide), List.append_nil]
    · rw [Nat.one_mul, List.getElem?_append_right (by omega), hl, Nat.add_sub_cancel, List.getElem?_map, ih, if_pos rfl, mprod_snoc]
      rfl
section
variable {m : Nat} {S r : List Spin}
theorem com_pfr_sel (h : Com m r) (t : List Nat) : In m r (pfr m (sel r t)) := pfr_in (sel_sub r t)
theorem pfr_hom : ∀ {r : List Spin} {t u : List Nat}, Com m r → t.length = r.length → u.length = r.length → (∀ v ∈ t, v < 2) → (∀ v ∈ u, v < 2) → pfr m (sel r (xorL t u)) = om (pfr m (sel r t)) (pfr m (sel r u))
  | [], t, u, h, ht, hu, _, _ => by
    rw [List.length_eq_zero_iff.mp ht, List.length_eq_zero_iff.mp hu]
    exact (e1_om (we_e1 m)).symm
  | x :: r, t, u, h, ht, hu, ht2, hu2 => by
    cases t with
    | nil => cases ht
    | cons a t =>
      cases u with
      | nil => cases hu
      | cons b u =>
        have hr := h.sub (T := r) fun y hy => List.mem_cons_of_mem _ hy
        have ih := pfr_hom (t := t) (u := u) hr (by simpa using ht) (by simpa using hu) (fun v hv => ht2 v (List.mem_cons_of_mem _ hv)) fun v hv => hu2 v (List.mem_cons_of_mem _ hv)
        have ha := ht2 a (List.mem_cons_self ..)
        have hb := hu2 b (List.mem_cons_self ..)
        have hx : x ∈ x :: r := List.mem_cons_self ..
        have wx := we_of (h.w x hx)
        have it : In m (x :: r) (pfr m (sel r t)) := (com_pfr_sel hr t).mono fun y hy => List.mem_cons_of_mem _ hy
        have iu : In m (x :: r) (pfr m (sel r u)) := (com_pfr_sel hr u).mono fun y hy => List.mem_cons_of_mem _ hy
        have wt := In.we h.w it
        have wu := In.we h.w iu
        have sw : om (pfr m (sel r t)) (of x) = om (of x) (pfr m (sel r t)) := om_swap wt wx (In.comm2 h it (In.of h hx))
        show pfr m (sel (x :: r) ((a ^^^ b) :: xorL t u)) = _
        rw [sel_cons, sel_cons, sel_cons]
        have ha2 : a = 0 ∨ a = 1 := by omega
        have hb2 : b = 0 ∨ b = 1 := by omega
        rcases ha2 with rfl | rfl <;> rcases hb2 with rfl | rfl
        · rw [if_neg (by decide), if_neg (by decide), if_neg (by decide), ih]
        · rw [if_pos (by decide), if_neg (by decide), if_pos rfl]
          show om (of x) (pfr m (sel r (xorL t u))) = om (pfr m (sel r t)) (om (of x) (pfr m (sel r u)))
          rw [ih, ← om_assoc wt wx wu, sw, om_assoc wx wt wu]
        · rw [if_pos (by decide), if_pos rfl, if_neg (by decide)]
          show om (of x) (pfr m (sel r (xorL t u))) = om (om (of x) (pfr m (sel r t))) (pfr m (sel r u))
          rw [ih, om_assoc wx wt wu]
        · rw [if_neg (by decide), if_pos rfl, if_pos rfl]
          show pfr m (sel r (xorL t u)) = om (om (of x) (pfr m (sel r t))) (om (of x) (pfr m (sel r u)))
          rw [ih, om_assoc wx wt (we_om wx wu), ← om_assoc wt wx wu, sw, om_assoc wx wt wu, ← om_assoc wx wx (we_om wt wu), of_sq (h.w x hx), e1_om (we_om wt wu)]
/-! ### each one's own -/
def SubF (F l : List Nat) : Prop := ∀ v, l.getD v 0 = 0 ∨ l.getD v 0 = F.getD v 0
theorem subF_turns {F a b : List Nat} (wF : WL m F) (ha : WL m a) (hb : WL m b) (fa : SubF F a) (fb : SubF F b) : turns a b = 0 := by
  rw [turns_sum ha.1 hb.1]
  have key : ∀ v, tn (a.getD v 0) (b.getD v 0) = 0 := fun v => by
    have h4 := wl_at wF v
    rcases fa v with e | e <;> rcases fb v with e2 | e2 <;> rw [e, e2]
    · rfl
    · exact (l_zero _ h4).1
    · exact (l_zero _ h4).2
    · exact (l_self _ h4).1
  suffices h : ∀ n, ((List.range n).map fun v => tn (a.getD v 0) (b.getD v 0)).sum = 0 by exact h m
  intro n
  induction n with
  | zero => rfl
  | succ n ih =>
    rw [List.range_succ, List.map_append, List.sum_append, ih]
    show 0 + (tn (a.getD n 0) (b.getD n 0) + 0) = 0
    rw [key n]
theorem subF_xor {F a b : List Nat} (ha : WL m a) (hb : WL m b) (fa : SubF F a) (fb : SubF F b) : SubF F (xorL a b) := fun v => by
  rw [xorL_at ha hb]
  rcases fa v with e | e <;> rcases fb v with e2 | e2 <;> rw [e, e2]
  · exact .inl rfl
  · rw [Nat.zero_xor]
    exact .inr rfl
  · rw [Nat.xor_zero]
    exact .inr rfl
  · rw [Nat.xor_self]
    exact .inl rfl
structure Own (m : Nat) (r : List Spin) : Prop where
  w : ∀ y ∈ r, WS m y
  f : ∃ F, WL m F ∧ ∀ y ∈ r, SubF F y.l
theorem Own.com (h : Own m r) : Com m r := ⟨h.w, fun s hs t ht => by
  obtain ⟨F, w, f⟩ := h.f
  rw [subF_turns w (h.w s hs).l (h.w t ht).l (f s hs) (f t ht)]⟩
theorem Own.zero (h : Own m r) {g k : PE} (hg : In m r g) (hk : In m r k) : turns g.2 k.2 = 0 := by
  obtain ⟨F, w, f⟩ := h.f
  have key : ∀ {g : PE}, In m r g → SubF F g.2 := fun hg => by
    induction hg with
    | one => exact fun v => .inl (zs_at m v)
    | mul h1 h2 ih => exact subF_xor (h.w _ h1).l (In.we h.w h2).l (f _ h1) ih
  exact subF_turns w (In.we h.w hg).l (In.we h.w hk).l (key hg) (key hk)
/-- what's sure of the answers of some -/
def sOf (m : Nat) (S r : List Spin) (t : List Nat) : Nat := match sg m S (pfr m (sel r t)).2 with
  | some s => (s + (pfr m (sel r t)).1 / 2) % 2 + 1
  | none => 0
theorem sOf_le (t : List Nat) : sOf m S r t ≤ 2 := by
  unfold sOf
  split <;> omega
theorem sOf_in (hS : Sure m S) {t : List Nat} (h : sOf m S r t ≠ 0) : ∃ c, In m S (2 * c, (pfr m (sel r t)).2) ∧ sOf m S r t = (c + (pfr m (sel r t)).1 / 2) % 2 + 1 := by
  unfold sOf at h ⊢
  cases e : sg m S (pfr m (sel r t)).2 with
  | none => rw [e] at h; exact absurd rfl h
  | some c => exact ⟨c, (sg_iff hS.toGood).mp e, rfl⟩
theorem sOf_eq (hS : Sure m S) {t : List Nat} {c : Nat} (h : In m S (2 * c, (pfr m (sel r t)).2)) : sOf m S r t = (c + (pfr m (sel r t)).1 / 2) % 2 + 1 := by
  unfold sOf
  rw [sg_some hS.toGood h]
theorem sOf_hom (hS : Sure m S) (hr : Own m r) {t u : List Nat} (ht : t.length = r.length) (hu : u.length = r.length) (ht2 : ∀ v ∈ t, v < 2) (hu2 : ∀ v ∈ u, v < 2) (h1 : sOf m S r t ≠ 0) (h2 : sOf m S r u ≠ 0) :
    sOf m S r (xorL t u) ≠ 0 ∧ (sOf m S r (xorL t u) + sOf m S r t + sOf m S r u) % 2 = 1 := by
  obtain ⟨c, hc, e⟩ := sOf_in hS h1
  obtain ⟨d, hd, e'⟩ := sOf_in hS h2
  have it := com_pfr_sel hr.com t
  have iu := com_pfr_sel hr.com u
  have z := hr.zero it iu
  have hom := pfr_hom hr.com ht hu ht2 hu2
  have g := In.om hS.w hc hd
  have eg : om (2 * c, (pfr m (sel r t)).2) (2 * d, (pfr m (sel r u)).2) = (2 * ((c + d) % 2), (pfr m (sel r (xorL t u))).2) := by
    rw [hom]
    unfold om
    congr 1
    show (2 * c + 2 * d + turns (pfr m (sel r t)).2 (pfr m (sel r u)).2) % 4 = _
    rw [z]
    omega
  rw [eg] at g
  have e3 := sOf_eq hS g
  have e4 : (pfr m (sel r (xorL t u))).1 = ((pfr m (sel r t)).1 + (pfr m (sel r u)).1) % 4 := by
    rw [hom]
    show ((pfr m (sel r t)).1 + (pfr m (sel r u)).1 + turns (pfr m (sel r t)).2 (pfr m (sel r u)).2) % 4 = _
    rw [z]
    rfl
  have h5 := In.even hr.com it
  have h6 := In.even hr.com iu
  rw [e3, e4, e, e']
  omega
theorem sOf_spec (hS : Sure m S) (hr : Com m r) (t : List Nat) : (match ((subs S).find? fun s => (prodOf m s).1.l == (prodOf m (sel r t)).1.l).map (fun s => signOf (prodOf m s)) with
    | some s => (s + signOf (prodOf m (sel r t))) % 2 + 1
    | none => 0) = sOf m S r t := by
  have g := prodOf_pfr (m := m) fun y hy => hr.w y (sel_sub r t y hy)
  rw [sg_spec hS.toGood, g.1, g.2]
  rfl
theorem sums_at (hr : Com m r) {t : List Nat} (ht : t.length = r.length) (ht2 : ∀ v ∈ t, v < 2) (f : Spin → Nat) (hf : ∀ p, f p = match sg m S p.l with | none => 0 | some c => 1 + (c + p.s) % 2) : ((Mir.prods m r).map f).getD (Mir.code2 t) 0 = sOf m S r t := by
  have g := mprod_pfr (m := m) (T := sel r t) (hr.sub (sel_sub r t))
  rw [List.getD_eq_getElem?_getD, List.getElem?_map, prods_at rfl ht ht2]
  show f (mprod m (sel r t)) = _
  have e1 : (mprod m (sel r t)).l = (pfr m (sel r t)).2 := congrArg Prod.snd g.2
  have e2 : 2 * (mprod m (sel r t)).s = (pfr m (sel r t)).1 := congrArg Prod.fst g.2
  rw [hf, e1]
  unfold sOf
  rw [← e2]
  cases sg m S (pfr m (sel r t)).2 with
  | none => rfl
  | some c =>
    show 1 + (c + (mprod m (sel r t)).s) % 2 = (c + 2 * (mprod m (sel r t)).s / 2) % 2 + 1
    omega
end
/-! ### counting -/
def prN (t a : List Nat) : Nat := ((t.zip a).filter fun p => p.1 == 1 && p.2 == 1).length
theorem prN_cons (x y : Nat) (t a : List Nat) : prN (x :: t) (y :: a) = (if x = 1 ∧ y = 1 then 1 else 0) + prN t a := by
  unfold prN
  rw [List.zip_cons_cons, List.filter_cons]
  by_cases e : x = 1 ∧ y = 1
  · rw [if_pos e, if_pos (by rw [e.1, e.2]; rfl), List.length_cons, Nat.add_comm]
  · rw [if_neg e, if_neg (by simpa using e), Nat.zero_add]
theorem prN_xor : ∀ {t u a : List Nat}, t.length = a.length → u.length = a.length → (∀ v ∈ t, v < 2) → (∀ v ∈ u, v < 2) → prN (xorL t u) a % 2 = (prN t a + prN u a) % 2
  | [], [], [], _, _, _, _ => rfl
  | [], _ :: _, [], _, h, _, _ => by cases h
  | _ :: _, _, [], h, _, _, _ => by cases h
  | [], _, _ :: _, h, _, _, _ => by cases h
  | _ :: _, [], _ :: _, _, h, _, _ => by cases h
  | x :: t, y :: u, z :: a, h1, h2, h3, h4 => by
    have ih := prN_xor (t := t) (u := u) (a := a) (by simpa using h1) (by simpa using h2) (fun v hv => h3 v (List.mem_cons_of_mem _ hv)) fun v hv => h4 v (List.mem_cons_of_mem _ hv)
    have hx := h3 x (List.mem_cons_self ..)
    have hy := h4 y (List.mem_cons_self ..)
    show prN ((x ^^^ y) :: xorL t u) (z :: a) % 2 = _
    rw [prN_cons, prN_cons, prN_cons]
    have hx2 : x = 0 ∨ x = 1 := by omega
    have hy2 : y = 0 ∨ y = 1 := by omega
    by_cases hz : z = 1
    · subst hz
      rcases hx2 with rfl | rfl <;> rcases hy2 with rfl | rfl
      · rw [if_neg (by decide), if_neg (by decide)]; omega
      · rw [if_pos (by decide), if_neg (by decide), if_pos (by decide)]; omega
      · rw [if_pos (by decide), if_pos (by decide), if_neg (by decide)]; omega
      · rw [if_neg (by decide), if_pos (by decide)]; omega
    · rw [if_neg (fun h => hz h.2), if_neg (fun h => hz h.2), if_neg (fun h => hz h.2)]; omega
def KS : List Nat := [2, 3, 4]
theorem ones_par : ∀ k ∈ KS, ∀ t ∈ rows 2 k, ∀ a ∈ rows 2 k, Mir.ones (Mir.code2 t &&& Mir.code2 a) % 2 = prN t a % 2 := by decide +kernel
theorem shift_perm : ∀ k ∈ KS, ∀ u ∈ rows 2 k, ((rows 2 k).map fun t => xorL t u).isPerm (rows 2 k) = true := by decide +kernel
theorem code2_perm : ∀ k ∈ KS, ((rows 2 k).map Mir.code2).isPerm (List.range (2 ^ k)) = true := by decide +kernel
def agr (σ : List Nat → Nat) (a t : List Nat) : Bool := σ t != 0 && σ t == prN t a % 2 + 1
def dis (σ : List Nat → Nat) (a t : List Nat) : Bool := σ t != 0 && σ t != prN t a % 2 + 1
/-- a row's chance, as the document has it -/
def chS (k : Nat) (σ : List Nat → Nat) (a : List Nat) : Nat :=
  (((rows 2 k).map fun t => (σ t, prN t a % 2)).filter fun p => p.1 != 0 && p.1 == p.2 + 1).length - (((rows 2 k).map fun t => (σ t, prN t a % 2)).filter fun p => p.1 != 0 && p.1 != p.2 + 1).length
theorem chS_eq (k : Nat) (σ : List Nat → Nat) (a : List Nat) : chS k σ a = (rows 2 k).countP (agr σ a) - (rows 2 k).countP (dis σ a) := by
  unfold chS
  rw [← List.countP_eq_length_filter, ← List.countP_eq_length_filter, List.countP_map, List.countP_map]
  rfl
structure Hom (k : Nat) (σ : List Nat → Nat) : Prop where
  le : ∀ t, σ t ≤ 2
  hom : ∀ t ∈ rows 2 k, ∀ u ∈ rows 2 k, σ t ≠ 0 → σ u ≠ 0 → σ (xorL t u) ≠ 0 ∧ (σ (xorL t u) + σ t + σ u) % 2 = 1
theorem agr_iff {σ : List Nat → Nat} {a t : List Nat} (h : σ t ≤ 2) : agr σ a t = true ↔ σ t ≠ 0 ∧ (σ t + prN t a) % 2 = 1 := by
  unfold agr
  rw [Bool.and_eq_true, bne_iff_ne, beq_iff_eq]
  omega
theorem dis_iff {σ : List Nat → Nat} {a t : List Nat} (h : σ t ≤ 2) : dis σ a t = true ↔ σ t ≠ 0 ∧ (σ t + prN t a) % 2 = 0 := by
  unfold dis
  rw [Bool.and_eq_true, bne_iff_ne, bne_iff_ne]
  omega
theorem more_agree {k : Nat} (hk : k ∈ KS) {σ : List Nat → Nat} (h : Hom k σ) {a : List Nat} (ha : a.length = k) : (rows 2 k).countP (dis σ a) ≤ (rows 2 k).countP (agr σ a) := by
  by_cases e : ∃ u ∈ rows 2 k, dis σ a u = true
  · obtain ⟨u, hu, eu⟩ := e
    have g := (List.isPerm_iff.mp (shift_perm k hk u hu)).countP_eq (agr σ a)
    rw [List.countP_map] at g
    rw [← g]
    refine List.countP_mono_left fun t ht et => ?_
    have h1 := (dis_iff (h.le t)).mp et
    have h2 := (dis_iff (h.le u)).mp eu
    have h3 := h.hom t ht u hu h1.1 h2.1
    obtain ⟨lt, bt⟩ := mem_rows.mp ht
    obtain ⟨lu, bu⟩ := mem_rows.mp hu
    have h4 := prN_xor (t := t) (u := u) (a := a) (by rw [lt, ha]) (by rw [lu, ha]) bt bu
    show agr σ a (xorL t u) = true
    refine (agr_iff (h.le _)).mpr ⟨h3.1, ?_⟩
    omega
  · have g : (rows 2 k).countP (dis σ a) = 0 := List.countP_eq_zero.mpr fun t ht et => e ⟨t, ht, et⟩
    omega
theorem chanceTo_count (sums : List Nat) (n : Nat) : ∀ N, Mir.chanceTo sums n N = ((List.range N).countP (fun i => sums.getD i 0 != 0 && sums.getD i 0 == Mir.ones (i &&& n) % 2 + 1) : Int) - ((List.range N).countP (fun i => sums.getD i 0 != 0 && sums.getD i 0 != Mir.ones (i &&& n) % 2 + 1) : Int)
  | 0 => rfl
  | N + 1 => by
    have ih := chanceTo_count sums n N
    rw [List.range_succ, List.countP_append, List.countP_append, List.countP_singleton, List.countP_singleton]
    show (if sums.getD N 0 ≠ 0 then Mir.chanceTo sums n N + (if sums.getD N 0 = 1 + Mir.ones (N &&& n) % 2 then 1 else -1) else Mir.chanceTo sums n N) = _
    rw [ih]
    generalize sums.getD N 0 = s
    generalize Mir.ones (N &&& n) % 2 = o
    by_cases h1 : s = 0
    · subst h1
      rw [if_neg (by decide), if_neg (by simp), if_neg (by simp)]
      omega
    · rw [if_pos h1]
      by_cases h2 : s = 1 + o
      · rw [if_pos h2, if_pos (by rw [Bool.and_eq_true, bne_iff_ne, beq_iff_eq]; omega), if_neg (by rw [Bool.and_eq_true, bne_iff_ne, bne_iff_ne]; omega)]
        omega
      · rw [if_neg h2, if_neg (by rw [Bool.and_eq_true, bne_iff_ne, beq_iff_eq]; omega), if_pos (by rw [Bool.and_eq_true, bne_iff_ne, bne_iff_ne]; omega)]
        omega
/-- the program's sums are the document's -/
structure SumsOk (k : Nat) (σ : List Nat → Nat) (sums : List Nat) : Prop where
  hk : k ∈ KS
  h : Hom k σ
  len : sums.length = 2 ^ k
  at_ : ∀ t ∈ rows 2 k, sums.getD (Mir.code2 t) 0 = σ t
theorem chance_eq {k : Nat} {σ : List Nat → Nat} {sums : List Nat} (h : SumsOk k σ sums) {a : List Nat} (ha : a ∈ rows 2 k) : Mir.chanceOf sums (Mir.code2 a) = (chS k σ a : Int) := by
  have hm := more_agree h.hk h.h (a := a) (mem_rows.mp ha).1
  unfold Mir.chanceOf
  rw [chanceTo_count, h.len, chS_eq]
  have g := List.isPerm_iff.mp (code2_perm k h.hk)
  rw [← g.countP_eq, ← g.countP_eq, List.countP_map, List.countP_map]
  have e1 : (rows 2 k).countP ((fun i => sums.getD i 0 != 0 && sums.getD i 0 == Mir.ones (i &&& Mir.code2 a) % 2 + 1) ∘ Mir.code2) = (rows 2 k).countP (agr σ a) := List.countP_congr fun t ht => by
    show (sums.getD (Mir.code2 t) 0 != 0 && sums.getD (Mir.code2 t) 0 == Mir.ones (Mir.code2 t &&& Mir.code2 a) % 2 + 1) = true ↔ _
    rw [h.at_ t ht, ones_par k h.hk t ht a ha]
    rfl
  have e2 : (rows 2 k).countP ((fun i => sums.getD i 0 != 0 && sums.getD i 0 != Mir.ones (i &&& Mir.code2 a) % 2 + 1) ∘ Mir.code2) = (rows 2 k).countP (dis σ a) := List.countP_congr fun t ht => by
    show (sums.getD (Mir.code2 t) 0 != 0 && sums.getD (Mir.code2 t) 0 != Mir.ones (Mir.code2 t &&& Mir.code2 a) % 2 + 1) = true ↔ _
    rw [h.at_ t ht, ones_par k h.hk t ht a ha]
    rfl
  rw [e1, e2]
  omega
theorem isum_cast {α : Type} (f : α → Int) (g : α → Nat) : ∀ (l : List α), (∀ x ∈ l, f x = (g x : Int)) → (l.map f).sum = ((l.map g).sum : Nat)
  | [], _ => rfl
  | x :: l, h => by
    rw [List.map_cons, List.map_cons, List.sum_cons, List.sum_cons, isum_cast f g l fun y hy => h y (List.mem_cons_of_mem _ hy), h x (List.mem_cons_self ..)]
    omega
theorem sum_filter {α : Type} (p : α → Bool) (f : α → Nat) : ∀ (l : List α), ((l.filter p).map f).sum = (l.map fun x => if p x = true then f x else 0).sum
  | [] => rfl
  | x :: l => by
    rw [List.filter_cons, List.map_cons, List.sum_cons, ← sum_filter p f l]
    by_cases e : p x = true
    · rw [if_pos e, if_pos e, List.map_cons, List.sum_cons]
    · rw [if_neg e, if_neg e, Nat.zero_add]
theorem wins_eq {k : Nat} {σ : List Nat → Nat} {sums : List Nat} (h : SumsOk k σ sums) (w : Nat) : Mir.winsOf sums w = (((rows 2 k).map fun a => if (w / 2 ^ code 2 a % 2 == 1) = true then chS k σ a else 0).sum : Nat) := by
  have g := List.isPerm_iff.mp (code2_perm k h.hk)
  have key : ∀ n ∈ List.range (2 ^ k), Mir.chanceOf sums n = ((Mir.chanceOf sums n).toNat : Int) := fun n hn => by
    obtain ⟨a, ha, rfl⟩ := List.mem_map.mp (g.mem_iff.mpr hn)
    rw [chance_eq h ha]
    rfl
  unfold Mir.winsOf
  rw [h.len, isum_cast _ (fun n => (Mir.chanceOf sums n).toNat) _ fun n hn => key n ((List.mem_filter.mp hn).1), sum_filter, ← (g.map _).sum_nat, List.map_map]
  congr 2
  refine List.map_congr_left fun a ha => ?_
  show (if decide (w / 2 ^ Mir.code2 a % 2 = 1) = true then (Mir.chanceOf sums (Mir.code2 a)).toNat else 0) = _
  rw [chance_eq h ha]
  rfl
end My
set_option Elab.async false
set_option linter.all false
set_option maxRecDepth 100000
set_option maxHeartbeats 4000000
namespace My
open Mir (G xorL tn turns mulP pairOf)
open Su173 (Spin together mul signOf times2)
open Su175 (blank subs prodOf linked first rows code okRow Abs does no num restart answerOf bit)
open Su175Neutral (outs)
/-! ### links -/
def norm (p : Nat × Nat) : Nat × Nat := pairOf p.1 p.2
theorem norm_iff (p : Nat × Nat) (i j : Nat) : norm p = pairOf i j ↔ p = (i, j) ∨ p = (j, i) := by
  obtain ⟨a, b⟩ := p
  simp only [norm, pairOf, Prod.mk.injEq]
  omega
theorem linked_iff (ls : List (Nat × Nat)) (i j : Nat) : linked ls i j = true ↔ pairOf i j ∈ ls.map norm := by
  unfold linked
  rw [Bool.or_eq_true, List.contains_iff_mem, List.contains_iff_mem, List.mem_map]
  constructor
  · rintro (h | h)
    · exact ⟨_, h, (norm_iff _ _ _).mpr (.inl rfl)⟩
    · exact ⟨_, h, (norm_iff _ _ _).mpr (.inr rfl)⟩
  · rintro ⟨p, h, e⟩
    rcases (norm_iff _ _ _).mp e with rfl | rfl
    · exact .inl h
    · exact .inr h
theorem contains_pair (ls : List (Nat × Nat)) (i j : Nat) : (ls.map norm).contains (pairOf i j) = linked ls i j := by
  rw [Bool.eq_iff_iff, List.contains_iff_mem, linked_iff]
structure LinkOk (m : Nat) (ls : List (Nat × Nat)) : Prop where
  p : ∀ p ∈ ls, p.1 ≠ p.2 ∧ p.1 < m ∧ p.2 < m
  n : (ls.map norm).Nodup
theorem LinkOk.nil (m : Nat) : LinkOk m [] := ⟨(fun p hp => by cases hp), List.nodup_nil⟩
theorem LinkOk.short {m : Nat} {ls : List (Nat × Nat)} (h : LinkOk m ls) (hm : m ≤ 6) : ls.length ≤ 36 := by
  have g := h.n.length_le_of_subset (l₂ := (List.range 6).flatMap fun a => (List.range 6).map fun b => (a, b)) fun q hq => by
    obtain ⟨p, hp, rfl⟩ := List.mem_map.mp hq
    obtain ⟨_, h2, h3⟩ := h.p p hp
    refine List.mem_flatMap.mpr ⟨min p.1 p.2, List.mem_range.mpr (by omega), List.mem_map.mpr ⟨max p.1 p.2, List.mem_range.mpr (by omega), rfl⟩⟩
  rw [List.length_map] at g
  exact g
theorem firstSure_sp {m : Nat} {ls : List (Nat × Nat)} (h : ∀ p ∈ ls, p.1 ≠ p.2) : Mir.firstSure m (ls.map norm) = first m ls := by
  unfold Mir.firstSure first
  refine List.map_congr_left fun i _ => ?_
  unfold Mir.sureAt
  congr 1
  refine List.map_congr_left fun j _ => ?_
  have e := contains_pair ls i j
  unfold pairOf at e
  rw [e]
  by_cases hj : j = i
  · rw [if_pos hj, if_pos hj, if_neg]
    intro hl
    subst hj
    unfold linked at hl
    rw [Bool.or_self, List.contains_iff_mem] at hl
    exact h _ hl rfl
  · rw [if_neg hj, if_neg hj]
theorem link_on {m : Nat} {ls : List (Nat × Nat)} {i j : Nat} (h : LinkOk m ls) (hi : i < m) (hj : j < m) (hij : i ≠ j) (hl : linked ls i j = false) : LinkOk m (ls ++ [(i, j)]) := by
  refine ⟨fun p hp => ?_, ?_⟩
  · rcases List.mem_append.mp hp with hp | hp
    · exact h.p p hp
    · rw [List.mem_singleton.mp hp]
      exact ⟨hij, hi, hj⟩
  · rw [List.map_append, List.nodup_append]
    refine ⟨h.n, (by show [norm (i, j)].Nodup; exact List.nodup_cons.mpr ⟨List.not_mem_nil, List.nodup_nil⟩), fun a ha b hb => ?_⟩
    have hb2 : b = pairOf i j := List.mem_singleton.mp hb
    rintro rfl
    rw [hb2] at ha
    rw [(linked_iff ls i j).mpr ha] at hl
    cases hl
theorem link_off {m : Nat} {ls : List (Nat × Nat)} {i j : Nat} (h : LinkOk m ls) : LinkOk m (ls.filter fun p => p != (i, j) && p != (j, i)) ∧ (ls.filter fun p => p != (i, j) && p != (j, i)).map norm = (ls.map norm).erase (pairOf i j) := by
  refine ⟨⟨fun p hp => h.p p (List.mem_filter.mp hp).1, ((List.filter_sublist (l := ls)).map norm).nodup h.n⟩, ?_⟩
  rw [h.n.erase_eq_filter, List.filter_map]
  congr 1
  refine List.filter_congr fun p _ => ?_
  show (p != (i, j) && p != (j, i)) = (norm p != pairOf i j)
  rw [Bool.eq_iff_iff, Bool.and_eq_true, bne_iff_ne, bne_iff_ne, bne_iff_ne, ne_eq, ne_eq, ne_eq, norm_iff, not_or]
/-! ### rows of rows -/
theorem flat_set {α : Type} {q : Nat} : ∀ {ls : List (List α)} {i x : Nat} {r : List α} (v : α), (∀ l ∈ ls, l.length = q) → ls[i]? = some r → x < q → (ls.set i (r.set x v)).flatten = ls.flatten.set (i * q + x) v
  | [], _, _, _, _, _, h, _ => by cases h
  | l :: ls, 0, x, r, v, hq, h, hx => by
    have hl := hq l (List.mem_cons_self ..)
    cases h
    rw [List.set_cons_zero, List.flatten_cons, List.flatten_cons, List.set_append, if_pos (by omega), Nat.zero_mul, Nat.zero_add]
  | l :: ls, i + 1, x, r, v, hq, h, hx => by
    have hl := hq l (List.mem_cons_self ..)
    have e : (i + 1) * q + x - l.length = i * q + x := by rw [hl, Nat.succ_mul]; omega
    rw [List.set_cons_succ, List.flatten_cons, List.flatten_cons, flat_set v (fun l hl => hq l (List.mem_cons_of_mem _ hl)) h hx, List.set_append, if_neg (by rw [hl, Nat.succ_mul]; omega), e]
theorem flat_at {α : Type} {q : Nat} (d : α) : ∀ {ls : List (List α)} {i x : Nat}, (∀ l ∈ ls, l.length = q) → x < q → ls.flatten.getD (i * q + x) d = (ls.getD i []).getD x d
  | [], i, x, _, _ => by
    cases i <;> rfl
  | l :: ls, 0, x, hq, hx => by
    have hl := hq l (List.mem_cons_self ..)
    rw [List.flatten_cons, List.getD_eq_getElem?_getD, List.getElem?_append_left (by omega), Nat.zero_mul, Nat.zero_add, ← List.getD_eq_getElem?_getD]
    rfl
  | l :: ls, i + 1, x, hq, hx => by
    have hl := hq l (List.mem_cons_self ..)
    have e : (i + 1) * q + x - l.length = i * q + x := by rw [hl, Nat.succ_mul]; omega
    have ih := flat_at d (ls := ls) (i := i) (fun l hl => hq l (List.mem_cons_of_mem _ hl)) hx
    rw [List.flatten_cons, List.getD_eq_getElem?_getD, List.getElem?_append_right (by rw [hl, Nat.succ_mul]; omega), e, ← List.getD_eq_getElem?_getD, ih]
    rfl
theorem flat_len {α : Type} {q : Nat} : ∀ {ls : List (List α)}, (∀ l ∈ ls, l.length = q) → ls.flatten.length = ls.length * q
  | [], _ => by rw [List.flatten_nil, List.length_nil, List.length_nil, Nat.zero_mul]
  | l :: ls, h => by
    rw [List.flatten_cons, List.length_append, flat_len fun l hl => h l (List.mem_cons_of_mem _ hl), h l (List.mem_cons_self ..), List.length_cons, Nat.succ_mul, Nat.add_comm]
/-! ### the document's game and the program's -/
structure Rel (s : Abs) (g : G) : Prop where
  b : g.begun = true
  k : g.k = s.k
  q : g.q = s.q
  may : Mir.mayBegin s.k s.q = true
  cl : s.counts.length = s.q ^ s.k
  vl : s.wins.length = s.q ^ s.k
  c99 : ∀ x ∈ s.counts, x ≤ 99
  cw : g.weights = byRow s.q s.k s.counts
  wv : g.wins = byRow s.q s.k s.wins
  o : g.owners = s.owner
  o6 : s.owner.length ≤ 6
  l : g.links = s.links.map norm
  ll : LinkOk s.owner.length s.links
  su : g.sure = s.sure
  sure : Sure s.owner.length s.sure
  t : g.touched = s.touched
  ow : g.own = s.mine.flatten
  ml : s.mine.length = s.k
  mq : ∀ r ∈ s.mine, r.length = s.q
  mo : ∀ i r y, s.mine[i]? = some r → y ∈ r → WS s.owner.length y ∧ ∀ j, j < s.owner.length → s.owner.getD j 0 ≠ i → y.l.getD j 0 = 0
def Oks (z : Abs × Su175.Ans) (r : G × List Int) : Prop := Rel z.1 r.1 ∧ r.2 = z.2.value :: outs z.2.out
variable {s : Abs} {g : G}
theorem Rel.m (h : Rel s g) : g.m = s.owner.length := by
  unfold G.m
  rw [h.o]
theorem Rel.wg (h : Rel s g) : WG g := by
  obtain ⟨h1, h2, h3, h4, h5⟩ := may_of h.may
  refine ⟨by rw [h.k]; exact h1, by rw [h.k]; exact h2, by rw [h.q]; exact h3, by rw [h.q]; exact h4, by rw [h.k, h.q]; exact h5, ?_, ?_, ?_, by rw [h.o]; exact h.o6, ?_, ?_, ?_, ?_, ?_⟩
  · rw [h.cw, byRow_len h.may, h.k, h.q]
  · intro x hx
    rw [h.cw] at hx
    obtain ⟨y, hy, rfl⟩ := List.mem_map.mp hx
    rw [List.getD_eq_getElem?_getD]
    cases e : s.counts[code s.q y]? with
    | none => show 0 ≤ 99; decide
    | some c => exact h.c99 c (List.mem_of_getElem? e)
  · rw [h.wv, byRow_len h.may, h.k, h.q]
  · have := h.ll.short h.o6
    rw [h.l, List.length_map]
    omega
  · rw [h.su, h.sure.len]
    exact h.o6
  · intro x hx
    rw [h.su] at hx
    rw [h.m]
    exact (h.sure.w x hx).l
  · rw [h.ow, flat_len h.mq, h.ml, h.k, h.q]
  · intro x hx
    rw [h.ow] at hx
    obtain ⟨r, hr, hx⟩ := List.mem_flatten.mp hx
    obtain ⟨i, hi⟩ := List.getElem?_of_mem hr
    rw [h.m]
    exact (h.mo i r x hi hx).1.l
theorem Rel.no (h : Rel s g) (v : Int) : Oks (s, no v) (g, [v]) := ⟨h, rfl⟩
theorem Rel.asked (h : Rel s g) (x : List Nat) : g.asked x = s.asked x := by
  unfold G.asked Abs.asked
  rw [h.k, h.q]
theorem Rel.row (h : Rel s g) {x : List Nat} (hx : s.asked x = true) : x ∈ rows s.q s.k := mem_rows_ok.mpr hx
theorem sure_m (h : Rel s g) : Sure g.m g.sure := by
  rw [h.m, h.su]
  exact h.sure
/-! ### begin, wins, odd, counts, row, state -/
theorem ok_begin (g : G) (k q : Nat) (z : Abs) : (Mir.mayBegin k q = true → Rel (does z (.begin_ k q)).1 (Mir.beginM g k q).1) ∧ (Mir.beginM g k q).2 = (does z (.begin_ k q)).2.value :: outs (does z (.begin_ k q)).2.out ∧ ((does z (.begin_ k q)).2.value < 0 ↔ Mir.mayBegin k q = false) ∧ (Mir.mayBegin k q = false → (does z (.begin_ k q)).1 = z ∧ (Mir.beginM g k q).1 = g) := by
  have e : Mir.mayBegin k q = true ↔ ¬ (k < 2 ∨ 4 < k ∨ q = 0 ∨ 3 < q ∨ 8 < k * q) := by
    unfold Mir.mayBegin
    rw [decide_eq_true_iff]
    omega
  show (Mir.mayBegin k q = true → Rel (if k < 2 ∨ 4 < k ∨ q = 0 ∨ 3 < q ∨ 8 < k * q then (z, no (-22)) else (Su175.new k q, num 0 [])).1 _) ∧ _ = (if k < 2 ∨ 4 < k ∨ q = 0 ∨ 3 < q ∨ 8 < k * q then (z, no (-22)) else (Su175.new k q, num 0 [])).2.value :: outs (if k < 2 ∨ 4 < k ∨ q = 0 ∨ 3 < q ∨ 8 < k * q then (z, no (-22)) else (Su175.new k q, num 0 [])).2.out ∧ ((if k < 2 ∨ 4 < k ∨ q = 0 ∨ 3 < q ∨ 8 < k * q then (z, no (-22)) else (Su175.new k q, num 0 [])).2.value < 0 ↔ _) ∧ (_ → (if k < 2 ∨ 4 < k ∨ q = 0 ∨ 3 < q ∨ 8 < k * q then (z, no (-22)) else (Su175.new k q, num 0 [])).1 = z ∧ _)
  unfold Mir.beginM
  by_cases hm : Mir.mayBegin k q = true
  · rw [if_neg (e.mp hm), if_pos hm]
    refine ⟨fun _ => ?_, rfl, ⟨fun h => absurd h (by show ¬ ((0 : Int) < 0); decide), fun h => by rw [hm] at h; cases h⟩, fun h => by rw [hm] at h; cases h⟩
    refine ⟨rfl, rfl, rfl, hm, List.length_replicate, List.length_replicate, fun x hx => ?_, (byRow_rep hm 1).symm, (byRow_rep hm 0).symm, rfl, (by show 0 ≤ 6; decide), rfl, LinkOk.nil _, rfl, first_sure 0 [], rfl, ?_, List.length_replicate, fun r hr => ?_, fun i r y hr hy => ?_⟩
    · rw [(List.mem_replicate.mp hx).2]
      decide
    · exact List.flatten_replicate_replicate.symm
    · rw [(List.mem_replicate.mp hr).2]
      exact List.length_replicate
    · have h1 := (List.mem_replicate.mp (List.mem_of_getElem? hr)).2
      rw [h1] at hy
      rw [(List.mem_replicate.mp hy).2]
      exact ⟨ws_blank 0, fun j _ _ => zs_at 0 j⟩
  · have hm' : Mir.mayBegin k q = false := by simpa using hm
    have hn : k < 2 ∨ 4 < k ∨ q = 0 ∨ 3 < q ∨ 8 < k * q := Classical.not_not.mp fun h => hm (e.mpr h)
    rw [if_pos hn, if_neg hm]
    exact ⟨fun h => absurd h hm, rfl, ⟨fun _ => hm', fun _ => by show (-22 : Int) < 0; decide⟩, fun _ => ⟨rfl, rfl⟩⟩
theorem ok_wins (h : Rel s g) (w : Nat) (x : List Nat) : Oks (does s (.wins w x)) (Mir.winsM g w x) := by
  show Oks (if s.asked x = false ∨ 2 ^ 2 ^ s.k ≤ w then (s, no (-22)) else ({ s with wins := s.wins.set (code s.q x) w }, num (s.wins.getD (code s.q x) 0) [])) _
  unfold Mir.winsM
  rw [h.asked, h.k]
  by_cases c : s.asked x = false ∨ 2 ^ 2 ^ s.k ≤ w
  · rw [if_pos c, if_pos c]
    exact h.no _
  · rw [if_neg c, if_neg c]
    have hx := h.row (x := x) (by simpa using (not_or.mp c).1)
    refine ⟨{ h with k := rfl, vl := by rw [List.length_set]; exact h.vl, wv := ?_ }, ?_⟩
    · show g.wins.set (Mir.place g.q x) w = _
      rw [h.wv, h.q, byRow_set h.may h.vl hx]
    · show [((g.wins.getD (Mir.place g.q x) 0 : Nat) : Int)] = _
      rw [h.wv, h.q, byRow_at h.may _ hx]
      rfl
theorem kks (h : Mir.mayBegin s.k s.q = true) : s.k ∈ KS := by
  obtain ⟨h1, h2, _⟩ := may_of h
  have : s.k = 2 ∨ s.k = 3 ∨ s.k = 4 := by omega
  unfold KS
  rcases this with e | e | e <;> rw [e] <;> decide
theorem ok_odd (h : Rel s g) (w : Nat) (x : List Nat) : Oks (does s (.odd w x)) (Mir.oddM g w x) := by
  show Oks (if s.asked x = false ∨ 1 < w then (s, no (-22)) else ({ s with wins := s.wins.set (code s.q x) (Su175.oddMask s.k w) }, num (Su175.oddMask s.k w) [])) _
  unfold Mir.oddM
  rw [h.asked, h.k]
  by_cases c : s.asked x = false ∨ 1 < w
  · rw [if_pos c, if_pos c]
    exact h.no _
  · rw [if_neg c, if_neg c]
    have hx := h.row (x := x) (by simpa using (not_or.mp c).1)
    have hw : w = 0 ∨ w = 1 := by omega
    have e : Mir.rowsWithParity s.k w = Su175.oddMask s.k w := odd_mask s.k (kks h.may) w (by rcases hw with e | e <;> rw [e] <;> decide)
    rw [e]
    refine ⟨{ h with k := rfl, vl := by rw [List.length_set]; exact h.vl, wv := ?_ }, rfl⟩
    show g.wins.set (Mir.place g.q x) _ = _
    rw [h.wv, h.q, byRow_set h.may h.vl hx]
theorem ok_counts (h : Rel s g) (w : Nat) (x : List Nat) : Oks (does s (.counts w x)) (Mir.countsM g w x) := by
  show Oks (if s.asked x = false ∨ 99 < w then (s, no (-22)) else ({ s with counts := s.counts.set (code s.q x) w }, num (s.count x) [])) _
  unfold Mir.countsM
  rw [h.asked]
  by_cases c : s.asked x = false ∨ 99 < w
  · rw [if_pos c, if_pos c]
    exact h.no _
  · rw [if_neg c, if_neg c]
    have hx := h.row (x := x) (by simpa using (not_or.mp c).1)
    refine ⟨{ h with cl := by rw [List.length_set]; exact h.cl, cw := ?_, c99 := fun y hy => ?_ }, ?_⟩
    · rcases List.mem_or_eq_of_mem_set hy with hy | rfl
      · exact h.c99 y hy
      · omega
    · show g.weights.set (Mir.place g.q x) w = _
      rw [h.cw, h.q, byRow_set h.may h.cl hx]
    · show [((g.weights.getD (Mir.place g.q x) 0 : Nat) : Int)] = _
      rw [h.cw, h.q, byRow_at h.may _ hx]
      rfl
theorem ok_row (h : Rel s g) (x : List Nat) : Oks (does s (.row x)) (g, Mir.rowM g x) := by
  show Oks (if s.asked x = false then (s, no (-22)) else (s, num (s.count x) [s.wins.getD (code s.q x) 0])) _
  unfold Mir.rowM
  rw [h.asked]
  by_cases c : s.asked x = false
  · rw [if_pos c, if_pos c]
    exact h.no _
  · rw [if_neg c, if_neg c]
    have hx := h.row (x := x) (by simpa using c)
    refine ⟨h, ?_⟩
    show [((g.weights.getD (Mir.place g.q x) 0 : Nat) : Int), ((g.wins.getD (Mir.place g.q x) 0 : Nat) : Int)] = _
    rw [h.cw, h.wv, h.q, byRow_at h.may _ hx, byRow_at h.may _ hx]
    rfl
theorem ok_state (h : Rel s g) : Oks (does s .state) (g, Mir.stateM g) := by
  show Oks (s, num s.k ([s.q, s.m, s.links.length, bit s.touched] ++ s.owner)) _
  refine ⟨h, ?_⟩
  unfold Mir.stateM
  show _ = (s.k : Int) :: outs ([s.q, s.m, s.links.length, bit s.touched] ++ s.owner)
  rw [h.k, h.q, h.m, h.l, List.length_map, h.t, h.o]
  unfold outs
  rw [List.map_append]
  cases s.touched <;> rfl
/-! ### plans -/
theorem worth_eq (h : Rel s g) {f : List Nat} (hf : f.length = s.k * s.q) : g.worth f = s.value f := by
  unfold G.worth Mir.answered
  rw [h.k, h.q, answeredTo_rows (q := s.q) (f := f) s.k (by omega), h.wv, h.cw]
  unfold byRow
  rw [List.length_map, worthTo_map]
  unfold Abs.value
  congr 1
  refine List.map_congr_left fun x _ => ?_
  unfold Abs.won Abs.count
  by_cases e : s.wins.getD (code s.q x) 0 / 2 ^ Mir.code2 (answerOf s.q f x) % 2 = 1
  · rw [if_pos e, if_pos (by rw [code_two, e]; rfl)]
  · rw [if_neg e, if_neg (by rw [beq_iff_eq]; exact e)]
theorem plan_worth (h : Rel s g) (p : Nat) : g.worth (g.plan p) = s.value (g.plan p) := worth_eq h (by rw [plan_len, h.k, h.q])
theorem total_eq (h : Rel s g) : g.weights.sum = s.total := by
  rw [h.cw, byRow_sum h.may h.cl]
  rfl
theorem ok_plan (h : Rel s g) (f : List Nat) : Oks (does s (.plan f)) (g, Mir.planM g f) := by
  show Oks (if okRow (s.k * s.q) 2 f = false then (s, no (-22)) else (s, num (s.value f) [s.total])) _
  unfold Mir.planM
  rw [h.k, h.q]
  by_cases c : okRow (s.k * s.q) 2 f = false
  · rw [if_pos c, if_pos c]
    exact h.no _
  · rw [if_neg c, if_neg c]
    refine ⟨h, ?_⟩
    show [(g.worth f : Int), (g.weights.sum : Int)] = _
    rw [worth_eq h (okRow_iff.mp (by simpa using c)).1, total_eq h]
    rfl
theorem plans_eq (h : Rel s g) : s.plans = (List.range (2 ^ (s.k * s.q))).map g.plan := by
  unfold Abs.plans
  rw [planAt_rows _ (kq_prod h.may)]
  unfold G.plan
  rw [h.k, h.q]
theorem best_eq (h : Rel s g) : g.best = (s.value s.best, s.best) := by
  unfold G.best
  rw [bestTo_bestF g s.value (plan_worth h)]
  have e : bestF s.value (g.k * g.q) (2 ^ (g.k * g.q) - 1) = s.best := by
    unfold Abs.best Abs.plans
    rw [h.k, h.q, planAt_rows _ (kq_prod h.may)]
    have h2 : 2 ^ (s.k * s.q) = (2 ^ (s.k * s.q) - 1) + 1 := by
      have := Nat.two_pow_pos (s.k * s.q)
      omega
    rw [h2, bestF_fold s.value (s.k * s.q) _ (plan_zero _ (kq_prod h.may))]
    rfl
  rw [e]
theorem ok_best (h : Rel s g) : Oks (does s .best) (g, Mir.bestM g) := by
  show Oks (s, num (s.value s.best) (s.total :: s.best)) _
  refine ⟨h, ?_⟩
  unfold Mir.bestM
  rw [best_eq h, total_eq h]
  rfl
theorem ok_plans (h : Rel s g) (t : Nat) : Oks (does s (.plans t)) (g, Mir.plansM g t) := by
  show Oks (s, num (s.plans.filter fun f => s.value f == t).length [s.plans.length]) _
  refine ⟨h, ?_⟩
  unfold Mir.plansM
  rw [winTo_filter g s.value (plan_worth h), plans_eq h, h.k, h.q, List.length_map, List.length_range]
  rfl
/-! ### spins, link, fresh, sure, measure -/
theorem Rel.again (h : Rel s g) {ls : List (Nat × Nat)} (hl : LinkOk s.owner.length ls) : Rel (restart s s.owner ls) (G.fresh { g with links := ls.map norm }) :=
  { h with
    l := rfl
    ll := hl
    su := by
      show Mir.firstSure g.m (ls.map norm) = first s.owner.length ls
      rw [h.m, firstSure_sp fun p hp => (hl.p p hp).1]
    sure := first_sure _ _
    t := rfl }
theorem ok_spins (h : Rel s g) (o : List Nat) : Oks (does s (.spins o)) (Mir.spinsM g o) := by
  show Oks (if Su175.SPINS < o.length ∨ o.any (fun i => decide (s.k ≤ i)) = true then (s, no (-22)) else ({ restart s o [] with mine := List.replicate s.k (List.replicate s.q (blank o.length)) }, num o.length [])) _
  unfold Mir.spinsM
  have e : (6 < o.length ∨ o.all (fun p => decide (p < g.k)) = false) ↔ (Su175.SPINS < o.length ∨ o.any (fun i => decide (s.k ≤ i)) = true) := by
    have e2 : o.all (fun p => decide (p < g.k)) = !(o.any fun i => decide (s.k ≤ i)) := by
      rw [h.k, List.not_any_eq_all_not]
      congr 1
      funext i
      rw [← decide_not]
      congr 1
      exact propext Nat.not_le.symm
    rw [e2, Bool.not_eq_false']
    exact Iff.rfl
  by_cases c : Su175.SPINS < o.length ∨ o.any (fun i => decide (s.k ≤ i)) = true
  · rw [if_pos c, if_pos (e.mpr c)]
    exact h.no _
  · rw [if_neg c, if_neg fun z => c (e.mp z)]
    refine ⟨{ h with o := rfl, o6 := ?_, l := rfl, ll := LinkOk.nil _, su := firstSure_sp (ls := []) (fun p hp => by cases hp), sure := first_sure _ _, t := rfl, ow := ?_, ml := List.length_replicate, mq := ?_, mo := ?_ }, rfl⟩
    · have := (not_or.mp c).1
      unfold Su175.SPINS at this
      show o.length ≤ 6
      omega
    · show List.replicate (g.k * g.q) (blank o.length) = (List.replicate s.k (List.replicate s.q (blank o.length))).flatten
      rw [List.flatten_replicate_replicate, h.k, h.q]
    · intro r hr
      rw [(List.mem_replicate.mp hr).2]
      exact List.length_replicate
    · intro i r y hr hy
      have h1 := (List.mem_replicate.mp (List.mem_of_getElem? hr)).2
      rw [h1] at hy
      rw [(List.mem_replicate.mp hy).2]
      exact ⟨ws_blank _, fun j _ _ => zs_at _ j⟩
theorem ok_fresh (h : Rel s g) : Oks (does s .fresh) (Mir.freshM g) := by
  show Oks (restart s s.owner s.links, num s.m []) _
  refine ⟨?_, ?_⟩
  · have := h.again h.ll
    rw [← h.l] at this
    exact this
  · show [(g.m : Int)] = _
    rw [h.m]
    rfl
theorem ok_link (h : Rel s g) (i j : Nat) : Oks (does s (.link i j)) (Mir.linkM g i j) := by
  show Oks (if s.m ≤ i ∨ s.m ≤ j then (s, no (-2)) else if i = j then (s, no (-22)) else if s.touched = true then (s, no (-16)) else
    (restart s s.owner (if linked s.links i j = true then s.links.filter fun p => p != (i, j) && p != (j, i) else s.links ++ [(i, j)]), num (if linked s.links i j = true then s.links.filter fun p => p != (i, j) && p != (j, i) else s.links ++ [(i, j)]).length [])) _
  unfold Mir.linkM
  rw [h.m, h.t, h.l, contains_pair]
  show Oks (if s.owner.length ≤ i ∨ s.owner.length ≤ j then _ else _) _
  by_cases c1 : s.owner.length ≤ i ∨ s.owner.length ≤ j
  · rw [if_pos c1, if_pos c1]
    exact h.no _
  · rw [if_neg c1, if_neg c1]
    by_cases c2 : i = j
    · rw [if_pos c2, if_pos c2]
      exact h.no _
    · rw [if_neg c2, if_neg c2]
      by_cases c3 : s.touched = true
      · rw [if_pos c3, if_pos c3]
        exact h.no _
      · rw [if_neg c3, if_neg c3]
        by_cases c4 : linked s.links i j = true
        · rw [if_pos c4, if_pos c4]
          obtain ⟨h1, h2⟩ := link_off (i := i) (j := j) h.ll
          rw [← h2]
          refine ⟨h.again h1, ?_⟩
          show [((List.map norm _).length : Int)] = _
          rw [List.length_map]
          rfl
        · rw [if_neg c4, if_neg c4]
          have h1 := link_on h.ll (i := i) (j := j) (by omega) (by omega) c2 (by simpa using c4)
          have h2 : (s.links ++ [(i, j)]).map norm = s.links.map norm ++ [pairOf i j] := List.map_append
          rw [← h2]
          refine ⟨h.again h1, ?_⟩
          show [((List.map norm _).length : Int)] = _
          rw [List.length_map]
          rfl
theorem sign_eq (h : Rel s g) (l : List Nat) : s.sign l = sg s.owner.length s.sure l := sg_spec h.sure.toGood l
theorem signs_eq (h : Rel s g) (l : List Nat) : g.signs l = sg s.owner.length s.sure l := by
  unfold G.signs sg
  rw [h.m, h.su]
theorem ok_sure (h : Rel s g) (l : List Nat) : Oks (does s (.sure l)) (g, Mir.sureM g l) := by
  show Oks (if okRow s.m 4 l = false then (s, no (-22)) else match s.sign l with
    | some c => (s, num c [])
    | none => (s, no (-33))) _
  unfold Mir.sureM
  rw [h.m, signs_eq h, sign_eq h]
  show Oks (if okRow s.owner.length 4 l = false then _ else _) _
  by_cases c : okRow s.owner.length 4 l = false
  · rw [if_pos c, if_pos c]
    exact h.no _
  · rw [if_neg c, if_neg c]
    cases sg s.owner.length s.sure l with
    | none => exact h.no _
    | some c => exact ⟨h, rfl⟩
theorem ok_measure (h : Rel s g) (c : Nat) (l : List Nat) : Oks (does s (.measure c l)) (Mir.measureM g c l) := by
  show Oks (if 1 < c ∨ okRow s.m 4 l = false then (s, no (-22)) else match s.sign l with
    | some d => if d = c then (s.after l c, num 2 []) else (s, no (-33))
    | none => (s.after l c, num 1 [])) _
  unfold Mir.measureM
  rw [h.m, signs_eq h, sign_eq h]
  show Oks (if 1 < c ∨ okRow s.owner.length 4 l = false then _ else _) _
  by_cases c1 : 1 < c ∨ okRow s.owner.length 4 l = false
  · rw [if_pos c1, if_pos c1.symm]
    exact h.no _
  · rw [if_neg c1, if_neg fun z => c1 z.symm]
    have hl : WL s.owner.length l := okRow_iff.mp (by simpa using (not_or.mp c1).2)
    have ev := even_chance h.sure (c := c) hl
    have ha : s.after l c = match s.sure.find? fun t => !(together t ⟨c, l⟩) with
      | none => s
      | some p => { s with touched := true, sure := s.sure.map fun t => if t = p then ⟨c, l⟩ else if together t ⟨c, l⟩ = true then t else ⟨signOf (mul (t, 0) (p, 0)), (mul (t, 0) (p, 0)).1.l⟩ } := rfl
    cases e : sg s.owner.length s.sure l with
    | some d =>
      show Oks (if d = c then (s.after l c, num 2 []) else (s, no (-33))) (if d ≠ c then (g, [-33]) else (g, [2]))
      by_cases ed : d = c
      · rw [if_pos ed, if_neg (by rw [ne_eq, Classical.not_not]; exact ed)]
        have e2 : s.after l c = s := by
          rw [ha]
          have e3 : (s.sure.find? fun t => !(together t ⟨c, l⟩)) = none := List.find?_eq_none.mpr fun t ht z => by
            have := ev.mpr ⟨t, ht, z⟩
            rw [e] at this
            cases this
          rw [e3]
        rw [e2]
        exact ⟨h, rfl⟩
      · rw [if_neg ed, if_pos ed]
        exact h.no _
    | none =>
      show Oks (s.after l c, num 1 []) ({ g with sure := Mir.letBeSure g.sure ⟨c, l⟩, touched := true }, [1])
      obtain ⟨h1, p, h2, h3⟩ := measured h.sure (x := ⟨c, l⟩) ⟨by have := (not_or.mp c1).1; show c < 2; omega, hl⟩ (ev.mp e)
      rw [ha, h2]
      refine ⟨{ h with su := ?_, sure := ?_, t := rfl }, rfl⟩
      · show Mir.letBeSure g.sure ⟨c, l⟩ = _
        rw [h.su]
        exact h3.symm
      · show Sure s.owner.length (s.sure.map fun t => if t = p then ⟨c, l⟩ else if together t ⟨c, l⟩ = true then t else ⟨signOf (mul (t, 0) (p, 0)), (mul (t, 0) (p, 0)).1.l⟩)
        rw [h3]
        exact h1
/-! ### mine, chance, parity, value -/
theorem zip_own {i : Nat} : ∀ {l o : List Nat}, l.length = o.length → ((l.zip o).all (fun p => p.1 == 0 || p.2 == i) = true ↔ ∀ j, j < o.length → o.getD j 0 ≠ i → l.getD j 0 = 0)
  | [], o, h => by
    rw [List.length_eq_zero_iff.mp h.symm]
    exact ⟨fun _ j hj => absurd hj (Nat.not_lt_zero j), fun _ => rfl⟩
  | a :: l, [], h => by cases h
  | a :: l, b :: o, h => by
    have ih := zip_own (i := i) (l := l) (o := o) (by simpa using h)
    rw [List.zip_cons_cons, List.all_cons, Bool.and_eq_true, ih, Bool.or_eq_true, beq_iff_eq, beq_iff_eq]
    constructor
    · rintro ⟨h1, h2⟩ j hj hn
      cases j with
      | zero =>
        rcases h1 with h1 | h1
        · exact h1
        · exact absurd h1 hn
      | succ j => exact h2 j (by rw [List.length_cons] at hj; omega) hn
    · intro h
      refine ⟨?_, fun j hj hn => h (j + 1) (by rw [List.length_cons]; omega) hn⟩
      by_cases e : b = i
      · exact .inr e
      · exact .inl (h 0 (by rw [List.length_cons]; omega) e)
theorem own_iff (h : Rel s g) (i : Nat) (l : List Nat) : Mir.ownLetters g i l = false ↔ (okRow s.m 4 l = false ∨ (List.range s.m).any (fun j => l.getD j 0 != 0 && s.owner.getD j 0 != i) = true) := by
  unfold Mir.ownLetters
  rw [h.m, h.o]
  show _ ↔ (okRow s.owner.length 4 l = false ∨ (List.range s.owner.length).any _ = true)
  by_cases c : okRow s.owner.length 4 l = true
  · have hl := (okRow_iff.mp c).1
    have z := zip_own (i := i) (l := l) (o := s.owner) hl
    rw [c, Bool.true_and]
    constructor
    · intro h1
      refine .inr (Classical.not_not.mp fun h2 => ?_)
      have : ((l.zip s.owner).all (fun p => p.1 == 0 || p.2 == i) = true) := z.mpr fun j hj hn => by
        apply Classical.not_not.mp
        intro h3
        exact h2 (List.any_eq_true.mpr ⟨j, List.mem_range.mpr hj, by rw [Bool.and_eq_true, bne_iff_ne, bne_iff_ne]; exact ⟨h3, hn⟩⟩)
      rw [this] at h1
      cases h1
    · rintro (h1 | h1)
      · cases h1
      · obtain ⟨j, hj, h2⟩ := List.any_eq_true.mp h1
        rw [Bool.and_eq_true, bne_iff_ne, bne_iff_ne] at h2
        cases h3 : (l.zip s.owner).all (fun p => p.1 == 0 || p.2 == i) with
        | false => rfl
        | true => exact absurd (z.mp h3 j (List.mem_range.mp hj) h2.2) h2.1
  · have c' : okRow s.owner.length 4 l = false := by simpa using c
    rw [c', Bool.false_and]
    exact ⟨fun _ => .inl rfl, fun _ => rfl⟩
theorem ok_mine (h : Rel s g) (i x c : Nat) (l : List Nat) : Oks (does s (.mine i x c l)) (Mir.mineM g i x c l) := by
  show Oks (if s.k ≤ i ∨ s.q ≤ x then (s, no (-2)) else if 1 < c ∨ okRow s.m 4 l = false ∨ (List.range s.m).any (fun j => l.getD j 0 != 0 && s.owner.getD j 0 != i) = true then (s, no (-22)) else ({ s with mine := s.mine.set i ((s.mine.getD i []).set x ⟨c, l⟩) }, num 0 [])) _
  unfold Mir.mineM
  rw [h.k, h.q]
  by_cases c1 : s.k ≤ i ∨ s.q ≤ x
  · rw [if_pos c1, if_pos c1]
    exact h.no _
  · rw [if_neg c1, if_neg c1]
    have e := own_iff h i l
    by_cases c2 : 1 < c ∨ Mir.ownLetters g i l = false
    · rw [if_pos c2, if_pos (c2.imp id e.mp)]
      exact h.no _
    · rw [if_neg c2, if_neg fun z => c2 (z.imp id e.mpr)]
      have hi : i < s.mine.length := by rw [h.ml]; omega
      have hx : x < s.q := by omega
      have hr : s.mine[i]? = some (s.mine.getD i []) := getD_lt hi
      have hlen := h.mq _ (List.mem_of_getElem? hr)
      have hown : Mir.ownLetters g i l = true := by simpa using (not_or.mp c2).2
      unfold Mir.ownLetters at hown
      rw [Bool.and_eq_true, h.m, h.o] at hown
      have hl : WL s.owner.length l := okRow_iff.mp hown.1
      have hz := (zip_own hl.1).mp hown.2
      refine ⟨{ h with k := rfl, q := rfl, ow := ?_, ml := by show (s.mine.set i _).length = _; rw [List.length_set]; exact h.ml, mq := ?_, mo := ?_ }, rfl⟩
      · show g.own.set (i * s.q + x) ⟨c, l⟩ = (s.mine.set i ((s.mine.getD i []).set x ⟨c, l⟩)).flatten
        rw [flat_set _ h.mq hr hx, h.ow]
      · intro r hr2
        rcases List.mem_or_eq_of_mem_set hr2 with hr2 | rfl
        · exact h.mq r hr2
        · rw [List.length_set]
          exact hlen
      · intro i2 r y hr2 hy
        change (s.mine.set i ((s.mine.getD i []).set x ⟨c, l⟩))[i2]? = some r at hr2
        by_cases e2 : i = i2
        · subst e2
          rw [List.getElem?_set_self hi] at hr2
          rw [← Option.some.inj hr2] at hy
          rcases List.mem_or_eq_of_mem_set hy with hy | rfl
          · exact h.mo i _ y hr hy
          · exact ⟨⟨by have := (not_or.mp c2).1; show c < 2; omega, hl⟩, hz⟩
        · rw [List.getElem?_set_ne e2] at hr2
          exact h.mo i2 r y hr2 hy
end My
set_option Elab.async false
set_option linter.all false
set_option maxRecDepth 100000
set_option maxHeartbeats 4000000
namespace My
open Mir (G xorL tn turns mulP pairOf)
open Su173 (Spin together mul signOf times2)
open Su175 (blank subs prodOf linked first rows code okRow Abs does no num restart answerOf bit)
open Su175Neutral (outs)
variable {s : Abs} {g : G}
theorem taken_len (s : Abs) (x : List Nat) : (s.taken x).length = s.k := by
  unfold Abs.taken
  rw [List.length_map, List.length_range]
theorem taken_at (s : Abs) (x : List Nat) {i : Nat} (hi : i < s.k) : (s.taken x)[i]? = some ((s.mine.getD i []).getD (x.getD i 0) (blank s.m)) := by
  unfold Abs.taken
  rw [List.getElem?_map, List.getElem?_range hi]
  rfl
theorem own_row (h : Rel s g) {x : List Nat} (hx : x ∈ rows s.q s.k) : g.ownRow x = s.taken x := by
  obtain ⟨h1, h2⟩ := mem_rows.mp hx
  apply List.ext_getElem?
  intro i
  by_cases hi : i < s.k
  · rw [taken_at s x hi]
    have hl : i < (g.ownRow x).length := by rw [ownRow_len, h1]; exact hi
    have e : (g.ownRow x)[i]? = some (g.ownRow x)[i] := List.getElem?_eq_getElem hl
    obtain ⟨v, h3, h4⟩ := ownRow_get e
    have hv : v < s.q := h2 v (List.mem_of_getElem? h3)
    have h5 : x.getD i 0 = v := by rw [List.getD_eq_getElem?_getD, h3]; rfl
    rw [e, h4, h5, h.q, h.ow, flat_at _ h.mq hv, h.m]
    rfl
  · rw [List.getElem?_eq_none (by rw [ownRow_len, h1]; omega), List.getElem?_eq_none (by rw [taken_len]; omega)]
theorem taken_of (h : Rel s g) {x : List Nat} (hx : x ∈ rows s.q s.k) {i : Nat} {y : Spin} (hy : (s.taken x)[i]? = some y) : WS s.owner.length y ∧ ∀ j, j < s.owner.length → s.owner.getD j 0 ≠ i → y.l.getD j 0 = 0 := by
  obtain ⟨h1, h2⟩ := mem_rows.mp hx
  have hi : i < s.k := by
    have := lt_of_get hy
    rw [taken_len] at this
    exact this
  rw [taken_at s x hi] at hy
  have hr : s.mine[i]? = some (s.mine.getD i []) := getD_lt (by rw [h.ml]; exact hi)
  have hlen := h.mq _ (List.mem_of_getElem? hr)
  have hv : x.getD i 0 < (s.mine.getD i []).length := by
    rw [hlen]
    exact h2 _ (List.mem_of_getElem? (getD_lt (by rw [h1]; exact hi)))
  have hm : y ∈ s.mine.getD i [] := by
    rw [← Option.some.inj hy]
    exact List.mem_of_getElem? (getD_lt hv)
  exact h.mo i _ y hr hm
theorem taken_own (h : Rel s g) {x : List Nat} (hx : x ∈ rows s.q s.k) : Own s.owner.length (s.taken x) := by
  refine ⟨fun y hy => ?_, (List.range s.owner.length).map fun j => ((s.taken x).getD (s.owner.getD j 0) (blank s.owner.length)).l.getD j 0, ⟨by rw [List.length_map, List.length_range], fun c hc => ?_⟩, fun y hy v => ?_⟩
  · obtain ⟨i, hi⟩ := List.getElem?_of_mem hy
    exact (taken_of h hx hi).1
  · obtain ⟨j, _, rfl⟩ := List.mem_map.mp hc
    have w : WS s.owner.length ((s.taken x).getD (s.owner.getD j 0) (blank s.owner.length)) := by
      rw [List.getD_eq_getElem?_getD]
      cases e : (s.taken x)[s.owner.getD j 0]? with
      | none => exact ws_blank _
      | some y => exact (taken_of h hx e).1
    exact wl_at w.l j
  · obtain ⟨i, hi⟩ := List.getElem?_of_mem hy
    obtain ⟨w, z⟩ := taken_of h hx hi
    by_cases hv : v < s.owner.length
    · by_cases e : s.owner.getD v 0 = i
      · refine .inr ?_
        rw [List.getD_eq_getElem?_getD (l := (List.range s.owner.length).map _), List.getElem?_map, List.getElem?_range hv]
        show y.l.getD v 0 = ((s.taken x).getD (s.owner.getD v 0) (blank s.owner.length)).l.getD v 0
        rw [e, List.getD_eq_getElem?_getD (l := s.taken x), hi]
        rfl
      · exact .inl (z v hv e)
    · refine .inl ?_
      rw [List.getD_eq_getElem?_getD, List.getElem?_eq_none (by rw [w.l.1]; omega)]
      rfl
theorem sureOf_eq (h : Rel s g) {x : List Nat} (hx : x ∈ rows s.q s.k) (t : List Nat) : s.sureOf x t = sOf s.owner.length s.sure (s.taken x) t := sOf_spec h.sure (taken_own h hx).com t
theorem sums_ok (h : Rel s g) {x : List Nat} (hx : x ∈ rows s.q s.k) : SumsOk s.k (s.sureOf x) (g.sums x) where
  hk := kks h.may
  h := by
    refine ⟨fun t => ?_, fun t ht u hu h1 h2 => ?_⟩
    · rw [sureOf_eq h hx]
      exact sOf_le t
    · obtain ⟨lt, bt⟩ := mem_rows.mp ht
      obtain ⟨lu, bu⟩ := mem_rows.mp hu
      rw [sureOf_eq h hx] at h1 h2
      rw [sureOf_eq h hx, sureOf_eq h hx, sureOf_eq h hx]
      exact sOf_hom h.sure (taken_own h hx) (by rw [lt, taken_len]) (by rw [lu, taken_len]) bt bu h1 h2
  len := by rw [sums_len, (mem_rows.mp hx).1]
  at_ := fun t ht => by
    obtain ⟨lt, bt⟩ := mem_rows.mp ht
    rw [sureOf_eq h hx]
    unfold G.sums
    rw [own_row h hx, h.m]
    refine sums_at (taken_own h hx).com (by rw [lt, taken_len]) bt _ fun p => ?_
    unfold G.sumSure
    rw [signs_eq h]
    all_goals rfl
theorem chS_spec (s : Abs) (x a : List Nat) : chS s.k (s.sureOf x) a = s.chance x a := rfl
theorem both_iff (h : Rel s g) (l : List Nat) : Mir.both g l = false ↔ (l.length ≠ 2 * s.k ∨ s.asked (l.take s.k) = false ∨ okRow s.k 2 (l.drop s.k) = false) := by
  have e : Mir.both g l = true ↔ ¬ (l.length ≠ 2 * s.k ∨ s.asked (l.take s.k) = false ∨ okRow s.k 2 (l.drop s.k) = false) := by
    unfold Mir.both
    rw [h.asked, h.k, Bool.and_eq_true, Bool.and_eq_true, decide_eq_true_iff, not_or, not_or, ne_eq, Classical.not_not, Bool.not_eq_false, Bool.not_eq_false, okRow_iff, List.all_eq_true]
    constructor
    · rintro ⟨h1, h2, h3⟩
      refine ⟨h1, h2, by rw [List.length_drop]; omega, fun v hv => ?_⟩
      have := of_decide_eq_true (h3 v hv)
      omega
    · rintro ⟨h1, h2, h3, h4⟩
      refine ⟨h1, h2, fun v hv => ?_⟩
      have := h4 v hv
      exact decide_eq_true (by omega)
  rw [← Bool.not_eq_true, e, Classical.not_not]
theorem both_rows (h : Rel s g) {l : List Nat} (c : ¬ (l.length ≠ 2 * s.k ∨ s.asked (l.take s.k) = false ∨ okRow s.k 2 (l.drop s.k) = false)) : l.take s.k ∈ rows s.q s.k ∧ l.drop s.k ∈ rows 2 s.k := by
  rw [not_or, not_or] at c
  exact ⟨h.row (by simpa using c.2.1), mem_rows_ok.mpr (by simpa using c.2.2)⟩
theorem ok_chance (h : Rel s g) (l : List Nat) : Oks (does s (.chance l)) (g, Mir.chanceM g l) := by
  show Oks (if l.length ≠ 2 * s.k ∨ s.asked (l.take s.k) = false ∨ okRow s.k 2 (l.drop s.k) = false then (s, no (-22)) else (s, num (s.chance (l.take s.k) (l.drop s.k)) [2 ^ s.k, bit (s.won (l.take s.k) (l.drop s.k))])) _
  unfold Mir.chanceM
  have e := both_iff h l
  by_cases c : l.length ≠ 2 * s.k ∨ s.asked (l.take s.k) = false ∨ okRow s.k 2 (l.drop s.k) = false
  · rw [if_pos c, if_pos (e.mpr c)]
    exact h.no _
  · rw [if_neg c, if_neg fun z => c (e.mp z)]
    obtain ⟨hx, ha⟩ := both_rows h c
    refine ⟨h, ?_⟩
    show [Mir.chanceOf (g.sums (l.take g.k)) (Mir.code2 (l.drop g.k)), ((2 ^ g.k : Nat) : Int), ((g.wins.getD (Mir.place g.q (l.take g.k)) 0 / 2 ^ Mir.code2 (l.drop g.k) % 2 : Nat) : Int)] = _
    rw [h.k, chance_eq (sums_ok h hx) ha, chS_spec, h.wv, h.q, byRow_at h.may _ hx]
    have e2 : bit (s.won (l.take s.k) (l.drop s.k)) = s.wins.getD (code s.q (l.take s.k)) 0 / 2 ^ Mir.code2 (l.drop s.k) % 2 := by
      unfold Abs.won bit
      rw [code_two]
      have := Nat.mod_lt (s.wins.getD (code s.q (l.take s.k)) 0 / 2 ^ Mir.code2 (l.drop s.k)) (show 0 < 2 by decide)
      generalize s.wins.getD (code s.q (l.take s.k)) 0 / 2 ^ Mir.code2 (l.drop s.k) % 2 = b at *
      have hb : b = 0 ∨ b = 1 := by omega
      rcases hb with rfl | rfl <;> rfl
    show _ = ((s.chance (l.take s.k) (l.drop s.k) : Nat) : Int) :: outs [2 ^ s.k, bit (s.won (l.take s.k) (l.drop s.k))]
    rw [e2]
    rfl
theorem ok_parity (h : Rel s g) (l : List Nat) : Oks (does s (.parity l)) (g, Mir.parityM g l) := by
  show Oks (if l.length ≠ 2 * s.k ∨ s.asked (l.take s.k) = false ∨ okRow s.k 2 (l.drop s.k) = false then (s, no (-22)) else (s, num (s.sureOf (l.take s.k) (l.drop s.k)) [])) _
  unfold Mir.parityM
  have e := both_iff h l
  by_cases c : l.length ≠ 2 * s.k ∨ s.asked (l.take s.k) = false ∨ okRow s.k 2 (l.drop s.k) = false
  · rw [if_pos c, if_pos (e.mpr c)]
    exact h.no _
  · rw [if_neg c, if_neg fun z => c (e.mp z)]
    obtain ⟨hx, ha⟩ := both_rows h c
    refine ⟨h, ?_⟩
    show [((g.sums (l.take g.k)).getD (Mir.code2 (l.drop g.k)) 0 : Int)] = _
    rw [h.k, (sums_ok h hx).at_ _ ha]
    rfl
theorem rowAt_rows : ∀ p ∈ KQ, rows p.2 p.1 = (List.range (p.2 ^ p.1)).map (Mir.rowAt p.1 p.2) := by decide +kernel
theorem value_eq (h : Rel s g) : g.value = (s.spinValue : Int) := by
  have hr := rowAt_rows _ (kq_of h.may)
  have hlen := rows_len h.may
  have key : ∀ n, n ≤ (rows s.q s.k).length → g.valueTo n = ((((rows s.q s.k).take n).map fun x => s.count x * ((rows 2 s.k).map fun a => if s.won x a = true then s.chance x a else 0).sum).sum : Nat) := by
    intro n
    induction n with
    | zero => intro _; rfl
    | succ n ih =>
      intro hn
      have hx : (rows s.q s.k)[n]? = some (rows s.q s.k)[n] := List.getElem?_eq_getElem (by omega)
      have hm : (rows s.q s.k)[n] ∈ rows s.q s.k := List.mem_of_getElem? hx
      have e1 : Mir.rowAt g.k g.q n = (rows s.q s.k)[n] := by
        have h2 : (rows s.q s.k)[n]? = some (Mir.rowAt s.k s.q n) := by
          show (rows (s.k, s.q).2 (s.k, s.q).1)[n]? = _
          rw [hr, List.getElem?_map, List.getElem?_range (by show n < s.q ^ s.k; omega)]
          rfl
        rw [hx] at h2
        rw [h.k, h.q]
        exact (Option.some.inj h2).symm
      have e2 := rows_at h.may hx
      have e3 : g.weights.getD n 0 = s.count (rows s.q s.k)[n] := by
        have := byRow_at h.may s.counts hm
        rw [e2] at this
        rw [h.cw, this]
        rfl
      have e4 : g.wins.getD n 0 = s.wins.getD (code s.q (rows s.q s.k)[n]) 0 := by
        have := byRow_at h.may s.wins hm
        rw [e2] at this
        rw [h.wv, this]
      rw [take_more hx, List.map_append, List.sum_append]
      show g.valueTo n + (g.weights.getD n 0 : Int) * Mir.winsOf (g.sums (Mir.rowAt g.k g.q n)) (g.wins.getD n 0) = _
      rw [ih (by omega), e1, wins_eq (sums_ok h hm), e3, e4]
      show _ = ((_ + (s.count (rows s.q s.k)[n] * ((rows 2 s.k).map fun a => if s.won (rows s.q s.k)[n] a = true then s.chance (rows s.q s.k)[n] a else 0).sum + 0) : Nat) : Int)
      rw [Nat.add_zero, Int.natCast_add, Int.natCast_mul]
      rfl
  have hw : g.weights.length = (rows s.q s.k).length := by rw [h.cw, byRow_len h.may, hlen]
  unfold G.value
  rw [hw, key _ (Nat.le_refl _), List.take_length]
  rfl
theorem ok_value (h : Rel s g) : Oks (does s .value) (g, Mir.valueM g) := by
  show Oks (s, num s.spinValue [s.total * 2 ^ s.k, s.value s.best * 2 ^ s.k]) _
  refine ⟨h, ?_⟩
  unfold Mir.valueM
  rw [value_eq h, total_eq h, best_eq h, h.k]
  rfl
end My
set_option Elab.async false
set_option linter.all false
set_option maxRecDepth 100000
set_option maxHeartbeats 4000000
namespace My
open Mir (G)
open Su175 (Abs does no num)
open Su175Neutral (outs callOf)
open PySu175 (shape whole bound)
/-- one call, as the program reads it -/
def conv (c : List (List Int)) : Nat × List Nat := match c with
  | [p :: nums] => (p.toNat, nums.map Int.toNat)
  | [p :: nums, r] => (p.toNat, (nums ++ ((r.length : Int) :: r)).map Int.toNat)
  | _ => (0, [])
def rowsOf (P : Nat) : Nat := if ROWS.contains P = true then 1 else 0
/-- a call's form -/
def Form (c : List (List Int)) : Prop := ∃ (P : Nat) (nums : List Int) (xs : List (List Int)), c = ((P : Int) :: nums) :: xs ∧ P < 18 ∧ nums.length = NUMS.getD P 0 ∧ xs.length = rowsOf P
theorem shape_fin : ∀ P : Fin 18, shape (P.1 : Int) = some (NUMS.getD P.1 0, rowsOf P.1) := by decide +kernel
theorem shape_of {P n k : Nat} (h : shape (P : Int) = some (n, k)) : P < 18 ∧ n = NUMS.getD P 0 ∧ k = rowsOf P := by
  by_cases hP : P < 18
  · have := shape_fin ⟨P, hP⟩
    rw [h] at this
    have e := Option.some.inj this
    exact ⟨hP, congrArg Prod.fst e, congrArg Prod.snd e⟩
  · exfalso
    unfold PySu175.shape at h
    repeat rw [if_neg (by omega)] at h
    cases h
theorem bound_fin : ∀ P : Fin 18, ROWS.contains P.1 = true → (bound (P.1 : Int)).2 = [(0, 4294967295, 0, if P.1 = 1 ∨ P.1 = 2 ∨ P.1 = 3 ∨ P.1 = 11 ∨ P.1 = 12 then 10 else 12)] := by decide +kernel
theorem row_short {P : Nat} (hP : P < 18) (hr : ROWS.contains P = true) {nums x : List Int} (h : PyInside.call bound [(P : Int) :: nums, x] = true) : x.length ≤ 12 := by
  have h2 : (PyInside.each (bound (P : Int)).1 nums && PyInside.lists (bound (P : Int)).2 [x]) = true := h
  rw [bound_fin ⟨P, hP⟩ hr, Bool.and_eq_true] at h2
  have h3 := h2.2
  unfold PyInside.lists at h3
  rw [Bool.and_eq_true, Bool.and_eq_true, Bool.and_eq_true] at h3
  have h4 := of_decide_eq_true h3.1.1.2
  split at h4 <;> omega
theorem need_fin : ∀ P : Fin 18, need P.1 = NUMS.getD P.1 0 ∧ NUMS.getD P.1 0 ≤ 3 := by decide +kernel
def zc (l : List Nat) : List Int := l.map fun (n : Nat) => (n : Int)
theorem zc_nat (l : List Nat) : (zc l).map Int.toNat = l := by
  unfold zc
  rw [List.map_map]
  exact List.map_id l
theorem zc_take (l : List Nat) (n : Nat) : (zc l).take n = zc (l.take n) := List.map_take.symm
theorem zc_drop (l : List Nat) (n : Nat) : (zc l).drop n = zc (l.drop n) := List.map_drop.symm
theorem zc_len (l : List Nat) : (zc l).length = l.length := List.length_map ..
theorem drop_cons {ns : List Nat} {s P : Nat} {R : List Nat} (h : ns.drop s = P :: R) : ns[s]? = some P ∧ R = ns.drop (s + 1) ∧ s < ns.length := by
  have h1 : (ns.drop s)[0]? = some P := by rw [h]; rfl
  rw [List.getElem?_drop, Nat.add_zero] at h1
  refine ⟨h1, ?_, lt_of_get h1⟩
  have h2 : (ns.drop s).drop 1 = R := by rw [h]; rfl
  rw [List.drop_drop] at h2
  exact h2.symm
/-- one call read -/
theorem call_read {ns : List Nat} {s P : Nat} {R : List Nat} {c : List (List Int)} {t : List Int} (h : ns.drop s = P :: R) (hc : PyFlat.call shape ((P : Int) :: zc R) = some (c, t)) (hb : PyInside.call bound c = true) :
    Form c ∧ t = zc (ns.drop (endOf ns s)) ∧ (conv c).1 = P ∧ P < 18 ∧ (ROWS.contains P = true → s + 1 + NUMS.getD P 0 < ns.length) ∧ s + 1 ≤ endOf ns s ∧ endOf ns s ≤ ns.length ∧ (conv c).2 = (ns.drop (s + 1)).take (endOf ns s - (s + 1)) ∧ (conv c).2.length ≤ 1000 ∧ need P ≤ (conv c).2.length := by
  obtain ⟨h1, h2, h3⟩ := drop_cons h
  have hg : ns.getD s 0 = P := by rw [List.getD_eq_getElem?_getD, h1]; rfl
  have hR : R.length = ns.length - (s + 1) := by rw [h2, List.length_drop]
  unfold PyFlat.call at hc
  cases hs : shape (P : Int) with
  | none =>
    simp only [hs] at hc
    cases hc
  | some nk =>
    obtain ⟨n, k⟩ := nk
    simp only [hs] at hc
    obtain ⟨hP, rfl, rfl⟩ := shape_of hs
    obtain ⟨hn1, hn2⟩ := need_fin ⟨P, hP⟩
    simp only at hn1 hn2
    by_cases hlen : (zc R).length < NUMS.getD P 0
    · rw [if_pos hlen] at hc
      cases hc
    · rw [if_neg hlen] at hc
      rw [zc_len] at hlen
      by_cases hr : ROWS.contains P = true
      · have hk : rowsOf P = 1 := if_pos hr
        rw [hk] at hc
        rw [zc_drop] at hc
        cases hd : R.drop (NUMS.getD P 0) with
        | nil =>
          rw [hd] at hc
          cases hc
        | cons N RR =>
          rw [hd] at hc
          have hNl : R.length = NUMS.getD P 0 + (RR.length + 1) := by
            have := congrArg List.length hd
            rw [List.length_drop, List.length_cons] at this
            omega
          by_cases hN : N ≤ RR.length
          · have hc2 : some ((((P : Int) :: (zc R).take (NUMS.getD P 0)) :: [(zc RR).take N]), (zc RR).drop N) = some (c, t) := by
              rw [← hc]
              unfold PyFlat.rows PyFlat.row
              show _ = (match (match (if 0 ≤ (N : Int) ∧ (N : Int).toNat ≤ (zc RR).length then some ((zc RR).take (N : Int).toNat, (zc RR).drop (N : Int).toNat) else none) with
                | none => none
                | some (x, s) => match PyFlat.rows 0 s with
                  | none => none
                  | some (xs, t) => some (x :: xs, t)) with
                | none => none
                | some (xs, t) => some (((P : Int) :: (zc R).take (NUMS.getD P 0)) :: xs, t))
              rw [if_pos ⟨by omega, by rw [zc_len]; exact hN⟩]
              rfl
            cases hc2
            have hx : ((zc RR).take N).length = N := by rw [List.length_take, zc_len]; omega
            have hN12 : N ≤ 12 := by
              have := row_short hP hr hb
              omega
            have hat : ns.getD (s + 1 + NUMS.getD P 0) 0 = N := by
              have : (R.drop (NUMS.getD P 0))[0]? = some N := by rw [hd]; rfl
              rw [List.getElem?_drop, Nat.add_zero, h2, List.getElem?_drop] at this
              rw [List.getD_eq_getElem?_getD, this]
              rfl
            have he : endOf ns s = s + 1 + NUMS.getD P 0 + 1 + N := by
              unfold endOf
              rw [hg, if_pos hr, hat]
            have hcv : (conv [(P : Int) :: (zc R).take (NUMS.getD P 0), (zc RR).take N]).2 = R.take (NUMS.getD P 0 + 1 + N) := by
              show ((zc R).take (NUMS.getD P 0) ++ ((((zc RR).take N).length : Int) :: (zc RR).take N)).map Int.toNat = _
              rw [hx, zc_take, zc_take, List.map_append, List.map_cons, zc_nat, zc_nat, Nat.add_assoc, List.take_add, hd]
              congr 1
              rw [Nat.add_comm 1 N]
              rfl
            refine ⟨⟨P, _, _, rfl, hP, by rw [List.length_take, zc_len]; omega, by rw [hk]; rfl⟩, ?_, rfl, hP, fun _ => by omega, by omega, by omega, ?_, ?_, ?_⟩
            · have : RR = ns.drop (s + 1 + NUMS.getD P 0 + 1) := by
                have e : (R.drop (NUMS.getD P 0)).drop 1 = RR := by rw [hd]; rfl
                rw [h2, List.drop_drop, List.drop_drop] at e
                exact e.symm
              rw [zc_drop, he, this, List.drop_drop]
            · rw [hcv, he, ← h2]
              congr 1
              omega
            · rw [hcv, List.length_take]
              omega
            · rw [hcv, List.length_take]
              omega
          · exfalso
            unfold PyFlat.rows PyFlat.row at hc
            change (match (match (if 0 ≤ (N : Int) ∧ (N : Int).toNat ≤ (zc RR).length then some ((zc RR).take (N : Int).toNat, (zc RR).drop (N : Int).toNat) else none) with
                | none => none
                | some (x, s) => match PyFlat.rows 0 s with
                  | none => none
                  | some (xs, t) => some (x :: xs, t)) with
                | none => none
                | some (xs, t) => some (((P : Int) :: (zc R).take (NUMS.getD P 0)) :: xs, t)) = some (c, t) at hc
            rw [if_neg (fun z => hN (by have := z.2; rw [zc_len] at this; exact this))] at hc
            cases hc
      · have hk : rowsOf P = 0 := if_neg hr
        rw [hk] at hc
        have hc2 : some ([(P : Int) :: (zc R).take (NUMS.getD P 0)], (zc R).drop (NUMS.getD P 0)) = some (c, t) := hc
        cases hc2
        have he : endOf ns s = s + 1 + NUMS.getD P 0 := by
          unfold endOf
          rw [hg, if_neg hr]
        have hcv : (conv [(P : Int) :: (zc R).take (NUMS.getD P 0)]).2 = R.take (NUMS.getD P 0) := by
          show ((zc R).take (NUMS.getD P 0)).map Int.toNat = _
          rw [zc_take, zc_nat]
        refine ⟨⟨P, _, [], rfl, hP, by rw [List.length_take, zc_len]; omega, by rw [hk]; rfl⟩, ?_, rfl, hP, fun z => absurd z hr, by omega, by omega, ?_, ?_, ?_⟩
        · rw [zc_drop, he, h2, List.drop_drop]
        · rw [hcv, he, ← h2]
          congr 1
          omega
        · rw [hcv, List.length_take]
          omega
        · rw [hcv, List.length_take]
          omega
theorem seg_of {ns : List Nat} : ∀ {f s : Nat} {raw : List (List (List Int))}, PyFlat.calls shape f (zc (ns.drop s)) = some raw → s ≤ ns.length → (∀ c ∈ raw, PyInside.call bound c = true) → Seg ns s (raw.map conv) ∧ ∀ c ∈ raw, Form c := by
  intro f
  induction f with
  | zero =>
    intro s raw h hs hb
    cases hd : ns.drop s with
    | nil =>
      rw [hd] at h
      have e : some [] = some raw := h
      cases e
      have := congrArg List.length hd
      rw [List.length_drop, List.length_nil] at this
      exact ⟨.nil (by omega), fun c hc => by cases hc⟩
    | cons P R =>
      rw [hd] at h
      cases h
  | succ f ih =>
    intro s raw h hs hb
    cases hd : ns.drop s with
    | nil =>
      rw [hd] at h
      have e : some [] = some raw := h
      cases e
      have := congrArg List.length hd
      rw [List.length_drop, List.length_nil] at this
      exact ⟨.nil (by omega), fun c hc => by cases hc⟩
    | cons P R =>
      rw [hd] at h
      change (match PyFlat.call shape ((P : Int) :: zc R) with
        | none => none
        | some (c, t) => match PyFlat.calls shape f t with
          | none => none
          | some cs => some (c :: cs)) = some raw at h
      cases hc : PyFlat.call shape ((P : Int) :: zc R) with
      | none => rw [hc] at h; cases h
      | some ct =>
        obtain ⟨c, t⟩ := ct
        rw [hc] at h
        change (match PyFlat.calls shape f t with
          | none => none
          | some cs => some (c :: cs)) = some raw at h
        cases hr : PyFlat.calls shape f t with
        | none => rw [hr] at h; cases h
        | some cs =>
          rw [hr] at h
          cases h
          obtain ⟨g1, g2, g3, g4, g5, g6, g7, g8, g9, g10⟩ := call_read hd hc (hb c (List.mem_cons_self ..))
          rw [g2] at hr
          obtain ⟨k1, k2⟩ := ih hr g7 fun d hd => hb d (List.mem_cons_of_mem _ hd)
          refine ⟨?_, fun d hd => ?_⟩
          · rw [List.map_cons]
            have e : conv c = (P, (conv c).2) := Prod.ext g3 rfl
            rw [e]
            exact .cons (drop_cons hd).1 g4 g5 g6 g7 g8 g9 g10 k1
          · rcases List.mem_cons.mp hd with rfl | hd
            · exact g1
            · exact k2 d hd
/-! ### call by call -/
def RelO : Option Abs → G → Prop
  | none, g => g = G.new
  | some s, g => Rel s g
/-- a call answered alike -/
def Same2 (z : Option Abs × List Int) (r : G × List Int) : Prop := RelO z.1 r.1 ∧ r.2 = z.2
theorem same_of {c : List Int} {x : Su175.Call} {P : Nat} {l : List Nat} (hx : callOf c = some x) (hP : P ≠ 0) (hn : Su175.step none x = (none, no (-11))) (hs : ∀ s g, Rel s g → Oks (does s x) (Mir.doM g P l)) : ∀ S g, RelO S g → Same2 (Su175Neutral.step S c) (Mir.doM g P l) := by
  intro S g h
  unfold Su175Neutral.step
  rw [hx]
  cases S with
  | none =>
    have h' : g = G.new := h
    subst h'
    have e : Mir.doM G.new P l = (G.new, [-11]) := by
      unfold Mir.doM
      rw [if_neg hP, if_pos (show G.new.begun = false from rfl)]
    rw [e]
    show RelO (Su175.step none x).1 G.new ∧ _ = (Su175.step none x).2.value :: outs (Su175.step none x).2.out
    rw [hn]
    exact ⟨rfl, rfl⟩
  | some s => exact hs s g h
theorem same_begin {c : List Int} {k q : Nat} {l : List Nat} (hx : callOf c = some (.begin_ k q)) (h0 : l.getD 0 0 = k) (h1 : l.getD 1 0 = q) : ∀ S g, RelO S g → Same2 (Su175Neutral.step S c) (Mir.doM g 0 l) := by
  intro S g h
  unfold Su175Neutral.step
  rw [hx]
  have e : Mir.doM g 0 l = Mir.beginM g k q := by
    unfold Mir.doM
    rw [if_pos rfl, h0, h1]
  rw [e]
  cases S with
  | none =>
    obtain ⟨a1, a2, a3, a4⟩ := ok_begin g k q (Su175.new 2 1)
    show RelO (if (does (Su175.new 2 1) (.begin_ k q)).2.value < 0 then none else some (does (Su175.new 2 1) (.begin_ k q)).1) _ ∧ _ = (does (Su175.new 2 1) (.begin_ k q)).2.value :: outs (does (Su175.new 2 1) (.begin_ k q)).2.out
    refine ⟨?_, a2⟩
    by_cases hm : Mir.mayBegin k q = true
    · rw [if_neg (fun z => by have := a3.mp z; rw [hm] at this; cases this)]
      exact a1 hm
    · have hm' : Mir.mayBegin k q = false := by simpa using hm
      rw [if_pos (a3.mpr hm'), (a4 hm').2]
      exact h
  | some s =>
    obtain ⟨a1, a2, a3, a4⟩ := ok_begin g k q s
    show Rel (does s (.begin_ k q)).1 _ ∧ _ = (does s (.begin_ k q)).2.value :: outs (does s (.begin_ k q)).2.out
    refine ⟨?_, a2⟩
    by_cases hm : Mir.mayBegin k q = true
    · exact a1 hm
    · have hm' : Mir.mayBegin k q = false := by simpa using hm
      rw [(a4 hm').1, (a4 hm').2]
      exact h
theorem len0 {α : Type} {l : List α} (h : l.length = 0) : l = [] := List.length_eq_zero_iff.mp h
theorem len1 {α : Type} {l : List α} (h : l.length = 1) : ∃ a, l = [a] := List.length_eq_one_iff.mp h
theorem len2 {α : Type} {l : List α} (h : l.length = 2) : ∃ a b, l = [a, b] := match l, h with
  | [a, b], _ => ⟨a, b, rfl⟩
theorem len3 {α : Type} {l : List α} (h : l.length = 3) : ∃ a b c, l = [a, b, c] := match l, h with
  | [a, b, c], _ => ⟨a, b, c, rfl⟩
theorem step_ok {c : List (List Int)} (hf : Form c) : ∀ S g, RelO S g → Same2 (Su175Neutral.step S ((whole c).headD [])) (Mir.doM g (conv c).1 (conv c).2) := by
  obtain ⟨P, nums, xs, rfl, hP, hn, hx⟩ := hf
  match P, hP, hn, hx with
  | 0, _, hn, hx =>
    obtain ⟨a, b, rfl⟩ := len2 hn
    obtain rfl := len0 hx
    exact same_begin (k := a.toNat) (q := b.toNat) rfl rfl rfl
  | 1, _, hn, hx =>
    obtain ⟨a, rfl⟩ := len1 hn
    obtain ⟨r, rfl⟩ := len1 hx
    exact same_of (P := 1) (x := .wins a.toNat (r.map Int.toNat)) rfl (by decide) rfl fun s g h => by
      show Oks _ (Mir.doM g 1 _)
      rw [do_of h.b (by decide)]
      exact ok_wins h _ _
  | 2, _, hn, hx =>
    obtain ⟨a, rfl⟩ := len1 hn
    obtain ⟨r, rfl⟩ := len1 hx
    exact same_of (P := 2) (x := .odd a.toNat (r.map Int.toNat)) rfl (by decide) rfl fun s g h => by
      show Oks _ (Mir.doM g 2 _)
      rw [do_of h.b (by decide)]
      exact ok_odd h _ _
  | 3, _, hn, hx =>
    obtain ⟨a, rfl⟩ := len1 hn
    obtain ⟨r, rfl⟩ := len1 hx
    exact same_of (P := 3) (x := .counts a.toNat (r.map Int.toNat)) rfl (by decide) rfl fun s g h => by
      show Oks _ (Mir.doM g 3 _)
      rw [do_of h.b (by decide)]
      exact ok_counts h _ _
  | 4, _, hn, hx =>
    obtain rfl := len0 hn
    obtain ⟨r, rfl⟩ := len1 hx
    exact same_of (P := 4) (x := .plan (r.map Int.toNat)) rfl (by decide) rfl fun s g h => by
      show Oks _ (Mir.doM g 4 _)
      rw [do_of h.b (by decide)]
      exact ok_plan h _
  | 5, _, hn, hx =>
    obtain rfl := len0 hn
    obtain rfl := len0 hx
    exact same_of (P := 5) (x := .best) rfl (by decide) rfl fun s g h => by
      show Oks _ (Mir.doM g 5 _)
      rw [do_of h.b (by decide)]
      exact ok_best h
  | 6, _, hn, hx =>
    obtain ⟨a, rfl⟩ := len1 hn
    obtain rfl := len0 hx
    exact same_of (P := 6) (x := .plans a.toNat) rfl (by decide) rfl fun s g h => by
      show Oks _ (Mir.doM g 6 _)
      rw [do_of h.b (by decide)]
      exact ok_plans h _
  | 7, _, hn, hx =>
    obtain rfl := len0 hn
    obtain ⟨r, rfl⟩ := len1 hx
    exact same_of (P := 7) (x := .spins (r.map Int.toNat)) rfl (by decide) rfl fun s g h => by
      show Oks _ (Mir.doM g 7 _)
      rw [do_of h.b (by decide)]
      exact ok_spins h _
  | 8, _, hn, hx =>
    obtain ⟨a, b, rfl⟩ := len2 hn
    obtain rfl := len0 hx
    exact same_of (P := 8) (x := .link a.toNat b.toNat) rfl (by decide) rfl fun s g h => by
      show Oks _ (Mir.doM g 8 _)
      rw [do_of h.b (by decide)]
      exact ok_link h _ _
  | 9, _, hn, hx =>
    obtain rfl := len0 hn
    obtain rfl := len0 hx
    exact same_of (P := 9) (x := .fresh) rfl (by decide) rfl fun s g h => by
      show Oks _ (Mir.doM g 9 _)
      rw [do_of h.b (by decide)]
      exact ok_fresh h
  | 10, _, hn, hx =>
    obtain rfl := len0 hn
    obtain ⟨r, rfl⟩ := len1 hx
    exact same_of (P := 10) (x := .sure (r.map Int.toNat)) rfl (by decide) rfl fun s g h => by
      show Oks _ (Mir.doM g 10 _)
      rw [do_of h.b (by decide)]
      exact ok_sure h _
  | 11, _, hn, hx =>
    obtain ⟨a, rfl⟩ := len1 hn
    obtain ⟨r, rfl⟩ := len1 hx
    exact same_of (P := 11) (x := .measure a.toNat (r.map Int.toNat)) rfl (by decide) rfl fun s g h => by
      show Oks _ (Mir.doM g 11 _)
      rw [do_of h.b (by decide)]
      exact ok_measure h _ _
  | 12, _, hn, hx =>
    obtain ⟨a, b, d, rfl⟩ := len3 hn
    obtain ⟨r, rfl⟩ := len1 hx
    exact same_of (P := 12) (x := .mine a.toNat b.toNat d.toNat (r.map Int.toNat)) rfl (by decide) rfl fun s g h => by
      show Oks _ (Mir.doM g 12 _)
      rw [do_of h.b (by decide)]
      exact ok_mine h _ _ _ _
  | 13, _, hn, hx =>
    obtain rfl := len0 hn
    obtain ⟨r, rfl⟩ := len1 hx
    exact same_of (P := 13) (x := .chance (r.map Int.toNat)) rfl (by decide) rfl fun s g h => by
      show Oks _ (Mir.doM g 13 _)
      rw [do_of h.b (by decide)]
      exact ok_chance h _
  | 14, _, hn, hx =>
    obtain rfl := len0 hn
    obtain ⟨r, rfl⟩ := len1 hx
    exact same_of (P := 14) (x := .parity (r.map Int.toNat)) rfl (by decide) rfl fun s g h => by
      show Oks _ (Mir.doM g 14 _)
      rw [do_of h.b (by decide)]
      exact ok_parity h _
  | 15, _, hn, hx =>
    obtain rfl := len0 hn
    obtain rfl := len0 hx
    exact same_of (P := 15) (x := .value) rfl (by decide) rfl fun s g h => by
      show Oks _ (Mir.doM g 15 _)
      rw [do_of h.b (by decide)]
      exact ok_value h
  | 16, _, hn, hx =>
    obtain rfl := len0 hn
    obtain ⟨r, rfl⟩ := len1 hx
    exact same_of (P := 16) (x := .row (r.map Int.toNat)) rfl (by decide) rfl fun s g h => by
      show Oks _ (Mir.doM g 16 _)
      rw [do_of h.b (by decide)]
      exact ok_row h _
  | 17, _, hn, hx =>
    obtain rfl := len0 hn
    obtain rfl := len0 hx
    exact same_of (P := 17) (x := .state) rfl (by decide) rfl fun s g h => by
      show Oks _ (Mir.doM g 17 _)
      rw [do_of h.b (by decide)]
      exact ok_state h
  | n + 18, h, _, _ => omega
theorem wg_of {S : Option Abs} {g : G} (h : RelO S g) (hb : g.begun = true) : WG g := by
  cases S with
  | none =>
    have h' : g = G.new := h
    rw [h'] at hb
    cases hb
  | some s => exact Rel.wg h
theorem run_ok : ∀ {raw : List (List (List Int))} {S : Option Abs} {g : G}, RelO S g → (∀ c ∈ raw, Form c) → RunOk g (raw.map conv) ∧ Mir.runM g (raw.map conv) = PyFlat.played (fun s c => Su175Neutral.step s (c.headD [])) S (raw.map whole)
  | [], _, _, _, _ => ⟨trivial, rfl⟩
  | c :: raw, S, g, h, hf => by
    obtain ⟨h1, h2⟩ := step_ok (hf c (List.mem_cons_self ..)) S g h
    obtain ⟨k1, k2⟩ := run_ok h1 fun d hd => hf d (List.mem_cons_of_mem _ hd)
    refine ⟨⟨wg_of h, k1⟩, ?_⟩
    show (Mir.doM g (conv c).1 (conv c).2).2 :: Mir.runM (Mir.doM g (conv c).1 (conv c).2).1 (raw.map conv) = (Su175Neutral.step S ((whole c).headD [])).2 :: PyFlat.played (fun s c => Su175Neutral.step s (c.headD [])) (Su175Neutral.step S ((whole c).headD [])).1 (raw.map whole)
    rw [h2, k2]
theorem zc_of : ∀ {l : List Int}, (∀ z ∈ l, 0 ≤ z) → zc (l.map Int.toNat) = l
  | [], _ => rfl
  | z :: l, h => by
    have h1 := h z (List.mem_cons_self ..)
    show ((z.toNat : Int)) :: zc (l.map Int.toNat) = _
    rw [zc_of fun y hy => h y (List.mem_cons_of_mem _ hy), Int.toNat_of_nonneg h1]
/-- what's asked for is read as the document reads it, and so answered -/
theorem all_asked {l : List Int} (h0 : ∀ z ∈ l, 0 ≤ z) (ha : PySu175.answers_asked l = true) : ∃ (ns : List Nat) (cs : List (Nat × List Nat)), l = zc ns ∧ Seg ns 0 cs ∧ RunOk G.new cs ∧ PyFlat.told (Mir.runM G.new cs) = PySu175.answers l ∧ (PySu175.answers l).length ≤ 10000000 := by
  unfold PySu175.answers_asked at ha
  cases hr : PyFlat.calls shape l.length l with
  | none =>
    rw [hr] at ha
    cases ha
  | some raw =>
    rw [hr] at ha
    change (!raw.isEmpty && PyFlat.atMost 400 raw && PyInside.calls bound raw && Su175Neutral.asked ((raw.map whole).map fun c => c.headD []) && PyFlat.short 10000000 (PySu175.answers l)) = true at ha
    rw [Bool.and_eq_true, Bool.and_eq_true, Bool.and_eq_true] at ha
    obtain ⟨⟨⟨_, hb⟩, _⟩, hsh⟩ := ha
    have e := zc_of h0
    have hb' : ∀ c ∈ raw, PyInside.call bound c = true := List.all_eq_true.mp hb
    obtain ⟨k1, k2⟩ := seg_of (ns := l.map Int.toNat) (f := l.length) (s := 0) (raw := raw) (by rw [List.drop_zero, e]; exact hr) (Nat.zero_le _) hb'
    obtain ⟨k3, k4⟩ := run_ok (S := none) (g := G.new) rfl k2
    have hans : PySu175.answers l = PyFlat.told (Mir.runM G.new (raw.map conv)) := by
      unfold PySu175.answers PySu175.calls
      rw [hr, k4]
      rfl
    exact ⟨l.map Int.toNat, raw.map conv, e.symm, k1, k3, hans.symm, of_decide_eq_true hsh⟩
end My
set_option Elab.async false
set_option linter.all false
set_option maxRecDepth 100000
set_option maxHeartbeats 4000000
namespace My
open PySem PySem.W PyProof.Rows L2
open Mir (G)
theorem zc_iv (ns : List Nat) : (zc ns).map V.int = iv ns := by
  unfold zc iv
  rw [List.map_map]
  rfl
/-- what's handed in is read, and what's due is what's given back -/
theorem case_S (K : PySem.W.Frag) (H : Hp) (xs : List V) (a : Codec.denoteAll PySem.Challenge.rw_sharedspins_s01_answers.args) (hwi : Codec.withinAll PySem.Challenge.rw_sharedspins_s01_answers.args a = true)
    (hask : Codec.app PySem.Challenge.rw_sharedspins_s01_answers.args PySem.Challenge.rw_sharedspins_s01_answers.asked a = true) (hx : DwAll K H xs (Codec.encAll PySem.Challenge.rw_sharedspins_s01_answers.args a)) :
    spAns K xs H (fun v H' => Dw K H' v (PySem.Challenge.rw_sharedspins_s01_answers.ret.enc (Codec.app PySem.Challenge.rw_sharedspins_s01_answers.args PySem.Challenge.rw_sharedspins_s01_answers.f a))) fun _ _ _ => False := by
  cases hx with
  | cons h1 h2 =>
    cases h2
    cases h1 with
    | lst hs ha =>
      have e := L2.ints_dw a.1 _ ha
      subst e
      have q : ((Codec.inLen 0 6000 a.1 && a.1.all (Codec.inInt 0 4294967295)) && true) = true := hwi
      rw [Bool.and_eq_true, Bool.and_eq_true] at q
      have q0 : ∀ z ∈ a.1, 0 ≤ z := fun z hz => (Codec.inInt_iff.mp (List.all_eq_true.mp q.1.2 z hz)).1
      have q1 : PySu175.answers_asked a.1 = true := hask
      obtain ⟨ns, cs, e1, h2, h3, h4, h5⟩ := all_asked q0 q1
      rw [e1, zc_iv] at hs
      refine ⟨_, ns, cs, rfl, hs, h2, h3, by rw [h4]; exact h5, fun H' p _ hp => ?_⟩
      rw [h4] at hp
      exact .lst (L2.SqL.of hp) (L2.dw_ints (PySu175.answers a.1))
end My
set_option Elab.async false
set_option linter.all false
set_option maxRecDepth 100000
set_option maxHeartbeats 4000000
namespace My
open PySem PySem.Spec PyProof.Rows L2 Evl
open Mir (G)
section
variable {P : Program} {w : World} {K : PySem.W.Frag} {mg : Str → Option Value} {base h : Heap} {C CM aT aN aW : Addr}
theorem defAt_of {x : Str} {st : Stmt} {f : Addr} {oc : Value} {od an : Option Addr} {osl : Array (Option Value)} {kV doc pm cdv ct : Value} (X : K.In h) (G : h.Ns mainGlobals mg) (a : PySem.W.nsIn K mainGlobals x = some (some (.ref f)))
    (l : K.lookup f = some ⟨oc, od, .func (PySem.W.fnOf x x (defArgs st) (defBody st) (defScope st) .none kV doc pm an cdv ct), osl⟩) (c : PySem.W.codeIn K cdv x = true) (k : PySem.W.keepIn K (.ref f) = true) : DefAt K mg x st :=
  ⟨f, _, fun_mk l c k, PySem.W.mg_of X G a⟩
theorem mdef_of {cn qual : Str} {st : Stmt} {f : Addr} {oc : Value} {od an : Option Addr} {osl : Array (Option Value)} {kV doc pm cdv ct : Value} (X : K.In h) (G : h.Ns mainGlobals mg) (g : PySem.W.nsIn K mainGlobals cn = some (some (.ref C)))
    (mk : PySem.W.makesIn K C = true) (a : PySem.W.findIn K (.ref C) "__init__" = some (some (.ref f))) (i : PySem.W.isFn K (.ref f) = true) (kc : PySem.W.keepIn K (.ref C) = true)
    (l : K.lookup f = some ⟨oc, od, .func (PySem.W.fnOf "__init__" qual (defArgs st) (defBody st) (defScope st) .none kV doc pm an cdv ct), osl⟩) (c : PySem.W.codeIn K cdv qual = true) (k : PySem.W.keepIn K (.ref f) = true) : MDef K mg cn C qual st :=
  ⟨f, _, fun_mk l c k, PySem.W.mg_of X G g, ⟨mk, a, i, kc⟩⟩
theorem cint_of {x : Str} {i : Int} {t : Tok} (X : K.In h) (G : h.Ns mainGlobals mg) (a : PySem.W.nsIn K mainGlobals x = some (some (.int i t))) : ∃ t, mg x = some (.int i t) := ⟨t, PySem.W.mg_of X G a⟩
theorem tupK {a : Addr} {xs : List V} {o : Obj} {its : Array Value} {n : Nat} (l : K.lookup a = some o) (c : o.cls = .type "tuple") (d : o.data = .seq its n) (z : its.size ≤ sizeLine) (v : Vals xs its.toList) : SqT K (fun _ => none) a xs := .inr ⟨o, its, n, l, c, d, z, v⟩
theorem all_ok {fA : Addr} {fdA : FuncData} (T : Txt K mg C CM aT aN aW)
    (D_is_asked : DefAt K mg "is_asked" s_is_asked)
    (D_place_of_row : DefAt K mg "place_of_row" s_place_of_row)
    (D_row_at : DefAt K mg "row_at" s_row_at)
    (D_count_ones : DefAt K mg "count_ones" s_count_ones)
    (D_Measurement : MDef K mg "Measurement" CM "Measurement.__init__" s_Measurement_init)
    (D_are_letters : DefAt K mg "are_letters" s_are_letters)
    (D_go_together : DefAt K mg "go_together" s_go_together)
    (D_is_plan : DefAt K mg "is_plan" s_is_plan)
    (D_count_plans : DefAt K mg "count_plans" s_count_plans)
    (D_plan_at : DefAt K mg "plan_at" s_plan_at)
    (D_answered_by_one_more : DefAt K mg "answered_by_one_more" s_answered_by_one_more)
    (D_number_of_bits : DefAt K mg "number_of_bits" s_number_of_bits)
    (D_sum_that_is_sure : DefAt K mg "sum_that_is_sure" s_sum_that_is_sure)
    (D_are_owners : DefAt K mg "are_owners" s_are_owners)
    (D_Game : MDef K mg "Game" C "Game.__init__" s_Game_init)
    (D_show_state : DefAt K mg "show_state" s_show_state)
    (D_may_begin : DefAt K mg "may_begin" s_may_begin)
    (D_count_rows : DefAt K mg "count_rows" s_count_rows)
    (D_end_of_call : DefAt K mg "end_of_call" s_end_of_call)
    (D_let_win : DefAt K mg "let_win" s_let_win)
    (D_let_count : DefAt K mg "let_count" s_let_count)
    (D_show_row : DefAt K mg "show_row" s_show_row)
    (D_rows_with_parity : DefAt K mg "rows_with_parity" s_rows_with_parity)
    (D_answered_by_plan : DefAt K mg "answered_by_plan" s_answered_by_plan)
    (D_are_own_letters : DefAt K mg "are_own_letters" s_are_own_letters)
    (D_are_row_and_bits : DefAt K mg "are_row_and_bits" s_are_row_and_bits)
    (D_chance_of_number : DefAt K mg "chance_of_number" s_chance_of_number)
    (D_let_sum_win : DefAt K mg "let_sum_win" s_let_sum_win)
    (D_without_letters : DefAt K mg "without_letters" s_without_letters)
    (D_product_of : DefAt K mg "product_of" s_product_of)
    (D_worth_of_plan : DefAt K mg "worth_of_plan" s_worth_of_plan)
    (D_sure_at_first : DefAt K mg "sure_at_first" s_sure_at_first)
    (D_set_own : DefAt K mg "set_own" s_set_own)
    (D_chance_to_win : DefAt K mg "chance_to_win" s_chance_to_win)
    (D_products_of_some : DefAt K mg "products_of_some" s_products_of_some)
    (D_try_plan : DefAt K mg "try_plan" s_try_plan)
    (D_best_plan : DefAt K mg "best_plan" s_best_plan)
    (D_plans_that_win : DefAt K mg "plans_that_win" s_plans_that_win)
    (D_let_first_be_sure : DefAt K mg "let_first_be_sure" s_let_first_be_sure)
    (D_let_be_sure : DefAt K mg "let_be_sure" s_let_be_sure)
    (D_refresh : DefAt K mg "refresh" s_refresh)
    (D_signs_that_are_sure : DefAt K mg "signs_that_are_sure" s_signs_that_are_sure)
    (D_sums_at : DefAt K mg "sums_at" s_sums_at)
    (D_set_spins : DefAt K mg "set_spins" s_set_spins)
    (D_link_spins : DefAt K mg "link_spins" s_link_spins)
    (D_answer_of_plans : DefAt K mg "answer_of_plans" s_answer_of_plans)
    (D_ask_sure : DefAt K mg "ask_sure" s_ask_sure)
    (D_measure : DefAt K mg "measure" s_measure)
    (D_chance_of_answers : DefAt K mg "chance_of_answers" s_chance_of_answers)
    (D_parity_of_some : DefAt K mg "parity_of_some" s_parity_of_some)
    (D_what_spins_win : DefAt K mg "what_spins_win" s_what_spins_win)
    (D_place_spins : DefAt K mg "place_spins" s_place_spins)
    (D_begin : DefAt K mg "begin" s_begin)
    (D_answer_of_spins : DefAt K mg "answer_of_spins" s_answer_of_spins)
    (D_answer_of_persons : DefAt K mg "answer_of_persons" s_answer_of_persons)
    (D_answer_call : DefAt K mg "answer_call" s_answer_call)
    (D_answers : Fun K "answers" "answers" s_answers fA fdA)
    : FnOk P w K mg base CX0 9 fA fdA ["calls"] (spAns K) := by
  have c_is_asked' := c_is_asked (P := P) (w := w) (base := base) D_is_asked T 
  have c_place_of_row' := c_place_of_row (P := P) (w := w) (base := base) D_place_of_row T 
  have c_row_at' := c_row_at (P := P) (w := w) (base := base) D_row_at T 
  have c_count_ones' := c_count_ones (P := P) (w := w) (base := base) D_count_ones T 
  have c_Measurement' := c_Measurement (P := P) (w := w) (base := base) D_Measurement T 
  have c_are_letters' := c_are_letters (P := P) (w := w) (base := base) D_are_letters T 
  have c_go_together' := c_go_together (P := P) (w := w) (base := base) D_go_together T 
  have c_is_plan' := c_is_plan (P := P) (w := w) (base := base) D_is_plan T 
  have c_count_plans' := c_count_plans (P := P) (w := w) (base := base) D_count_plans T 
  have c_plan_at' := c_plan_at (P := P) (w := w) (base := base) D_plan_at T 
  have c_answered_by_one_more' := c_one_more (P := P) (w := w) (base := base) D_answered_by_one_more T 
  have c_number_of_bits' := c_number_of_bits (P := P) (w := w) (base := base) D_number_of_bits T 
  have c_sum_that_is_sure' := c_sum_that_is_sure (P := P) (w := w) (base := base) D_sum_that_is_sure T 
  have c_are_owners' := c_are_owners (P := P) (w := w) (base := base) D_are_owners T 
  have c_Game' := c_Game (P := P) (w := w) (base := base) D_Game T 
  have c_show_state' := c_show_state (P := P) (w := w) (base := base) D_show_state T 
  have c_may_begin' := c_may_begin (P := P) (w := w) (base := base) D_may_begin T 
  have c_count_rows' := c_count_rows (P := P) (w := w) (base := base) D_count_rows T 
  have c_end_of_call' := c_end_of_call (P := P) (w := w) (base := base) D_end_of_call T 
  have c_let_win' := c_let_win (P := P) (w := w) (base := base) D_let_win T c_place_of_row' c_is_asked'
  have c_let_count' := c_let_count (P := P) (w := w) (base := base) D_let_count T c_place_of_row' c_is_asked'
  have c_show_row' := c_show_row (P := P) (w := w) (base := base) D_show_row T c_is_asked' c_place_of_row'
  have c_rows_with_parity' := c_rows_with_parity (P := P) (w := w) (base := base) D_rows_with_parity T c_count_ones'
  have c_answered_by_plan' := c_answered_by_plan (P := P) (w := w) (base := base) D_answered_by_plan T c_answered_by_one_more'
  have c_are_own_letters' := c_are_own_letters (P := P) (w := w) (base := base) D_are_own_letters T c_are_letters'
  have c_are_row_and_bits' := c_are_row_and_bits (P := P) (w := w) (base := base) D_are_row_and_bits T c_is_asked'
  have c_chance_of_number' := c_chance_of_number (P := P) (w := w) (base := base) D_chance_of_number T c_count_ones'
  have c_let_sum_win' := c_let_sum_win (P := P) (w := w) (base := base) D_let_sum_win T c_rows_with_parity' c_place_of_row' c_is_asked'
  have c_without_letters' := c_without_letters (P := P) (w := w) (base := base) D_without_letters T c_Measurement'
  have c_product_of' := c_product_of (P := P) (w := w) (base := base) D_product_of T c_Measurement'
  have c_worth_of_plan' := c_worth_of_plan (P := P) (w := w) (base := base) D_worth_of_plan T c_answered_by_plan'
  have c_sure_at_first' := c_sure_at_first (P := P) (w := w) (base := base) D_sure_at_first T c_Measurement'
  have c_set_own' := c_set_own (P := P) (w := w) (base := base) D_set_own T c_Measurement' c_are_own_letters'
  have c_chance_to_win' := c_chance_to_win (P := P) (w := w) (base := base) D_chance_to_win T c_chance_of_number'
  have c_products_of_some' := c_products_of_some (P := P) (w := w) (base := base) D_products_of_some T c_without_letters' c_product_of'
  have c_try_plan' := c_try_plan (P := P) (w := w) (base := base) D_try_plan T c_is_plan' c_worth_of_plan'
  have c_best_plan' := c_best_plan (P := P) (w := w) (base := base) D_best_plan T c_plan_at' c_worth_of_plan' c_count_plans'
  have c_plans_that_win' := c_plans_that_win (P := P) (w := w) (base := base) D_plans_that_win T c_plan_at' c_worth_of_plan' c_count_plans'
  have c_let_first_be_sure' := c_let_first (P := P) (w := w) (base := base) D_let_first_be_sure T c_sure_at_first'
  have c_let_be_sure' := c_let_be_sure (P := P) (w := w) (base := base) D_let_be_sure T c_go_together' c_product_of'
  have c_refresh' := c_refresh (P := P) (w := w) (base := base) D_refresh T c_let_first_be_sure'
  have c_signs_that_are_sure' := c_signs (P := P) (w := w) (base := base) D_signs_that_are_sure T c_products_of_some'
  have c_sums_at' := c_sums_at (P := P) (w := w) (base := base) D_sums_at T c_sum_that_is_sure' c_products_of_some'
  have c_set_spins' := c_set_spins (P := P) (w := w) (base := base) D_set_spins T c_let_first_be_sure' c_without_letters'
  have c_link_spins' := c_link_spins (P := P) (w := w) (base := base) D_link_spins T c_let_first_be_sure'
  have c_answer_of_plans' := c_of_plans (P := P) (w := w) (base := base) D_answer_of_plans T c_plans_that_win' c_let_win' c_let_sum_win' c_let_count' c_try_plan' c_best_plan'
  have c_ask_sure' := c_ask_sure (P := P) (w := w) (base := base) D_ask_sure T c_signs_that_are_sure' c_are_letters'
  have c_measure' := c_measure (P := P) (w := w) (base := base) D_measure T c_signs_that_are_sure' c_let_be_sure' c_are_letters' c_Measurement'
  have c_chance_of_answers' := c_chance_of_answers (P := P) (w := w) (base := base) D_chance_of_answers T c_number_of_bits' c_sums_at' c_are_row_and_bits' c_signs_that_are_sure' c_chance_of_number' c_place_of_row'
  have c_parity_of_some' := c_parity_of_some (P := P) (w := w) (base := base) D_parity_of_some T c_number_of_bits' c_sums_at' c_are_row_and_bits' c_signs_that_are_sure'
  have c_what_spins_win' := c_what_spins_win (P := P) (w := w) (base := base) D_what_spins_win T c_signs_that_are_sure' c_sums_at' c_row_at' c_chance_to_win' c_best_plan'
  have c_place_spins' := c_place_spins (P := P) (w := w) (base := base) D_place_spins T c_set_spins' c_are_owners'
  have c_begin' := c_begin (P := P) (w := w) (base := base) D_begin T c_count_rows' c_set_spins' c_may_begin'
  have c_answer_of_spins' := c_of_spins (P := P) (w := w) (base := base) D_answer_of_spins T c_measure' c_place_spins' c_link_spins' c_refresh' c_ask_sure'
  have c_answer_of_persons' := c_of_persons (P := P) (w := w) (base := base) D_answer_of_persons T c_show_state' c_set_own' c_chance_of_answers' c_parity_of_some' c_what_spins_win' c_show_row'
  have c_answer_call' := c_answer_call (P := P) (w := w) (base := base) D_answer_call T c_answer_of_persons' c_begin' c_answer_of_plans' c_answer_of_spins'
  exact ok_answers D_answers T c_Game' c_end_of_call' c_answer_call'
theorem all_mk {fa : Addr} (X : K.In h) (G : h.Ns mainGlobals mg) (hfa : mg "answers" = some (.ref fa))
    {f_Game : Addr} {od_Game an_Game : Option Addr} {sl_Game : Array (Option Value)} {oc_Game kV_Game dc_Game pm_Game cd_Game ct_Game : Value}
    {f_Measurement : Addr} {od_Measurement an_Measurement : Option Addr} {sl_Measurement : Array (Option Value)} {oc_Measurement kV_Measurement dc_Measurement pm_Measurement cd_Measurement ct_Measurement : Value}
    {f_is_asked : Addr} {od_is_asked an_is_asked : Option Addr} {sl_is_asked : Array (Option Value)} {oc_is_asked kV_is_asked dc_is_asked pm_is_asked cd_is_asked ct_is_asked : Value}
    {f_place_of_row : Addr} {od_place_of_row an_place_of_row : Option Addr} {sl_place_of_row : Array (Option Value)} {oc_place_of_row kV_place_of_row dc_place_of_row pm_place_of_row cd_place_of_row ct_place_of_row : Value}
    {f_row_at : Addr} {od_row_at an_row_at : Option Addr} {sl_row_at : Array (Option Value)} {oc_row_at kV_row_at dc_row_at pm_row_at cd_row_at ct_row_at : Value}
    {f_count_ones : Addr} {od_count_ones an_count_ones : Option Addr} {sl_count_ones : Array (Option Value)} {oc_count_ones kV_count_ones dc_count_ones pm_count_ones cd_count_ones ct_count_ones : Value}
    {f_are_letters : Addr} {od_are_letters an_are_letters : Option Addr} {sl_are_letters : Array (Option Value)} {oc_are_letters kV_are_letters dc_are_letters pm_are_letters cd_are_letters ct_are_letters : Value}
    {f_go_together : Addr} {od_go_together an_go_together : Option Addr} {sl_go_together : Array (Option Value)} {oc_go_together kV_go_together dc_go_together pm_go_together cd_go_together ct_go_together : Value}
    {f_is_plan : Addr} {od_is_plan an_is_plan : Option Addr} {sl_is_plan : Array (Option Value)} {oc_is_plan kV_is_plan dc_is_plan pm_is_plan cd_is_plan ct_is_plan : Value}
    {f_count_plans : Addr} {od_count_plans an_count_plans : Option Addr} {sl_count_plans : Array (Option Value)} {oc_count_plans kV_count_plans dc_count_plans pm_count_plans cd_count_plans ct_count_plans : Value}
    {f_plan_at : Addr} {od_plan_at an_plan_at : Option Addr} {sl_plan_at : Array (Option Value)} {oc_plan_at kV_plan_at dc_plan_at pm_plan_at cd_plan_at ct_plan_at : Value}
    {f_answered_by_one_more : Addr} {od_answered_by_one_more an_answered_by_one_more : Option Addr} {sl_answered_by_one_more : Array (Option Value)} {oc_answered_by_one_more kV_answered_by_one_more dc_answered_by_one_more pm_answered_by_one_more cd_answered_by_one_more ct_answered_by_one_more : Value}
    {f_number_of_bits : Addr} {od_number_of_bits an_number_of_bits : Option Addr} {sl_number_of_bits : Array (Option Value)} {oc_number_of_bits kV_number_of_bits dc_number_of_bits pm_number_of_bits cd_number_of_bits ct_number_of_bits : Value}
    {f_sum_that_is_sure : Addr} {od_sum_that_is_sure an_sum_that_is_sure : Option Addr} {sl_sum_that_is_sure : Array (Option Value)} {oc_sum_that_is_sure kV_sum_that_is_sure dc_sum_that_is_sure pm_sum_that_is_sure cd_sum_that_is_sure ct_sum_that_is_sure : Value}
    {f_are_owners : Addr} {od_are_owners an_are_owners : Option Addr} {sl_are_owners : Array (Option Value)} {oc_are_owners kV_are_owners dc_are_owners pm_are_owners cd_are_owners ct_are_owners : Value}
    {f_show_state : Addr} {od_show_state an_show_state : Option Addr} {sl_show_state : Array (Option Value)} {oc_show_state kV_show_state dc_show_state pm_show_state cd_show_state ct_show_state : Value}
    {f_may_begin : Addr} {od_may_begin an_may_begin : Option Addr} {sl_may_begin : Array (Option Value)} {oc_may_begin kV_may_begin dc_may_begin pm_may_begin cd_may_begin ct_may_begin : Value}
    {f_count_rows : Addr} {od_count_rows an_count_rows : Option Addr} {sl_count_rows : Array (Option Value)} {oc_count_rows kV_count_rows dc_count_rows pm_count_rows cd_count_rows ct_count_rows : Value}
    {f_end_of_call : Addr} {od_end_of_call an_end_of_call : Option Addr} {sl_end_of_call : Array (Option Value)} {oc_end_of_call kV_end_of_call dc_end_of_call pm_end_of_call cd_end_of_call ct_end_of_call : Value}
    {f_let_win : Addr} {od_let_win an_let_win : Option Addr} {sl_let_win : Array (Option Value)} {oc_let_win kV_let_win dc_let_win pm_let_win cd_let_win ct_let_win : Value}
    {f_let_count : Addr} {od_let_count an_let_count : Option Addr} {sl_let_count : Array (Option Value)} {oc_let_count kV_let_count dc_let_count pm_let_count cd_let_count ct_let_count : Value}
    {f_show_row : Addr} {od_show_row an_show_row : Option Addr} {sl_show_row : Array (Option Value)} {oc_show_row kV_show_row dc_show_row pm_show_row cd_show_row ct_show_row : Value}
    {f_rows_with_parity : Addr} {od_rows_with_parity an_rows_with_parity : Option Addr} {sl_rows_with_parity : Array (Option Value)} {oc_rows_with_parity kV_rows_with_parity dc_rows_with_parity pm_rows_with_parity cd_rows_with_parity ct_rows_with_parity : Value}
    {f_answered_by_plan : Addr} {od_answered_by_plan an_answered_by_plan : Option Addr} {sl_answered_by_plan : Array (Option Value)} {oc_answered_by_plan kV_answered_by_plan dc_answered_by_plan pm_answered_by_plan cd_answered_by_plan ct_answered_by_plan : Value}
    {f_are_own_letters : Addr} {od_are_own_letters an_are_own_letters : Option Addr} {sl_are_own_letters : Array (Option Value)} {oc_are_own_letters kV_are_own_letters dc_are_own_letters pm_are_own_letters cd_are_own_letters ct_are_own_letters : Value}
    {f_are_row_and_bits : Addr} {od_are_row_and_bits an_are_row_and_bits : Option Addr} {sl_are_row_and_bits : Array (Option Value)} {oc_are_row_and_bits kV_are_row_and_bits dc_are_row_and_bits pm_are_row_and_bits cd_are_row_and_bits ct_are_row_and_bits : Value}
    {f_chance_of_number : Addr} {od_chance_of_number an_chance_of_number : Option Addr} {sl_chance_of_number : Array (Option Value)} {oc_chance_of_number kV_chance_of_number dc_chance_of_number pm_chance_of_number cd_chance_of_number ct_chance_of_number : Value}
    {f_let_sum_win : Addr} {od_let_sum_win an_let_sum_win : Option Addr} {sl_let_sum_win : Array (Option Value)} {oc_let_sum_win kV_let_sum_win dc_let_sum_win pm_let_sum_win cd_let_sum_win ct_let_sum_win : Value}
    {f_without_letters : Addr} {od_without_letters an_without_letters : Option Addr} {sl_without_letters : Array (Option Value)} {oc_without_letters kV_without_letters dc_without_letters pm_without_letters cd_without_letters ct_without_letters : Value}
    {f_product_of : Addr} {od_product_of an_product_of : Option Addr} {sl_product_of : Array (Option Value)} {oc_product_of kV_product_of dc_product_of pm_product_of cd_product_of ct_product_of : Value}
    {f_worth_of_plan : Addr} {od_worth_of_plan an_worth_of_plan : Option Addr} {sl_worth_of_plan : Array (Option Value)} {oc_worth_of_plan kV_worth_of_plan dc_worth_of_plan pm_worth_of_plan cd_worth_of_plan ct_worth_of_plan : Value}
    {f_sure_at_first : Addr} {od_sure_at_first an_sure_at_first : Option Addr} {sl_sure_at_first : Array (Option Value)} {oc_sure_at_first kV_sure_at_first dc_sure_at_first pm_sure_at_first cd_sure_at_first ct_sure_at_first : Value}
    {f_set_own : Addr} {od_set_own an_set_own : Option Addr} {sl_set_own : Array (Option Value)} {oc_set_own kV_set_own dc_set_own pm_set_own cd_set_own ct_set_own : Value}
    {f_chance_to_win : Addr} {od_chance_to_win an_chance_to_win : Option Addr} {sl_chance_to_win : Array (Option Value)} {oc_chance_to_win kV_chance_to_win dc_chance_to_win pm_chance_to_win cd_chance_to_win ct_chance_to_win : Value}
    {f_products_of_some : Addr} {od_products_of_some an_products_of_some : Option Addr} {sl_products_of_some : Array (Option Value)} {oc_products_of_some kV_products_of_some dc_products_of_some pm_products_of_some cd_products_of_some ct_products_of_some : Value}
    {f_try_plan : Addr} {od_try_plan an_try_plan : Option Addr} {sl_try_plan : Array (Option Value)} {oc_try_plan kV_try_plan dc_try_plan pm_try_plan cd_try_plan ct_try_plan : Value}
    {f_best_plan : Addr} {od_best_plan an_best_plan : Option Addr} {sl_best_plan : Array (Option Value)} {oc_best_plan kV_best_plan dc_best_plan pm_best_plan cd_best_plan ct_best_plan : Value}
    {f_plans_that_win : Addr} {od_plans_that_win an_plans_that_win : Option Addr} {sl_plans_that_win : Array (Option Value)} {oc_plans_that_win kV_plans_that_win dc_plans_that_win pm_plans_that_win cd_plans_that_win ct_plans_that_win : Value}
    {f_let_first_be_sure : Addr} {od_let_first_be_sure an_let_first_be_sure : Option Addr} {sl_let_first_be_sure : Array (Option Value)} {oc_let_first_be_sure kV_let_first_be_sure dc_let_first_be_sure pm_let_first_be_sure cd_let_first_be_sure ct_let_first_be_sure : Value}
    {f_let_be_sure : Addr} {od_let_be_sure an_let_be_sure : Option Addr} {sl_let_be_sure : Array (Option Value)} {oc_let_be_sure kV_let_be_sure dc_let_be_sure pm_let_be_sure cd_let_be_sure ct_let_be_sure : Value}
    {f_refresh : Addr} {od_refresh an_refresh : Option Addr} {sl_refresh : Array (Option Value)} {oc_refresh kV_refresh dc_refresh pm_refresh cd_refresh ct_refresh : Value}
    {f_signs_that_are_sure : Addr} {od_signs_that_are_sure an_signs_that_are_sure : Option Addr} {sl_signs_that_are_sure : Array (Option Value)} {oc_signs_that_are_sure kV_signs_that_are_sure dc_signs_that_are_sure pm_signs_that_are_sure cd_signs_that_are_sure ct_signs_that_are_sure : Value}
    {f_sums_at : Addr} {od_sums_at an_sums_at : Option Addr} {sl_sums_at : Array (Option Value)} {oc_sums_at kV_sums_at dc_sums_at pm_sums_at cd_sums_at ct_sums_at : Value}
    {f_set_spins : Addr} {od_set_spins an_set_spins : Option Addr} {sl_set_spins : Array (Option Value)} {oc_set_spins kV_set_spins dc_set_spins pm_set_spins cd_set_spins ct_set_spins : Value}
    {f_link_spins : Addr} {od_link_spins an_link_spins : Option Addr} {sl_link_spins : Array (Option Value)} {oc_link_spins kV_link_spins dc_link_spins pm_link_spins cd_link_spins ct_link_spins : Value}
    {f_answer_of_plans : Addr} {od_answer_of_plans an_answer_of_plans : Option Addr} {sl_answer_of_plans : Array (Option Value)} {oc_answer_of_plans kV_answer_of_plans dc_answer_of_plans pm_answer_of_plans cd_answer_of_plans ct_answer_of_plans : Value}
    {f_ask_sure : Addr} {od_ask_sure an_ask_sure : Option Addr} {sl_ask_sure : Array (Option Value)} {oc_ask_sure kV_ask_sure dc_ask_sure pm_ask_sure cd_ask_sure ct_ask_sure : Value}
    {f_measure : Addr} {od_measure an_measure : Option Addr} {sl_measure : Array (Option Value)} {oc_measure kV_measure dc_measure pm_measure cd_measure ct_measure : Value}
    {f_chance_of_answers : Addr} {od_chance_of_answers an_chance_of_answers : Option Addr} {sl_chance_of_answers : Array (Option Value)} {oc_chance_of_answers kV_chance_of_answers dc_chance_of_answers pm_chance_of_answers cd_chance_of_answers ct_chance_of_answers : Value}
    {f_parity_of_some : Addr} {od_parity_of_some an_parity_of_some : Option Addr} {sl_parity_of_some : Array (Option Value)} {oc_parity_of_some kV_parity_of_some dc_parity_of_some pm_parity_of_some cd_parity_of_some ct_parity_of_some : Value}
    {f_what_spins_win : Addr} {od_what_spins_win an_what_spins_win : Option Addr} {sl_what_spins_win : Array (Option Value)} {oc_what_spins_win kV_what_spins_win dc_what_spins_win pm_what_spins_win cd_what_spins_win ct_what_spins_win : Value}
    {f_place_spins : Addr} {od_place_spins an_place_spins : Option Addr} {sl_place_spins : Array (Option Value)} {oc_place_spins kV_place_spins dc_place_spins pm_place_spins cd_place_spins ct_place_spins : Value}
    {f_begin : Addr} {od_begin an_begin : Option Addr} {sl_begin : Array (Option Value)} {oc_begin kV_begin dc_begin pm_begin cd_begin ct_begin : Value}
    {f_answer_of_spins : Addr} {od_answer_of_spins an_answer_of_spins : Option Addr} {sl_answer_of_spins : Array (Option Value)} {oc_answer_of_spins kV_answer_of_spins dc_answer_of_spins pm_answer_of_spins cd_answer_of_spins ct_answer_of_spins : Value}
    {f_answer_of_persons : Addr} {od_answer_of_persons an_answer_of_persons : Option Addr} {sl_answer_of_persons : Array (Option Value)} {oc_answer_of_persons kV_answer_of_persons dc_answer_of_persons pm_answer_of_persons cd_answer_of_persons ct_answer_of_persons : Value}
    {f_answer_call : Addr} {od_answer_call an_answer_call : Option Addr} {sl_answer_call : Array (Option Value)} {oc_answer_call kV_answer_call dc_answer_call pm_answer_call cd_answer_call ct_answer_call : Value}
    {f_answers : Addr} {od_answers an_answers : Option Addr} {sl_answers : Array (Option Value)} {oc_answers kV_answers dc_answers pm_answers cd_answers ct_answers : Value}
    {t_NONE_SUCH : Tok}
    {t_NOT_BEGUN : Tok}
    {t_SOMETHING_MEASURED : Tok}
    {t_NOT_AS_TOLD : Tok}
    {t_NOT_SURE_SO : Tok}
    {t_MOST_WEIGHT : Tok}
    {t_NO_LETTER : Tok}
    {t_X : Tok}
    {t_Z : Tok}
    {t_HAD_EVEN_CHANCE : Tok}
    {t_WAS_SURE : Tok}
    {t_NOTHING_SURE : Tok}
    {t_SURELY_EVEN : Tok}
    {t_MOST_SPINS : Tok}
    {t_BEGIN : Tok}
    {t_WINS : Tok}
    {t_ODD : Tok}
    {t_COUNTS : Tok}
    {t_PLAN : Tok}
    {t_BEST : Tok}
    {t_PLANS : Tok}
    {t_SPINS : Tok}
    {t_LINK : Tok}
    {t_FRESH : Tok}
    {t_SURE : Tok}
    {t_MEASURE : Tok}
    {t_MINE : Tok}
    {t_CHANCE : Tok}
    {t_PARITY : Tok}
    {t_VALUE : Tok}
    {t_ROW : Tok}
    {oT o0 o1 o2 o3 oN oW : Obj} {r0 r1 r2 r3 : Addr} {i0 i1 i2 i3 iN iW : Array Value} {nT n0 n1 n2 n3 nN nW : Nat}
    (g_Game : PySem.W.nsIn K mainGlobals "Game" = some (some (.ref C)))
    (mk_Game : PySem.W.makesIn K C = true)
    (kc_Game : PySem.W.keepIn K (.ref C) = true)
    (pg_Game : PySem.W.plainGet K C Str.empty = true)
    (hd_Game : PySem.W.hasDictIn K C = true)
    (po_Game : PySem.W.plainOver K C = true)
    (sa_Game : PySem.W.findIn K (.ref C) "__setattr__" = some (some (.builtin "object.__setattr__")))
    (a_Game : PySem.W.findIn K (.ref C) "__init__" = some (some (.ref f_Game)))
    (i_Game : PySem.W.isFn K (.ref f_Game) = true)
    (l_Game : K.lookup f_Game = some ⟨oc_Game, od_Game, .func (PySem.W.fnOf "__init__" "Game.__init__" (defArgs s_Game_init) (defBody s_Game_init) (defScope s_Game_init) .none kV_Game dc_Game pm_Game an_Game cd_Game ct_Game), sl_Game⟩)
    (d_Game : PySem.W.codeIn K cd_Game "Game.__init__" = true)
    (k_Game : PySem.W.keepIn K (.ref f_Game) = true)
    (n_Game_begun : PySem.W.findIn K (.ref C) "begun" = some none)
    (n_Game_persons : PySem.W.findIn K (.ref C) "persons" = some none)
    (n_Game_questions : PySem.W.findIn K (.ref C) "questions" = some none)
    (n_Game_weights : PySem.W.findIn K (.ref C) "weights" = some none)
    (n_Game_winning : PySem.W.findIn K (.ref C) "winning" = some none)
    (n_Game_owners : PySem.W.findIn K (.ref C) "owners" = some none)
    (n_Game_links : PySem.W.findIn K (.ref C) "links" = some none)
    (n_Game_sure : PySem.W.findIn K (.ref C) "sure" = some none)
    (n_Game_measured : PySem.W.findIn K (.ref C) "measured" = some none)
    (n_Game_own : PySem.W.findIn K (.ref C) "own" = some none)
    (g_Measurement : PySem.W.nsIn K mainGlobals "Measurement" = some (some (.ref CM)))
    (mk_Measurement : PySem.W.makesIn K CM = true)
    (kc_Measurement : PySem.W.keepIn K (.ref CM) = true)
    (pg_Measurement : PySem.W.plainGet K CM Str.empty = true)
    (hd_Measurement : PySem.W.hasDictIn K CM = true)
    (po_Measurement : PySem.W.plainOver K CM = true)
    (sa_Measurement : PySem.W.findIn K (.ref CM) "__setattr__" = some (some (.builtin "object.__setattr__")))
    (a_Measurement : PySem.W.findIn K (.ref CM) "__init__" = some (some (.ref f_Measurement)))
    (i_Measurement : PySem.W.isFn K (.ref f_Measurement) = true)
    (l_Measurement : K.lookup f_Measurement = some ⟨oc_Measurement, od_Measurement, .func (PySem.W.fnOf "__init__" "Measurement.__init__" (defArgs s_Measurement_init) (defBody s_Measurement_init) (defScope s_Measurement_init) .none kV_Measurement dc_Measurement pm_Measurement an_Measurement cd_Measurement ct_Measurement), sl_Measurement⟩)
    (d_Measurement : PySem.W.codeIn K cd_Measurement "Measurement.__init__" = true)
    (k_Measurement : PySem.W.keepIn K (.ref f_Measurement) = true)
    (n_Measurement_sign : PySem.W.findIn K (.ref CM) "sign" = some none)
    (n_Measurement_letters : PySem.W.findIn K (.ref CM) "letters" = some none)
    (a_is_asked : PySem.W.nsIn K mainGlobals "is_asked" = some (some (.ref f_is_asked)))
    (l_is_asked : K.lookup f_is_asked = some ⟨oc_is_asked, od_is_asked, .func (PySem.W.fnOf "is_asked" "is_asked" (defArgs s_is_asked) (defBody s_is_asked) (defScope s_is_asked) .none kV_is_asked dc_is_asked pm_is_asked an_is_asked cd_is_asked ct_is_asked), sl_is_asked⟩)
    (d_is_asked : PySem.W.codeIn K cd_is_asked "is_asked" = true)
    (k_is_asked : PySem.W.keepIn K (.ref f_is_asked) = true)
    (a_place_of_row : PySem.W.nsIn K mainGlobals "place_of_row" = some (some (.ref f_place_of_row)))
    (l_place_of_row : K.lookup f_place_of_row = some ⟨oc_place_of_row, od_place_of_row, .func (PySem.W.fnOf "place_of_row" "place_of_row" (defArgs s_place_of_row) (defBody s_place_of_row) (defScope s_place_of_row) .none kV_place_of_row dc_place_of_row pm_place_of_row an_place_of_row cd_place_of_row ct_place_of_row), sl_place_of_row⟩)
    (d_place_of_row : PySem.W.codeIn K cd_place_of_row "place_of_row" = true)
    (k_place_of_row : PySem.W.keepIn K (.ref f_place_of_row) = true)
    (a_row_at : PySem.W.nsIn K mainGlobals "row_at" = some (some (.ref f_row_at)))
    (l_row_at : K.lookup f_row_at = some ⟨oc_row_at, od_row_at, .func (PySem.W.fnOf "row_at" "row_at" (defArgs s_row_at) (defBody s_row_at) (defScope s_row_at) .none kV_row_at dc_row_at pm_row_at an_row_at cd_row_at ct_row_at), sl_row_at⟩)
    (d_row_at : PySem.W.codeIn K cd_row_at "row_at" = true)
    (k_row_at : PySem.W.keepIn K (.ref f_row_at) = true)
    (a_count_ones : PySem.W.nsIn K mainGlobals "count_ones" = some (some (.ref f_count_ones)))
    (l_count_ones : K.lookup f_count_ones = some ⟨oc_count_ones, od_count_ones, .func (PySem.W.fnOf "count_ones" "count_ones" (defArgs s_count_ones) (defBody s_count_ones) (defScope s_count_ones) .none kV_count_ones dc_count_ones pm_count_ones an_count_ones cd_count_ones ct_count_ones), sl_count_ones⟩)
    (d_count_ones : PySem.W.codeIn K cd_count_ones "count_ones" = true)
    (k_count_ones : PySem.W.keepIn K (.ref f_count_ones) = true)
    (a_are_letters : PySem.W.nsIn K mainGlobals "are_letters" = some (some (.ref f_are_letters)))
    (l_are_letters : K.lookup f_are_letters = some ⟨oc_are_letters, od_are_letters, .func (PySem.W.fnOf "are_letters" "are_letters" (defArgs s_are_letters) (defBody s_are_letters) (defScope s_are_letters) .none kV_are_letters dc_are_letters pm_are_letters an_are_letters cd_are_letters ct_are_letters), sl_are_letters⟩)
    (d_are_letters : PySem.W.codeIn K cd_are_letters "are_letters" = true)
    (k_are_letters : PySem.W.keepIn K (.ref f_are_letters) = true)
    (a_go_together : PySem.W.nsIn K mainGlobals "go_together" = some (some (.ref f_go_together)))
    (l_go_together : K.lookup f_go_together = some ⟨oc_go_together, od_go_together, .func (PySem.W.fnOf "go_together" "go_together" (defArgs s_go_together) (defBody s_go_together) (defScope s_go_together) .none kV_go_together dc_go_together pm_go_together an_go_together cd_go_together ct_go_together), sl_go_together⟩)
    (d_go_together : PySem.W.codeIn K cd_go_together "go_together" = true)
    (k_go_together : PySem.W.keepIn K (.ref f_go_together) = true)
    (a_is_plan : PySem.W.nsIn K mainGlobals "is_plan" = some (some (.ref f_is_plan)))
    (l_is_plan : K.lookup f_is_plan = some ⟨oc_is_plan, od_is_plan, .func (PySem.W.fnOf "is_plan" "is_plan" (defArgs s_is_plan) (defBody s_is_plan) (defScope s_is_plan) .none kV_is_plan dc_is_plan pm_is_plan an_is_plan cd_is_plan ct_is_plan), sl_is_plan⟩)
    (d_is_plan : PySem.W.codeIn K cd_is_plan "is_plan" = true)
    (k_is_plan : PySem.W.keepIn K (.ref f_is_plan) = true)
    (a_count_plans : PySem.W.nsIn K mainGlobals "count_plans" = some (some (.ref f_count_plans)))
    (l_count_plans : K.lookup f_count_plans = some ⟨oc_count_plans, od_count_plans, .func (PySem.W.fnOf "count_plans" "count_plans" (defArgs s_count_plans) (defBody s_count_plans) (defScope s_count_plans) .none kV_count_plans dc_count_plans pm_count_plans an_count_plans cd_count_plans ct_count_plans), sl_count_plans⟩)
    (d_count_plans : PySem.W.codeIn K cd_count_plans "count_plans" = true)
    (k_count_plans : PySem.W.keepIn K (.ref f_count_plans) = true)
    (a_plan_at : PySem.W.nsIn K mainGlobals "plan_at" = some (some (.ref f_plan_at)))
    (l_plan_at : K.lookup f_plan_at = some ⟨oc_plan_at, od_plan_at, .func (PySem.W.fnOf "plan_at" "plan_at" (defArgs s_plan_at) (defBody s_plan_at) (defScope s_plan_at) .none kV_plan_at dc_plan_at pm_plan_at an_plan_at cd_plan_at ct_plan_at), sl_plan_at⟩)
    (d_plan_at : PySem.W.codeIn K cd_plan_at "plan_at" = true)
    (k_plan_at : PySem.W.keepIn K (.ref f_plan_at) = true)
    (a_answered_by_one_more : PySem.W.nsIn K mainGlobals "answered_by_one_more" = some (some (.ref f_answered_by_one_more)))
    (l_answered_by_one_more : K.lookup f_answered_by_one_more = some ⟨oc_answered_by_one_more, od_answered_by_one_more, .func (PySem.W.fnOf "answered_by_one_more" "answered_by_one_more" (defArgs s_answered_by_one_more) (defBody s_answered_by_one_more) (defScope s_answered_by_one_more) .none kV_answered_by_one_more dc_answered_by_one_more pm_answered_by_one_more an_answered_by_one_more cd_answered_by_one_more ct_answered_by_one_more), sl_answered_by_one_more⟩)
    (d_answered_by_one_more : PySem.W.codeIn K cd_answered_by_one_more "answered_by_one_more" = true)
    (k_answered_by_one_more : PySem.W.keepIn K (.ref f_answered_by_one_more) = true)
    (a_number_of_bits : PySem.W.nsIn K mainGlobals "number_of_bits" = some (some (.ref f_number_of_bits)))
    (l_number_of_bits : K.lookup f_number_of_bits = some ⟨oc_number_of_bits, od_number_of_bits, .func (PySem.W.fnOf "number_of_bits" "number_of_bits" (defArgs s_number_of_bits) (defBody s_number_of_bits) (defScope s_number_of_bits) .none kV_number_of_bits dc_number_of_bits pm_number_of_bits an_number_of_bits cd_number_of_bits ct_number_of_bits), sl_number_of_bits⟩)
    (d_number_of_bits : PySem.W.codeIn K cd_number_of_bits "number_of_bits" = true)
    (k_number_of_bits : PySem.W.keepIn K (.ref f_number_of_bits) = true)
    (a_sum_that_is_sure : PySem.W.nsIn K mainGlobals "sum_that_is_sure" = some (some (.ref f_sum_that_is_sure)))
    (l_sum_that_is_sure : K.lookup f_sum_that_is_sure = some ⟨oc_sum_that_is_sure, od_sum_that_is_sure, .func (PySem.W.fnOf "sum_that_is_sure" "sum_that_is_sure" (defArgs s_sum_that_is_sure) (defBody s_sum_that_is_sure) (defScope s_sum_that_is_sure) .none kV_sum_that_is_sure dc_sum_that_is_sure pm_sum_that_is_sure an_sum_that_is_sure cd_sum_that_is_sure ct_sum_that_is_sure), sl_sum_that_is_sure⟩)
    (d_sum_that_is_sure : PySem.W.codeIn K cd_sum_that_is_sure "sum_that_is_sure" = true)
    (k_sum_that_is_sure : PySem.W.keepIn K (.ref f_sum_that_is_sure) = true)
    (a_are_owners : PySem.W.nsIn K mainGlobals "are_owners" = some (some (.ref f_are_owners)))
    (l_are_owners : K.lookup f_are_owners = some ⟨oc_are_owners, od_are_owners, .func (PySem.W.fnOf "are_owners" "are_owners" (defArgs s_are_owners) (defBody s_are_owners) (defScope s_are_owners) .none kV_are_owners dc_are_owners pm_are_owners an_are_owners cd_are_owners ct_are_owners), sl_are_owners⟩)
    (d_are_owners : PySem.W.codeIn K cd_are_owners "are_owners" = true)
    (k_are_owners : PySem.W.keepIn K (.ref f_are_owners) = true)
    (a_show_state : PySem.W.nsIn K mainGlobals "show_state" = some (some (.ref f_show_state)))
    (l_show_state : K.lookup f_show_state = some ⟨oc_show_state, od_show_state, .func (PySem.W.fnOf "show_state" "show_state" (defArgs s_show_state) (defBody s_show_state) (defScope s_show_state) .none kV_show_state dc_show_state pm_show_state an_show_state cd_show_state ct_show_state), sl_show_state⟩)
    (d_show_state : PySem.W.codeIn K cd_show_state "show_state" = true)
    (k_show_state : PySem.W.keepIn K (.ref f_show_state) = true)
    (a_may_begin : PySem.W.nsIn K mainGlobals "may_begin" = some (some (.ref f_may_begin)))
    (l_may_begin : K.lookup f_may_begin = some ⟨oc_may_begin, od_may_begin, .func (PySem.W.fnOf "may_begin" "may_begin" (defArgs s_may_begin) (defBody s_may_begin) (defScope s_may_begin) .none kV_may_begin dc_may_begin pm_may_begin an_may_begin cd_may_begin ct_may_begin), sl_may_begin⟩)
    (d_may_begin : PySem.W.codeIn K cd_may_begin "may_begin" = true)
    (k_may_begin : PySem.W.keepIn K (.ref f_may_begin) = true)
    (a_count_rows : PySem.W.nsIn K mainGlobals "count_rows" = some (some (.ref f_count_rows)))
    (l_count_rows : K.lookup f_count_rows = some ⟨oc_count_rows, od_count_rows, .func (PySem.W.fnOf "count_rows" "count_rows" (defArgs s_count_rows) (defBody s_count_rows) (defScope s_count_rows) .none kV_count_rows dc_count_rows pm_count_rows an_count_rows cd_count_rows ct_count_rows), sl_count_rows⟩)
    (d_count_rows : PySem.W.codeIn K cd_count_rows "count_rows" = true)
    (k_count_rows : PySem.W.keepIn K (.ref f_count_rows) = true)
    (a_end_of_call : PySem.W.nsIn K mainGlobals "end_of_call" = some (some (.ref f_end_of_call)))
    (l_end_of_call : K.lookup f_end_of_call = some ⟨oc_end_of_call, od_end_of_call, .func (PySem.W.fnOf "end_of_call" "end_of_call" (defArgs s_end_of_call) (defBody s_end_of_call) (defScope s_end_of_call) .none kV_end_of_call dc_end_of_call pm_end_of_call an_end_of_call cd_end_of_call ct_end_of_call), sl_end_of_call⟩)
    (d_end_of_call : PySem.W.codeIn K cd_end_of_call "end_of_call" = true)
    (k_end_of_call : PySem.W.keepIn K (.ref f_end_of_call) = true)
    (a_let_win : PySem.W.nsIn K mainGlobals "let_win" = some (some (.ref f_let_win)))
    (l_let_win : K.lookup f_let_win = some ⟨oc_let_win, od_let_win, .func (PySem.W.fnOf "let_win" "let_win" (defArgs s_let_win) (defBody s_let_win) (defScope s_let_win) .none kV_let_win dc_let_win pm_let_win an_let_win cd_let_win ct_let_win), sl_let_win⟩)
    (d_let_win : PySem.W.codeIn K cd_let_win "let_win" = true)
    (k_let_win : PySem.W.keepIn K (.ref f_let_win) = true)
    (a_let_count : PySem.W.nsIn K mainGlobals "let_count" = some (some (.ref f_let_count)))
    (l_let_count : K.lookup f_let_count = some ⟨oc_let_count, od_let_count, .func (PySem.W.fnOf "let_count" "let_count" (defArgs s_let_count) (defBody s_let_count) (defScope s_let_count) .none kV_let_count dc_let_count pm_let_count an_let_count cd_let_count ct_let_count), sl_let_count⟩)
    (d_let_count : PySem.W.codeIn K cd_let_count "let_count" = true)
    (k_let_count : PySem.W.keepIn K (.ref f_let_count) = true)
    (a_show_row : PySem.W.nsIn K mainGlobals "show_row" = some (some (.ref f_show_row)))
    (l_show_row : K.lookup f_show_row = some ⟨oc_show_row, od_show_row, .func (PySem.W.fnOf "show_row" "show_row" (defArgs s_show_row) (defBody s_show_row) (defScope s_show_row) .none kV_show_row dc_show_row pm_show_row an_show_row cd_show_row ct_show_row), sl_show_row⟩)
    (d_show_row : PySem.W.codeIn K cd_show_row "show_row" = true)
    (k_show_row : PySem.W.keepIn K (.ref f_show_row) = true)
    (a_rows_with_parity : PySem.W.nsIn K mainGlobals "rows_with_parity" = some (some (.ref f_rows_with_parity)))
    (l_rows_with_parity : K.lookup f_rows_with_parity = some ⟨oc_rows_with_parity, od_rows_with_parity, .func (PySem.W.fnOf "rows_with_parity" "rows_with_parity" (defArgs s_rows_with_parity) (defBody s_rows_with_parity) (defScope s_rows_with_parity) .none kV_rows_with_parity dc_rows_with_parity pm_rows_with_parity an_rows_with_parity cd_rows_with_parity ct_rows_with_parity), sl_rows_with_parity⟩)
    (d_rows_with_parity : PySem.W.codeIn K cd_rows_with_parity "rows_with_parity" = true)
    (k_rows_with_parity : PySem.W.keepIn K (.ref f_rows_with_parity) = true)
    (a_answered_by_plan : PySem.W.nsIn K mainGlobals "answered_by_plan" = some (some (.ref f_answered_by_plan)))
    (l_answered_by_plan : K.lookup f_answered_by_plan = some ⟨oc_answered_by_plan, od_answered_by_plan, .func (PySem.W.fnOf "answered_by_plan" "answered_by_plan" (defArgs s_answered_by_plan) (defBody s_answered_by_plan) (defScope s_answered_by_plan) .none kV_answered_by_plan dc_answered_by_plan pm_answered_by_plan an_answered_by_plan cd_answered_by_plan ct_answered_by_plan), sl_answered_by_plan⟩)
    (d_answered_by_plan : PySem.W.codeIn K cd_answered_by_plan "answered_by_plan" = true)
    (k_answered_by_plan : PySem.W.keepIn K (.ref f_answered_by_plan) = true)
    (a_are_own_letters : PySem.W.nsIn K mainGlobals "are_own_letters" = some (some (.ref f_are_own_letters)))
    (l_are_own_letters : K.lookup f_are_own_letters = some ⟨oc_are_own_letters, od_are_own_letters, .func (PySem.W.fnOf "are_own_letters" "are_own_letters" (defArgs s_are_own_letters) (defBody s_are_own_letters) (defScope s_are_own_letters) .none kV_are_own_letters dc_are_own_letters pm_are_own_letters an_are_own_letters cd_are_own_letters ct_are_own_letters), sl_are_own_letters⟩)
    (d_are_own_letters : PySem.W.codeIn K cd_are_own_letters "are_own_letters" = true)
    (k_are_own_letters : PySem.W.keepIn K (.ref f_are_own_letters) = true)
    (a_are_row_and_bits : PySem.W.nsIn K mainGlobals "are_row_and_bits" = some (some (.ref f_are_row_and_bits)))
    (l_are_row_and_bits : K.lookup f_are_row_and_bits = some ⟨oc_are_row_and_bits, od_are_row_and_bits, .func (PySem.W.fnOf "are_row_and_bits" "are_row_and_bits" (defArgs s_are_row_and_bits) (defBody s_are_row_and_bits) (defScope s_are_row_and_bits) .none kV_are_row_and_bits dc_are_row_and_bits pm_are_row_and_bits an_are_row_and_bits cd_are_row_and_bits ct_are_row_and_bits), sl_are_row_and_bits⟩)
    (d_are_row_and_bits : PySem.W.codeIn K cd_are_row_and_bits "are_row_and_bits" = true)
    (k_are_row_and_bits : PySem.W.keepIn K (.ref f_are_row_and_bits) = true)
    (a_chance_of_number : PySem.W.nsIn K mainGlobals "chance_of_number" = some (some (.ref f_chance_of_number)))
    (l_chance_of_number : K.lookup f_chance_of_number = some ⟨oc_chance_of_number, od_chance_of_number, .func (PySem.W.fnOf "chance_of_number" "chance_of_number" (defArgs s_chance_of_number) (defBody s_chance_of_number) (defScope s_chance_of_number) .none kV_chance_of_number dc_chance_of_number pm_chance_of_number an_chance_of_number cd_chance_of_number ct_chance_of_number), sl_chance_of_number⟩)
    (d_chance_of_number : PySem.W.codeIn K cd_chance_of_number "chance_of_number" = true)
    (k_chance_of_number : PySem.W.keepIn K (.ref f_chance_of_number) = true)
    (a_let_sum_win : PySem.W.nsIn K mainGlobals "let_sum_win" = some (some (.ref f_let_sum_win)))
    (l_let_sum_win : K.lookup f_let_sum_win = some ⟨oc_let_sum_win, od_let_sum_win, .func (PySem.W.fnOf "let_sum_win" "let_sum_win" (defArgs s_let_sum_win) (defBody s_let_sum_win) (defScope s_let_sum_win) .none kV_let_sum_win dc_let_sum_win pm_let_sum_win an_let_sum_win cd_let_sum_win ct_let_sum_win), sl_let_sum_win⟩)
    (d_let_sum_win : PySem.W.codeIn K cd_let_sum_win "let_sum_win" = true)
    (k_let_sum_win : PySem.W.keepIn K (.ref f_let_sum_win) = true)
    (a_without_letters : PySem.W.nsIn K mainGlobals "without_letters" = some (some (.ref f_without_letters)))
    (l_without_letters : K.lookup f_without_letters = some ⟨oc_without_letters, od_without_letters, .func (PySem.W.fnOf "without_letters" "without_letters" (defArgs s_without_letters) (defBody s_without_letters) (defScope s_without_letters) .none kV_without_letters dc_without_letters pm_without_letters an_without_letters cd_without_letters ct_without_letters), sl_without_letters⟩)
    (d_without_letters : PySem.W.codeIn K cd_without_letters "without_letters" = true)
    (k_without_letters : PySem.W.keepIn K (.ref f_without_letters) = true)
    (a_product_of : PySem.W.nsIn K mainGlobals "product_of" = some (some (.ref f_product_of)))
    (l_product_of : K.lookup f_product_of = some ⟨oc_product_of, od_product_of, .func (PySem.W.fnOf "product_of" "product_of" (defArgs s_product_of) (defBody s_product_of) (defScope s_product_of) .none kV_product_of dc_product_of pm_product_of an_product_of cd_product_of ct_product_of), sl_product_of⟩)
    (d_product_of : PySem.W.codeIn K cd_product_of "product_of" = true)
    (k_product_of : PySem.W.keepIn K (.ref f_product_of) = true)
    (a_worth_of_plan : PySem.W.nsIn K mainGlobals "worth_of_plan" = some (some (.ref f_worth_of_plan)))
    (l_worth_of_plan : K.lookup f_worth_of_plan = some ⟨oc_worth_of_plan, od_worth_of_plan, .func (PySem.W.fnOf "worth_of_plan" "worth_of_plan" (defArgs s_worth_of_plan) (defBody s_worth_of_plan) (defScope s_worth_of_plan) .none kV_worth_of_plan dc_worth_of_plan pm_worth_of_plan an_worth_of_plan cd_worth_of_plan ct_worth_of_plan), sl_worth_of_plan⟩)
    (d_worth_of_plan : PySem.W.codeIn K cd_worth_of_plan "worth_of_plan" = true)
    (k_worth_of_plan : PySem.W.keepIn K (.ref f_worth_of_plan) = true)
    (a_sure_at_first : PySem.W.nsIn K mainGlobals "sure_at_first" = some (some (.ref f_sure_at_first)))
    (l_sure_at_first : K.lookup f_sure_at_first = some ⟨oc_sure_at_first, od_sure_at_first, .func (PySem.W.fnOf "sure_at_first" "sure_at_first" (defArgs s_sure_at_first) (defBody s_sure_at_first) (defScope s_sure_at_first) .none kV_sure_at_first dc_sure_at_first pm_sure_at_first an_sure_at_first cd_sure_at_first ct_sure_at_first), sl_sure_at_first⟩)
    (d_sure_at_first : PySem.W.codeIn K cd_sure_at_first "sure_at_first" = true)
    (k_sure_at_first : PySem.W.keepIn K (.ref f_sure_at_first) = true)
    (a_set_own : PySem.W.nsIn K mainGlobals "set_own" = some (some (.ref f_set_own)))
    (l_set_own : K.lookup f_set_own = some ⟨oc_set_own, od_set_own, .func (PySem.W.fnOf "set_own" "set_own" (defArgs s_set_own) (defBody s_set_own) (defScope s_set_own) .none kV_set_own dc_set_own pm_set_own an_set_own cd_set_own ct_set_own), sl_set_own⟩)
    (d_set_own : PySem.W.codeIn K cd_set_own "set_own" = true)
    (k_set_own : PySem.W.keepIn K (.ref f_set_own) = true)
    (a_chance_to_win : PySem.W.nsIn K mainGlobals "chance_to_win" = some (some (.ref f_chance_to_win)))
    (l_chance_to_win : K.lookup f_chance_to_win = some ⟨oc_chance_to_win, od_chance_to_win, .func (PySem.W.fnOf "chance_to_win" "chance_to_win" (defArgs s_chance_to_win) (defBody s_chance_to_win) (defScope s_chance_to_win) .none kV_chance_to_win dc_chance_to_win pm_chance_to_win an_chance_to_win cd_chance_to_win ct_chance_to_win), sl_chance_to_win⟩)
    (d_chance_to_win : PySem.W.codeIn K cd_chance_to_win "chance_to_win" = true)
    (k_chance_to_win : PySem.W.keepIn K (.ref f_chance_to_win) = true)
    (a_products_of_some : PySem.W.nsIn K mainGlobals "products_of_some" = some (some (.ref f_products_of_some)))
    (l_products_of_some : K.lookup f_products_of_some = some ⟨oc_products_of_some, od_products_of_some, .func (PySem.W.fnOf "products_of_some" "products_of_some" (defArgs s_products_of_some) (defBody s_products_of_some) (defScope s_products_of_some) .none kV_products_of_some dc_products_of_some pm_products_of_some an_products_of_some cd_products_of_some ct_products_of_some), sl_products_of_some⟩)
    (d_products_of_some : PySem.W.codeIn K cd_products_of_some "products_of_some" = true)
    (k_products_of_some : PySem.W.keepIn K (.ref f_products_of_some) = true)
    (a_try_plan : PySem.W.nsIn K mainGlobals "try_plan" = some (some (.ref f_try_plan)))
    (l_try_plan : K.lookup f_try_plan = some ⟨oc_try_plan, od_try_plan, .func (PySem.W.fnOf "try_plan" "try_plan" (defArgs s_try_plan) (defBody s_try_plan) (defScope s_try_plan) .none kV_try_plan dc_try_plan pm_try_plan an_try_plan cd_try_plan ct_try_plan), sl_try_plan⟩)
    (d_try_plan : PySem.W.codeIn K cd_try_plan "try_plan" = true)
    (k_try_plan : PySem.W.keepIn K (.ref f_try_plan) = true)
    (a_best_plan : PySem.W.nsIn K mainGlobals "best_plan" = some (some (.ref f_best_plan)))
    (l_best_plan : K.lookup f_best_plan = some ⟨oc_best_plan, od_best_plan, .func (PySem.W.fnOf "best_plan" "best_plan" (defArgs s_best_plan) (defBody s_best_plan) (defScope s_best_plan) .none kV_best_plan dc_best_plan pm_best_plan an_best_plan cd_best_plan ct_best_plan), sl_best_plan⟩)
    (d_best_plan : PySem.W.codeIn K cd_best_plan "best_plan" = true)
    (k_best_plan : PySem.W.keepIn K (.ref f_best_plan) = true)
    (a_plans_that_win : PySem.W.nsIn K mainGlobals "plans_that_win" = some (some (.ref f_plans_that_win)))
    (l_plans_that_win : K.lookup f_plans_that_win = some ⟨oc_plans_that_win, od_plans_that_win, .func (PySem.W.fnOf "plans_that_win" "plans_that_win" (defArgs s_plans_that_win) (defBody s_plans_that_win) (defScope s_plans_that_win) .none kV_plans_that_win dc_plans_that_win pm_plans_that_win an_plans_that_win cd_plans_that_win ct_plans_that_win), sl_plans_that_win⟩)
    (d_plans_that_win : PySem.W.codeIn K cd_plans_that_win "plans_that_win" = true)
    (k_plans_that_win : PySem.W.keepIn K (.ref f_plans_that_win) = true)
    (a_let_first_be_sure : PySem.W.nsIn K mainGlobals "let_first_be_sure" = some (some (.ref f_let_first_be_sure)))
    (l_let_first_be_sure : K.lookup f_let_first_be_sure = some ⟨oc_let_first_be_sure, od_let_first_be_sure, .func (PySem.W.fnOf "let_first_be_sure" "let_first_be_sure" (defArgs s_let_first_be_sure) (defBody s_let_first_be_sure) (defScope s_let_first_be_sure) .none kV_let_first_be_sure dc_let_first_be_sure pm_let_first_be_sure an_let_first_be_sure cd_let_first_be_sure ct_let_first_be_sure), sl_let_first_be_sure⟩)
    (d_let_first_be_sure : PySem.W.codeIn K cd_let_first_be_sure "let_first_be_sure" = true)
    (k_let_first_be_sure : PySem.W.keepIn K (.ref f_let_first_be_sure) = true)
    (a_let_be_sure : PySem.W.nsIn K mainGlobals "let_be_sure" = some (some (.ref f_let_be_sure)))
    (l_let_be_sure : K.lookup f_let_be_sure = some ⟨oc_let_be_sure, od_let_be_sure, .func (PySem.W.fnOf "let_be_sure" "let_be_sure" (defArgs s_let_be_sure) (defBody s_let_be_sure) (defScope s_let_be_sure) .none kV_let_be_sure dc_let_be_sure pm_let_be_sure an_let_be_sure cd_let_be_sure ct_let_be_sure), sl_let_be_sure⟩)
    (d_let_be_sure : PySem.W.codeIn K cd_let_be_sure "let_be_sure" = true)
    (k_let_be_sure : PySem.W.keepIn K (.ref f_let_be_sure) = true)
    (a_refresh : PySem.W.nsIn K mainGlobals "refresh" = some (some (.ref f_refresh)))
    (l_refresh : K.lookup f_refresh = some ⟨oc_refresh, od_refresh, .func (PySem.W.fnOf "refresh" "refresh" (defArgs s_refresh) (defBody s_refresh) (defScope s_refresh) .none kV_refresh dc_refresh pm_refresh an_refresh cd_refresh ct_refresh), sl_refresh⟩)
    (d_refresh : PySem.W.codeIn K cd_refresh "refresh" = true)
    (k_refresh : PySem.W.keepIn K (.ref f_refresh) = true)
    (a_signs_that_are_sure : PySem.W.nsIn K mainGlobals "signs_that_are_sure" = some (some (.ref f_signs_that_are_sure)))
    (l_signs_that_are_sure : K.lookup f_signs_that_are_sure = some ⟨oc_signs_that_are_sure, od_signs_that_are_sure, .func (PySem.W.fnOf "signs_that_are_sure" "signs_that_are_sure" (defArgs s_signs_that_are_sure) (defBody s_signs_that_are_sure) (defScope s_signs_that_are_sure) .none kV_signs_that_are_sure dc_signs_that_are_sure pm_signs_that_are_sure an_signs_that_are_sure cd_signs_that_are_sure ct_signs_that_are_sure), sl_signs_that_are_sure⟩)
    (d_signs_that_are_sure : PySem.W.codeIn K cd_signs_that_are_sure "signs_that_are_sure" = true)
    (k_signs_that_are_sure : PySem.W.keepIn K (.ref f_signs_that_are_sure) = true)
    (a_sums_at : PySem.W.nsIn K mainGlobals "sums_at" = some (some (.ref f_sums_at)))
    (l_sums_at : K.lookup f_sums_at = some ⟨oc_sums_at, od_sums_at, .func (PySem.W.fnOf "sums_at" "sums_at" (defArgs s_sums_at) (defBody s_sums_at) (defScope s_sums_at) .none kV_sums_at dc_sums_at pm_sums_at an_sums_at cd_sums_at ct_sums_at), sl_sums_at⟩)
    (d_sums_at : PySem.W.codeIn K cd_sums_at "sums_at" = true)
    (k_sums_at : PySem.W.keepIn K (.ref f_sums_at) = true)
    (a_set_spins : PySem.W.nsIn K mainGlobals "set_spins" = some (some (.ref f_set_spins)))
    (l_set_spins : K.lookup f_set_spins = some ⟨oc_set_spins, od_set_spins, .func (PySem.W.fnOf "set_spins" "set_spins" (defArgs s_set_spins) (defBody s_set_spins) (defScope s_set_spins) .none kV_set_spins dc_set_spins pm_set_spins an_set_spins cd_set_spins ct_set_spins), sl_set_spins⟩)
    (d_set_spins : PySem.W.codeIn K cd_set_spins "set_spins" = true)
    (k_set_spins : PySem.W.keepIn K (.ref f_set_spins) = true)
    (a_link_spins : PySem.W.nsIn K mainGlobals "link_spins" = some (some (.ref f_link_spins)))
    (l_link_spins : K.lookup f_link_spins = some ⟨oc_link_spins, od_link_spins, .func (PySem.W.fnOf "link_spins" "link_spins" (defArgs s_link_spins) (defBody s_link_spins) (defScope s_link_spins) .none kV_link_spins dc_link_spins pm_link_spins an_link_spins cd_link_spins ct_link_spins), sl_link_spins⟩)
    (d_link_spins : PySem.W.codeIn K cd_link_spins "link_spins" = true)
    (k_link_spins : PySem.W.keepIn K (.ref f_link_spins) = true)
    (a_answer_of_plans : PySem.W.nsIn K mainGlobals "answer_of_plans" = some (some (.ref f_answer_of_plans)))
    (l_answer_of_plans : K.lookup f_answer_of_plans = some ⟨oc_answer_of_plans, od_answer_of_plans, .func (PySem.W.fnOf "answer_of_plans" "answer_of_plans" (defArgs s_answer_of_plans) (defBody s_answer_of_plans) (defScope s_answer_of_plans) .none kV_answer_of_plans dc_answer_of_plans pm_answer_of_plans an_answer_of_plans cd_answer_of_plans ct_answer_of_plans), sl_answer_of_plans⟩)
    (d_answer_of_plans : PySem.W.codeIn K cd_answer_of_plans "answer_of_plans" = true)
    (k_answer_of_plans : PySem.W.keepIn K (.ref f_answer_of_plans) = true)
    (a_ask_sure : PySem.W.nsIn K mainGlobals "ask_sure" = some (some (.ref f_ask_sure)))
    (l_ask_sure : K.lookup f_ask_sure = some ⟨oc_ask_sure, od_ask_sure, .func (PySem.W.fnOf "ask_sure" "ask_sure" (defArgs s_ask_sure) (defBody s_ask_sure) (defScope s_ask_sure) .none kV_ask_sure dc_ask_sure pm_ask_sure an_ask_sure cd_ask_sure ct_ask_sure), sl_ask_sure⟩)
    (d_ask_sure : PySem.W.codeIn K cd_ask_sure "ask_sure" = true)
    (k_ask_sure : PySem.W.keepIn K (.ref f_ask_sure) = true)
    (a_measure : PySem.W.nsIn K mainGlobals "measure" = some (some (.ref f_measure)))
    (l_measure : K.lookup f_measure = some ⟨oc_measure, od_measure, .func (PySem.W.fnOf "measure" "measure" (defArgs s_measure) (defBody s_measure) (defScope s_measure) .none kV_measure dc_measure pm_measure an_measure cd_measure ct_measure), sl_measure⟩)
    (d_measure : PySem.W.codeIn K cd_measure "measure" = true)
    (k_measure : PySem.W.keepIn K (.ref f_measure) = true)
    (a_chance_of_answers : PySem.W.nsIn K mainGlobals "chance_of_answers" = some (some (.ref f_chance_of_answers)))
    (l_chance_of_answers : K.lookup f_chance_of_answers = some ⟨oc_chance_of_answers, od_chance_of_answers, .func (PySem.W.fnOf "chance_of_answers" "chance_of_answers" (defArgs s_chance_of_answers) (defBody s_chance_of_answers) (defScope s_chance_of_answers) .none kV_chance_of_answers dc_chance_of_answers pm_chance_of_answers an_chance_of_answers cd_chance_of_answers ct_chance_of_answers), sl_chance_of_answers⟩)
    (d_chance_of_answers : PySem.W.codeIn K cd_chance_of_answers "chance_of_answers" = true)
    (k_chance_of_answers : PySem.W.keepIn K (.ref f_chance_of_answers) = true)
    (a_parity_of_some : PySem.W.nsIn K mainGlobals "parity_of_some" = some (some (.ref f_parity_of_some)))
    (l_parity_of_some : K.lookup f_parity_of_some = some ⟨oc_parity_of_some, od_parity_of_some, .func (PySem.W.fnOf "parity_of_some" "parity_of_some" (defArgs s_parity_of_some) (defBody s_parity_of_some) (defScope s_parity_of_some) .none kV_parity_of_some dc_parity_of_some pm_parity_of_some an_parity_of_some cd_parity_of_some ct_parity_of_some), sl_parity_of_some⟩)
    (d_parity_of_some : PySem.W.codeIn K cd_parity_of_some "parity_of_some" = true)
    (k_parity_of_some : PySem.W.keepIn K (.ref f_parity_of_some) = true)
    (a_what_spins_win : PySem.W.nsIn K mainGlobals "what_spins_win" = some (some (.ref f_what_spins_win)))
    (l_what_spins_win : K.lookup f_what_spins_win = some ⟨oc_what_spins_win, od_what_spins_win, .func (PySem.W.fnOf "what_spins_win" "what_spins_win" (defArgs s_what_spins_win) (defBody s_what_spins_win) (defScope s_what_spins_win) .none kV_what_spins_win dc_what_spins_win pm_what_spins_win an_what_spins_win cd_what_spins_win ct_what_spins_win), sl_what_spins_win⟩)
    (d_what_spins_win : PySem.W.codeIn K cd_what_spins_win "what_spins_win" = true)
    (k_what_spins_win : PySem.W.keepIn K (.ref f_what_spins_win) = true)
    (a_place_spins : PySem.W.nsIn K mainGlobals "place_spins" = some (some (.ref f_place_spins)))
    (l_place_spins : K.lookup f_place_spins = some ⟨oc_place_spins, od_place_spins, .func (PySem.W.fnOf "place_spins" "place_spins" (defArgs s_place_spins) (defBody s_place_spins) (defScope s_place_spins) .none kV_place_spins dc_place_spins pm_place_spins an_place_spins cd_place_spins ct_place_spins), sl_place_spins⟩)
    (d_place_spins : PySem.W.codeIn K cd_place_spins "place_spins" = true)
    (k_place_spins : PySem.W.keepIn K (.ref f_place_spins) = true)
    (a_begin : PySem.W.nsIn K mainGlobals "begin" = some (some (.ref f_begin)))
    (l_begin : K.lookup f_begin = some ⟨oc_begin, od_begin, .func (PySem.W.fnOf "begin" "begin" (defArgs s_begin) (defBody s_begin) (defScope s_begin) .none kV_begin dc_begin pm_begin an_begin cd_begin ct_begin), sl_begin⟩)
    (d_begin : PySem.W.codeIn K cd_begin "begin" = true)
    (k_begin : PySem.W.keepIn K (.ref f_begin) = true)
    (a_answer_of_spins : PySem.W.nsIn K mainGlobals "answer_of_spins" = some (some (.ref f_answer_of_spins)))
    (l_answer_of_spins : K.lookup f_answer_of_spins = some ⟨oc_answer_of_spins, od_answer_of_spins, .func (PySem.W.fnOf "answer_of_spins" "answer_of_spins" (defArgs s_answer_of_spins) (defBody s_answer_of_spins) (defScope s_answer_of_spins) .none kV_answer_of_spins dc_answer_of_spins pm_answer_of_spins an_answer_of_spins cd_answer_of_spins ct_answer_of_spins), sl_answer_of_spins⟩)
    (d_answer_of_spins : PySem.W.codeIn K cd_answer_of_spins "answer_of_spins" = true)
    (k_answer_of_spins : PySem.W.keepIn K (.ref f_answer_of_spins) = true)
    (a_answer_of_persons : PySem.W.nsIn K mainGlobals "answer_of_persons" = some (some (.ref f_answer_of_persons)))
    (l_answer_of_persons : K.lookup f_answer_of_persons = some ⟨oc_answer_of_persons, od_answer_of_persons, .func (PySem.W.fnOf "answer_of_persons" "answer_of_persons" (defArgs s_answer_of_persons) (defBody s_answer_of_persons) (defScope s_answer_of_persons) .none kV_answer_of_persons dc_answer_of_persons pm_answer_of_persons an_answer_of_persons cd_answer_of_persons ct_answer_of_persons), sl_answer_of_persons⟩)
    (d_answer_of_persons : PySem.W.codeIn K cd_answer_of_persons "answer_of_persons" = true)
    (k_answer_of_persons : PySem.W.keepIn K (.ref f_answer_of_persons) = true)
    (a_answer_call : PySem.W.nsIn K mainGlobals "answer_call" = some (some (.ref f_answer_call)))
    (l_answer_call : K.lookup f_answer_call = some ⟨oc_answer_call, od_answer_call, .func (PySem.W.fnOf "answer_call" "answer_call" (defArgs s_answer_call) (defBody s_answer_call) (defScope s_answer_call) .none kV_answer_call dc_answer_call pm_answer_call an_answer_call cd_answer_call ct_answer_call), sl_answer_call⟩)
    (d_answer_call : PySem.W.codeIn K cd_answer_call "answer_call" = true)
    (k_answer_call : PySem.W.keepIn K (.ref f_answer_call) = true)
    (a_answers : PySem.W.nsIn K mainGlobals "answers" = some (some (.ref f_answers)))
    (l_answers : K.lookup f_answers = some ⟨oc_answers, od_answers, .func (PySem.W.fnOf "answers" "answers" (defArgs s_answers) (defBody s_answers) (defScope s_answers) .none kV_answers dc_answers pm_answers an_answers cd_answers ct_answers), sl_answers⟩)
    (d_answers : PySem.W.codeIn K cd_answers "answers" = true)
    (k_answers : PySem.W.keepIn K (.ref f_answers) = true)
    (c_NONE_SUCH : PySem.W.nsIn K mainGlobals "NONE_SUCH" = some (some (.int (-2) t_NONE_SUCH)))
    (c_NOT_BEGUN : PySem.W.nsIn K mainGlobals "NOT_BEGUN" = some (some (.int (-11) t_NOT_BEGUN)))
    (c_SOMETHING_MEASURED : PySem.W.nsIn K mainGlobals "SOMETHING_MEASURED" = some (some (.int (-16) t_SOMETHING_MEASURED)))
    (c_NOT_AS_TOLD : PySem.W.nsIn K mainGlobals "NOT_AS_TOLD" = some (some (.int (-22) t_NOT_AS_TOLD)))
    (c_NOT_SURE_SO : PySem.W.nsIn K mainGlobals "NOT_SURE_SO" = some (some (.int (-33) t_NOT_SURE_SO)))
    (c_MOST_WEIGHT : PySem.W.nsIn K mainGlobals "MOST_WEIGHT" = some (some (.int 99 t_MOST_WEIGHT)))
    (c_NO_LETTER : PySem.W.nsIn K mainGlobals "NO_LETTER" = some (some (.int 0 t_NO_LETTER)))
    (c_X : PySem.W.nsIn K mainGlobals "X" = some (some (.int 1 t_X)))
    (c_Z : PySem.W.nsIn K mainGlobals "Z" = some (some (.int 3 t_Z)))
    (c_HAD_EVEN_CHANCE : PySem.W.nsIn K mainGlobals "HAD_EVEN_CHANCE" = some (some (.int 1 t_HAD_EVEN_CHANCE)))
    (c_WAS_SURE : PySem.W.nsIn K mainGlobals "WAS_SURE" = some (some (.int 2 t_WAS_SURE)))
    (c_NOTHING_SURE : PySem.W.nsIn K mainGlobals "NOTHING_SURE" = some (some (.int 0 t_NOTHING_SURE)))
    (c_SURELY_EVEN : PySem.W.nsIn K mainGlobals "SURELY_EVEN" = some (some (.int 1 t_SURELY_EVEN)))
    (c_MOST_SPINS : PySem.W.nsIn K mainGlobals "MOST_SPINS" = some (some (.int 6 t_MOST_SPINS)))
    (c_BEGIN : PySem.W.nsIn K mainGlobals "BEGIN" = some (some (.int 0 t_BEGIN)))
    (c_WINS : PySem.W.nsIn K mainGlobals "WINS" = some (some (.int 1 t_WINS)))
    (c_ODD : PySem.W.nsIn K mainGlobals "ODD" = some (some (.int 2 t_ODD)))
    (c_COUNTS : PySem.W.nsIn K mainGlobals "COUNTS" = some (some (.int 3 t_COUNTS)))
    (c_PLAN : PySem.W.nsIn K mainGlobals "PLAN" = some (some (.int 4 t_PLAN)))
    (c_BEST : PySem.W.nsIn K mainGlobals "BEST" = some (some (.int 5 t_BEST)))
    (c_PLANS : PySem.W.nsIn K mainGlobals "PLANS" = some (some (.int 6 t_PLANS)))
    (c_SPINS : PySem.W.nsIn K mainGlobals "SPINS" = some (some (.int 7 t_SPINS)))
    (c_LINK : PySem.W.nsIn K mainGlobals "LINK" = some (some (.int 8 t_LINK)))
    (c_FRESH : PySem.W.nsIn K mainGlobals "FRESH" = some (some (.int 9 t_FRESH)))
    (c_SURE : PySem.W.nsIn K mainGlobals "SURE" = some (some (.int 10 t_SURE)))
    (c_MEASURE : PySem.W.nsIn K mainGlobals "MEASURE" = some (some (.int 11 t_MEASURE)))
    (c_MINE : PySem.W.nsIn K mainGlobals "MINE" = some (some (.int 12 t_MINE)))
    (c_CHANCE : PySem.W.nsIn K mainGlobals "CHANCE" = some (some (.int 13 t_CHANCE)))
    (c_PARITY : PySem.W.nsIn K mainGlobals "PARITY" = some (some (.int 14 t_PARITY)))
    (c_VALUE : PySem.W.nsIn K mainGlobals "VALUE" = some (some (.int 15 t_VALUE)))
    (c_ROW : PySem.W.nsIn K mainGlobals "ROW" = some (some (.int 16 t_ROW)))
    (z_all : PySem.W.nsIn K mainGlobals "all" = some none)
    (z_enumerate : PySem.W.nsIn K mainGlobals "enumerate" = some none)
    (z_len : PySem.W.nsIn K mainGlobals "len" = some none)
    (z_list : PySem.W.nsIn K mainGlobals "list" = some none)
    (z_max : PySem.W.nsIn K mainGlobals "max" = some none)
    (z_min : PySem.W.nsIn K mainGlobals "min" = some none)
    (z_range : PySem.W.nsIn K mainGlobals "range" = some none)
    (z_sum : PySem.W.nsIn K mainGlobals "sum" = some none)
    (z_tuple : PySem.W.nsIn K mainGlobals "tuple" = some none)
    (z_zip : PySem.W.nsIn K mainGlobals "zip" = some none)
    (u_TURNS : PySem.W.nsIn K mainGlobals "TURNS" = some (some (.ref aT)))
    (lT : K.lookup aT = some oT)
    (cT : oT.cls = .type "tuple")
    (dT : oT.data = .seq #[.ref r0, .ref r1, .ref r2, .ref r3] nT)
    (l0 : K.lookup r0 = some o0)
    (c0 : o0.cls = .type "tuple")
    (d0 : o0.data = .seq i0 n0)
    (z0 : i0.size ≤ sizeLine)
    (v0 : Vals (([0, 0, 0, 0] : List Int).map V.int) i0.toList)
    (l1 : K.lookup r1 = some o1)
    (c1 : o1.cls = .type "tuple")
    (d1 : o1.data = .seq i1 n1)
    (z1 : i1.size ≤ sizeLine)
    (v1 : Vals (([0, 0, 1, 3] : List Int).map V.int) i1.toList)
    (l2 : K.lookup r2 = some o2)
    (c2 : o2.cls = .type "tuple")
    (d2 : o2.data = .seq i2 n2)
    (z2 : i2.size ≤ sizeLine)
    (v2 : Vals (([0, 3, 0, 1] : List Int).map V.int) i2.toList)
    (l3 : K.lookup r3 = some o3)
    (c3 : o3.cls = .type "tuple")
    (d3 : o3.data = .seq i3 n3)
    (z3 : i3.size ≤ sizeLine)
    (v3 : Vals (([0, 1, 3, 0] : List Int).map V.int) i3.toList)
    (u_NUMBERS : PySem.W.nsIn K mainGlobals "NUMBERS" = some (some (.ref aN)))
    (lN : K.lookup aN = some oN)
    (cN : oN.cls = .type "tuple")
    (dN : oN.data = .seq iN nN)
    (zN : iN.size ≤ sizeLine)
    (vN : Vals (([2, 1, 1, 1, 0, 0, 1, 0, 2, 0, 0, 1, 3, 0, 0, 0, 0, 0] : List Int).map V.int) iN.toList)
    (u_WITH_ROW : PySem.W.nsIn K mainGlobals "WITH_ROW" = some (some (.ref aW)))
    (lW : K.lookup aW = some oW)
    (cW : oW.cls = .type "tuple")
    (dW : oW.data = .seq iW nW)
    (zW : iW.size ≤ sizeLine)
    (vW : Vals (([1, 2, 3, 4, 7, 10, 11, 12, 13, 14, 16] : List Int).map V.int) iW.toList)
    : ∃ fd : FuncData, (∀ (s : Shared) (us : List Value), us.length = (["calls"] : List Str).length → BindsTo s fd ⟨us, []⟩ ((["calls"] : List Str).zip us)) ∧ ∀ base : Heap, K.In base → base.Ns mainGlobals mg → FnOk P w K mg base CX0 9 fa fd ["calls"] (spAns K) := by
  have e := hfa.symm.trans (PySem.W.mg_of X G a_answers)
  cases e
  have T : Txt K mg C CM aT aN aW := {
    clG := ⟨pg_Game, hd_Game, po_Game, sa_Game⟩
    clM := ⟨pg_Measurement, hd_Measurement, po_Measurement, sa_Measurement⟩
    g_begun := n_Game_begun
    g_persons := n_Game_persons
    g_questions := n_Game_questions
    g_weights := n_Game_weights
    g_winning := n_Game_winning
    g_owners := n_Game_owners
    g_links := n_Game_links
    g_sure := n_Game_sure
    g_measured := n_Game_measured
    g_own := n_Game_own
    m_sign := n_Measurement_sign
    m_letters := n_Measurement_letters
    b_all := PySem.W.mg_none_of X G z_all
    b_enumerate := PySem.W.mg_none_of X G z_enumerate
    b_len := PySem.W.mg_none_of X G z_len
    b_list := PySem.W.mg_none_of X G z_list
    b_max := PySem.W.mg_none_of X G z_max
    b_min := PySem.W.mg_none_of X G z_min
    b_range := PySem.W.mg_none_of X G z_range
    b_sum := PySem.W.mg_none_of X G z_sum
    b_tuple := PySem.W.mg_none_of X G z_tuple
    b_zip := PySem.W.mg_none_of X G z_zip
    c_NONE_SUCH := cint_of X G c_NONE_SUCH
    c_NOT_BEGUN := cint_of X G c_NOT_BEGUN
    c_SOMETHING_MEASURED := cint_of X G c_SOMETHING_MEASURED
    c_NOT_AS_TOLD := cint_of X G c_NOT_AS_TOLD
    c_NOT_SURE_SO := cint_of X G c_NOT_SURE_SO
    c_MOST_WEIGHT := cint_of X G c_MOST_WEIGHT
    c_NO_LETTER := cint_of X G c_NO_LETTER
    c_X := cint_of X G c_X
    c_Z := cint_of X G c_Z
    c_HAD_EVEN_CHANCE := cint_of X G c_HAD_EVEN_CHANCE
    c_WAS_SURE := cint_of X G c_WAS_SURE
    c_NOTHING_SURE := cint_of X G c_NOTHING_SURE
    c_SURELY_EVEN := cint_of X G c_SURELY_EVEN
    c_MOST_SPINS := cint_of X G c_MOST_SPINS
    c_BEGIN := cint_of X G c_BEGIN
    c_WINS := cint_of X G c_WINS
    c_ODD := cint_of X G c_ODD
    c_COUNTS := cint_of X G c_COUNTS
    c_PLAN := cint_of X G c_PLAN
    c_BEST := cint_of X G c_BEST
    c_PLANS := cint_of X G c_PLANS
    c_SPINS := cint_of X G c_SPINS
    c_LINK := cint_of X G c_LINK
    c_FRESH := cint_of X G c_FRESH
    c_SURE := cint_of X G c_SURE
    c_MEASURE := cint_of X G c_MEASURE
    c_MINE := cint_of X G c_MINE
    c_CHANCE := cint_of X G c_CHANCE
    c_PARITY := cint_of X G c_PARITY
    c_VALUE := cint_of X G c_VALUE
    c_ROW := cint_of X G c_ROW
    c_TURNS := PySem.W.mg_of X G u_TURNS
    c_NUMBERS := PySem.W.mg_of X G u_NUMBERS
    c_WITH_ROW := PySem.W.mg_of X G u_WITH_ROW
    t_TURNS := ⟨r0, r1, r2, r3, tupK lT cT dT (by show 4 ≤ sizeLine; decide) (.cons rfl (.cons rfl (.cons rfl (.cons rfl .nil)))), tupK l0 c0 d0 z0 v0, tupK l1 c1 d1 z1 v1, tupK l2 c2 d2 z2 v2, tupK l3 c3 d3 z3 v3⟩
    t_NUMBERS := tupK lN cN dN zN vN
    t_WITH_ROW := tupK lW cW dW zW vW }
  refine ⟨_, fun s us hu => match us, hu with | [_], _ => .of_eq rfl, fun base _ _ => all_ok (fdA := PySem.W.fnOf "answers" "answers" (defArgs s_answers) (defBody s_answers) (defScope s_answers) .none kV_answers dc_answers pm_answers an_answers cd_answers ct_answers) T
    (defAt_of X G a_is_asked l_is_asked d_is_asked k_is_asked)
    (defAt_of X G a_place_of_row l_place_of_row d_place_of_row k_place_of_row)
    (defAt_of X G a_row_at l_row_at d_row_at k_row_at)
    (defAt_of X G a_count_ones l_count_ones d_count_ones k_count_ones)
    (mdef_of X G g_Measurement mk_Measurement a_Measurement i_Measurement kc_Measurement l_Measurement d_Measurement k_Measurement)
    (defAt_of X G a_are_letters l_are_letters d_are_letters k_are_letters)
    (defAt_of X G a_go_together l_go_together d_go_together k_go_together)
    (defAt_of X G a_is_plan l_is_plan d_is_plan k_is_plan)
    (defAt_of X G a_count_plans l_count_plans d_count_plans k_count_plans)
    (defAt_of X G a_plan_at l_plan_at d_plan_at k_plan_at)
    (defAt_of X G a_answered_by_one_more l_answered_by_one_more d_answered_by_one_more k_answered_by_one_more)
    (defAt_of X G a_number_of_bits l_number_of_bits d_number_of_bits k_number_of_bits)
    (defAt_of X G a_sum_that_is_sure l_sum_that_is_sure d_sum_that_is_sure k_sum_that_is_sure)
    (defAt_of X G a_are_owners l_are_owners d_are_owners k_are_owners)
    (mdef_of X G g_Game mk_Game a_Game i_Game kc_Game l_Game d_Game k_Game)
    (defAt_of X G a_show_state l_show_state d_show_state k_show_state)
    (defAt_of X G a_may_begin l_may_begin d_may_begin k_may_begin)
    (defAt_of X G a_count_rows l_count_rows d_count_rows k_count_rows)
    (defAt_of X G a_end_of_call l_end_of_call d_end_of_call k_end_of_call)
    (defAt_of X G a_let_win l_let_win d_let_win k_let_win)
    (defAt_of X G a_let_count l_let_count d_let_count k_let_count)
    (defAt_of X G a_show_row l_show_row d_show_row k_show_row)
    (defAt_of X G a_rows_with_parity l_rows_with_parity d_rows_with_parity k_rows_with_parity)
    (defAt_of X G a_answered_by_plan l_answered_by_plan d_answered_by_plan k_answered_by_plan)
    (defAt_of X G a_are_own_letters l_are_own_letters d_are_own_letters k_are_own_letters)
    (defAt_of X G a_are_row_and_bits l_are_row_and_bits d_are_row_and_bits k_are_row_and_bits)
    (defAt_of X G a_chance_of_number l_chance_of_number d_chance_of_number k_chance_of_number)
    (defAt_of X G a_let_sum_win l_let_sum_win d_let_sum_win k_let_sum_win)
    (defAt_of X G a_without_letters l_without_letters d_without_letters k_without_letters)
    (defAt_of X G a_product_of l_product_of d_product_of k_product_of)
    (defAt_of X G a_worth_of_plan l_worth_of_plan d_worth_of_plan k_worth_of_plan)
    (defAt_of X G a_sure_at_first l_sure_at_first d_sure_at_first k_sure_at_first)
    (defAt_of X G a_set_own l_set_own d_set_own k_set_own)
    (defAt_of X G a_chance_to_win l_chance_to_win d_chance_to_win k_chance_to_win)
    (defAt_of X G a_products_of_some l_products_of_some d_products_of_some k_products_of_some)
    (defAt_of X G a_try_plan l_try_plan d_try_plan k_try_plan)
    (defAt_of X G a_best_plan l_best_plan d_best_plan k_best_plan)
    (defAt_of X G a_plans_that_win l_plans_that_win d_plans_that_win k_plans_that_win)
    (defAt_of X G a_let_first_be_sure l_let_first_be_sure d_let_first_be_sure k_let_first_be_sure)
    (defAt_of X G a_let_be_sure l_let_be_sure d_let_be_sure k_let_be_sure)
    (defAt_of X G a_refresh l_refresh d_refresh k_refresh)
    (defAt_of X G a_signs_that_are_sure l_signs_that_are_sure d_signs_that_are_sure k_signs_that_are_sure)
    (defAt_of X G a_sums_at l_sums_at d_sums_at k_sums_at)
    (defAt_of X G a_set_spins l_set_spins d_set_spins k_set_spins)
    (defAt_of X G a_link_spins l_link_spins d_link_spins k_link_spins)
    (defAt_of X G a_answer_of_plans l_answer_of_plans d_answer_of_plans k_answer_of_plans)
    (defAt_of X G a_ask_sure l_ask_sure d_ask_sure k_ask_sure)
    (defAt_of X G a_measure l_measure d_measure k_measure)
    (defAt_of X G a_chance_of_answers l_chance_of_answers d_chance_of_answers k_chance_of_answers)
    (defAt_of X G a_parity_of_some l_parity_of_some d_parity_of_some k_parity_of_some)
    (defAt_of X G a_what_spins_win l_what_spins_win d_what_spins_win k_what_spins_win)
    (defAt_of X G a_place_spins l_place_spins d_place_spins k_place_spins)
    (defAt_of X G a_begin l_begin d_begin k_begin)
    (defAt_of X G a_answer_of_spins l_answer_of_spins d_answer_of_spins k_answer_of_spins)
    (defAt_of X G a_answer_of_persons l_answer_of_persons d_answer_of_persons k_answer_of_persons)
    (defAt_of X G a_answer_call l_answer_call d_answer_call k_answer_call)
    (fun_mk l_answers d_answers k_answers)⟩
end
end My
set_option Elab.async false
set_option linter.all false
open PySem PySem.W PyProof.Rows
set_option maxRecDepth 100000 in
set_option maxHeartbeats 0 in
theorem PySem.Challenge.cw_sharedspins_s01_answers_holds : PySem.Challenge.rw_sharedspins_s01_answers.Holds := by
  w_on; k_headS; (case hw => exact ⟨[.list [.int 5]], by decide +kernel, by decide +kernel⟩)
  k_fillS
  refine L2.walk_specK (r := PySem.Challenge.rw_sharedspins_s01_answers) (k := 9) (CX := L2.CX0) (ps := ["calls"]) (sp := My.spAns) (by decide +kernel) rfl rfl ⟨rfl, by decide, by decide⟩ (fun w h Y => PySem.W.kIn_of Y) ?F ?S (fun _ _ _ _ z => z)
  case F =>
    intro w mg fa h Y KX G hmg
    refine' My.all_mk KX G hmg ?g_Game ?mk_Game ?kc_Game ?pg_Game ?hd_Game ?po_Game ?sa_Game ?a_Game ?i_Game ?l_Game ?d_Game ?k_Game ?n_Game_begun ?n_Game_persons ?n_Game_questions ?n_Game_weights ?n_Game_winning ?n_Game_owners ?n_Game_links ?n_Game_sure ?n_Game_measured ?n_Game_own ?g_Measurement ?mk_Measurement ?kc_Measurement ?pg_Measurement ?hd_Measurement ?po_Measurement ?sa_Measurement ?a_Measurement ?i_Measurement ?l_Measurement ?d_Measurement ?k_Measurement ?n_Measurement_sign ?n_Measurement_letters ?a_is_asked ?l_is_asked ?d_is_asked ?k_is_asked ?a_place_of_row ?l_place_of_row ?d_place_of_row ?k_place_of_row ?a_row_at ?l_row_at ?d_row_at ?k_row_at ?a_count_ones ?l_count_ones ?d_count_ones ?k_count_ones ?a_are_letters ?l_are_letters ?d_are_letters ?k_are_letters ?a_go_together ?l_go_together ?d_go_together ?k_go_together ?a_is_plan ?l_is_plan ?d_is_plan ?k_is_plan ?a_count_plans ?l_count_plans ?d_count_plans ?k_count_plans ?a_plan_at ?l_plan_at ?d_plan_at ?k_plan_at ?a_answered_by_one_more ?l_answered_by_one_more ?d_answered_by_one_more ?k_answered_by_one_more ?a_number_of_bits ?l_number_of_bits ?d_number_of_bits ?k_number_of_bits ?a_sum_that_is_sure ?l_sum_that_is_sure ?d_sum_that_is_sure ?k_sum_that_is_sure ?a_are_owners ?l_are_owners ?d_are_owners ?k_are_owners ?a_show_state ?l_show_state ?d_show_state ?k_show_state ?a_may_begin ?l_may_begin ?d_may_begin ?k_may_begin ?a_count_rows ?l_count_rows ?d_count_rows ?k_count_rows ?a_end_of_call ?l_end_of_call ?d_end_of_call ?k_end_of_call ?a_let_win ?l_let_win ?d_let_win ?k_let_win ?a_let_count ?l_let_count ?d_let_count ?k_let_count ?a_show_row ?l_show_row ?d_show_row ?k_show_row ?a_rows_with_parity ?l_rows_with_parity ?d_rows_with_parity ?k_rows_with_parity ?a_answered_by_plan ?l_answered_by_plan ?d_answered_by_plan ?k_answered_by_plan ?a_are_own_letters ?l_are_own_letters ?d_are_own_letters ?k_are_own_letters ?a_are_row_and_bits ?l_are_row_and_bits ?d_are_row_and_bits ?k_are_row_and_bits ?a_chance_of_number ?l_chance_of_number ?d_chance_of_number ?k_chance_of_number ?a_let_sum_win ?l_let_sum_win ?d_let_sum_win ?k_let_sum_win ?a_without_letters ?l_without_letters ?d_without_letters ?k_without_letters ?a_product_of ?l_product_of ?d_product_of ?k_product_of ?a_worth_of_plan ?l_worth_of_plan ?d_worth_of_plan ?k_worth_of_plan ?a_sure_at_first ?l_sure_at_first ?d_sure_at_first ?k_sure_at_first ?a_set_own ?l_set_own ?d_set_own ?k_set_own ?a_chance_to_win ?l_chance_to_win ?d_chance_to_win ?k_chance_to_win ?a_products_of_some ?l_products_of_some ?d_products_of_some ?k_products_of_some ?a_try_plan ?l_try_plan ?d_try_plan ?k_try_plan ?a_best_plan ?l_best_plan ?d_best_plan ?k_best_plan ?a_plans_that_win ?l_plans_that_win ?d_plans_that_win ?k_plans_that_win ?a_let_first_be_sure ?l_let_first_be_sure ?d_let_first_be_sure ?k_let_first_be_sure ?a_let_be_sure ?l_let_be_sure ?d_let_be_sure ?k_let_be_sure ?a_refresh ?l_refresh ?d_refresh ?k_refresh ?a_signs_that_are_sure ?l_signs_that_are_sure ?d_signs_that_are_sure ?k_signs_that_are_sure ?a_sums_at ?l_sums_at ?d_sums_at ?k_sums_at ?a_set_spins ?l_set_spins ?d_set_spins ?k_set_spins ?a_link_spins ?l_link_spins ?d_link_spins ?k_link_spins ?a_answer_of_plans ?l_answer_of_plans ?d_answer_of_plans ?k_answer_of_plans ?a_ask_sure ?l_ask_sure ?d_ask_sure ?k_ask_sure ?a_measure ?l_measure ?d_measure ?k_measure ?a_chance_of_answers ?l_chance_of_answers ?d_chance_of_answers ?k_chance_of_answers ?a_parity_of_some ?l_parity_of_some ?d_parity_of_some ?k_parity_of_some ?a_what_spins_win ?l_what_spins_win ?d_what_spins_win ?k_what_spins_win ?a_place_spins ?l_place_spins ?d_place_spins ?k_place_spins ?a_begin ?l_begin ?d_begin ?k_begin ?a_answer_of_spins ?l_answer_of_spins ?d_answer_of_spins ?k_answer_of_spins ?a_answer_of_persons ?l_answer_of_persons ?d_answer_of_persons ?k_answer_of_persons ?a_answer_call ?l_answer_call ?d_answer_call ?k_answer_call ?a_answers ?l_answers ?d_answers ?k_answers ?c_NONE_SUCH ?c_NOT_BEGUN ?c_SOMETHING_MEASURED ?c_NOT_AS_TOLD ?c_NOT_SURE_SO ?c_MOST_WEIGHT ?c_NO_LETTER ?c_X ?c_Z ?c_HAD_EVEN_CHANCE ?c_WAS_SURE ?c_NOTHING_SURE ?c_SURELY_EVEN ?c_MOST_SPINS ?c_BEGIN ?c_WINS ?c_ODD ?c_COUNTS ?c_PLAN ?c_BEST ?c_PLANS ?c_SPINS ?c_LINK ?c_FRESH ?c_SURE ?c_MEASURE ?c_MINE ?c_CHANCE ?c_PARITY ?c_VALUE ?c_ROW ?z_all ?z_enumerate ?z_len ?z_list ?z_max ?z_min ?z_range ?z_sum ?z_tuple ?z_zip ?u_TURNS ?lT ?cT ?dT ?l0 ?c0 ?d0 ?z0 ?v0 ?l1 ?c1 ?d1 ?z1 ?v1 ?l2 ?c2 ?d2 ?z2 ?v2 ?l3 ?c3 ?d3 ?z3 ?v3 ?u_NUMBERS ?lN ?cN ?dN ?zN ?vN ?u_WITH_ROW ?lW ?cW ?dW ?zW ?vW
    (case g_Game => k_is)
    (case mk_Game => k_is)
    (case kc_Game => k_is)
    (case pg_Game => k_is)
    (case hd_Game => k_is)
    (case po_Game => k_is)
    (case sa_Game => k_is)
    (case a_Game => k_is)
    (case i_Game => k_is)
    (case l_Game => k_is)
    (case d_Game => k_is)
    (case k_Game => k_is)
    (case n_Game_begun => k_is)
    (case n_Game_persons => k_is)
    (case n_Game_questions => k_is)
    (case n_Game_weights => k_is)
    (case n_Game_winning => k_is)
    (case n_Game_owners => k_is)
    (case n_Game_links => k_is)
    (case n_Game_sure => k_is)
    (case n_Game_measured => k_is)
    (case n_Game_own => k_is)
    (case g_Measurement => k_is)
    (case mk_Measurement => k_is)
    (case kc_Measurement => k_is)
    (case pg_Measurement => k_is)
    (case hd_Measurement => k_is)
    (case po_Measurement => k_is)
    (case sa_Measurement => k_is)
    (case a_Measurement => k_is)
    (case i_Measurement => k_is)
    (case l_Measurement => k_is)
    (case d_Measurement => k_is)
    (case k_Measurement => k_is)
    (case n_Measurement_sign => k_is)
    (case n_Measurement_letters => k_is)
    (case a_is_asked => k_is)
    (case l_is_asked => k_is)
    (case d_is_asked => k_is)
    (case k_is_asked => k_is)
    (case a_place_of_row => k_is)
    (case l_place_of_row => k_is)
    (case d_place_of_row => k_is)
    (case k_place_of_row => k_is)
    (case a_row_at => k_is)
    (case l_row_at => k_is)
    (case d_row_at => k_is)
    (case k_row_at => k_is)
    (case a_count_ones => k_is)
    (case l_count_ones => k_is)
    (case d_count_ones => k_is)
    (case k_count_ones => k_is)
    (case a_are_letters => k_is)
    (case l_are_letters => k_is)
    (case d_are_letters => k_is)
    (case k_are_letters => k_is)
    (case a_go_together => k_is)
    (case l_go_together => k_is)
    (case d_go_together => k_is)
    (case k_go_together => k_is)
    (case a_is_plan => k_is)
    (case l_is_plan => k_is)
    (case d_is_plan => k_is)
    (case k_is_plan => k_is)
    (case a_count_plans => k_is)
    (case l_count_plans => k_is)
    (case d_count_plans => k_is)
    (case k_count_plans => k_is)
    (case a_plan_at => k_is)
    (case l_plan_at => k_is)
    (case d_plan_at => k_is)
    (case k_plan_at => k_is)
    (case a_answered_by_one_more => k_is)
    (case l_answered_by_one_more => k_is)
    (case d_answered_by_one_more => k_is)
    (case k_answered_by_one_more => k_is)
    (case a_number_of_bits => k_is)
    (case l_number_of_bits => k_is)
    (case d_number_of_bits => k_is)
    (case k_number_of_bits => k_is)
    (case a_sum_that_is_sure => k_is)
    (case l_sum_that_is_sure => k_is)
    (case d_sum_that_is_sure => k_is)
    (case k_sum_that_is_sure => k_is)
    (case a_are_owners => k_is)
    (case l_are_owners => k_is)
    (case d_are_owners => k_is)
    (case k_are_owners => k_is)
    (case a_show_state => k_is)
    (case l_show_state => k_is)
    (case d_show_state => k_is)
    (case k_show_state => k_is)
    (case a_may_begin => k_is)
    (case l_may_begin => k_is)
    (case d_may_begin => k_is)
    (case k_may_begin => k_is)
    (case a_count_rows => k_is)
    (case l_count_rows => k_is)
    (case d_count_rows => k_is)
    (case k_count_rows => k_is)
    (case a_end_of_call => k_is)
    (case l_end_of_call => k_is)
    (case d_end_of_call => k_is)
    (case k_end_of_call => k_is)
    (case a_let_win => k_is)
    (case l_let_win => k_is)
    (case d_let_win => k_is)
    (case k_let_win => k_is)
    (case a_let_count => k_is)
    (case l_let_count => k_is)
    (case d_let_count => k_is)
    (case k_let_count => k_is)
    (case a_show_row => k_is)
    (case l_show_row => k_is)
    (case d_show_row => k_is)
    (case k_show_row => k_is)
    (case a_rows_with_parity => k_is)
    (case l_rows_with_parity => k_is)
    (case d_rows_with_parity => k_is)
    (case k_rows_with_parity => k_is)
    (case a_answered_by_plan => k_is)
    (case l_answered_by_plan => k_is)
    (case d_answered_by_plan => k_is)
    (case k_answered_by_plan => k_is)
    (case a_are_own_letters => k_is)
    (case l_are_own_letters => k_is)
    (case d_are_own_letters => k_is)
    (case k_are_own_letters => k_is)
    (case a_are_row_and_bits => k_is)
    (case l_are_row_and_bits => k_is)
    (case d_are_row_and_bits => k_is)
    (case k_are_row_and_bits => k_is)
    (case a_chance_of_number => k_is)
    (case l_chance_of_number => k_is)
    (case d_chance_of_number => k_is)
    (case k_chance_of_number => k_is)
    (case a_let_sum_win => k_is)
    (case l_let_sum_win => k_is)
    (case d_let_sum_win => k_is)
    (case k_let_sum_win => k_is)
    (case a_without_letters => k_is)
    (case l_without_letters => k_is)
    (case d_without_letters => k_is)
    (case k_without_letters => k_is)
    (case a_product_of => k_is)
    (case l_product_of => k_is)
    (case d_product_of => k_is)
    (case k_product_of => k_is)
    (case a_worth_of_plan => k_is)
    (case l_worth_of_plan => k_is)
    (case d_worth_of_plan => k_is)
    (case k_worth_of_plan => k_is)
    (case a_sure_at_first => k_is)
    (case l_sure_at_first => k_is)
    (case d_sure_at_first => k_is)
    (case k_sure_at_first => k_is)
    (case a_set_own => k_is)
    (case l_set_own => k_is)
    (case d_set_own => k_is)
    (case k_set_own => k_is)
    (case a_chance_to_win => k_is)
    (case l_chance_to_win => k_is)
    (case d_chance_to_win => k_is)
    (case k_chance_to_win => k_is)
    (case a_products_of_some => k_is)
    (case l_products_of_some => k_is)
    (case d_products_of_some => k_is)
    (case k_products_of_some => k_is)
    (case a_try_plan => k_is)
    (case l_try_plan => k_is)
    (case d_try_plan => k_is)
    (case k_try_plan => k_is)
    (case a_best_plan => k_is)
    (case l_best_plan => k_is)
    (case d_best_plan => k_is)
    (case k_best_plan => k_is)
    (case a_plans_that_win => k_is)
    (case l_plans_that_win => k_is)
    (case d_plans_that_win => k_is)
    (case k_plans_that_win => k_is)
    (case a_let_first_be_sure => k_is)
    (case l_let_first_be_sure => k_is)
    (case d_let_first_be_sure => k_is)
    (case k_let_first_be_sure => k_is)
    (case a_let_be_sure => k_is)
    (case l_let_be_sure => k_is)
    (case d_let_be_sure => k_is)
    (case k_let_be_sure => k_is)
    (case a_refresh => k_is)
    (case l_refresh => k_is)
    (case d_refresh => k_is)
    (case k_refresh => k_is)
    (case a_signs_that_are_sure => k_is)
    (case l_signs_that_are_sure => k_is)
    (case d_signs_that_are_sure => k_is)
    (case k_signs_that_are_sure => k_is)
    (case a_sums_at => k_is)
    (case l_sums_at => k_is)
    (case d_sums_at => k_is)
    (case k_sums_at => k_is)
    (case a_set_spins => k_is)
    (case l_set_spins => k_is)
    (case d_set_spins => k_is)
    (case k_set_spins => k_is)
    (case a_link_spins => k_is)
    (case l_link_spins => k_is)
    (case d_link_spins => k_is)
    (case k_link_spins => k_is)
    (case a_answer_of_plans => k_is)
    (case l_answer_of_plans => k_is)
    (case d_answer_of_plans => k_is)
    (case k_answer_of_plans => k_is)
    (case a_ask_sure => k_is)
    (case l_ask_sure => k_is)
    (case d_ask_sure => k_is)
    (case k_ask_sure => k_is)
    (case a_measure => k_is)
    (case l_measure => k_is)
    (case d_measure => k_is)
    (case k_measure => k_is)
    (case a_chance_of_answers => k_is)
    (case l_chance_of_answers => k_is)
    (case d_chance_of_answers => k_is)
    (case k_chance_of_answers => k_is)
    (case a_parity_of_some => k_is)
    (case l_parity_of_some => k_is)
    (case d_parity_of_some => k_is)
    (case k_parity_of_some => k_is)
    (case a_what_spins_win => k_is)
    (case l_what_spins_win => k_is)
    (case d_what_spins_win => k_is)
    (case k_what_spins_win => k_is)
    (case a_place_spins => k_is)
    (case l_place_spins => k_is)
    (case d_place_spins => k_is)
    (case k_place_spins => k_is)
    (case a_begin => k_is)
    (case l_begin => k_is)
    (case d_begin => k_is)
    (case k_begin => k_is)
    (case a_answer_of_spins => k_is)
    (case l_answer_of_spins => k_is)
    (case d_answer_of_spins => k_is)
    (case k_answer_of_spins => k_is)
    (case a_answer_of_persons => k_is)
    (case l_answer_of_persons => k_is)
    (case d_answer_of_persons => k_is)
    (case k_answer_of_persons => k_is)
    (case a_answer_call => k_is)
    (case l_answer_call => k_is)
    (case d_answer_call => k_is)
    (case k_answer_call => k_is)
    (case a_answers => k_is)
    (case l_answers => k_is)
    (case d_answers => k_is)
    (case k_answers => k_is)
    (case c_NONE_SUCH => k_is)
    (case c_NOT_BEGUN => k_is)
    (case c_SOMETHING_MEASURED => k_is)
    (case c_NOT_AS_TOLD => k_is)
    (case c_NOT_SURE_SO => k_is)
    (case c_MOST_WEIGHT => k_is)
    (case c_NO_LETTER => k_is)
    (case c_X => k_is)
    (case c_Z => k_is)
    (case c_HAD_EVEN_CHANCE => k_is)
    (case c_WAS_SURE => k_is)
    (case c_NOTHING_SURE => k_is)
    (case c_SURELY_EVEN => k_is)
    (case c_MOST_SPINS => k_is)
    (case c_BEGIN => k_is)
    (case c_WINS => k_is)
    (case c_ODD => k_is)
    (case c_COUNTS => k_is)
    (case c_PLAN => k_is)
    (case c_BEST => k_is)
    (case c_PLANS => k_is)
    (case c_SPINS => k_is)
    (case c_LINK => k_is)
    (case c_FRESH => k_is)
    (case c_SURE => k_is)
    (case c_MEASURE => k_is)
    (case c_MINE => k_is)
    (case c_CHANCE => k_is)
    (case c_PARITY => k_is)
    (case c_VALUE => k_is)
    (case c_ROW => k_is)
    (case z_all => k_is)
    (case z_enumerate => k_is)
    (case z_len => k_is)
    (case z_list => k_is)
    (case z_max => k_is)
    (case z_min => k_is)
    (case z_range => k_is)
    (case z_sum => k_is)
    (case z_tuple => k_is)
    (case z_zip => k_is)
    (case u_TURNS => k_is)
    (case lT => k_is)
    (case cT => rfl)
    (case dT => rfl)
    (case l0 => k_is)
    (case c0 => rfl)
    (case d0 => rfl)
    (case z0 => decide)
    (case v0 => exact (.cons ⟨_, rfl⟩ (.cons ⟨_, rfl⟩ (.cons ⟨_, rfl⟩ (.cons ⟨_, rfl⟩ .nil)))))
    (case l1 => k_is)
    (case c1 => rfl)
    (case d1 => rfl)
    (case z1 => decide)
    (case v1 => exact (.cons ⟨_, rfl⟩ (.cons ⟨_, rfl⟩ (.cons ⟨_, rfl⟩ (.cons ⟨_, rfl⟩ .nil)))))
    (case l2 => k_is)
    (case c2 => rfl)
    (case d2 => rfl)
    (case z2 => decide)
    (case v2 => exact (.cons ⟨_, rfl⟩ (.cons ⟨_, rfl⟩ (.cons ⟨_, rfl⟩ (.cons ⟨_, rfl⟩ .nil)))))
    (case l3 => k_is)
    (case c3 => rfl)
    (case d3 => rfl)
    (case z3 => decide)
    (case v3 => exact (.cons ⟨_, rfl⟩ (.cons ⟨_, rfl⟩ (.cons ⟨_, rfl⟩ (.cons ⟨_, rfl⟩ .nil)))))
    (case u_NUMBERS => k_is)
    (case lN => k_is)
    (case cN => rfl)
    (case dN => rfl)
    (case zN => decide)
    (case vN => exact (.cons ⟨_, rfl⟩ (.cons ⟨_, rfl⟩ (.cons ⟨_, rfl⟩ (.cons ⟨_, rfl⟩ (.cons ⟨_, rfl⟩ (.cons ⟨_, rfl⟩ (.cons ⟨_, rfl⟩ (.cons ⟨_, rfl⟩ (.cons ⟨_, rfl⟩ (.cons ⟨_, rfl⟩ (.cons ⟨_, rfl⟩ (.cons ⟨_, rfl⟩ (.cons ⟨_, rfl⟩ (.cons ⟨_, rfl⟩ (.cons ⟨_, rfl⟩ (.cons ⟨_, rfl⟩ (.cons ⟨_, rfl⟩ (.cons ⟨_, rfl⟩ .nil)))))))))))))))))))
    (case u_WITH_ROW => k_is)
    (case lW => k_is)
    (case cW => rfl)
    (case dW => rfl)
    (case zW => decide)
    (case vW => exact (.cons ⟨_, rfl⟩ (.cons ⟨_, rfl⟩ (.cons ⟨_, rfl⟩ (.cons ⟨_, rfl⟩ (.cons ⟨_, rfl⟩ (.cons ⟨_, rfl⟩ (.cons ⟨_, rfl⟩ (.cons ⟨_, rfl⟩ (.cons ⟨_, rfl⟩ (.cons ⟨_, rfl⟩ (.cons ⟨_, rfl⟩ .nil))))))))))))
  case S => exact fun K H xs a _ hwi hask hx => My.case_S K H xs a hwi hask hx
