/- Of what the proof is made: 5 texts, one behind the other. -/
import Derived.Test.YtemjckkocljgnaaGreatDoorM9
import Derived.Test.YtemjckkocljgnaaGreatDoorM2
import Derived.Test.YtemjckkocljgnaaGreatDoorM10
import Derived.Test.YtemjckkocljgnaaGreatDoorM6
import Derived.Deep.RegionHeld3
namespace Go.Proofs.YtemjckkocljgnaaGreatDoor
open Go.RowKit
structure Grp where
 cnt:Int
 fst:Int
 syms:List Int
 val:Value
def tcells:List Grp→List Value
 | []=>[]
 | g :: l=>.int .i64 g.cnt :: .int .i64 g.fst :: g.val :: tcells l
theorem tcells_len (l:List Grp):(tcells l).length=l.length*3:=by
 induction l with
 | nil=>rfl
 | cons p l ih=>simp only [tcells,List.length_cons,ih]; omega
theorem tcells_take (l:List Grp) (k:Nat):tcells (l.take k)=(tcells l).take (k*3):=by
 induction l generalizing k with
 | nil=>simp [tcells]
 | cons p l ih=>
  cases k with
  | zero=>simp [tcells]
  | succ k=>rw [show (k+1)*3=k*3+1+1+1 by omega]; simp [tcells,ih]
theorem tcells_drop (l:List Grp) (k:Nat):tcells (l.drop k)=(tcells l).drop (k*3):=by
 induction l generalizing k with
 | nil=>simp [tcells]
 | cons p l ih=>
  cases k with
  | zero=>simp
  | succ k=>rw [show (k+1)*3=k*3+1+1+1 by omega]; simp [tcells,ih]
def g0:Grp:=⟨0,0,[],.slice none 0 0⟩
theorem tcells_get (l:List Grp) (i:Nat) (h:i<l.length):(tcells l)[i*3]?=some (.int .i64 (l.getD i g0).cnt)∧(tcells l)[i*3+1]?=some (.int .i64 (l.getD i g0).fst)∧(tcells l)[i*3+2]?=some (l.getD i g0).val:=by
 induction l generalizing i with
 | nil=>simp at h
 | cons p l ih=>
  cases i with
  | zero=>simp [tcells]
  | succ i=>
   have:=ih i (by simpa using h)
   rw [show (i+1)*3=i*3+1+1+1 by omega]
   simpa [tcells] using this
def Trow (t:TypeId) (w:World) (base:Nat) (v:Value) (l:List Grp):Prop:=w.ownsRow base t 3 v l.length (tcells l)
def Syms (w:World) (ob:Nat) (l:List Grp):Prop:=∀ g∈l,IOwn w ob g.val g.syms
theorem Trow.form {t:TypeId} {w:World} {base:Nat} {v:Value} {l:List Grp} (h:Trow t w base v l):∃ a cap,v = .slice a l.length cap:=by
 rcases h.2 with ⟨e,h0⟩ | ⟨g,cap,_,e,_⟩
 ·
  exact ⟨none,0,by rw [e,h0]⟩
 ·
  exact ⟨_,cap,e⟩
theorem Trow.formN {t:TypeId} {w:World} {base n:Nat} {v:Value} {l:List Grp} (hn:l.length=n) (h:Trow t w base v l):∃ a cap,v = .slice a n cap:=by
 subst hn; exact h.form
theorem Trow.somes {t:TypeId} {w:World} {base cap n:Nat} {a:Option Addr} {l:List Grp} (h:Trow t w base (.slice a n cap) l) (hl:0<l.length):∃ g,a=some ⟨g,0,none⟩:=by
 rcases h.2 with ⟨_,e⟩ | ⟨g,cap',cur,e,_⟩
 ·
  omega
 ·
  simp only [Value.slice.injEq] at e
  exact ⟨g,e.1⟩
theorem Trow.cap {t:TypeId} {w:World} {base cap n:Nat} {a:Option Addr} {l:List Grp} (hn:l.length=n) (h:Trow t w base (.slice a n cap) l):n≤cap∧cap≤maxLen:=by
 rcases h.2 with ⟨e,_⟩ | ⟨g,cap',cur,e,_,_,h1,h2,_⟩
 ·
  simp only [Value.slice.injEq] at e; unfold maxLen; omega
 ·
  simp only [Value.slice.injEq] at e; omega
theorem Trow.at {t:TypeId} {w:World} {base g cap n:Nat} {l:List Grp} (hn:l.length=n) (h:Trow t w base (.slice (some ⟨g,0,none⟩) n cap) l) (j:Nat) (hj:j<n) :
  w.cell? ⟨g,j*3,none⟩=some (.int .i64 (l.getD j g0).cnt)∧w.cell? ⟨g,j*3+1,none⟩=some (.int .i64 (l.getD j g0).fst)∧w.cell? ⟨g,j*3+2,none⟩=some (l.getD j g0).val∧base≤g∧g<w.heap.size:=by
 subst hn
 have hp:=tcells_get l j hj
 exact ⟨(World.ownsRow.cellAt h (j*3) (by omega)).trans hp.1,(World.ownsRow.cellAt h (j*3+1) (by omega)).trans hp.2.1,(World.ownsRow.cellAt h (j*3+2) (by omega)).trans hp.2.2,World.ownsRow.lt h g rfl⟩
theorem ownsRow_later {w w':World} {base B size n:Nat} {e:TypeId} {v:Value} {xs:List Value} (h:w.ownsRow base e size v n xs) (hb:Below B w w') (hB:w.heap.size≤B):w'.ownsRow base e size v n xs:=by
 refine ⟨h.1,?_⟩
 rcases h.2 with hn | ⟨g,cap,cur,rfl,hbg,hgg,rest⟩
 ·
  exact .inl hn
 ·
  refine .inr ⟨g,cap,cur,rfl,hbg,?_,rest⟩
  have hg:=(Array.getElem?_eq_some_iff.1 hgg).1
  rw [hb.block g (by omega)]
  exact hgg
theorem Trow.later {t:TypeId} {w w':World} {base B:Nat} {v:Value} {l:List Grp} (h:Trow t w base v l) (hb:Below B w w') (hB:w.heap.size≤B):Trow t w' base v l:=ownsRow_later h hb hB
theorem Syms.later {w w':World} {ob B:Nat} {l:List Grp} (h:Syms w ob l) (hb:Below B w w') (hB:w.heap.size≤B):Syms w' ob l:=fun g hg=>(h g hg).later hb hB
theorem Trow.news {t:TypeId} {w:World} {base g cap n:Nat} {l:List Grp} (hn:l.length=n) (h:Trow t w base (.slice (some ⟨g,0,none⟩) n cap) l) (i k o:Nat) (ho:o=i*3) (hik:i+k≤n) :
  ∀ j u,(tcells ((l.drop i).take k))[j]?=some u→w.cell? ((⟨g,o,none⟩:Addr).add j)=some u:=by
 intro j u hj
 subst ho hn
 have hadd:(⟨g,i*3,none⟩:Addr).add j=⟨g,i*3+j,none⟩:=by unfold Addr.add; split <;> simp_all
 have hjl:=(List.getElem?_eq_some_iff.1 hj).1
 rw [tcells_len,List.length_take,List.length_drop] at hjl
 have hmin:min k (l.length-i)=k:=by omega
 rw [hmin] at hjl
 rw [hadd,World.ownsRow.cellAt h (i*3+j) (by omega),←hj,tcells_take,tcells_drop,List.getElem?_take,if_pos hjl,List.getElem?_drop]
end Go.Proofs.YtemjckkocljgnaaGreatDoor
namespace Go.Proofs.YtemjckkocljgnaaGreatDoor.Lit
open Go.Proofs.YtemjckkocljgnaaGreatDoor
open Go.RowKit Corb
theorem book_new (w:World) (vl vc vs:Value) (m:Nat→Nat) (t:TypeId):Book (w.alloc (.cells (bookCells vl vc vs m).toArray t)) w.heap.size vl vc vs m:=by
 refine Book.of_range ?_ (fun o=>frozen_new w _ _ o) (by simp)
 intro j v hv
 rw [Nat.zero_add,cell_of_row _ _ _ _ t (0,0) (heap_alloc_new w _)]
 simpa using hv
end Go.Proofs.YtemjckkocljgnaaGreatDoor.Lit
namespace Go.Proofs.YtemjckkocljgnaaGreatDoor.Dist
open Go.Proofs.YtemjckkocljgnaaGreatDoor
open Go.RowKit Corb
theorem book_new (w:World) (vl vc vs:Value) (m:Nat→Nat) (t:TypeId):Book (w.alloc (.cells (bookCells vl vc vs m).toArray t)) w.heap.size vl vc vs m:=by
 refine Book.of_range ?_ (fun o=>frozen_new w _ _ o) (by simp)
 intro j v hv
 rw [Nat.zero_add,cell_of_row _ _ _ _ t (0,0) (heap_alloc_new w _)]
 simpa using hv
end Go.Proofs.YtemjckkocljgnaaGreatDoor.Dist
namespace Go.Proofs.YtemjckkocljgnaaGreatDoor.Len
open Go.Proofs.YtemjckkocljgnaaGreatDoor
open Go.RowKit Corb
theorem book_new (w:World) (vl vc vs:Value) (m:Nat→Nat) (t:TypeId):Book (w.alloc (.cells (bookCells vl vc vs m).toArray t)) w.heap.size vl vc vs m:=by
 refine Book.of_range ?_ (fun o=>frozen_new w _ _ o) (by simp)
 intro j v hv
 rw [Nat.zero_add,cell_of_row _ _ _ _ t (0,0) (heap_alloc_new w _)]
 simpa using hv
end Go.Proofs.YtemjckkocljgnaaGreatDoor.Len
namespace Go.Proofs.YtemjckkocljgnaaGreatDoor
open Go.RowKit Corb
theorem book_new (w:World) (vl vc vs:Value) (m:Nat→Nat) (t:TypeId):Book (w.alloc (.cells (bookCells vl vc vs m).toArray t)) w.heap.size vl vc vs m:=by
 refine Book.of_range ?_ (fun o=>frozen_new w _ _ o) (by simp)
 intro j v hv
 rw [Nat.zero_add,cell_of_row _ _ _ _ t (0,0) (heap_alloc_new w _)]
 simpa using hv
end Go.Proofs.YtemjckkocljgnaaGreatDoor
