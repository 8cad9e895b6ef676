/- Of what the proof is made: 24 texts, one behind the other. -/
import Derived.Test.YtkdlcomfpffhhaaGreatDoorM8
import Derived.Test.YtkdlcomfpffhhaaGreatDoorM7
import Derived.Test.YtkdlcomfpffhhaaGreatDoorM1
import Derived.Test.YtkdlcomfpffhhaaGreatDoorM2
import Derived.Deep.CutRange
import Derived.Laws.IdiomStrings
import Derived.Laws.OwnMore
import Derived.Test.YtkdlcomfpffhhaaGreatDoorM4
import Derived.Test.YtkdlcomfpffhhaaGreatDoorM3
import Derived.Deep.RegionHeld3
import Derived.Deep.DrawnRows
namespace Go.Proofs.YtkdlcomfpffhhaaGreatDoor
open Go.RowKit Corb
def Bys (w:World) (b:Nat) (v:Value) (l:List UInt8):Prop:=w.ownsRow (b+1) 5 1 v l.length (bcells l)
theorem Bys.form {w:World} {b:Nat} {v:Value} {l:List UInt8} (h:Bys w b v l):∃ a cap,v = .slice a l.length cap:=by
 rcases h.2 with ⟨e,h0⟩ | ⟨g,cap,_,e,_⟩
 ·
  exact ⟨none,0,by rw [e,h0]⟩
 ·
  exact ⟨_,cap,e⟩
theorem Bys.set {w:World} {b o:Nat} {v:Value} {l:List UInt8} (h:Bys w b v l) (u:Value):Bys (w.setCell ⟨b,o,none⟩ u) b v l:=
 ownsRow_setCell_below h (a:=⟨b,o,none⟩) (Nat.lt_succ_self b) u
theorem Bys.drew {w:World} {b:Nat} {v:Value} {l:List UInt8} (h:Bys w b v l):Bys w.drew b v l:=h
theorem last_bd (V m:Nat) (hV:V<p2 m):V/p2 (8*(m/8))<p2 (m%8):=by
 have:=high_lt V m (m/8) hV (by omega)
 rw [show m-8*(m/8)=m%8 by omega] at this
 exact this
theorem byte_val (k:Nat) (h:k<256):(UInt8.ofNat k).toNat=k:=by
 have:k%256=k:=Nat.mod_eq_of_lt h
 simp [this]
theorem put_bits (n k:Nat):n%p2 (k+1)=n%p2 k+n/p2 k%2*p2 k:=low_bits n k
theorem put_val (V n k m:Nat):V+n%p2 (k+1)*p2 m=V+n%p2 k*p2 m+n/p2 k%2*p2 (m+k):=by
 rw [put_bits,Nat.add_mul,Nat.mul_assoc,show p2 k*p2 m=p2 (m+k) by unfold p2; rw [←Nat.pow_add,Nat.add_comm]]
 omega
def natP (l:List (Int×Int)):List (Nat×Nat):=l.map (fun p=>(p.1.toNat,p.2.toNat))
def valP (l:List (Int×Int)):Nat×Nat:=putV (0,0) (natP l)
def textP (l:List (Int×Int)):List UInt8:=leS (((valP l).2+7)/8) (valP l).1
def putS (l:List (Int×Int)):List UInt8:=if lOk l=true then textP l else []
theorem putS_yes {l:List (Int×Int)} (h:lOk l=true):putS l=textP l:=if_pos h
theorem putS_no {l:List (Int×Int)} (h:lOk l=false):putS l=[]:=if_neg (by simp [h])
theorem valP_take (l:List (Int×Int)) (k:Nat) (h:k<l.length):valP (l.take (k+1)) =
  ((valP (l.take k)).1+(l.getD k (0,0)).1.toNat*p2 (valP (l.take k)).2,(valP (l.take k)).2+(l.getD k (0,0)).2.toNat):=by
 rw [List.take_succ_eq_append_getElem h,valP,natP,List.map_append,putV_append]
 simp only [List.map_cons,List.map_nil,putV]
 have e:l.getD k (0,0)=l[k]:=by simp [List.getD,h]
 rw [e]
 rfl
theorem valP_bits (l:List (Int×Int)) (h:allOk l=true):((valP l).2:Int)=sumBits l:=by
 have key:∀ (m:List (Int×Int)) (s:Nat×Nat),allOk m=true→((putV s (natP m)).2:Int)=(s.2:Int)+sumBits m:=by
  intro m
  induction m with
  | nil=>intro s _; simp [natP,putV,sumBits]
  | cons p m ih=>
   intro s hm
   simp only [allOk,List.all_cons,Bool.and_eq_true] at hm
   have hp:=pOk_true.1 hm.1
   have:=ih (s.1+p.1.toNat*2 ^ s.2,s.2+p.2.toNat) hm.2
   simp only [natP,List.map_cons,putV] at this ⊢
   rw [this]
   simp only [sumBits,List.map_cons,List.sum_cons]
   omega
 have:=key l (0,0) h
 simpa [valP] using this
theorem valP_lt (l:List (Int×Int)) (h:allOk l=true):(valP l).1<p2 (valP l).2:=by
 have key:∀ (m:List (Int×Int)) (s:Nat×Nat),s.1<p2 s.2→allOk m=true→(putV s (natP m)).1<p2 (putV s (natP m)).2:=by
  intro m
  induction m with
  | nil=>intro s hs _; exact hs
  | cons p m ih=>
   intro s hs hm
   simp only [allOk,List.all_cons,Bool.and_eq_true] at hm
   have hp:=pOk_true.1 hm.1
   have hn:p.1.toNat<p2 p.2.toNat:=by omega
   exact ih _ (piece_lt s.1 s.2 p.1.toNat p.2.toNat hs hn) hm.2
 exact key l (0,0) (by decide) h
theorem ret_str {a b:List UInt8} (h:a=b):Ending.returned (.string ⟨a.toArray⟩) = .returned (.string ⟨b.toArray⟩):=by rw [h]
theorem conv_bytes {w:World} {b:Nat} {v:Value} {l:List UInt8} (h:Bys w b v l) :
  (convert 22 9 v).run Tryz.prog w = .ok (.string ⟨l.toArray⟩) w:=by
 rcases h.2 with ⟨e,h0⟩ | ⟨g,cap,_,e,_⟩
 ·
  subst e
  have hl:l=[]:=List.eq_nil_of_length_eq_zero h0
  subst hl
  rw [run_convert_bytes_string w _ _ _ none 0 0 Tryz.underlying22 Tryz.underlying5 Tryz.underlying9]
  rfl
 ·
  subst e
  exact run_convert_bytes_back w _ _ _ ⟨g,0,none⟩ cap l Tryz.underlying22 Tryz.underlying5 Tryz.underlying9 (fun j hj=>by
   have:=h.cells (g:=g) rfl j (.int .u8 (l[j].toNat:Int)) (by simp [bcells,hj])
   exact this)
theorem PRow.below {w w':World} {a:Option Addr} {l:List (Int×Int)} {B:Nat} (h:PRow w a l) (hB:w.heap.size≤B) (hb:Below B w w'):PRow w' a l:=h.later (hb.mono hB)
theorem Two.kept {w w':World} {b:Nat} {v0 v1:Value} (h:Two w b v0 v1) (hb:Below (b+1) w w'):Two w' b v0 v1:=by
 obtain ⟨c0,c1,f0,f1,hlt⟩:=h
 have hs:=Nat.lt_succ_self b
 exact ⟨(hb.cell (p:=⟨b,0,none⟩) hs).trans c0,(hb.cell (p:=⟨b,1,none⟩) hs).trans c1,(hb.frozen (p:=⟨b,0,none⟩) hs).trans f0,(hb.frozen (p:=⟨b,1,none⟩) hs).trans f1,Nat.lt_of_lt_of_le hlt hb.size⟩
def WOut (w:World) (b V m:Nat):Prop:=
 V<p2 m∧∃ v,Two w b v (.int .i64 (m:Int))∧Bys w b v (leS ((m+7)/8) V)
theorem push_two {w W2 WA w':World} {b:Nat} {v v' v1:Value} {l:List UInt8} {x:UInt8} (T2:Two W2 b v v1) (Y2:Bys W2 b v l) (B2:Below b w W2)
  (hWA:Below (b+1) W2 WA) (hown:w'.ownsRow (b+1) 5 1 v' (l.length+1) (bcells l++[.int .u8 (x.toNat:Int)])) (hgrow:WA.grownBy w' v.ownBlock) :
  (∃ g cap,v' = .slice (some ⟨g,0,none⟩) (l.length+1) cap)∧Two w' b v v1∧Bys w' b v' (l++[x])∧Below b w w':=by
 have hlt:=T2.2.2.2.2
 have hlt2:=Nat.lt_of_lt_of_le hlt hWA.size
 have hblk:∀ k,v.ownBlock=some k→b+1≤k:=fun k hk=>(Y2.lt k hk).1
 have hb:Below (b+1) W2 w':=hWA.grown hgrow (by omega) hblk
 refine ⟨?_,T2.kept hb,?_,B2.trans (hb.mono (by omega))⟩
 ·
  rcases hown.2 with ⟨_,h0⟩ | ⟨g,cap,_,e,_⟩
  ·
   omega
  ·
   exact ⟨g,cap,e⟩
 ·
  show w'.ownsRow (b+1) 5 1 v' (l++[x]).length (bcells (l++[x]))
  simpa [bcells] using hown
theorem Bys.at {w:World} {b g cap j:Nat} {l:List UInt8} (h:Bys w b (.slice (some ⟨g,0,none⟩) l.length cap) l) (hj:j<l.length) :
  w.cell? ⟨g,j,none⟩=some (.int .u8 ((l.getD j 0).toNat:Int))∧w.frozen? ⟨g,j,none⟩=false∧b<g:=by
 refine ⟨?_,World.ownsRow.frozenAt h j,(World.ownsRow.lt h g rfl).1⟩
 rw [World.ownsRow.cellAt h j (by omega)]
 simp [bcells,hj,List.getD]
theorem Bys.put {w:World} {b g cap j:Nat} {l:List UInt8} (h:Bys w b (.slice (some ⟨g,0,none⟩) l.length cap) l) (x:UInt8) :
  Bys (w.setCell ⟨g,j,none⟩ (.int .u8 (x.toNat:Int))) b (.slice (some ⟨g,0,none⟩) l.length cap) (l.set j x):=by
 have:=World.ownsRow.stored h j (.int .u8 (x.toNat:Int))
 show World.ownsRow _ _ _ _ _ (l.set j x).length (bcells (l.set j x))
 rw [List.length_set]
 have e:bcells (l.set j x)=(bcells l).set j (.int .u8 (x.toNat:Int)):=by simp [bcells,List.map_set]
 rw [e]
 exact this.1
theorem wset (V m x:Nat) (hV:V<p2 m) (hx:x≤1) :
  V+x*p2 m<p2 (m+1)∧leS ((m+1+7)/8) (V+x*p2 m)=(leS (m/8+1) V).set (m/8) (UInt8.ofNat (V/p2 (8*(m/8))+x*p2 (m%8))):=by
 refine ⟨add_lt V x m hV hx,?_⟩
 rw [show (m+1+7)/8=m/8+1 by omega]
 exact leS_set (m/8) V x m rfl hx hV
theorem wpad (V m:Nat) (hV:V<p2 m) (hr:m%8=0):leS ((m+7)/8) V++[0]=leS (m/8+1) V:=by
 rw [show (m+7)/8=m/8 by omega]
 exact (leS_pad (m/8) V (by rw [show 8*(m/8)=m by omega]; exact hV)).symm
theorem wsame (V m:Nat) (hr:m%8≠0):leS ((m+7)/8) V=leS (m/8+1) V:=by
 rw [show (m+7)/8=m/8+1 by omega]
theorem wbyte (V m:Nat) (hV:V<p2 m):((leS (m/8+1) V).getD (m/8) 0).toNat=V/p2 (8*(m/8)):=by
 rw [leS_get _ _ _ (by omega)]
 have h1:=last_bd V m hV
 have h2:=p2_le (m%8) 7 (by omega)
 have h3:p2 7=128:=rfl
 have e:V/2 ^ (8*(m/8))%256=V/p2 (8*(m/8)):=Nat.mod_eq_of_lt (by show V/p2 (8*(m/8))<256; omega)
 rw [e,byte_val _ (by omega)]
def Box (w:World) (P:Nat) (x y:Int):Prop:=w.heap[P]?=some (.cells #[.int .i64 x,.int .i64 y] 173)
theorem box_new (w:World) (x y:Int):Box (w.alloc (.cells #[.int .i64 x,.int .i64 y] 173)) w.heap.size x y:=by
 show (w.heap.push _)[w.heap.size]?=_
 simp
theorem Box.cells {w:World} {P:Nat} {x y:Int} (h:Box w P x y):w.cell? ⟨P,0,none⟩=some (.int .i64 x)∧w.cell? ⟨P,1,none⟩=some (.int .i64 y)∧P<w.heap.size:=by
 refine ⟨by simp [World.cell?,show w.heap[P]?=_ from h],by simp [World.cell?,show w.heap[P]?=_ from h],?_⟩
 have h':w.heap[P]?=some _:=h
 exact (Array.getElem?_eq_some_iff.1 h').1
theorem Box.ne {w:World} {P b:Nat} {x y:Int} {v:Value} {l:List UInt8} (h:Box w P x y) (hy:Bys w b v l) (k:Nat) (hk:v.ownBlock=some k):k≠P:=by
 rintro rfl
 rcases hy.2 with ⟨e,_⟩ | ⟨g,cap,cur,e,_,hg,_⟩
 ·
  subst e; simp [Value.ownBlock] at hk
 ·
  subst e
  simp only [Value.ownBlock,Option.some.injEq] at hk
  subst hk
  have h':w.heap[g]?=some (.cells #[.int .i64 x,.int .i64 y] 173):=h
  rw [h'] at hg
  simp at hg
theorem Box.set {w:World} {P b o:Nat} {x y:Int} (h:Box w P x y) (hb:b≠P) (u:Value):Box (w.setCell ⟨b,o,none⟩ u) P x y:=by
 show (w.setCell ⟨b,o,none⟩ u).heap[P]?=_
 rw [Below.heap_setCell w ⟨b,o,none⟩ u P (fun e=>hb e.symm)]
 exact h
theorem Box.drew {w:World} {P:Nat} {x y:Int} (h:Box w P x y):Box w.drew P x y:=h
theorem Box.alloc {w:World} {P:Nat} {x y:Int} (h:Box w P x y) (o:Obj):Box (w.alloc o) P x y:=by
 show (w.alloc o).heap[P]?=_
 rw [Below.heap_alloc w o P h.cells.2.2]
 exact h
theorem Box.grown {w w':World} {P b:Nat} {x y:Int} {v:Value} {l:List UInt8} (h:Box w P x y) (hy:Bys w b v l) (hg:w.grownBy w' v.ownBlock):Box w' P x y:=by
 show w'.heap[P]?=_
 rw [hg.block P h.cells.2.2 (fun e=>h.ne hy P e.symm rfl)]
 exact h
def Keep5 (b:Nat) (w w':World):Prop:=w.heap.size≤w'.heap.size∧∀ k,k<w.heap.size→k≠b→(∀ cur fr,w.heap[k]?≠some (.cells cur 5 fr))→w'.heap[k]?=w.heap[k]?
theorem Keep5.refl (b:Nat) (w:World):Keep5 b w w:=⟨Nat.le_refl _,fun _ _ _ _=>rfl⟩
theorem Keep5.trans {b:Nat} {w w1 w2:World} (h:Keep5 b w w1) (k:Keep5 b w1 w2):Keep5 b w w2:=
 ⟨Nat.le_trans h.1 k.1,fun j hj hb ht=>by
  have e:=h.2 j hj hb ht
  rw [k.2 j (Nat.lt_of_lt_of_le hj h.1) hb (fun cur fr=>by rw [e]; exact ht cur fr),e]⟩
theorem Keep5.drew {b:Nat} {w w':World} (h:Keep5 b w w'):Keep5 b w w'.drew:=h
theorem Keep5.alloc {b:Nat} {w w':World} (h:Keep5 b w w') (o:Obj):Keep5 b w (w'.alloc o):=
 h.trans ⟨by simp,fun j hj _ _=>Below.heap_alloc w' o j hj⟩
theorem Keep5.set {b o:Nat} {w w':World} (h:Keep5 b w w') (u:Value):Keep5 b w (w'.setCell ⟨b,o,none⟩ u):=
 h.trans ⟨by simp,fun j _ hb _=>Below.heap_setCell w' ⟨b,o,none⟩ u j hb⟩
theorem Keep5.setRow {b c g j cap:Nat} {w w':World} {l:List UInt8} (h:Keep5 b w w') (hy:Bys w' c (.slice (some ⟨g,0,none⟩) l.length cap) l) (u:Value):Keep5 b w (w'.setCell ⟨g,j,none⟩ u):=by
 refine h.trans ⟨by simp,fun k _ _ ht=>?_⟩
 by_cases e:k=g
 ·
  subst e
  rcases hy.2 with ⟨e,_⟩ | ⟨g',cap',cur,e,_,hg,_⟩
  ·
   simp at e
  ·
   simp only [Value.slice.injEq,Option.some.injEq,Addr.mk.injEq,and_true,true_and] at e
   obtain ⟨rfl,_⟩:=e
   exact absurd hg (ht cur (0,0))
 ·
  exact Below.heap_setCell w' ⟨g,j,none⟩ u k e
theorem Keep5.grown {b c:Nat} {w w' w'':World} {v:Value} {l:List UInt8} (h:Keep5 b w w') (hy:Bys w' c v l) (hg:w'.grownBy w'' v.ownBlock):Keep5 b w w'':=by
 refine h.trans ⟨hg.size,fun k hk _ ht=>?_⟩
 refine hg.block k hk (fun e=>?_)
 rcases hy.2 with ⟨e',_⟩ | ⟨g',cap',cur,e',_,hg',_⟩
 ·
  subst e'; simp [Value.ownBlock] at e
 ·
  subst e'
  simp only [Value.ownBlock,Option.some.injEq] at e
  subst e
  exact ht cur (0,0) hg'
theorem u8_or_join (B X r:Nat) (hB:B<p2 r) (hr:r<8) (hX:X=0∨X=p2 r):bits .or .u8 (B:Int) (X:Int)=((B+X:Nat):Int):=by
 have h7:=p2_le r 7 (by omega)
 have h3:p2 7=128:=rfl
 rw [u8_or_nat B X (by omega) (by omega)]
 congr 1
 rw [Nat.or_comm]
 rcases hX with rfl | rfl
 ·
  simp
 ·
  rw [nat_join r (p2 r) B (by unfold p2; simp) hB]; omega
theorem Two.other {w:World} {b g o:Nat} {v0 v1:Value} (h:Two w b v0 v1) (hg:g≠b) (u:Value):Two (w.setCell ⟨g,o,none⟩ u) b v0 v1:=by
 obtain ⟨c0,c1,f0,f1,hb⟩:=h
 refine ⟨?_,?_,by simpa using f0,by simpa using f1,by simpa using hb⟩
 ·
  rw [World.cell?_setCell_other _ _ _ _ (by simp only [ne_eq,Addr.mk.injEq]; omega)]; exact c0
 ·
  rw [World.cell?_setCell_other _ _ _ _ (by simp only [ne_eq,Addr.mk.injEq]; omega)]; exact c1
theorem wout_step {w wr:World} {b g cap V1 m1 x L X:Nat} {P:Nat} {p q:Int} (htr:Two wr b (.slice (some ⟨g,0,none⟩) (leS (m1/8+1) V1).length cap) (.int .i64 (m1:Int)))
  (hput:Bys (wr.setCell ⟨g,m1/8,none⟩ (.int .u8 ((UInt8.ofNat (L+X)).toNat:Int))) b (.slice (some ⟨g,0,none⟩) (leS (m1/8+1) V1).length cap) ((leS (m1/8+1) V1).set (m1/8) (UInt8.ofNat (L+X))))
  (hw1:V1+x*p2 m1<p2 (m1+1)) (hw2:leS ((m1+1+7)/8) (V1+x*p2 m1)=(leS (m1/8+1) V1).set (m1/8) (UInt8.ofNat (L+X)))
  (hbv:(UInt8.ofNat (L+X)).toNat=L+X) (hgb:b<g) (hgP:g≠P) (hPb:P≠b) (hbox:Box wr P p q) (hbel:Below b w wr) (hby0:Bys wr b (.slice (some ⟨g,0,none⟩) (leS (m1/8+1) V1).length cap) (leS (m1/8+1) V1)) (hkp:Keep5 b w wr) :
  WOut ((wr.setCell ⟨g,m1/8,none⟩ (.int .u8 ((L:Int)+(X:Int)))).setCell ⟨b,1,none⟩ (.int .i64 ((m1:Int)+1))).drew b (V1+x*p2 m1) (m1+1) ∧
  Box ((wr.setCell ⟨g,m1/8,none⟩ (.int .u8 ((L:Int)+(X:Int)))).setCell ⟨b,1,none⟩ (.int .i64 ((m1:Int)+1))).drew P p q ∧
  Below b w ((wr.setCell ⟨g,m1/8,none⟩ (.int .u8 ((L:Int)+(X:Int)))).setCell ⟨b,1,none⟩ (.int .i64 ((m1:Int)+1))).drew ∧
  Keep5 b w ((wr.setCell ⟨g,m1/8,none⟩ (.int .u8 ((L:Int)+(X:Int)))).setCell ⟨b,1,none⟩ (.int .i64 ((m1:Int)+1))).drew:=by
 have e:((UInt8.ofNat (L+X)).toNat:Int)=(L:Int)+(X:Int):=by rw [hbv]; omega
 rw [e] at hput
 refine ⟨⟨hw1,.slice (some ⟨g,0,none⟩) (leS (m1/8+1) V1).length cap,?_,?_⟩,?_,?_,?_⟩
 ·
  exact ((htr.other (by omega) _).set1 _).drew
 ·
  rw [hw2]
  exact (hput.set _).drew
 ·
  exact ((hbox.set (by omega) _).set (by omega) _).drew
 ·
  exact (below_set (below_set hbel (by omega) _) (Nat.le_refl _) _).drew
 ·
  exact ((hkp.setRow hby0 _).set _).drew
set_option maxHeartbeats 6400000 in
theorem pass_any (b V m:Nat) (num bits:Int) (w:World) (h:WOut w b V m) (hp:pOk num bits=true) (hm:m≤100000) :
  Calls Tryz.prog 329 #[.pointer (some ⟨b,0,none⟩),.agg #[.int .i64 num,.int .i64 bits]] w fun e w'=>e = .returned (.int .i64 num) ∧
   WOut w' b (V+num.toNat*p2 m) (m+bits.toNat)∧Below b w w'∧Keep5 b w w':=by
 obtain ⟨⟨b0,b1⟩,n0,n1⟩:=pOk_true.1 hp
 have hq:=(pow_bd bits b1).2
 obtain ⟨n,rfl⟩:=Int.eq_ofNat_of_zero_le n0
 obtain ⟨c,rfl⟩:=Int.eq_ofNat_of_zero_le b0
 rw [Int.toNat_natCast,Int.toNat_natCast]
 rw [Int.toNat_natCast] at n1 hq
 have hnmod:Hid (n%p2 c=n):=Nat.mod_eq_of_lt (by omega)
 have hn2:(n:Int)<65536:=by omega
 obtain ⟨i0,hi,hz0,hz1,hz2⟩:=info_parts Tryz.infoU8
 have hbw:b<w.heap.size:=by obtain ⟨_,v,ht,_⟩:=h; exact ht.2.2.2.2
 have hbox0:=box_new w (n:Int) (c:Int)
 have h0:WOut (w.alloc (.cells #[.int .i64 (n:Int),.int .i64 (c:Int)] 173)) b V m:=by
  obtain ⟨hV,v,ht,hy⟩:=h
  exact ⟨hV,v,ht.kept ((Below.refl _ _).alloc (by omega) _),World.ownsRow.alloc hy _⟩
 have hbel0:Below b w (w.alloc (.cells #[.int .i64 (n:Int),.int .i64 (c:Int)] 173)):=(Below.refl _ _).alloc (by omega) _
 clear n1 hq h hp
 go_enter Tryz.func329,Tryz.ntmps329
 go_wp2_with fail
 go_loopw [5,8] (fun _ i wr=>∃ k:Nat,k≤c∧i = .int .i64 k∧WOut wr b (V+n%p2 k*p2 m) (m+k)∧Box wr w.heap.size n c∧Below b w wr∧Keep5 b w wr) (fun _ i _=>c-(intOf i).toNat)
 case atStart=>exact ⟨0,Nat.zero_le _,rfl,by simpa [p2,Nat.mod_one] using h0,hbox0,hbel0,(Keep5.refl _ _).alloc _⟩
 case round=>
  obtain ⟨k,hk,rfl,hout,hbox,hbel,hkp⟩:=hrel
  clear h0 hbox0 hbel0
  obtain ⟨bc0,bc1,bclt⟩:=hbox.cells
  by_cases hlt:k<c
  ·
   have hval:=hide (put_val V n k m)
   have hnk:n/p2 k≤n:=Nat.div_le_self _ _
   have Hsh:Hid ((n:Int)/2 ^ k=((n/p2 k:Nat):Int)):=(Int.natCast_ediv n (2 ^ k)).symm
   obtain ⟨hV,v,htr,hby⟩:=hout
   obtain ⟨sa,scap,rfl⟩:=hby.form
   have hlb:=last_bd (V+n%p2 k*p2 m) (m+k) hV
   generalize V+n%p2 k*p2 m=V1 at *
   generalize hm1:m+k=m1 at *
   have hx:n/p2 k%2≤1:=by omega
   have hnkI:((n/p2 k:Nat):Int)<65536:=by omega
   have hone:=i64_and_one ((n/p2 k:Nat):Int) (Int.natCast_nonneg _) (Int.lt_trans hnkI (by omega))
   have hxI:((n/p2 k:Nat):Int)%2=((n/p2 k%2:Nat):Int):=by omega
   rw [hxI] at hone
   have hp7:p2 (m1%8)≤128:=p2_le (m1%8) 7 (by omega)
   have hXle:n/p2 k%2*p2 (m1%8)≤1*p2 (m1%8):=Nat.mul_le_mul_right _ hx
   have hmul:((n/p2 k%2:Nat):Int)*(2:Int) ^ (m1%8)=((n/p2 k%2*p2 (m1%8):Nat):Int):=by rw [Int.natCast_mul,p2_int]
   have hX01:n/p2 k%2*p2 (m1%8)=0∨n/p2 k%2*p2 (m1%8)=p2 (m1%8):=by
    rcases (show n/p2 k%2=0∨n/p2 k%2=1 by omega) with e | e <;> rw [e] <;> simp
   obtain ⟨hw1,hw2⟩:=wset V1 m1 (n/p2 k%2) hV hx
   have hwb:=wbyte V1 m1 hV
   have hor:=u8_or_join (V1/p2 (8*(m1/8))) (n/p2 k%2*p2 (m1%8)) (m1%8) hlb (by omega) hX01
   have hpad:=hide (wpad V1 m1 hV)
   have hsame:=hide (wsame V1 m1)
   have hlen:(leS (m1/8+1) V1).length=m1/8+1:=leS_len _ _
   have hlen0:(leS ((m1+7)/8) V1).length=(m1+7)/8:=leS_len _ _
   have hm1le:m1≤100016:=by omega
   have hb256:V1/p2 (8*(m1/8))+n/p2 k%2*p2 (m1%8)<256:=by omega
   have hbv:=byte_val _ hb256
   have hkc:(k:Int)<(c:Int):=by omega
   have hk16:(k:Int)≤16:=by omega
   have hr8:(m1:Int)%8<8:=by omega
   have hm1I:(m1:Int)≤100016:=by omega
   have hXI:((n/p2 k%2*p2 (m1%8):Nat):Int)≤128:=by omega
   have hx1I:((n/p2 k%2:Nat):Int)≤1:=by omega
   have Hm1:=hide hm1
   have HK:=hide hk
   have Hlen:=hide hlen
   have Hlen0:=hide hlen0
   have Hm1le:=hide hm1le
   have Hw1:=hide hw1
   have Hw2:=hide hw2
   have Hwb:=hide hwb
   have Hbv:=hide hbv
   have hsh:=unhide Hsh
   clear Hsh hxI hX01 hlb hp7 hXle hw1 hw2 hwb hlen hlen0 hm1le hb256 hbv hnk hx hm1 hk hV hlt
   generalize n/p2 k=nk at *
   generalize nk%2=x at *
   generalize x*p2 (m1%8)=X at *
   generalize V1/p2 (8*(m1/8))=L at *
   have htr':=hide htr
   obtain ⟨k0,k1,f0,f1,hbw'⟩:=htr
   have hPb:w.heap.size≠b:=by omega
   by_cases hr:m1%8=0
   ·
    have hrI:((m1:Int)%8 == 0)=true:=by simp; omega
    have hpd:=hide (unhide hpad hr)
    clear hr hpad hsame hr8 hm
    have hl0:(leS ((m1+7)/8) V1).length≤20000:=by have:=unhide Hlen0; have:=unhide Hm1le; omega
    have Hl0:=hide hl0
    clear hl0
    go_wp2_with (at_builtin; refine wpList_append_own _ rfl _ _ 22 rfl (b+1) 5 i0 (.int .u8 0) 1 1 Tryz.underlying22 hi hz0 hz1 hz2 rfl (by decide) _ _ _ rfl (World.ownsRow.alloc hby _) ⟨wr.heap.size,0,none⟩ 1 1 [.int .u8 0] rfl rfl (by intro j u hj; match j,hj with | 0,hj=>simp at hj; subst hj; simp [Addr.add]) (by intro u hu; simp at hu; subst hu; rfl) (by have:=unhide Hl0; unfold maxLen; omega) (by have:=unhide Hl0; omega) (by simp; omega) ?_; intro v' w' hown hgrow hnil; clear hnil; have hbox':=(hbox.alloc _).grown (World.ownsRow.alloc hby _) hgrow; have hkp':=(hkp.alloc (.cells #[.int .u8 0] 5)).grown (World.ownsRow.alloc hby _) hgrow; obtain ⟨⟨g,cap,rfl⟩,T3,Y3,B3⟩:=push_two (x:=0) (unhide htr') hby hbel ((Below.refl _ _).alloc (by omega) _) hown hgrow; clear hown hgrow hby hbox hbel hkp htr' k0 k1 f0 f1; have T3':=hide T3; obtain ⟨k0,k1,f0,f1,hb3⟩:=T3)
    have hlenA:(leS ((m1+7)/8) V1).length+1=(leS (m1/8+1) V1).length:=by rw [←unhide hpd,List.length_append]; rfl
    rw [hlenA] at Y3 ⊢
    have T4:=(unhide T3').set0 (.slice (some ⟨g,0,none⟩) (leS (m1/8+1) V1).length cap)
    have hby:=Y3.set (o:=0) (.slice (some ⟨g,0,none⟩) (leS (m1/8+1) V1).length cap)
    rw [unhide hpd] at hby
    have hbox:=hbox'.set (b:=b) (o:=0) (by omega) (.slice (some ⟨g,0,none⟩) (leS (m1/8+1) V1).length cap)
    have hkp:=hkp'.set (o:=0) (.slice (some ⟨g,0,none⟩) (leS (m1/8+1) V1).length cap)
    have hbel:Below b w _:=below_set B3 (o:=0) (Nat.le_refl _) (.slice (some ⟨g,0,none⟩) (leS (m1/8+1) V1).length cap)
    clear Y3 B3 T3' k0 k1 f0 f1 hbox' hkp' bc0 bc1 bclt hlenA hb3
    generalize w'.setCell ⟨b,0,none⟩ (.slice (some ⟨g,0,none⟩) (leS (m1/8+1) V1).length cap)=wA at *
    have htr':=hide T4
    obtain ⟨k0,k1,f0,f1,hb3⟩:=T4
    obtain ⟨bc0,bc1,bclt⟩:=hbox.cells
    obtain ⟨gc,gf,gb⟩:=hby.at (j:=m1/8) (by have:=unhide Hlen; omega)
    rw [unhide Hwb] at gc
    have hput:=hide (hby.put (j:=m1/8) (UInt8.ofNat (L+X)))
    have hgP:g≠w.heap.size:=hbox.ne hby g rfl
    have Hby:=hide hby
    have Hkp:=hide hkp
    clear hkp
    have hlenN:=unhide Hlen
    rw [hlenN] at k0
    generalize hN:m1/8+1=N at k0
    have hidx:(m1:Int)/8<(N:Int):=by omega
    clear hN hlenN hby
    go_region
    all_goals
     go_wp2
     go_roundw
     case rel=>
      have hst:=wout_step (unhide htr') (unhide hput) (unhide Hw1) (unhide Hw2) (unhide Hbv) gb hgP hPb hbox hbel (unhide Hby) (unhide Hkp)
      refine ⟨k+1,by have:=unhide HK; omega,by go_num,?_,hst.2.1,hst.2.2.1,hst.2.2.2⟩
      rw [unhide hval,show m+(k+1)=m1+1 by have:=unhide Hm1; omega]
      exact hst.1
     case measure=>simp [intOf]; omega
   ·
    have hrI:((m1:Int)%8 == 0)=false:=by simp; omega
    have hsm:=unhide hsame hr
    rw [hsm] at hby k0 htr'
    obtain ⟨g,cap,hform⟩:∃ g cap,Value.slice sa (leS (m1/8+1) V1).length scap = .slice (some ⟨g,0,none⟩) (leS (m1/8+1) V1).length cap:=by
     rcases hby.2 with ⟨_,h0⟩ | ⟨g,cap,_,e,_⟩
     ·
      have:=unhide Hlen; omega
     ·
      exact ⟨g,cap,e⟩
    rw [hform] at hby k0 htr'
    obtain ⟨gc,gf,gb⟩:=hby.at (j:=m1/8) (by have:=unhide Hlen; omega)
    rw [unhide Hwb] at gc
    have hput:=hide (hby.put (j:=m1/8) (UInt8.ofNat (L+X)))
    have hgP:g≠w.heap.size:=hbox.ne hby g rfl
    have Hby:=hide hby
    have Hkp:=hide hkp
    clear hkp
    have hlenN:=unhide Hlen
    rw [hlenN] at k0
    generalize hN:m1/8+1=N at k0
    have hidx:(m1:Int)/8<(N:Int):=by omega
    clear hN hlenN hform hsm hr hpad hsame hby hm hr8
    go_wp2_with fail
    go_region
    all_goals
     go_wp2
     go_roundw
     case rel=>
      have hst:=wout_step (unhide htr') (unhide hput) (unhide Hw1) (unhide Hw2) (unhide Hbv) gb hgP hPb hbox hbel (unhide Hby) (unhide Hkp)
      refine ⟨k+1,by have:=unhide HK; omega,by go_num,?_,hst.2.1,hst.2.2.1,hst.2.2.2⟩
      rw [unhide hval,show m+(k+1)=m1+1 by have:=unhide Hm1; omega]
      exact hst.1
     case measure=>simp [intOf]; omega
  ·
   have hkc:k=c:=by omega
   subst hkc
   rw [unhide hnmod] at hout
   go_wp2
   go_ret
   exact ⟨rfl,hout,hbel,hkp⟩
def Ints (w:World) (b:Nat) (v:Value) (xs:List Int):Prop:=w.ownsRow (b+1) 3 1 v xs.length (xs.map (Value.int .i64))
theorem Ints.keep {w w':World} {b:Nat} {v:Value} {xs:List Int} (h:Ints w b v xs) (hk:Keep5 b w w'):Ints w' b v xs:=by
 refine ⟨h.1,?_⟩
 rcases h.2 with e | ⟨g,cap,cur,e,hb,hg,hr⟩
 ·
  exact .inl e
 ·
  refine .inr ⟨g,cap,cur,e,hb,?_,hr⟩
  rw [hk.2 g (Array.getElem?_eq_some_iff.1 hg).1 (by omega) (fun cur' fr=>by rw [hg]; simp)]
  exact hg
theorem Bys.other {w w':World} {b c:Nat} {v o:Value} {l:List UInt8} {xs:List Int} (h:Bys w b v l) (ho:Ints w c o xs) (hg:w.grownBy w' o.ownBlock):Bys w' b v l:=by
 refine World.ownsRow.kept h hg ?_
 cases hv:v.ownBlock with
 | none=>exact .inl rfl
 | some k=>
  refine .inr (fun e=>?_)
  rcases h.2 with ⟨e1,_⟩ | ⟨g,cap,cur,e1,_,hg1,_⟩
  ·
   subst e1; simp [Value.ownBlock] at hv
  ·
   rcases ho.2 with ⟨e2,_⟩ | ⟨g2,cap2,cur2,e2,_,hg2,_⟩
   ·
    subst e2; simp [Value.ownBlock] at e
   ·
    subst e1 e2
    simp only [Value.ownBlock,Option.some.injEq] at hv e
    subst hv
    subst e
    rw [hg1] at hg2
    simp at hg2
theorem WOut.alloc {w:World} {b V m:Nat} (h:WOut w b V m) (o:Obj):WOut (w.alloc o) b V m:=by
 obtain ⟨hV,v,ht,hy⟩:=h
 exact ⟨hV,v,ht.kept ((Below.refl _ _).alloc (by have:=ht.2.2.2.2; omega) _),World.ownsRow.alloc hy _⟩
theorem WOut.other {w w':World} {b V m:Nat} {o:Value} {xs:List Int} (h:WOut w b V m) (ho:Ints w b o xs) (hg:w.grownBy w' o.ownBlock):WOut w' b V m:=by
 obtain ⟨hV,v,ht,hy⟩:=h
 exact ⟨hV,v,ht.kept ((Below.refl _ _).grown hg (by have:=ht.2.2.2.2; omega) (fun k hk=>(World.ownsRow.lt ho k hk).1)),hy.other ho hg⟩
theorem WOut.lt {w:World} {b V m:Nat} (h:WOut w b V m):b<w.heap.size:=by
 obtain ⟨hV,v,ht,hy⟩:=h
 exact ht.2.2.2.2
theorem methPassW (a:Addr) (w:World):(method 500 236 (.pointer (some a)) "loop.example/corbel/impl.pass").run Tryz.prog w = .ok (329,.pointer (some a)) w:=by kernel_rfl
set_option maxHeartbeats 3200000 in
theorem eachW_any (b:Nat) (a:Option Addr) (cap:Nat) (l:List (Int×Int)) (w0 w:World) (h:PRow w0 a l) (h0:Below b w0 w) (hs:w0.heap.size≤b) (hok:lOk l=true) (hw:WOut w b 0 0) :
  Calls Tryz.prog 197 #[.slice a l.length cap,.func (.method "loop.example/corbel/impl.pass") #[.iface 236 (.pointer (some ⟨b,0,none⟩))] #[]] w fun e w'=>
   (∃ v,e = .returned v)∧WOut w' b (valP l).1 (valP l).2∧Below b w w':=by
 simp only [lOk,Bool.and_eq_true,decide_eq_true_iff] at hok
 obtain ⟨hall,h4⟩:=hok
 have hall':=hide hall
 have H4:=hide h4
 have h4':(l.length:Int)≤4000:=by omega
 clear hall h4
 obtain ⟨i0,hi,hz0,hz1,hz2⟩:=info_parts Tryz.infoInt
 have mp:=methPassW ⟨b,0,none⟩
 go_enter Tryz.func197,Tryz.ntmps197
 go_wp2_with fail
 go_loopw [5,7,10] (fun o _ i wr=>∃ (k:Nat) (xs:List Int),k≤l.length∧i = .int .i64 k∧xs.length=k∧Ints wr b o xs∧WOut wr b (valP (l.take k)).1 (valP (l.take k)).2∧Below b w wr) (fun _ _ i _=>l.length-(intOf i).toNat)
 case atStart=>exact ⟨0,[],Nat.zero_le _,rfl,rfl,World.ownsRow_nil _ _ _ _,hw,Below.refl _ _⟩
 case round=>
  obtain ⟨k,xs,hk,rfl,hxs,hints,hout,hbel⟩:=hrel
  have hltb:=hout.lt
  by_cases hlt:k<l.length
  ·
   obtain ⟨g,o,rfl,hg,hc⟩:=(h.below hs (h0.trans hbel)) (by omega)
   obtain ⟨c0,c1⟩:=hc k hlt
   have hmb:=valP_bits (l.take k) (allOk_take_true (unhide hall') k)
   obtain ⟨s0,s1⟩:=sum_bd (allOk_take_true (unhide hall') k)
   have s2:((l.take k).length:Int)≤4000:=by simp; omega
   have hml:Hid ((valP (l.take k)).2≤64000):=by show (valP (l.take k)).2≤64000; omega
   have hpk:=hide (allOk_get (unhide hall') k hlt)
   have hstep:=hide (valP_take l k hlt)
   have HK:=hide hk
   have HX:=hide hxs
   clear hmb s0 s1 s2 hc hk hxs hw
   generalize (l.getD k (0,0)).1=x at *
   generalize (l.getD k (0,0)).2=y at *
   generalize valP (l.take k)=S at *
   go_wp2_with fail
   refine (pass_any b S.1 S.2 x y _ (hout.alloc _) (unhide hpk) (by have:=unhide hml; omega)).mono ?_
   rintro e w1 ⟨rfl,hout1,hbel1,hkp1⟩
   have hints1:Ints w1 b u5 xs:=Ints.keep (World.ownsRow.alloc hints _) hkp1
   have hbel2:=(hbel.alloc (Nat.le_of_lt hltb) (.cells #[.int .i64 x,.int .i64 y] 173)).trans hbel1
   have hlt1:=hout1.lt
   clear hout hints hbel hbel1 hkp1
   go_wp2_with (at_builtin; refine wpList_append_own _ rfl _ _ 146 rfl (b+1) 3 i0 (.int .i64 0) 1 8 Tryz.underlying146 hi hz0 hz1 hz2 rfl (by decide) _ _ _ rfl (World.ownsRow.alloc hints1 _) ⟨w1.heap.size,0,none⟩ 1 1 [.int .i64 x] rfl rfl (by intro j u hj; match j,hj with | 0,hj=>simp at hj; subst hj; simp [Addr.add]) (by intro u hu; simp at hu; subst hu; rfl) (by have:=unhide HX; have:=unhide H4; unfold maxLen; omega) (by have:=unhide HX; have:=unhide H4; omega) (by simp; omega) ?_; intro v' w2 hown hgrow hnil; clear hnil)
   have hout2:WOut w2 b _ _:=(hout1.alloc (.cells #[.int .i64 x] 3)).other (World.ownsRow.alloc hints1 _) hgrow
   have hints2:Ints w2 b v' (xs++[x]):=by
    show World.ownsRow _ _ _ _ _ (xs++[x]).length _
    simpa using hown
   have hbel3:Below b w w2:=(hbel2.alloc (Nat.le_of_lt hlt1) _).grown hgrow (by simp; omega) (fun j hj=>Nat.le_of_lt (World.ownsRow.lt hints1 j hj).1)
   clear hown hgrow hints1 hout1 hbel2
   go_wp2
   go_roundw
   case rel=>exact ⟨k+1,xs++[x],by have:=unhide HK; omega,by go_num,by have:=unhide HX; simp; omega,hints2,by rw [unhide hstep]; exact hout2,hbel3⟩
   case measure=>simp [intOf]; omega
  ·
   have hlk:Hid (l.take k=l):=List.take_of_length_le (by omega)
   clear h hw
   obtain ⟨va,vc,rfl⟩:∃ va vc,u5 = .slice va xs.length vc:=by
    rcases hints.2 with ⟨e,h0⟩ | ⟨g,cp,_,e,_⟩
    ·
     exact ⟨none,0,by rw [e,h0]⟩
    ·
     exact ⟨_,cp,e⟩
   go_wp2
   go_ret
   rw [unhide hlk] at hout
   exact ⟨⟨_,rfl⟩,hout,hbel⟩
set_option maxHeartbeats 800000 in
theorem walkW_any (b:Nat) (a:Option Addr) (cap:Nat) (l:List (Int×Int)) (w0 w:World) (h:PRow w0 a l) (h0:Below b w0 w) (hs:w0.heap.size≤b) (hok:lOk l=true) (hw:WOut w b 0 0) :
  Calls Tryz.prog 159 #[.iface 236 (.pointer (some ⟨b,0,none⟩)),.slice a l.length cap] w fun e w'=>
   (∃ v,e = .returned v)∧WOut w' b (valP l).1 (valP l).2∧Below b w w':=by
 go_enter Tryz.func159,Tryz.ntmps159
 go_wp2_with fail
 refine (eachW_any b a cap l w0 _ h h0 hs hok hw).mono ?_
 rintro e w1 ⟨⟨v,rfl⟩,hout,hbel⟩
 go_wp2
 go_ret
 exact ⟨⟨_,rfl⟩,hout,hbel⟩
theorem wout_new (w:World) (t:TypeId):WOut (w.alloc (.cells #[.slice none 0 0,.int .i64 0] t)) w.heap.size 0 0:=
 ⟨by decide,.slice none 0 0,⟨by simp,by simp,by simp,by simp,by simp⟩,World.ownsRow_nil _ _ _ _⟩
set_option maxHeartbeats 800000 in
theorem implBitsPut_any (a:Option Addr) (cap:Nat) (l:List (Int×Int)) (w:World) (h:PRow w a l) (hm:l.length≤1000000000) :
  Calls Tryz.prog 131 #[.slice a l.length cap] w fun e w'=>e = .returned (.string ⟨(putS l).toArray⟩)∧Below w.heap.size w w':=by
 cases hok:lOk l
 ·
  have HI:=hide (putS_no hok)
  have HL:=longI_no hok
  go_enter Tryz.func131,Tryz.ntmps131
  go_wp2_with (go_at_call 158; refine (implBitsLong_any _ _ _ _ h hm).mono ?_; rintro e w1 ⟨rfl,hb1⟩; rw [HL])
  go_ret
  exact ⟨ret_str (a:=[]) (unhide HI).symm,hb1⟩
 ·
  have HI:=hide (putS_yes hok)
  have HL:=longI_yes hok
  have hall:allOk l=true:=by simp only [lOk,Bool.and_eq_true] at hok; exact hok.1
  obtain ⟨s0,_⟩:=sum_bd hall
  generalize sumBits l=sb at *
  clear hall
  go_enter Tryz.func131,Tryz.ntmps131
  go_wp2_with fail
  refine (implBitsLong_any _ _ _ _ h hm).mono ?_
  rintro e w1 ⟨rfl,hb1⟩
  rw [HL]
  clear HL
  have h1:=h.later hb1
  go_wp2_with fail
  refine (walkW_any w1.heap.size a cap l w1 _ h1 ((Below.refl _ _).alloc (Nat.le_refl _) _) (Nat.le_refl _) hok (wout_new w1 _)).mono ?_
  rintro e w2 ⟨⟨v0,rfl⟩,⟨_,v,T,Y⟩,hb2⟩
  have hconv:=conv_bytes Y
  obtain ⟨va,vc,rfl⟩:=Y.form
  obtain ⟨k0,k1,f0,f1,hb3⟩:=T
  clear k1 Y
  generalize hres:(leS (((valP l).2+7)/8) (valP l).1)=res at *
  have HR:Hid (res=putS l):=by have h:=unhide HI; rw [h,←hres]; exact rfl
  clear hres
  go_wp2
  go_ret
  exact ⟨ret_str (unhide HR),bnext hb1 (((Below.refl _ _).alloc (Nat.le_refl _) _).trans hb2)⟩
end Go.Proofs.YtkdlcomfpffhhaaGreatDoor
namespace Go.Proofs.YtkdlcomfpffhhaaGreatDoor
open Corb
theorem leS_split (q k V W:Nat) (hV:V<2 ^ (8*q)):leS (q+k) (V+W*2 ^ (8*q))=leS q V++leS k W:=by
 induction k with
 | zero=>simp [leS,leS_add q V W (8*q) (Nat.le_refl _)]
 | succ k ih=>
  rw [show q+(k+1)=(q+k)+1 by omega]
  simp only [leS]
  rw [ih,List.append_assoc]
  congr 3
  have e:2 ^ (8*(q+k))=2 ^ (8*q)*2 ^ (8*k):=by rw [←Nat.pow_add]; congr 1; omega
  rw [e,←Nat.div_div_eq_div_mul,Nat.add_mul_div_right _ _ (Nat.two_pow_pos _),Nat.div_eq_of_lt hV,Nat.zero_add]
theorem putV_shift (V m:Nat) (l:List (Nat×Nat)):putV (V,m) l=(V+(putV (0,0) l).1*2 ^ m,m+(putV (0,0) l).2):=by
 have key:∀ (l:List (Nat×Nat)) (W k:Nat),putV (V+W*2 ^ m,m+k) l=(V+(putV (W,k) l).1*2 ^ m,m+(putV (W,k) l).2):=by
  intro l
  induction l with
  | nil=>intro W k; rfl
  | cons p l ih=>
   intro W k
   simp only [putV]
   have e:V+W*2 ^ m+p.1*2 ^ (m+k)=V+(W+p.1*2 ^ k)*2 ^ m:=by
    rw [Nat.add_mul,Nat.pow_add,Nat.mul_assoc,Nat.mul_comm (2 ^ m)]; omega
   rw [e,Nat.add_assoc m k p.2]
   exact ih _ _
 have:=key l 0 0
 simpa using this
theorem valP_append (l m:List (Int×Int)):valP (l++m)=((valP l).1+(valP m).1*2 ^ (valP l).2,(valP l).2+(valP m).2):=by
 rw [valP,natP,List.map_append,putV_append]
 exact putV_shift _ _ _
theorem allOk_append (l m:List (Int×Int)):allOk (l++m)=(allOk l&&allOk m):=by simp [allOk]
theorem fill_law (a:List (Int×Int)) (ha:a.length≤12) (h:lOk a=true) (p:Int) (hp:p=(8-longI a%8)%8) :
  lOk (a++[(0,p)])=true∧putS (a++[(0,p)])=putS a∧(valP (a++[(0,p)])).2%8=0:=by
 have hall:allOk a=true:=by simp only [lOk,Bool.and_eq_true] at h; exact h.1
 have hbits:=valP_bits a hall
 rw [longI_yes h,←hbits] at hp
 have hp0:0≤p∧p≤7∧((valP a).2+p.toNat)%8=0:=by omega
 have hpo:pOk 0 p=true:=by
  have:=p2_pos p.toNat
  rw [pOk_true]; exact ⟨⟨by omega,by omega⟩,by omega,by omega⟩
 have hok:lOk (a++[(0,p)])=true:=by
  simp only [lOk,Bool.and_eq_true,decide_eq_true_iff]
  refine ⟨by simp [allOk,hpo]; simpa [allOk] using hall,by simp; omega⟩
 have hv:valP (a++[(0,p)])=((valP a).1,(valP a).2+p.toNat):=by
  rw [valP_append]; simp [valP,natP,putV]
 refine ⟨hok,?_,by rw [hv]; exact hp0.2.2⟩
 rw [putS_yes hok,putS_yes h,textP,textP,hv]
 rw [show ((valP a).2+p.toNat+7)/8=((valP a).2+7)/8 by omega]
theorem two_law (f b:List (Int×Int)) (hf:lOk f=true) (hb:lOk b=true) (hl:f.length+b.length≤4000) (h8:(valP f).2%8=0):putS (f++b)=putS f++putS b:=by
 have hfa:allOk f=true:=by simp only [lOk,Bool.and_eq_true] at hf; exact hf.1
 have hba:allOk b=true:=by simp only [lOk,Bool.and_eq_true] at hb; exact hb.1
 have hok:lOk (f++b)=true:=by
  simp only [lOk,Bool.and_eq_true,decide_eq_true_iff,allOk_append]
  exact ⟨⟨hfa,hba⟩,by simpa using hl⟩
 rw [putS_yes hok,putS_yes hf,putS_yes hb,textP,textP,textP,valP_append]
 have hlt:=valP_lt f hfa
 generalize valP f=F at *
 generalize valP b=B at *
 obtain ⟨V,m⟩:=F
 obtain ⟨W,k⟩:=B
 have h8':m%8=0:=h8
 have e:m=8*(m/8):=by omega
 show leS ((m+k+7)/8) (V+W*2 ^ m)=leS ((m+7)/8) V++leS ((k+7)/8) W
 rw [show (m+k+7)/8=m/8+(k+7)/8 by omega,show (m+7)/8=m/8 by omega]
 have:=leS_split (m/8) ((k+7)/8) V W (by rw [←e]; exact hlt)
 rw [←e] at this
 exact this
end Go.Proofs.YtkdlcomfpffhhaaGreatDoor
namespace Go.Proofs.YtkdlcomfpffhhaaGreatDoor
open Go.RowKit Corb
set_option maxRecDepth 100000
theorem leS_four (V:Nat):leS 4 V=leS 2 (V%65536)++leS 2 (V/65536):=by
 have:=leS_split 2 2 (V%65536) (V/65536) (Nat.mod_lt _ (by decide))
 rw [←this]
 congr 1
 show V=V%65536+V/65536*2 ^ 16
 omega
def wordP (ws:List Nat):List (Int×Int):=ws.map fun (x:Nat)=>(((x:Nat):Int),(16:Int))
theorem wordP_ok {ws:List Nat} (h:∀ x∈ws,x<65536) (hl:ws.length≤100):lOk (wordP ws)=true:=by
 unfold lOk
 simp only [Bool.and_eq_true,decide_eq_true_eq]
 refine ⟨?_,by unfold wordP; rw [List.length_map]; omega⟩
 unfold allOk wordP
 rw [List.all_map,List.all_eq_true]
 intro x hx
 have h16:p2 (16:Int).toNat=65536:=by decide
 have:=h x hx
 show pOk ((x:Nat):Int) 16=true
 exact pOk_true.2 ⟨by omega,by omega,by rw [h16]; omega⟩
theorem words_put {ws:List Nat} (h:∀ x∈ws,x<65536) (hl:ws.length≤100):putS (wordP ws)=ws.flatMap (leS 2):=by
 induction ws with
 | nil=>decide
 | cons x ws ih=>
  have hx:x<65536:=h x (by simp)
  have h1:lOk (wordP [x])=true:=wordP_ok (fun y hy=>by rw [List.mem_singleton.1 hy]; exact hx) (by simp)
  have h2:lOk (wordP ws)=true:=wordP_ok (fun y hy=>h y (by simp [hy])) (by simp at hl; omega)
  have e:wordP (x :: ws)=wordP [x]++wordP ws:=rfl
  have e1:valP (wordP [x])=(x,16):=by simp [valP,natP,putV,wordP]
  rw [e,two_law _ _ h1 h2 (by unfold wordP; simp at hl ⊢; omega) (by rw [e1]; exact (by decide:(16:Nat)%8=0)),ih (fun y hy=>h y (by simp [hy])) (by simp at hl; omega),putS_yes h1,textP,e1,List.flatMap_cons]
  show leS ((16+7)/8) x++_=_
  rw [show (16+7)/8=2 by decide]
set_option maxHeartbeats 1600000 in
theorem l6Bytes_any (V many:Nat) (w:World) (hV:V<1099511627776) (hm:many≤10) :
  Calls Tryz.prog 103 #[.int .i64 (V:Int),.int .i64 (many:Int)] w fun e w'=>e = .returned (.string ⟨(leS many V).toArray⟩)∧Below w.heap.size w w':=by
 obtain ⟨i0,hi,hz0,hz1,hz2⟩:=info_parts Tryz.infoU8
 have hmI:(many:Int)≤10:=by omega
 have hq0:Hid (BOwn (w.alloc (.cells #[] 5)) w.heap.size (.slice (some ⟨w.heap.size,0,none⟩) 0 0) (leS 0 V)):=BOwn.lit _ _ (Nat.le_refl _)
 have hb0:Hid (Below w.heap.size w (w.alloc (.cells #[] 5))):=(Below.refl _ _).alloc (Nat.le_refl _) _
 go_enter Tryz.func103,Tryz.ntmps103
 go_wp2_with fail
 go_loopw [0,5,6] (fun x v i wr=>∃ k:Nat,k≤many∧i = .int .i64 k∧x = .int .i64 ((V/2 ^ (8*k):Nat):Int)∧BOwn wr w.heap.size v (leS k V)∧Below w.heap.size w wr) (fun _ _ i _=>many-(intOf i).toNat)
 case atStart=>exact ⟨0,Nat.zero_le _,rfl,by simp,unhide hq0,unhide hb0⟩
 case round=>
  obtain ⟨k,hk,rfl,rfl,hq,hbel⟩:=hrel
  have hlen:Hid ((leS k V).length=k):=leS_len k V
  obtain ⟨va,vc,rfl⟩:=hq.formN (unhide hlen)
  clear hq0 hb0
  by_cases hlt:k<many
  ·
   have hltI:(k:Int)<(many:Int):=by omega
   have hX:V/2 ^ (8*k)≤V:=Nat.div_le_self _ _
   have hst:Hid (leS k V++[UInt8.ofNat (V/2 ^ (8*k)%256)]=leS (k+1) V):=rfl
   have hdv:Hid (V/2 ^ (8*k)/256=V/2 ^ (8*(k+1))):=by show _=_; rw [Nat.div_div_eq_div_mul,show 8*(k+1)=8*k+8 by omega,Nat.pow_add]
   generalize V/2 ^ (8*k)=x at *
   have hxI:(x:Int)≤1099511627776:=by omega
   obtain ⟨y,hy⟩:∃ y,x%256=y:=⟨_,rfl⟩
   have hyI:(x:Int)%256=(y:Int):=by omega
   have hyt:Int.tmod (x:Int) 256=(y:Int):=by rw [Int.tmod_eq_emod_of_nonneg (by omega)]; exact hyI
   have hu:IntKind.u8.wrap (y:Int)=(y:Int):=by simp only [IntKind.wrap,IntKind.bits,IntKind.signed]; simp; omega
   have hyb:((UInt8.ofNat y).toNat:Int)=(y:Int):=by rw [UInt8.toNat_ofNat']; omega
   obtain ⟨d,hd⟩:∃ d,x/256=d:=⟨_,rfl⟩
   have hdI:(x:Int)/256=(d:Int):=by omega
   rw [hy] at hst
   rw [hd] at hdv
   have bd:Hid (k+1≤maxLen∧(k+1)*1≤140737488355328):=by show _∧_; unfold maxLen; omega
   have hqo:=hide (hq.own (unhide hlen))
   have hbs:=hbel.size
   have HBel:=hide hbel
   clear hq hbel hy hd
   go_wp2_with (at_builtin; refine wpList_append_own _ rfl _ _ 22 rfl w.heap.size 5 i0 (.int .u8 0) 1 1 Tryz.underlying22 hi hz0 hz1 hz2 rfl (by decide) _ _ _ rfl (World.ownsRow.alloc (unhide hqo) _) ⟨wr.heap.size,0,none⟩ 1 1 [.int .u8 (y:Int)] rfl rfl (one_new _ _ rfl _ _) (one_byte _) (unhide bd).1 (unhide bd).2 (size_alloc_le hbs _) ?_; intro v' x2 hown hgrow hnil; clear hnil)
   have hb2:=grown_step (v:=.slice va k vc) hgrow (unhide hqo) (Nat.le_refl _) hbs (unhide HBel)
   have hown':World.ownsRow x2 w.heap.size 5 1 v' (k+1) (bcells (leS k V)++[.int .u8 ((UInt8.ofNat y).toNat:Int)]):=by rw [hyb]; exact hown
   have hq2:=bown_snoc (b:=UInt8.ofNat y) (unhide hlen) hown'
   rw [unhide hst] at hq2
   clear hown hown' hgrow
   go_wp2
   go_roundw
   case rel=>exact ⟨k+1,by omega,by go_num,by rw [←unhide hdv],hq2,hb2⟩
   case measure=>simp [intOf]; omega
  ·
   obtain rfl:k=many:=by omega
   have hltI:¬ (k:Int)<(k:Int):=by omega
   have hcv:=hq.text
   have HB:=hide hbel
   clear hq hbel
   go_wp2
   go_ret
   exact ⟨rfl,unhide HB⟩
def wordI (ws:List Nat):List Int:=ws.map fun (x:Nat)=>((x:Nat):Int)
theorem wordI_get (ws:List Nat) (k:Nat) (h:k<ws.length):(wordI ws).getD k 0=((ws.getD k 0:Nat):Int):=by
 unfold wordI
 simp [List.getD,h]
theorem wordP_take (ws:List Nat) (k:Nat) (h:k<ws.length):wordP (ws.take (k+1))=wordP (ws.take k)++[(((ws.getD k 0:Nat):Int),(16:Int))]:=by
 unfold wordP
 rw [List.take_succ_eq_append_getElem h,List.map_append]
 simp [List.getD,h]
theorem word_any (x:Int) (w:World):Calls Tryz.prog 133 #[.int .i64 x] w fun e w'=>e = .returned (.agg #[.int .i64 x,.int .i64 16])∧Below w.heap.size w w':=by
 go_enter Tryz.func133,Tryz.ntmps133
 go_wp2
 refine bodyPost_ret (v:=.agg #[.int .i64 x,.int .i64 16]) (by simp [results,Tryz.results133,go_sem]) rfl ⟨rfl,?_⟩
 exact (Below.refl _ _).alloc (Nat.le_refl _) _
set_option maxHeartbeats 1600000 in
theorem eachWd_any (a:Option Addr) (cap n:Nat) (ws:List Nat) (w:World) (hn:ws.length=n) (h:IRow w a (wordI ws)) (hm:n≤100) :
  Calls Tryz.prog 132 #[.slice a n cap,.func (.func 133) #[] #[]] w fun e w'=>∃ v,e = .returned v∧Pcs w' w.heap.size v (wordP ws)∧Below w.heap.size w w':=by
 have hmI:(n:Int)≤100:=by omega
 have Hn:=hide hn
 have Hm:=hide hm
 have Hl:Hid ((wordI ws).length=n):=by show _=_; unfold wordI; rw [List.length_map]; exact hn
 clear hn hm
 obtain ⟨i0,hi,hz0,hz1,hz2⟩:=info_parts Tryz.infoPiece
 go_enter Tryz.func132,Tryz.ntmps132
 go_wp2_with fail
 go_loopw [5,7,10] (fun o _ i wr=>∃ k:Nat,k≤n∧i = .int .i64 k∧Pcs wr w.heap.size o (wordP (ws.take k))∧Below w.heap.size w wr) (fun _ _ i _=>n-(intOf i).toNat)
 case atStart=>exact ⟨0,Nat.zero_le _,rfl,World.ownsRow_nil _ _ _ _,Below.refl _ _⟩
 case round=>
  obtain ⟨k,hk,rfl,hq,hbel⟩:=hrel
  by_cases hlt:k<n
  ·
   obtain ⟨g,o,rfl,hg,hcc⟩:=(h.later hbel) (by rw [unhide Hl]; omega)
   have c0:=hcc k (by rw [unhide Hl]; exact hlt)
   rw [wordI_get ws k (by rw [unhide Hn]; exact hlt)] at c0
   have hst:=hide (wordP_take ws k (by rw [unhide Hn]; exact hlt))
   have hlk:Hid ((wordP (ws.take k)).length=k):=by show _=_; unfold wordP; have:=unhide Hn; simp; omega
   have Hk:=hide hk
   clear hcc hk h
   generalize ((ws.getD k 0:Nat):Int)=y at *
   have HP:=hide (word_any y wr)
   go_wp2_with fail
   refine (unhide HP).mono ?_
   rintro e x1 ⟨rfl,hb1⟩
   have hq1:=Pcs.later hq hb1 (Nat.le_refl _)
   have hbel1:=bnext hbel hb1
   have hbs1:=hbel1.size
   have hlen1:Hid ((wordP (ws.take k)).length+1≤maxLen∧((wordP (ws.take k)).length+1)*16≤140737488355328):=by
    show _∧_
    rw [unhide hlk]
    have:=unhide Hm
    unfold maxLen
    omega
   clear hq hbel hb1 HP
   go_wp2_with (at_builtin; refine wpList_append_own _ rfl _ _ 170 rfl w.heap.size 173 i0 (.agg #[.int .i64 0,.int .i64 0]) 2 16 Tryz.underlying170 hi hz0 hz1 hz2 rfl (by decide) _ _ _ rfl (World.ownsRow.alloc hq1 _) ⟨x1.heap.size,0,none⟩ 1 1 [.int .i64 y,.int .i64 16] rfl rfl (two_new x1 _ _ _) (two_int _ _) (unhide hlen1).1 (unhide hlen1).2 (size_alloc_le hbs1 _) ?_; intro v' x2 hown hgrow hnil; clear hnil)
   have hb2:=grown_step (v:=u5) hgrow hq1 (Nat.le_refl _) hbs1 hbel1
   have hq2:=pcs_snoc hown
   rw [←unhide hst] at hq2
   clear hown hgrow hq1
   go_wp2
   go_roundw
   case rel=>exact ⟨k+1,by have:=unhide Hk; omega,by go_num,hq2,hb2⟩
   case measure=>simp [intOf]; omega
  ·
   have hkn:ws.take k=ws:=List.take_of_length_le (by rw [unhide Hn]; omega)
   rw [hkn] at hq
   have HQ:=hide hq
   have HB:=hide hbel
   clear hq hbel hkn
   go_wp2
   go_ret
   exact ⟨_,rfl,unhide HQ,unhide HB⟩
theorem wordsPut_any (a:Option Addr) (cap n:Nat) (ws:List Nat) (w:World) (hn:ws.length=n) (h:IRow w a (wordI ws)) (hm:n≤100) (hw:∀ x∈ws,x<65536) :
  Calls Tryz.prog 89 #[.slice a n cap] w fun e w'=>e = .returned (.string ⟨(ws.flatMap (leS 2)).toArray⟩)∧Below w.heap.size w w':=by
 have HE:=hide (eachWd_any a cap n ws w hn h hm)
 have HW:=hide (words_put hw (by omega))
 have hl:(wordP ws).length=n:=by unfold wordP; rw [List.length_map]; exact hn
 have Hl:=hide hl
 have Hm:=hide hm
 clear hn h hm hw hl
 go_enter Tryz.func89,Tryz.ntmps89
 go_wp2_with fail
 refine (unhide HE).mono ?_
 rintro e w1 ⟨v,rfl,hP,hb1⟩
 obtain ⟨a1,c1,rfl⟩:=hP.formN (unhide Hl)
 have HC:=implBitsPut_any a1 c1 (wordP ws) w1 (hP.rowN (unhide Hl)) (by have:=unhide Hl; have:=unhide Hm; omega)
 rw [unhide HW,unhide Hl] at HC
 have HC':=hide HC
 have HB:=hide hb1
 clear hP hb1 HC HE
 go_wp2_with fail
 refine (unhide HC').mono ?_
 rintro e w2 ⟨rfl,hb2⟩
 have HB2:=hide (bnext (unhide HB) hb2)
 clear hb2
 go_wp2
 go_ret
 exact ⟨rfl,unhide HB2⟩
theorem longPut_any (V:Nat) (w:World) (hV:V<4294967296) :
  Calls Tryz.prog 90 #[.int .i64 (V:Int)] w fun e w'=>e = .returned (.string ⟨(leS 4 V).toArray⟩)∧Below w.heap.size w w':=by
 have e1:bits .and .i64 (V:Int) 65535=((V%65536:Nat):Int):=by
  have:=i64_and_low (V:Int) (by omega) (by omega)
  rw [this]
  omega
 have HF:Hid ([V%65536,V/65536].flatMap (leS 2)=leS 4 V):=by
  show _=_
  rw [leS_four]
  simp
 have hq:V/65536<65536:=by omega
 have HR:Hid (IRow (w.alloc (.cells #[.int .i64 ((V%65536:Nat):Int),.int .i64 ((V/65536:Nat):Int)] 3)) (some ⟨w.heap.size,0,none⟩) (wordI [V%65536,V/65536])):=by
  intro _
  refine ⟨w.heap.size,0,rfl,by simp,fun i hi=>?_⟩
  match i,hi with
  | 0,_=>simp [wordI]
  | 1,_=>simp [wordI]
 have HC:=hide (wordsPut_any (some ⟨w.heap.size,0,none⟩) 2 2 [V%65536,V/65536] _ rfl (unhide HR) (by omega) (fun x hx=>by
  simp only [List.mem_cons,List.mem_nil_iff,or_false] at hx
  rcases hx with rfl | rfl
  ·
   exact Nat.mod_lt _ (by decide)
  ·
   exact hq))
 rw [unhide HF] at HC
 have HA:Hid (Below w.heap.size w (w.alloc (.cells #[.int .i64 ((V%65536:Nat):Int),.int .i64 ((V/65536:Nat):Int)] 3))):=(Below.refl _ _).alloc (Nat.le_refl _) _
 generalize hx:V%65536=x at *
 generalize hy:V/65536=y at *
 have e2:(V:Int)/65536=(y:Int):=by omega
 clear HF HR hx
 go_enter Tryz.func90,Tryz.ntmps90
 go_wp2_with fail
 refine (unhide HC).mono ?_
 rintro e w1 ⟨rfl,hb1⟩
 have HB:=hide (bnext (unhide HA) hb1)
 clear hb1
 go_wp2
 go_ret
 exact ⟨rfl,unhide HB⟩
def SixB (W:World) (g:Nat) (how st crc pk lg:Nat) (nm:ByteArray):Prop:=W.cell? ⟨g,0,none⟩=some (.int .i64 (how:Nat))∧W.cell? ⟨g,1,none⟩=some (.int .i64 (st:Nat))∧W.cell? ⟨g,2,none⟩=some (.int .i64 (crc:Nat))∧W.cell? ⟨g,3,none⟩=some (.int .i64 (pk:Nat))∧W.cell? ⟨g,4,none⟩=some (.int .i64 (lg:Nat))∧W.cell? ⟨g,5,none⟩=some (.string nm)
def TolS (w:World) (how st crc pk lg:Nat) (nm:ByteArray) (W:World):Prop:=Below w.heap.size w W∧w.heap.size<W.heap.size∧SixB W w.heap.size how st crc pk lg nm
theorem TolS.later {w W W':World} {how st crc pk lg:Nat} {nm:ByteArray} (h:TolS w how st crc pk lg nm W) (hb:Below W.heap.size W W'):TolS w how st crc pk lg nm W':=by
 have hc:∀ j,W'.cell? ⟨w.heap.size,j,none⟩=W.cell? ⟨w.heap.size,j,none⟩:=fun j=>hb.cell (p:=⟨w.heap.size,j,none⟩) h.2.1
 exact ⟨h.1.trans (hb.mono (Nat.le_of_lt h.2.1)),Nat.lt_of_lt_of_le h.2.1 hb.size,(hc 0).trans h.2.2.1,(hc 1).trans h.2.2.2.1,(hc 2).trans h.2.2.2.2.1,(hc 3).trans h.2.2.2.2.2.1,(hc 4).trans h.2.2.2.2.2.2.1,(hc 5).trans h.2.2.2.2.2.2.2⟩
theorem three_row (W:World) (x y z:Nat):IRow (W.alloc (.cells #[.int .i64 ((x:Nat):Int),.int .i64 ((y:Nat):Int),.int .i64 ((z:Nat):Int)] 3)) (some ⟨W.heap.size,0,none⟩) (wordI [x,y,z]):=by
 intro _
 refine ⟨W.heap.size,0,rfl,by simp,fun i hi=>?_⟩
 match i,hi with
 | 0,_=>simp [wordI]
 | 1,_=>simp [wordI]
 | 2,_=>simp [wordI]
theorem two_row (W:World) (x y:Nat):IRow (W.alloc (.cells #[.int .i64 ((x:Nat):Int),.int .i64 ((y:Nat):Int)] 3)) (some ⟨W.heap.size,0,none⟩) (wordI [x,y]):=by
 intro _
 refine ⟨W.heap.size,0,rfl,by simp,fun i hi=>?_⟩
 match i,hi with
 | 0,_=>simp [wordI]
 | 1,_=>simp [wordI]
def TolR (w:World) (how st crc pk lg:Nat) (nm:ByteArray) (W:World) (r0 r1:Option Nat):Prop:=TolS w how st crc pk lg nm W∧(∀ g,r0=some g→IRow W (some ⟨g,0,none⟩) (wordI [20,0,how]))∧∀ g,r1=some g→IRow W (some ⟨g,0,none⟩) (wordI [nm.size,0])
theorem TolR.later {w W W':World} {how st crc pk lg:Nat} {nm:ByteArray} {r0 r1:Option Nat} (h:TolR w how st crc pk lg nm W r0 r1) (hb:Below W.heap.size W W'):TolR w how st crc pk lg nm W' r0 r1:=⟨h.1.later hb,fun g e=>(h.2.1 g e).later hb,fun g e=>(h.2.2 g e).later hb⟩
theorem TolR.new0 {w W:World} {how st crc pk lg:Nat} {nm:ByteArray} {r1:Option Nat} (h:TolR w how st crc pk lg nm W none r1):TolR w how st crc pk lg nm (W.alloc (.cells #[.int .i64 20,.int .i64 0,.int .i64 ((how:Nat):Int)] 3)) (some W.heap.size) r1:=by
 have h2:=h.later ((Below.refl W.heap.size W).alloc (Nat.le_refl _) (.cells #[.int .i64 20,.int .i64 0,.int .i64 ((how:Nat):Int)] 3))
 exact ⟨h2.1,fun g e=>by cases e; exact three_row W 20 0 how,h2.2.2⟩
theorem TolR.new1 {w W:World} {how st crc pk lg:Nat} {nm:ByteArray} {r0:Option Nat} (h:TolR w how st crc pk lg nm W r0 none):TolR w how st crc pk lg nm (W.alloc (.cells #[.int .i64 ((nm.size:Nat):Int),.int .i64 0] 3)) r0 (some W.heap.size):=by
 have h2:=h.later ((Below.refl W.heap.size W).alloc (Nat.le_refl _) (.cells #[.int .i64 ((nm.size:Nat):Int),.int .i64 0] 3))
 exact ⟨h2.1,h2.2.1,fun g e=>by cases e; exact two_row W nm.size 0⟩
def strL (l:List UInt8):ByteArray:=⟨l.toArray⟩
def toldB (how st crc pk lg n:Nat):ByteArray:=strL ([20,0,how].flatMap (leS 2))++strL (leS 4 st)++strL (leS 4 crc)++strL (leS 4 pk)++strL (leS 4 lg)++strL ([n,0].flatMap (leS 2))
set_option maxHeartbeats 6400000 in
theorem told_any (how st crc pk lg:Nat) (nm:ByteArray) (w:World) (h0:how<65536) (h1:st<4294967296) (h2:crc<4294967296) (h3:pk<4294967296) (h4:lg<4294967296) (h5:nm.size<65536) :
  Calls Tryz.prog 130 #[.agg #[.int .i64 (how:Nat),.int .i64 (st:Nat),.int .i64 (crc:Nat),.int .i64 (pk:Nat),.int .i64 (lg:Nat),.string nm]] w fun e w'=>e = .returned (.string (toldB how st crc pk lg nm.size))∧Below w.heap.size w w':=by
 have hmix:Tryz.prog.follows .mixedOrders=true:=by kernel_rfl
 have CW0:Hid (∀ g W,IRow W (some ⟨g,0,none⟩) (wordI [20,0,how])→Calls Tryz.prog 89 #[.slice (some ⟨g,0,none⟩) 3 3] W fun e w'=>e = .returned (.string (strL ([20,0,how].flatMap (leS 2))))∧Below W.heap.size W w'):=fun g W h=>wordsPut_any _ 3 3 [20,0,how] W rfl h (by omega) (fun x hx=>by simp at hx; omega)
 have CW1:Hid (∀ g W,IRow W (some ⟨g,0,none⟩) (wordI [nm.size,0])→Calls Tryz.prog 89 #[.slice (some ⟨g,0,none⟩) 2 2] W fun e w'=>e = .returned (.string (strL ([nm.size,0].flatMap (leS 2))))∧Below W.heap.size W w'):=fun g W h=>wordsPut_any _ 2 2 [nm.size,0] W rfl h (by omega) (fun x hx=>by simp at hx; omega)
 have CLA1:Hid (∀ W,Calls Tryz.prog 90 #[.int .i64 (st:Int)] W fun e w'=>e = .returned (.string (strL (leS 4 st)))∧Below W.heap.size W w'):=fun W=>longPut_any st W h1
 have CLA2:Hid (∀ W,Calls Tryz.prog 90 #[.int .i64 (crc:Int)] W fun e w'=>e = .returned (.string (strL (leS 4 crc)))∧Below W.heap.size W w'):=fun W=>longPut_any crc W h2
 have CLA3:Hid (∀ W,Calls Tryz.prog 90 #[.int .i64 (pk:Int)] W fun e w'=>e = .returned (.string (strL (leS 4 pk)))∧Below W.heap.size W w'):=fun W=>longPut_any pk W h3
 have CLA4:Hid (∀ W,Calls Tryz.prog 90 #[.int .i64 (lg:Int)] W fun e w'=>e = .returned (.string (strL (leS 4 lg)))∧Below W.heap.size W w'):=fun W=>longPut_any lg W h4
 have hz:∀ l:List UInt8,(strL l).size=l.length:=fun l=>by simp [strL,ByteArray.size]
 have z0:((strL ([20,0,how].flatMap (leS 2))).size:Int)≤100:=by rw [hz]; simp [leS_len]
 have z5:((strL ([nm.size,0].flatMap (leS 2))).size:Int)≤100:=by rw [hz]; simp [leS_len]
 have z1:((strL (leS 4 st)).size:Int)≤100:=by rw [hz,leS_len]; omega
 have z2:((strL (leS 4 crc)).size:Int)≤100:=by rw [hz,leS_len]; omega
 have z3:((strL (leS 4 pk)).size:Int)≤100:=by rw [hz,leS_len]; omega
 have z4:((strL (leS 4 lg)).size:Int)≤100:=by rw [hz,leS_len]; omega
 unfold toldB
 generalize strL ([20,0,how].flatMap (leS 2))=A0 at *
 generalize strL ([nm.size,0].flatMap (leS 2))=A5 at *
 generalize strL (leS 4 st)=A1 at *
 generalize strL (leS 4 crc)=A2 at *
 generalize strL (leS 4 pk)=A3 at *
 generalize strL (leS 4 lg)=A4 at *
 have hnI:(nm.size:Int)<65536:=by omega
 have T0':Hid (TolS w how st crc pk lg nm (w.alloc (.cells #[.int .i64 (how:Nat),.int .i64 (st:Nat),.int .i64 (crc:Nat),.int .i64 (pk:Nat),.int .i64 (lg:Nat),.string nm] 61))):=⟨(Below.refl _ _).alloc (Nat.le_refl _) _,by simp,by simp,by simp,by simp,by simp,by simp,by simp⟩
 clear h0 h1 h2 h3 h4 h5 hz
 go_enter Tryz.func130,Tryz.ntmps130
 go_wp2_with fail
 obtain ⟨W0,hW0⟩:∃ x,w.alloc (.cells #[.int .i64 (how:Nat),.int .i64 (st:Nat),.int .i64 (crc:Nat),.int .i64 (pk:Nat),.int .i64 (lg:Nat),.string nm] 61)=x:=⟨_,rfl⟩
 rw [hW0] at T0'
 rw [hW0]
 have T0:=T0'
 clear T0' hW0
 refine wp_region_held_drew (S:=fun W=>SixB W w.heap.size how st crc pk lg nm) hmix (unhide T0).2.2 (fun hS=>?_)
 refine wpAnyH_take (i:=0) (v:=.pointer (some ⟨w.heap.size,0,none⟩)) rfl (by kernel_rfl) (by kernel_rfl) (by kernel_rfl) (fun _ _ _ h=>h) (Or.inl ⟨by rfl,fun W hSw=>by obtain ⟨s0,s1,s2,s3,s4,s5⟩:=hSw; go_simp⟩) hS ?_
 refine wpAnyH_take (i:=1) (v:=.int .i64 (how:Nat)) rfl (by kernel_rfl) (by kernel_rfl) (by kernel_rfl) (fun _ _ _ h=>h) (Or.inl ⟨by rfl,fun W hSw=>by obtain ⟨s0,s1,s2,s3,s4,s5⟩:=hSw; go_simp⟩) hS ?_
 refine wpAnyH_take (i:=4) (v:=.pointer (some ⟨w.heap.size,1,none⟩)) rfl (by kernel_rfl) (by kernel_rfl) (by kernel_rfl) (fun _ _ _ h=>h) (Or.inl ⟨by rfl,fun W hSw=>by obtain ⟨s0,s1,s2,s3,s4,s5⟩:=hSw; go_simp⟩) hS ?_
 refine wpAnyH_take (i:=5) (v:=.int .i64 (st:Nat)) rfl (by kernel_rfl) (by kernel_rfl) (by kernel_rfl) (fun _ _ _ h=>h) (Or.inl ⟨by rfl,fun W hSw=>by obtain ⟨s0,s1,s2,s3,s4,s5⟩:=hSw; go_simp⟩) hS ?_
 refine wpAnyH_take (i:=8) (v:=.pointer (some ⟨w.heap.size,2,none⟩)) rfl (by kernel_rfl) (by kernel_rfl) (by kernel_rfl) (fun _ _ _ h=>h) (Or.inl ⟨by rfl,fun W hSw=>by obtain ⟨s0,s1,s2,s3,s4,s5⟩:=hSw; go_simp⟩) hS ?_
 refine wpAnyH_take (i:=9) (v:=.int .i64 (crc:Nat)) rfl (by kernel_rfl) (by kernel_rfl) (by kernel_rfl) (fun _ _ _ h=>h) (Or.inl ⟨by rfl,fun W hSw=>by obtain ⟨s0,s1,s2,s3,s4,s5⟩:=hSw; go_simp⟩) hS ?_
 refine wpAnyH_take (i:=12) (v:=.pointer (some ⟨w.heap.size,3,none⟩)) rfl (by kernel_rfl) (by kernel_rfl) (by kernel_rfl) (fun _ _ _ h=>h) (Or.inl ⟨by rfl,fun W hSw=>by obtain ⟨s0,s1,s2,s3,s4,s5⟩:=hSw; go_simp⟩) hS ?_
 refine wpAnyH_take (i:=13) (v:=.int .i64 (pk:Nat)) rfl (by kernel_rfl) (by kernel_rfl) (by kernel_rfl) (fun _ _ _ h=>h) (Or.inl ⟨by rfl,fun W hSw=>by obtain ⟨s0,s1,s2,s3,s4,s5⟩:=hSw; go_simp⟩) hS ?_
 refine wpAnyH_take (i:=16) (v:=.pointer (some ⟨w.heap.size,4,none⟩)) rfl (by kernel_rfl) (by kernel_rfl) (by kernel_rfl) (fun _ _ _ h=>h) (Or.inl ⟨by rfl,fun W hSw=>by obtain ⟨s0,s1,s2,s3,s4,s5⟩:=hSw; go_simp⟩) hS ?_
 refine wpAnyH_take (i:=17) (v:=.int .i64 (lg:Nat)) rfl (by kernel_rfl) (by kernel_rfl) (by kernel_rfl) (fun _ _ _ h=>h) (Or.inl ⟨by rfl,fun W hSw=>by obtain ⟨s0,s1,s2,s3,s4,s5⟩:=hSw; go_simp⟩) hS ?_
 refine wpAnyH_take (i:=20) (v:=.pointer (some ⟨w.heap.size,5,none⟩)) rfl (by kernel_rfl) (by kernel_rfl) (by kernel_rfl) (fun _ _ _ h=>h) (Or.inl ⟨by rfl,fun W hSw=>by obtain ⟨s0,s1,s2,s3,s4,s5⟩:=hSw; go_simp⟩) hS ?_
 refine wpAnyH_take (i:=21) (v:=.string nm) rfl (by kernel_rfl) (by kernel_rfl) (by kernel_rfl) (fun _ _ _ h=>h) (Or.inl ⟨by rfl,fun W hSw=>by obtain ⟨s0,s1,s2,s3,s4,s5⟩:=hSw; go_simp⟩) hS ?_
 refine wpAnyH_take (i:=22) (v:=.int .i64 (nm.size:Nat)) rfl (by kernel_rfl) (by kernel_rfl) (by kernel_rfl) (fun _ _ _ h=>h) (Or.inl ⟨by rfl,fun W hSw=>by obtain ⟨s0,s1,s2,s3,s4,s5⟩:=hSw; go_simp⟩) hS ?_
 have hs:TolR w how st crc pk lg nm W0.drew none none:=⟨⟨(unhide T0).1.drew,(unhide T0).2.1,(unhide T0).2.2⟩,nofun,nofun⟩
 generalize W0.drew=W at hs hS ⊢
 refine wpAnyH_ready (rs:=[2,23]) (by kernel_rfl) (by simp) ?_
 repeat' first
  | exact AllReadyH.nil
  | refine AllReadyH.cons rfl (fun K hK=>?_) ?_
  | (refine at_dstH 5 rfl ?_; go_simp; have hs:=hs.new0; refine Shut.out hK _ _ hs.1.2.2 (fun hS=>?_); clear hK K; generalize W.alloc (.cells #[.int .i64 20,.int .i64 0,.int .i64 ((how:Nat):Int)] 3)=V at hs hS ⊢; generalize W.heap.size=g at hs ⊢; revert V; intro W hS hs; (first | refine wpAnyH_ready (rs:=[3,23]) (by decide +kernel) (by simp) ?_ | refine wpAnyH_ready (rs:=[3]) (by decide +kernel) (by simp) ?_))
  | (refine at_dstH 26 rfl ?_; go_simp; have hs:=hs.new1; refine Shut.out hK _ _ hs.1.2.2 (fun hS=>?_); clear hK K; generalize W.alloc (.cells #[.int .i64 ((nm.size:Nat):Int),.int .i64 0] 3)=V at hs hS ⊢; generalize W.heap.size=g at hs ⊢; revert V; intro W hS hs; (first | refine wpAnyH_ready (rs:=[2]) (by decide +kernel) (by simp) ?_ | refine wpAnyH_ready (rs:=[3]) (by decide +kernel) (by simp) ?_ | refine wpAnyH_ready (rs:=[6]) (by decide +kernel) (by simp) ?_ | refine wpAnyH_ready (rs:=[10]) (by decide +kernel) (by simp) ?_ | refine wpAnyH_ready (rs:=[14]) (by decide +kernel) (by simp) ?_ | refine wpAnyH_ready (rs:=[18]) (by decide +kernel) (by simp) ?_ | refine wpAnyH_ready (rs:=[24]) (by decide +kernel) (by simp) ?_))
  | (refine at_dstH 6 rfl ?_; go_simp; go_at_call 89; refine (unhide CW0 _ _ (hs.2.1 _ rfl)).mono ?_; rintro e W ⟨rfl,Bd⟩; have hs:=hs.later Bd; refine Shut.out hK _ _ hs.1.2.2 (fun hS=>?_); clear hK K; clear Bd; (first | refine wpAnyH_ready (rs:=[6,23]) (by decide +kernel) (by simp) ?_ | refine wpAnyH_ready (rs:=[6]) (by decide +kernel) (by simp) ?_))
  | (refine at_dstH 9 rfl ?_; go_simp; go_at_call 90; refine (unhide CLA1 _).mono ?_; rintro e W ⟨rfl,Bd⟩; have hs:=hs.later Bd; refine Shut.out hK _ _ hs.1.2.2 (fun hS=>?_); clear hK K; clear Bd; refine wpAnyH_take (i:=7) (v:=.string (A0++A1)) rfl (by kernel_rfl) (by kernel_rfl) (by kernel_rfl) (fun _ _ _ h=>h) (Or.inl ⟨by rfl,fun W hSw=>by go_simp <;> omega⟩) hS ?_; (first | refine wpAnyH_ready (rs:=[10,23]) (by decide +kernel) (by simp) ?_ | refine wpAnyH_ready (rs:=[10]) (by decide +kernel) (by simp) ?_))
  | (refine at_dstH 13 rfl ?_; go_simp; go_at_call 90; refine (unhide CLA2 _).mono ?_; rintro e W ⟨rfl,Bd⟩; have hs:=hs.later Bd; refine Shut.out hK _ _ hs.1.2.2 (fun hS=>?_); clear hK K; clear Bd; refine wpAnyH_take (i:=11) (v:=.string (A0++A1++A2)) rfl (by kernel_rfl) (by kernel_rfl) (by kernel_rfl) (fun _ _ _ h=>h) (Or.inl ⟨by rfl,fun W hSw=>by go_simp <;> omega⟩) hS ?_; (first | refine wpAnyH_ready (rs:=[14,23]) (by decide +kernel) (by simp) ?_ | refine wpAnyH_ready (rs:=[14]) (by decide +kernel) (by simp) ?_))
  | (refine at_dstH 17 rfl ?_; go_simp; go_at_call 90; refine (unhide CLA3 _).mono ?_; rintro e W ⟨rfl,Bd⟩; have hs:=hs.later Bd; refine Shut.out hK _ _ hs.1.2.2 (fun hS=>?_); clear hK K; clear Bd; refine wpAnyH_take (i:=15) (v:=.string (A0++A1++A2++A3)) rfl (by kernel_rfl) (by kernel_rfl) (by kernel_rfl) (fun _ _ _ h=>h) (Or.inl ⟨by rfl,fun W hSw=>by go_simp <;> omega⟩) hS ?_; (first | refine wpAnyH_ready (rs:=[18,23]) (by decide +kernel) (by simp) ?_ | refine wpAnyH_ready (rs:=[18]) (by decide +kernel) (by simp) ?_))
  | (refine at_dstH 21 rfl ?_; go_simp; go_at_call 90; refine (unhide CLA4 _).mono ?_; rintro e W ⟨rfl,Bd⟩; have hs:=hs.later Bd; refine Shut.out hK _ _ hs.1.2.2 (fun hS=>?_); clear hK K; clear Bd; refine wpAnyH_take (i:=19) (v:=.string (A0++A1++A2++A3++A4)) rfl (by kernel_rfl) (by kernel_rfl) (by kernel_rfl) (fun _ _ _ h=>h) (Or.inl ⟨by rfl,fun W hSw=>by go_simp <;> omega⟩) hS ?_; (first | refine wpAnyH_ready (rs:=[23]) (by decide +kernel) (by simp) ?_ | refine wpAnyH_ready (rs:=[24]) (by decide +kernel) (by simp) ?_))
  | (refine at_dstH 27 rfl ?_; go_simp; go_at_call 89; refine (unhide CW1 _ _ (hs.2.2 _ rfl)).mono ?_; rintro e W ⟨rfl,Bd⟩; have hs:=hs.later Bd; refine Shut.out hK _ _ hs.1.2.2 (fun hS=>?_); clear hK K; clear Bd; refine wpAnyH_take (i:=25) (v:=.string (A0++A1++A2++A3++A4++A5)) rfl (by kernel_rfl) (by kernel_rfl) (by kernel_rfl) (fun _ _ _ h=>h) (Or.inl ⟨by rfl,fun W hSw=>by go_simp <;> omega⟩) hS ?_; refine wpAnyH_ready (rs:=[26]) (by kernel_rfl) (by simp) ?_)
  | (refine at_dstH 2 rfl ?_; go_simp; refine Shut.out hK _ _ hs.1.2.2 (fun hS=>?_); clear hK K; refine wpAnyH_done (by kernel_rfl) ?_ _; generalize hAA:A0++A1++A2++A3++A4++A5=AA; go_wp2; go_ret; exact ⟨by subst hAA; rfl,hs.1.1⟩)
theorem strL_size (l:List UInt8):(strL l).size=l.length:=by simp [strL,ByteArray.size]
theorem toldB_size (how st crc pk lg n:Nat):(toldB how st crc pk lg n).size=26:=by
 unfold toldB
 rw [ByteArray.size_append,ByteArray.size_append,ByteArray.size_append,ByteArray.size_append,ByteArray.size_append]
 simp only [strL_size,List.flatMap_cons,List.flatMap_nil,List.length_append,leS_len,List.length_nil]
def headB (how st crc pk lg:Nat) (nm:ByteArray):ByteArray:=(⟨#[80,75,3,4]⟩:ByteArray)++toldB how st crc pk lg nm.size++nm
set_option maxHeartbeats 3200000 in
theorem head_any (how st crc pk lg:Nat) (nm bd:ByteArray) (w:World) (h0:how<65536) (h1:st<4294967296) (h2:crc<4294967296) (h3:pk<4294967296) (h4:lg<4294967296) (h5:nm.size<65536) :
  Calls Tryz.prog 87 #[.agg #[.int .i64 (how:Nat),.int .i64 (st:Nat),.int .i64 (crc:Nat),.int .i64 (pk:Nat),.int .i64 (lg:Nat),.string nm,.string bd]] w fun e w'=>e = .returned (.string (headB how st crc pk lg nm))∧Below w.heap.size w w':=by
 have HC:=hide (fun W=>told_any how st crc pk lg nm W h0 h1 h2 h3 h4 h5)
 have hmix:Tryz.prog.follows .mixedOrders=true:=by kernel_rfl
 obtain ⟨A,hA⟩:∃ A,toldB how st crc pk lg nm.size=A:=⟨_,rfl⟩
 have hAz:(A.size:Int)≤1000:=by
  rw [←hA,toldB_size]
  omega
 have hnI:(nm.size:Int)<65536:=by omega
 have hB:headB how st crc pk lg nm=(⟨#[80,75,3,4]⟩:ByteArray)++A++nm:=by unfold headB; rw [hA]
 rw [hA] at HC
 rw [hB]
 have T0':Hid (TolS w how st crc pk lg nm (w.alloc (.cells #[.int .i64 (how:Nat),.int .i64 (st:Nat),.int .i64 (crc:Nat),.int .i64 (pk:Nat),.int .i64 (lg:Nat),.string nm,.string bd] 63))):=⟨(Below.refl _ _).alloc (Nat.le_refl _) _,by simp,by simp,by simp,by simp,by simp,by simp,by simp⟩
 clear h0 h1 h2 h3 h4 h5 hA hB
 go_enter Tryz.func87,Tryz.ntmps87
 go_wp2_with fail
 obtain ⟨W0,hW0⟩:∃ x,w.alloc (.cells #[.int .i64 (how:Nat),.int .i64 (st:Nat),.int .i64 (crc:Nat),.int .i64 (pk:Nat),.int .i64 (lg:Nat),.string nm,.string bd] 63)=x:=⟨_,rfl⟩
 rw [hW0] at T0'
 rw [hW0]
 have T0:=T0'
 clear T0' hW0
 refine wp_region_held_drew (S:=fun W=>SixB W w.heap.size how st crc pk lg nm) hmix (unhide T0).2.2 (fun hS=>?_)
 refine wpAnyH_take (i:=0) (v:=.pointer (some ⟨w.heap.size,0,none⟩)) rfl (by kernel_rfl) (by kernel_rfl) (by kernel_rfl) (fun _ _ _ h=>h) (Or.inl ⟨by rfl,fun W hSw=>by obtain ⟨s0,s1,s2,s3,s4,s5⟩:=hSw; go_simp⟩) hS ?_
 refine wpAnyH_take (i:=1) (v:=.agg #[.int .i64 (how:Nat),.int .i64 (st:Nat),.int .i64 (crc:Nat),.int .i64 (pk:Nat),.int .i64 (lg:Nat),.string nm]) rfl (by kernel_rfl) (by kernel_rfl) (by kernel_rfl) (fun _ _ _ h=>h) (Or.inl ⟨by rfl,fun W hSw=>by obtain ⟨s0,s1,s2,s3,s4,s5⟩:=hSw; go_simp⟩) hS ?_
 refine wpAnyH_take (i:=4) (v:=.pointer (some ⟨w.heap.size,0,none⟩)) rfl (by kernel_rfl) (by kernel_rfl) (by kernel_rfl) (fun _ _ _ h=>h) (Or.inl ⟨by rfl,fun W hSw=>by obtain ⟨s0,s1,s2,s3,s4,s5⟩:=hSw; go_simp⟩) hS ?_
 refine wpAnyH_take (i:=5) (v:=.pointer (some ⟨w.heap.size,5,none⟩)) rfl (by kernel_rfl) (by kernel_rfl) (by kernel_rfl) (fun _ _ _ h=>h) (Or.inl ⟨by rfl,fun W hSw=>by obtain ⟨s0,s1,s2,s3,s4,s5⟩:=hSw; go_simp⟩) hS ?_
 refine wpAnyH_take (i:=6) (v:=.string nm) rfl (by kernel_rfl) (by kernel_rfl) (by kernel_rfl) (fun _ _ _ h=>h) (Or.inl ⟨by rfl,fun W hSw=>by obtain ⟨s0,s1,s2,s3,s4,s5⟩:=hSw; go_simp⟩) hS ?_
 have T1:Hid (TolS w how st crc pk lg nm W0.drew):=⟨(unhide T0).1.drew,(unhide T0).2.1,(unhide T0).2.2⟩
 generalize W0.drew=W1 at *
 refine wpAnyH_ready (rs:=[2]) (by kernel_rfl) (by simp) ?_
 refine AllReadyH.cons rfl (fun K hK=>?_) AllReadyH.nil
 go_simp
 go_at_call 130
 refine (unhide HC W1).mono ?_
 rintro e W2 ⟨rfl,Bd⟩
 have T2:=hide ((unhide T1).later Bd)
 refine Shut.out hK _ _ (unhide T2).2.2 (fun hS=>?_)
 clear hK K Bd
 refine wpAnyH_take (i:=3) (v:=.string ((⟨#[80,75,3,4]⟩:ByteArray)++A)) rfl (by kernel_rfl) (by kernel_rfl) (by kernel_rfl) (fun _ _ _ h=>h) (Or.inl ⟨by rfl,fun W hSw=>by obtain ⟨s0,s1,s2,s3,s4,s5⟩:=hSw; go_simp <;> omega⟩) hS ?_
 refine wpAnyH_take (i:=7) (v:=.string ((⟨#[80,75,3,4]⟩:ByteArray)++A++nm)) rfl (by kernel_rfl) (by kernel_rfl) (by kernel_rfl) (fun _ _ _ h=>h) (Or.inl ⟨by rfl,fun W hSw=>by obtain ⟨s0,s1,s2,s3,s4,s5⟩:=hSw; go_simp <;> omega⟩) hS ?_
 refine wpAnyH_ready (rs:=[8]) (by kernel_rfl) (by simp) ?_
 refine AllReadyH.cons rfl (fun K hK=>?_) AllReadyH.nil
 go_simp
 refine Shut.out hK _ _ (unhide T2).2.2 (fun hS=>?_)
 clear hK K
 refine wpAnyH_done (by kernel_rfl) ?_ _
 generalize hAA:(⟨#[80,75,3,4]⟩:ByteArray)++A++nm=AA
 go_wp2
 go_ret
 exact ⟨by subst hAA; rfl,(unhide T2).1⟩
theorem headB_size (how st crc pk lg:Nat) (nm:ByteArray):(headB how st crc pk lg nm).size=30+nm.size:=by
 unfold headB
 rw [ByteArray.size_append,ByteArray.size_append,toldB_size]
 have:(⟨#[80,75,3,4]⟩:ByteArray).size=4:=rfl
 omega
set_option maxHeartbeats 3200000 in
theorem headPut_any (how st crc pk lg:Nat) (nm bd:ByteArray) (w:World) (h0:how<65536) (h1:st<4294967296) (h2:crc<4294967296) (h3:pk<4294967296) (h4:lg<4294967296) (h5:nm.size<65536) (h6:bd.size≤100000) :
  Calls Tryz.prog 60 #[.agg #[.int .i64 (how:Nat),.int .i64 (st:Nat),.int .i64 (crc:Nat),.int .i64 (pk:Nat),.int .i64 (lg:Nat),.string nm,.string bd]] w fun e w'=>e = .returned (.string (headB how st crc pk lg nm++bd))∧Below w.heap.size w w':=by
 have hmix:Tryz.prog.follows .mixedOrders=true:=by kernel_rfl
 have HC:=hide (fun W=>head_any how st crc pk lg nm bd W h0 h1 h2 h3 h4 h5)
 have hAz:((headB how st crc pk lg nm).size:Int)≤70000:=by rw [headB_size]; omega
 have hbI:(bd.size:Int)≤100000:=by omega
 generalize headB how st crc pk lg nm=A at *
 have T0':Hid (TolS w how st crc pk lg nm (w.alloc (.cells #[.int .i64 (how:Nat),.int .i64 (st:Nat),.int .i64 (crc:Nat),.int .i64 (pk:Nat),.int .i64 (lg:Nat),.string nm,.string bd] 63))∧(w.alloc (.cells #[.int .i64 (how:Nat),.int .i64 (st:Nat),.int .i64 (crc:Nat),.int .i64 (pk:Nat),.int .i64 (lg:Nat),.string nm,.string bd] 63)).cell? ⟨w.heap.size,6,none⟩=some (.string bd)):=⟨⟨(Below.refl _ _).alloc (Nat.le_refl _) _,by simp,by simp,by simp,by simp,by simp,by simp,by simp⟩,by simp⟩
 clear h0 h1 h2 h3 h4 h5 h6
 go_enter Tryz.func60,Tryz.ntmps60
 go_wp2_with fail
 obtain ⟨W0,hW0⟩:∃ x,w.alloc (.cells #[.int .i64 (how:Nat),.int .i64 (st:Nat),.int .i64 (crc:Nat),.int .i64 (pk:Nat),.int .i64 (lg:Nat),.string nm,.string bd] 63)=x:=⟨_,rfl⟩
 rw [hW0] at T0'
 rw [hW0]
 have T0:=T0'
 clear T0' hW0
 refine wp_region_held_drew (S:=fun W=>SixB W w.heap.size how st crc pk lg nm∧W.cell? ⟨w.heap.size,6,none⟩=some (.string bd)) hmix ⟨(unhide T0).1.2.2,(unhide T0).2⟩ (fun hS=>?_)
 refine wpAnyH_take (i:=0) (v:=.agg #[.int .i64 (how:Nat),.int .i64 (st:Nat),.int .i64 (crc:Nat),.int .i64 (pk:Nat),.int .i64 (lg:Nat),.string nm,.string bd]) rfl (by kernel_rfl) (by kernel_rfl) (by kernel_rfl) (fun _ _ _ h=>h) (Or.inl ⟨by rfl,fun W hSw=>by obtain ⟨⟨s0,s1,s2,s3,s4,s5⟩,s6⟩:=hSw; go_simp⟩) hS ?_
 refine wpAnyH_take (i:=2) (v:=.pointer (some ⟨w.heap.size,6,none⟩)) rfl (by kernel_rfl) (by kernel_rfl) (by kernel_rfl) (fun _ _ _ h=>h) (Or.inl ⟨by rfl,fun W hSw=>by obtain ⟨⟨s0,s1,s2,s3,s4,s5⟩,s6⟩:=hSw; go_simp⟩) hS ?_
 refine wpAnyH_take (i:=3) (v:=.string bd) rfl (by kernel_rfl) (by kernel_rfl) (by kernel_rfl) (fun _ _ _ h=>h) (Or.inl ⟨by rfl,fun W hSw=>by obtain ⟨⟨s0,s1,s2,s3,s4,s5⟩,s6⟩:=hSw; go_simp⟩) hS ?_
 have T1:Hid (TolS w how st crc pk lg nm W0.drew∧W0.drew.cell? ⟨w.heap.size,6,none⟩=some (.string bd)):=⟨⟨(unhide T0).1.1.drew,(unhide T0).1.2.1,(unhide T0).1.2.2⟩,(unhide T0).2⟩
 generalize W0.drew=W1 at *
 refine wpAnyH_ready (rs:=[1]) (by kernel_rfl) (by simp) ?_
 refine AllReadyH.cons rfl (fun K hK=>?_) AllReadyH.nil
 go_simp
 go_at_call 87
 refine (unhide HC W1).mono ?_
 rintro e W2 ⟨rfl,Bd⟩
 have T2:Hid (TolS w how st crc pk lg nm W2∧W2.cell? ⟨w.heap.size,6,none⟩=some (.string bd)):=⟨(unhide T1).1.later Bd,by rw [Bd.cell (p:=⟨w.heap.size,6,none⟩) (unhide T1).1.2.1]; exact (unhide T1).2⟩
 refine Shut.out hK _ _ ⟨(unhide T2).1.2.2,(unhide T2).2⟩ (fun hS=>?_)
 clear hK K Bd
 refine wpAnyH_take (i:=4) (v:=.string (A++bd)) rfl (by kernel_rfl) (by kernel_rfl) (by kernel_rfl) (fun _ _ _ h=>h) (Or.inl ⟨by rfl,fun W hSw=>by obtain ⟨⟨s0,s1,s2,s3,s4,s5⟩,s6⟩:=hSw; go_simp <;> omega⟩) hS ?_
 refine wpAnyH_ready (rs:=[5]) (by kernel_rfl) (by simp) ?_
 refine AllReadyH.cons rfl (fun K hK=>?_) AllReadyH.nil
 go_simp
 refine Shut.out hK _ _ ⟨(unhide T2).1.2.2,(unhide T2).2⟩ (fun hS=>?_)
 clear hK K
 refine wpAnyH_done (by kernel_rfl) ?_ _
 generalize hAA:A++bd=AA
 go_wp2
 go_ret
 exact ⟨by subst hAA; rfl,(unhide T2).1.1⟩
end Go.Proofs.YtkdlcomfpffhhaaGreatDoor
namespace Go.Proofs.YtkdlcomfpffhhaaGreatDoor
open Corb
theorem leS_valB (l:List UInt8):leS l.length (valB l)=l:=by
 apply List.ext_getElem
 ·
  rw [leS_len]
 ·
  intro j h1 h2
  have h:=leS_get l.length (valB l) j h2
  rw [valB_get] at h
  rw [List.getD_eq_getElem?_getD,List.getElem?_eq_getElem h1,List.getD_eq_getElem?_getD,List.getElem?_eq_getElem h2] at h
  simpa using h
theorem valB_leS (k V:Nat):valB (leS k V)=V%2 ^ (8*k):=by
 induction k with
 | zero=>simp [leS,valB,Nat.mod_one]
 | succ k ih=>
  simp only [leS]
  rw [valB_append,ih,leS_len]
  have e:2 ^ (8*(k+1))=2 ^ (8*k)*256:=by rw [Nat.mul_add,Nat.pow_add]
  rw [e,Nat.mod_mul]
  congr 2
  simp [valB]
theorem num_step (V p k:Nat):V/2 ^ p%2 ^ (k+1)=V/2 ^ p%2 ^ k+V/2 ^ (p+k)%2*2 ^ k:=by
 rw [low_bits,Nat.div_div_eq_div_mul,←Nat.pow_add]
def sumN (l:List Int):Nat:=(l.map Int.toNat).sum
theorem sumN_append (a b:List Int):sumN (a++b)=sumN a+sumN b:=by simp [sumN]
theorem sumN_cons (x:Int) (b:List Int):sumN (x :: b)=x.toNat+sumN b:=by simp [sumN]
def readV (V:Nat):Nat→List Int→List Int
 | _,[]=>[]
 | p,b :: bs=>((V/2 ^ p%2 ^ b.toNat:Nat):Int) :: readV V (p+b.toNat) bs
theorem readV_len (V p:Nat) (l:List Int):(readV V p l).length=l.length:=by
 induction l generalizing p with
 | nil=>rfl
 | cons b l ih=>simp [readV,ih]
theorem readV_append (V p:Nat) (a b:List Int):readV V p (a++b)=readV V p a++readV V (p+sumN a) b:=by
 induction a generalizing p with
 | nil=>simp [readV,sumN]
 | cons x a ih=>simp [readV,ih,sumN_cons,Nat.add_assoc]
def bitsOk (l:List Int):Bool:=l.all (fun b=>decide (0≤b)&&decide (b≤16))
def getOk (s:List UInt8) (l:List Int):Bool:=bitsOk l&&decide (l.length≤4000)&&decide (s.length=(sumN l+7)/8)&&decide (valB s<2 ^ sumN l)
def getL (s:List UInt8) (l:List Int):List Int:=if getOk s l=true then readV (valB s) 0 l else []
theorem bitsOk_get {l:List Int} (h:bitsOk l=true) (k:Nat) (hk:k<l.length):0≤l.getD k 0∧l.getD k 0≤16:=by
 have:=List.all_eq_true.1 h (l.getD k 0) (by simp [List.getD,hk])
 simpa using this
theorem sumN_bd {l:List Int} (h:bitsOk l=true):sumN l≤16*l.length:=by
 induction l with
 | nil=>simp [sumN]
 | cons b l ih=>
  have h':(0≤b∧b≤16)∧bitsOk l=true:=by simpa [bitsOk] using h
  have:=ih h'.2
  rw [sumN_cons,List.length_cons]
  omega
theorem rest_clear (s:List UInt8) (m:Nat) (h:s.length=(m+7)/8):(valB s/2 ^ m%2 ^ ((8-m%8)%8)=0)↔valB s<2 ^ m:=by
 have hlt:=valB_lt s
 have e:8*s.length=m+(8-m%8)%8:=by omega
 rw [e,Nat.pow_add] at hlt
 have h2:valB s/2 ^ m<2 ^ ((8-m%8)%8):=Nat.div_lt_of_lt_mul hlt
 rw [Nat.mod_eq_of_lt h2]
 constructor
 ·
  intro h0
  rcases Nat.div_eq_zero_iff.1 h0 with h | h
  ·
   have:=Nat.two_pow_pos m; omega
  ·
   exact h
 ·
  exact Nat.div_eq_of_lt
end Go.Proofs.YtkdlcomfpffhhaaGreatDoor
namespace Go.Proofs.YtkdlcomfpffhhaaGreatDoor
open Go.RowKit Corb
def headV (n:Nat):Nat:=1+n*256+(65535-n)*16777216
def storeL (L:List UInt8):List UInt8:=if L.length≤300 then leS 5 (headV L.length)++L else []
end Go.Proofs.YtkdlcomfpffhhaaGreatDoor
namespace Go.Proofs.YtkdlcomfpffhhaaGreatDoor
open Corb
def wd (l:List UInt8) (i k:Nat):Nat:=valB ((l.drop i).take k)
theorem wd_lt (l:List UInt8) (i k:Nat):wd l i k<2 ^ (8*k):=by
 unfold wd
 refine Nat.lt_of_lt_of_le (valB_lt _) (Nat.pow_le_pow_right (by decide) ?_)
 rw [List.length_take]; omega
theorem wd_two (l:List UInt8) (i:Nat):wd l i 2<65536:=wd_lt l i 2
theorem wd_four (l:List UInt8) (i:Nat):wd l i 4<4294967296:=wd_lt l i 4
theorem part_len {l:List UInt8} {i k:Nat} (h:i+k≤l.length):((l.drop i).take k).length=k:=by
 rw [List.length_take,List.length_drop]; omega
theorem wd_leS {l:List UInt8} {i k:Nat} (h:i+k≤l.length):leS k (wd l i k)=(l.drop i).take k:=by
 have:=leS_valB ((l.drop i).take k)
 rw [part_len h] at this
 exact this
theorem wd_add {l:List UInt8} {i j:Nat} (k:Nat) (h:i+j≤l.length):wd l i (j+k)=wd l i j+2 ^ (8*j)*wd l (i+j) k:=by
 unfold wd
 rw [List.take_add,valB_append,part_len h,List.drop_drop]
theorem wd_22 {l:List UInt8} {i:Nat} (h:i+2≤l.length):wd l i 4=wd l i 2+65536*wd l (i+2) 2:=wd_add (j:=2) 2 h
theorem wd_eq {l:List UInt8} {i k v:Nat} (h:i+k≤l.length) (hv:v<2 ^ (8*k)):wd l i k=v↔(l.drop i).take k=leS k v:=by
 constructor
 ·
  intro e; rw [←e,wd_leS h]
 ·
  intro e
  unfold wd
  rw [e,valB_leS,Nat.mod_eq_of_lt hv]
theorem valB_part {l:List UInt8} {i k:Nat} (h:i+k≤l.length):valB l/2 ^ (8*i)%2 ^ (8*k)=wd l i k:=by
 have e1:valB l=valB (l.take i)+2 ^ (8*i)*valB (l.drop i):=by
  have h1:=valB_append (l.take i) (l.drop i)
  rw [List.take_append_drop,List.length_take,Nat.min_eq_left (by omega)] at h1
  exact h1
 have l1:valB (l.take i)<2 ^ (8*i):=by
  have:=valB_lt (l.take i)
  rw [List.length_take,Nat.min_eq_left (by omega)] at this
  exact this
 have e2:valB (l.drop i)=wd l i k+2 ^ (8*k)*valB ((l.drop i).drop k):=by
  have h1:=valB_append ((l.drop i).take k) ((l.drop i).drop k)
  rw [List.take_append_drop,part_len h] at h1
  exact h1
 rw [e1,Nat.add_mul_div_left _ _ (Nat.two_pow_pos _),Nat.div_eq_of_lt l1,Nat.zero_add,e2,Nat.add_mul_mod_self_left,Nat.mod_eq_of_lt (wd_lt l i k)]
theorem readV_same (V b:Nat):∀ (n p j:Nat),j<n→(readV V p (List.replicate n ((b:Nat):Int))).getD j 0=((V/2 ^ (p+b*j)%2 ^ b:Nat):Int)
 | 0,_,_,h=>by omega
 | n+1,p,0,_=>by simp [List.replicate_succ,readV]
 | n+1,p,j+1,h=>by
  rw [List.replicate_succ]
  simp only [readV,List.getD_cons_succ]
  rw [readV_same V b n _ j (by omega),Int.toNat_natCast,show p+b+b*j=p+b*(j+1) by rw [Nat.mul_add]; omega]
theorem head_ok {l:List UInt8} (h:30≤l.length):getOk (l.take 30) (List.replicate 15 16)=true:=by
 have e1:sumN (List.replicate 15 16)=240:=by decide
 have e2:(l.take 30).length=30:=by rw [List.length_take]; omega
 have e3:bitsOk (List.replicate 15 16)=true:=by decide
 have e4:=valB_lt (l.take 30)
 rw [e2] at e4
 unfold getOk
 rw [e1,e2,e3]
 simpa using e4
theorem head_words {l:List UInt8} (h:30≤l.length) (j:Nat) (hj:j<15):(getL (l.take 30) (List.replicate 15 16)).getD j 0=((wd l (2*j) 2:Nat):Int):=by
 unfold getL
 rw [if_pos (head_ok h)]
 have h1:=readV_same (valB (l.take 30)) 16 15 0 j hj
 rw [show ((16:Nat):Int)=16 from rfl] at h1
 rw [h1]
 have e2:(l.take 30).length=30:=by rw [List.length_take]; omega
 have h2:=valB_part (l:=l.take 30) (i:=2*j) (k:=2) (by omega)
 rw [show 0+16*j=8*(2*j) by omega,show (16:Nat)=8*2 from rfl,h2]
 congr 1
 unfold wd
 rw [List.drop_take,List.take_take,Nat.min_eq_left (by omega)]
theorem head_len {l:List UInt8} (h:30≤l.length):(getL (l.take 30) (List.replicate 15 16)).length=15:=by
 unfold getL
 rw [if_pos (head_ok h),readV_len,List.length_replicate]
def fixB (l:List UInt8):Bool:=decide (wd l 0 4=67324752)&&(decide (wd l 4 2=20)&&(decide (wd l 6 2=0)&&decide (wd l 28 2=0)))
theorem parts_head (l:List UInt8) (n:Nat):l.take (30+n)=(l.drop 0).take 4++((l.drop 4).take 2++((l.drop 6).take 2++((l.drop 8).take 2++((l.drop 10).take 4++((l.drop 14).take 4++((l.drop 18).take 4++((l.drop 22).take 4++((l.drop 26).take 2++((l.drop 28).take 2++(l.drop 30).take n))))))))):=by
 have st:∀ i k m,(l.drop i).take (k+m)=(l.drop i).take k++(l.drop (i+k)).take m:=fun i k m=>by rw [List.take_add,List.drop_drop]
 rw [←st 28 2 n,←st 26 2 _,←st 22 4 _,←st 18 4 _,←st 14 4 _,←st 10 4 _,←st 8 2 _,←st 6 2 _,←st 4 2 _,←st 0 4 _,List.drop_zero]
 congr 1
 omega
theorem head_bytes (how st crc pk lg:Nat) (nm:ByteArray):(headB how st crc pk lg nm).data.toList=leS 4 67324752++(leS 2 20++(leS 2 0++(leS 2 how++(leS 4 st++(leS 4 crc++(leS 4 pk++(leS 4 lg++(leS 2 nm.size++(leS 2 0++nm.data.toList))))))))):=by
 have e:leS 4 67324752=[80,75,3,4]:=by decide +kernel
 rw [e]
 unfold headB toldB strL
 simp
theorem head_pre {l:List UInt8} {nm:ByteArray} (h:30+wd l 26 2≤l.length) (hn:nm.data.toList=(l.drop 30).take (wd l 26 2)) :
  (headB (wd l 8 2) (wd l 10 4) (wd l 14 4) (wd l 18 4) (wd l 22 4) nm).data.toList.isPrefixOf l=fixB l:=by
 have hs:nm.size=wd l 26 2:=by
  have:=congrArg List.length hn
  rw [part_len h] at this
  simpa using this
 have hlen:(headB (wd l 8 2) (wd l 10 4) (wd l 14 4) (wd l 18 4) (wd l 22 4) nm).data.toList.length=30+wd l 26 2:=by
  rw [head_bytes,hn]
  simp only [List.length_append,leS_len,part_len h]
  omega
 rw [Bool.eq_iff_iff,List.isPrefixOf_iff_prefix,List.prefix_iff_eq_take,hlen,parts_head,head_bytes,hs,hn,
  wd_leS (i:=8) (k:=2) (by omega),wd_leS (i:=10) (k:=4) (by omega),wd_leS (i:=14) (k:=4) (by omega),wd_leS (i:=18) (k:=4) (by omega),wd_leS (i:=22) (k:=4) (by omega),wd_leS (i:=26) (k:=2) (by omega)]
 simp only [fixB,Bool.and_eq_true,decide_eq_true_eq]
 rw [wd_eq (i:=0) (k:=4) (by omega) (by decide),wd_eq (i:=4) (k:=2) (by omega) (by decide),wd_eq (i:=6) (k:=2) (by omega) (by decide),wd_eq (i:=28) (k:=2) (by omega) (by decide)]
 constructor
 ·
  intro e
  obtain ⟨e1,e⟩:=List.append_inj e (by rw [leS_len,part_len (by omega)])
  obtain ⟨e2,e⟩:=List.append_inj e (by rw [leS_len,part_len (by omega)])
  obtain ⟨e3,e⟩:=List.append_inj e (by rw [leS_len,part_len (by omega)])
  have e:=List.append_cancel_left (List.append_cancel_left (List.append_cancel_left (List.append_cancel_left (List.append_cancel_left (List.append_cancel_left e)))))
  obtain ⟨e4,_⟩:=List.append_inj e (by rw [leS_len,part_len (by omega)])
  exact ⟨e1.symm,e2.symm,e3.symm,e4.symm⟩
 ·
  rintro ⟨e1,e2,e3,e4⟩
  rw [e1,e2,e3,e4]
theorem wd_cons {l:List UInt8} {i:Nat} (k:Nat) (h:i<l.length):wd l i (k+1)=(l.getD i 0).toNat+256*wd l (i+1) k:=by
 have e:(l.drop i).take (k+1)=l[i] :: (l.drop (i+1)).take k:=by rw [List.drop_eq_getElem_cons h,List.take_succ_cons]
 unfold wd
 rw [e,List.getD_eq_getElem?_getD,List.getElem?_eq_getElem h]
 simp only [valB,Option.getD_some]
theorem wd_app {a b:List UInt8} {i m:Nat} (k:Nat) (h:a.length=m):wd (a++b) (m+i) k=wd b i k:=by
 unfold wd
 rw [←h,List.drop_append,List.drop_eq_nil_of_le (by omega),List.nil_append,Nat.add_sub_cancel_left]
theorem wd_here {k V:Nat} (b:List UInt8) (h:V<2 ^ (8*k)):wd (leS k V++b) 0 k=V:=by
 unfold wd
 rw [List.drop_zero,List.take_append_of_le_length (by rw [leS_len]; exact Nat.le_refl _),List.take_of_length_le (by rw [leS_len]; exact Nat.le_refl _),valB_leS,Nat.mod_eq_of_lt h]
end Go.Proofs.YtkdlcomfpffhhaaGreatDoor
namespace Go.Proofs.YtkdlcomfpffhhaaGreatDoor
open Go.RowKit Corb
attribute [local go_sem ↓] Go.wp_at_zero Go.wp_at_succ
theorem num_bd (V p k:Nat) (h:k≤16):V/2 ^ p%2 ^ k<65536:=by
 have h1:V/2 ^ p%2 ^ k<2 ^ k:=Nat.mod_lt _ (Nat.two_pow_pos k)
 have h2:2 ^ k≤2 ^ 16:=Nat.pow_le_pow_right (by omega) h
 omega
theorem pow_bdN (k:Nat) (h:k≤16):p2 k≤65536:=by
 have h2:2 ^ k≤2 ^ 16:=Nat.pow_le_pow_right (by omega) h
 have h4:p2 k=2 ^ k:=rfl
 omega
set_option maxHeartbeats 800000 in
theorem srcNum_any (b p c:Nat) (s:ByteArray) (w:World) (h:Rdr w b s p) (hs:s.size≤2000000) (hc:c≤16) :
  Calls Tryz.prog 232 #[.pointer (some ⟨b,0,none⟩),.int .i64 (c:Int)] w fun e w'=>e = .returned (.int .i64 (numB s/2 ^ p%2 ^ c:Nat))∧Rdr w' b s (p+c)∧Keep1 b w w':=by
 have Hs:=hide hs
 have hc':(c:Int)≤16:=by omega
 have Hc:=hide hc
 clear hs hc
 go_enter Tryz.func232,Tryz.ntmps232
 go_wp2_with fail
 go_loopw [5,6] (fun n i wr=>∃ k:Nat,k≤c∧i = .int .i64 k∧n = .int .i64 (numB s/2 ^ p%2 ^ k:Nat)∧Rdr wr b s (p+k)∧Keep1 b w wr) (fun _ i _=>c-(intOf i).toNat)
 case atStart=>exact ⟨0,Nat.zero_le _,rfl,by simp [Nat.mod_one],h,Keep1.refl _ _⟩
 case round=>
  obtain ⟨k,hk,rfl,rfl,hr,hbel⟩:=hrel
  clear h
  have Hk:=hide hk
  by_cases hlt:k<c
  ·
   have hkc:(k:Int)<(c:Int):=by omega
   have hk16:k≤16:=by have:=unhide Hc; omega
   have hst:Hid (numB s/2 ^ p%2 ^ (k+1)=numB s/2 ^ p%2 ^ k+numB s/2 ^ (p+k)%2*p2 k):=num_step (numB s) p k
   have hn1:=num_bd (numB s) p k hk16
   have hx:numB s/2 ^ (p+k)%2≤1:=by omega
   have hpw:=pow_bdN k hk16
   have hbit:=hide (srcBit_any b (p+k) s wr hr (unhide Hs))
   have HPW:=hide (fun W=>powR k (p2 k) W (by omega) rfl)
   generalize numB s/2 ^ p%2 ^ k=n at *
   generalize numB s/2 ^ (p+k)%2=x at *
   generalize p2 k=PW at *
   have hmul:x*PW≤65536:=by rcases (show x=0∨x=1 by omega) with e | e <;> subst e <;> omega
   have e1:IntKind.i64.wrap ((x:Int)*(PW:Int))=((x*PW:Nat):Int):=by rw [←Int.natCast_mul]; exact wrap_id _ (by omega) (by omega)
   have e1':((x:Int)*(PW:Int))=((x*PW:Nat):Int):=by rw [←Int.natCast_mul]
   have hn1':(n:Int)<65536:=by omega
   have hm1':((x*PW:Nat):Int)≤65536:=by omega
   generalize hM:x*PW=M at *
   clear hM hk16 hx hpw hn1 hmul hk hr
   go_wp2_with fail
   refine (unhide hbit).mono ?_
   rintro e x1 ⟨rfl,hr1,hb1⟩
   go_wp2_with fail
   refine (unhide HPW _).mono ?_
   rintro e x2 ⟨rfl,rfl⟩
   go_wp2
   go_roundw
   case rel=>exact ⟨k+1,by omega,by go_num,by rw [unhide hst]; go_num,hr1,hbel.trans hb1⟩
   case measure=>simp [intOf]; omega
  ·
   obtain rfl:k=c:=by have:=unhide Hk; omega
   go_wp2
   go_ret
   exact ⟨rfl,hr,hbel⟩
theorem rest_step (V p j:Nat):(V/2 ^ p%2 ^ (j+1)=0)↔(V/2 ^ p%2 ^ j=0∧V/2 ^ (p+j)%2=0):=by
 rw [num_step]
 have:=Nat.two_pow_pos j
 constructor
 ·
  intro h
  have h1:=Nat.eq_zero_of_add_eq_zero_right h
  have h2:=Nat.eq_zero_of_add_eq_zero_left h
  rcases Nat.mul_eq_zero.1 h2 with h3 | h3
  ·
   exact ⟨h1,h3⟩
  ·
   omega
 ·
  rintro ⟨h1,h2⟩
  rw [h1,h2]
  simp
set_option maxHeartbeats 800000 in
theorem srcWhole_any (b p:Nat) (s:ByteArray) (w:World) (h:Rdr w b s p) (hs:s.size≤2000000) (hp:p≤8*s.size) :
  Calls Tryz.prog 219 #[.pointer (some ⟨b,0,none⟩)] w fun e w'=>e = .returned (.bool (decide (numB s/2 ^ p%2 ^ ((8-p%8)%8)=0)))∧Rdr w' b s (p+(8-p%8)%8)∧Keep1 b w w':=by
 have Hs:=hide hs
 have hp7:(8-p%8)%8≤7:=by omega
 have hpm:(p+(8-p%8)%8)%8=0:=by omega
 have hpl:p+(8-p%8)%8≤8*s.size:=by omega
 have hmin:∀ j,j<(8-p%8)%8→(p+j)%8≠0:=by omega
 have hsI:(s.size:Int)≤2000000:=by omega
 generalize (8-p%8)%8=c at *
 have Hp:=hide hpl
 clear hs hp hpl
 go_enter Tryz.func219,Tryz.ntmps219
 go_wp2_with fail
 go_loopw [3] (fun n wr=>∃ k m:Nat,k≤c∧n = .int .i64 (m:Nat)∧m≤k∧(m=0↔numB s/2 ^ p%2 ^ k=0)∧Rdr wr b s (p+k)∧Keep1 b w wr) (fun _ wr=>c+p-(match wr.cell? ⟨b,1,none⟩ with | some (.int _ i)=>i.toNat | _=>0))
 case atStart=>exact ⟨0,0,Nat.zero_le _,rfl,Nat.le_refl _,by simp [Nat.mod_one],h,Keep1.refl _ _⟩
 case round=>
  obtain ⟨k,m,hk,rfl,hmk,hm0,hr,hbel⟩:=hrel
  clear h
  have h3:=hr.at (by have:=unhide Hp; omega)
  obtain ⟨c0,c1,c2,f0,f1,f2,hb3⟩:=h3
  have Hk:=hide hk
  have Hm0:=hide hm0
  have hpk:((p+k:Nat):Int)≤16000000:=by have:=unhide Hp; omega
  clear hm0
  by_cases hlt:k<c
  ·
   have hne:¬ ((p+k:Nat):Int)%8=0:=by have:=hmin k hlt; omega
   have hst:=hide (rest_step (numB s) p k)
   have hx:numB s/2 ^ (p+k)%2≤1:=by omega
   have hbit:=hide (srcBit_any b (p+k) s wr hr (unhide Hs))
   generalize numB s/2 ^ (p+k)%2=x at *
   have hxI:(x:Int)≤1:=by omega
   have hmI:(m:Int)≤7:=by omega
   have HX:=hide hx
   have Hmk:=hide hmk
   have Hlt:=hide hlt
   have Hpk:=hide (show p+k<8*s.size by have:=unhide Hp; omega)
   clear hmin hx hk hmk hlt hr hpm hp7
   generalize hPK:p+k=pk at *
   have HPK:=hide hPK
   clear hPK
   go_wp2_with fail
   refine (unhide hbit).mono ?_
   rintro e x1 ⟨rfl,hr1,hb1⟩
   go_wp2
   go_roundw
   case rel=>exact ⟨k+1,m+x,unhide Hlt,by go_num,by have:=unhide Hmk; have:=unhide HX; omega,by rw [unhide hst,←unhide Hm0]; omega,by rw [←unhide HPK] at hr1; exact hr1,hbel.trans hb1⟩
   case measure=>
    have h1:=(hr1.at (by have:=unhide Hpk; omega)).2.1
    rw [h1,c1]
    have:=unhide HPK; have:=unhide Hlt
    simp
    omega
  ·
   obtain rfl:k=c:=by have:=unhide Hk; omega
   have he:((p+k:Nat):Int)%8=0:=by omega
   generalize hPK:p+k=pk at *
   go_wp2
   go_ret
   refine ⟨ret_bool ?_,by rw [hPK]; exact hr,hbel⟩
   rw [show decide (numB s/2 ^ p%2 ^ k=0)=decide (m=0) from decide_eq_decide.2 (unhide Hm0).symm]
   rcases Nat.eq_zero_or_pos m with h0 | h0
   ·
    subst h0; rfl
   ·
    rw [decide_eq_false (by omega)]
    first | (exact decide_eq_false (by omega)) | (exact beq_false_of_ne (by omega)) | (exact (by omega:False).elim)
end Go.Proofs.YtkdlcomfpffhhaaGreatDoor
namespace Go.Proofs.YtkdlcomfpffhhaaGreatDoor
open Go.RowKit Corb
theorem or_join (n x k M:Nat) (hn:n<p2 k) (hx:x≤1) (hk:k≤16) (hM:x*p2 k=M):bits .or .i64 (n:Int) (M:Int)=((n+M:Nat):Int):=by
 have h1:=pow_bdN k hk
 have hM2:M≤65536:=by
  rcases (show x=0∨x=1 by omega) with e | e <;> subst e <;> omega
 rw [i64_or_nat n M (by omega) (by omega)]
 congr 1
 rw [Nat.or_comm]
 rw [nat_join k M n (by rw [←hM]; exact Nat.mul_mod_left _ _) hn]
 omega
set_option maxHeartbeats 1600000 in
theorem rdPass_any (b p c:Nat) (num:Int) (s:ByteArray) (w:World) (h:Rdr w b s p) (hs:s.size≤2000000) (hc:c≤16) :
  Calls Tryz.prog 274 #[.pointer (some ⟨b,0,none⟩),.agg #[.int .i64 num,.int .i64 (c:Int)]] w fun e w'=>e = .returned (.int .i64 (numB s/2 ^ p%2 ^ c:Nat))∧Rdr w' b s (p+c)∧Keep1 b w w':=by
 have Hs:=hide hs
 have hc':(c:Int)≤16:=by omega
 have Hc:=hide hc
 have hlt:=h.lt
 have h0:=h.alloc (.cells #[.int .i64 num,.int .i64 (c:Int)] 173)
 have hk0:Keep1 b w (w.alloc (.cells #[.int .i64 num,.int .i64 (c:Int)] 173)):=(Keep1.refl _ _).alloc (by omega) _
 clear hs hc h
 go_enter Tryz.func274,Tryz.ntmps274
 go_wp2_with fail
 go_loopw [5,6,9] (fun n _ i wr=>∃ k:Nat,k≤c∧i = .int .i64 k∧n = .int .i64 (numB s/2 ^ p%2 ^ k:Nat)∧Rdr wr b s (p+k)∧Keep1 b w wr) (fun _ _ i _=>c-(intOf i).toNat)
 case atStart=>exact ⟨0,Nat.zero_le _,rfl,by simp [Nat.mod_one],h0,hk0⟩
 case round=>
  obtain ⟨k,hk,rfl,rfl,hr,hbel⟩:=hrel
  clear h0 hk0
  have Hk:=hide hk
  by_cases hlt:k<c
  ·
   have hkc:(k:Int)<(c:Int):=by omega
   have hk16:k≤16:=by have:=unhide Hc; omega
   have hst:Hid (numB s/2 ^ p%2 ^ (k+1)=numB s/2 ^ p%2 ^ k+numB s/2 ^ (p+k)%2*p2 k):=num_step (numB s) p k
   have hn0:numB s/2 ^ p%2 ^ k<p2 k:=Nat.mod_lt _ (Nat.two_pow_pos k)
   have hx:numB s/2 ^ (p+k)%2≤1:=by omega
   have hpw:=pow_bdN k hk16
   have hbit:=hide (rdBit_any b (p+k) s wr hr (unhide Hs))
   have hp2i:=p2_int k
   generalize numB s/2 ^ p%2 ^ k=n at *
   generalize numB s/2 ^ (p+k)%2=x at *
   have hor:=or_join n x k (x*p2 k) hn0 hx hk16 rfl
   have hmul:x*p2 k≤65536:=by rcases (show x=0∨x=1 by omega) with e | e <;> rw [e] <;> omega
   have e1':(x:Int)*2 ^ k=((x*p2 k:Nat):Int):=by rw [Int.natCast_mul,hp2i]
   have e1:IntKind.i64.wrap ((x:Int)*2 ^ k)=((x*p2 k:Nat):Int):=by rw [e1']; exact wrap_id _ (by omega) (by omega)
   generalize x*p2 k=M at *
   have e2:IntKind.i64.wrap (M:Int)=(M:Int):=wrap_id _ (by omega) (by omega)
   have k16:(k:Int)≤16:=by omega
   clear hk16 hx hpw hmul hk hr hn0 hp2i
   go_wp2_with fail
   refine (unhide hbit).mono ?_
   rintro e x1 ⟨rfl,hr1,hb1⟩
   go_wp2
   go_roundw
   case rel=>exact ⟨k+1,by omega,by go_num,by rw [unhide hst]; go_num,hr1,hbel.trans hb1⟩
   case measure=>simp [intOf]; omega
  ·
   obtain rfl:k=c:=by have:=unhide Hk; omega
   go_wp2
   go_ret
   exact ⟨rfl,hr,hbel⟩
theorem or_bits (m x:Nat) (hm:m≤1) (hx:x≤1):∃ y:Nat,bits .or .i64 (m:Int) (x:Int)=(y:Int)∧y≤1∧(y=0↔m=0∧x=0):=by
 refine ⟨m ||| x,i64_or_nat m x (by omega) (by omega),?_,?_⟩
 ·
  rcases (show m=0∨m=1 by omega) with e | e <;> rcases (show x=0∨x=1 by omega) with f | f <;> subst e <;> subst f <;> decide
 ·
  rcases (show m=0∨m=1 by omega) with e | e <;> rcases (show x=0∨x=1 by omega) with f | f <;> subst e <;> subst f <;> decide
set_option maxHeartbeats 800000 in
theorem rdClear_any (b p:Nat) (s:ByteArray) (w:World) (h:Rdr w b s p) (hs:s.size≤2000000) (hp:p≤8*s.size) :
  Calls Tryz.prog 160 #[.pointer (some ⟨b,0,none⟩)] w fun e w'=>e = .returned (.bool (decide (numB s/2 ^ p%2 ^ ((8-p%8)%8)=0)))∧Rdr w' b s (p+(8-p%8)%8)∧Keep1 b w w':=by
 have Hs:=hide hs
 have hp7:(8-p%8)%8≤7:=by omega
 have hpm:(p+(8-p%8)%8)%8=0:=by omega
 have hpl:p+(8-p%8)%8≤8*s.size:=by omega
 have hmin:∀ j,j<(8-p%8)%8→(p+j)%8≠0:=by omega
 have hsI:(s.size:Int)≤2000000:=by omega
 generalize (8-p%8)%8=c at *
 have Hp:=hide hpl
 clear hs hp hpl
 go_enter Tryz.func160,Tryz.ntmps160
 go_wp2_with fail
 go_loopw [3] (fun n wr=>∃ k m:Nat,k≤c∧n = .int .i64 (m:Nat)∧m≤1∧(m=0↔numB s/2 ^ p%2 ^ k=0)∧Rdr wr b s (p+k)∧Keep1 b w wr) (fun _ wr=>c+p-(match wr.cell? ⟨b,1,none⟩ with | some (.int _ i)=>i.toNat | _=>0))
 case atStart=>exact ⟨0,0,Nat.zero_le _,rfl,by omega,by simp [Nat.mod_one],h,Keep1.refl _ _⟩
 case round=>
  obtain ⟨k,m,hk,rfl,hmk,hm0,hr,hbel⟩:=hrel
  clear h
  have h3:=hr.at (by have:=unhide Hp; omega)
  obtain ⟨c0,c1,c2,f0,f1,f2,hb3⟩:=h3
  have Hk:=hide hk
  have Hm0:=hide hm0
  have hpk:((p+k:Nat):Int)≤16000000:=by have:=unhide Hp; omega
  clear hm0
  by_cases hlt:k<c
  ·
   have hne:¬ ((p+k:Nat):Int)%8=0:=by have:=hmin k hlt; omega
   have hst:=hide (rest_step (numB s) p k)
   have hx:numB s/2 ^ (p+k)%2≤1:=by omega
   have hbit:=hide (rdBit_any b (p+k) s wr hr (unhide Hs))
   generalize numB s/2 ^ (p+k)%2=x at *
   obtain ⟨y,hor,hy1,hy0⟩:=or_bits m x hmk hx
   have HY:=hide hy0
   have HY1:=hide hy1
   have Hlt:=hide hlt
   have Hpk:=hide (show p+k<8*s.size by have:=unhide Hp; omega)
   clear hmin hx hk hmk hlt hr hpm hp7 hy0 hy1
   generalize hPK:p+k=pk at *
   have HPK:=hide hPK
   clear hPK
   go_wp2_with fail
   refine (unhide hbit).mono ?_
   rintro e x1 ⟨rfl,hr1,hb1⟩
   go_wp2
   go_roundw
   case rel=>exact ⟨k+1,y,unhide Hlt,rfl,unhide HY1,by rw [unhide hst,←unhide Hm0]; exact unhide HY,by rw [←unhide HPK] at hr1; exact hr1,hbel.trans hb1⟩
   case measure=>
    have h1:=(hr1.at (by have:=unhide Hpk; omega)).2.1
    rw [h1,c1]
    have:=unhide HPK; have:=unhide Hlt
    simp
    omega
  ·
   obtain rfl:k=c:=by have:=unhide Hk; omega
   have he:((p+k:Nat):Int)%8=0:=by omega
   generalize hPK:p+k=pk at *
   go_wp2
   go_ret
   refine ⟨ret_bool ?_,by rw [hPK]; exact hr,hbel⟩
   rw [show decide (numB s/2 ^ p%2 ^ k=0)=decide (m=0) from decide_eq_decide.2 (unhide Hm0).symm]
   rcases Nat.eq_zero_or_pos m with h0 | h0
   ·
    subst h0; rfl
   ·
    rw [decide_eq_false (by omega)]
    first | (exact decide_eq_false (by omega)) | (exact beq_false_of_ne (by omega)) | (exact (by omega:False).elim)
set_option maxRecDepth 100000
def numI (s:ByteArray) (p k:Nat):Int:=if p+k≤s.size then ((wd s.data.toList p k:Nat):Int) else -1
theorem numI_yes {s:ByteArray} {p k:Nat} (h:p+k≤s.size):numI s p k=((wd s.data.toList p k:Nat):Int):=if_pos h
theorem numI_no {s:ByteArray} {p k:Nat} (h:¬ p+k≤s.size):numI s p k = -1:=if_neg h
theorem byte_atB (s:ByteArray) (i:Nat) (h:i<s.size):s.data.toList.getD i 0=s[i]:=by
 have h':i<s.data.toList.length:=by simpa using h
 rw [List.getD_eq_getElem?_getD,List.getElem?_eq_getElem h']
 rfl
theorem wd_step (s:ByteArray) {i:Nat} (k:Nat) (h:i<s.size):wd s.data.toList i (k+1)=256*wd s.data.toList (i+1) k+s[i].toNat:=by
 rw [wd_cons k (by simpa using h),byte_atB s i h,Nat.add_comm]
theorem wrap_step {X:Nat} {b:UInt8} (hX:(X:Int)<16777216):wrap64 (256*(X:Int)+wrap64 (b.toNat:Int))=((256*X+b.toNat:Nat):Int):=by
 have:=b.toNat_lt
 simp only [wrap64]
 omega
set_option maxHeartbeats 1600000 in
theorem l6Num_any (s:ByteArray) (p k:Nat) (w:World) (hp:p≤4000000) (hk:k≤4) (hs:(s.size:Int)≤4611686018427387904) :
  Calls Tryz.prog 68 #[.string s,.int .i64 (p:Int),.int .i64 (k:Int)] w fun e w'=>e = .returned (.int .i64 (numI s p k))∧Below w.heap.size w w':=by
 have hkI:(k:Int)≤4:=by omega
 have hp0:(0:Int)≤(p:Int):=by omega
 have hk0:(0:Int)≤(k:Int):=by omega
 by_cases hh:p+k≤s.size
 ·
  rw [numI_yes hh]
  have hhI:(p:Int)+(k:Int)≤(s.size:Int):=by omega
  have HH:=hide hh
  clear hh
  go_enter Tryz.func68,Tryz.ntmps68
  go_wp2_with fail
  go_loopw [7,8] (fun x i wr=>∃ q j:Nat,q+j=k∧i = .int .i64 ((q:Int)-1)∧x = .int .i64 ((wd s.data.toList (p+q) j:Nat):Int)∧Below w.heap.size w wr) (fun _ i _=>(intOf i+1).toNat)
  case atStart=>exact ⟨k,0,rfl,rfl,by simp [wd,valB],Below.refl _ _⟩
  case round=>
   obtain ⟨q,j,hqj,rfl,rfl,hbel⟩:=hrel
   have HBel:=hide hbel
   clear hbel
   rcases q with _ | q
   ·
    obtain rfl:j=k:=by omega
    go_wp2
    go_ret
    exact ⟨rfl,unhide HBel⟩
   ·
    have hlt:p+q<s.size:=by have:=unhide HH; omega
    have HE:=hide (wd_step s j hlt)
    have hX:wd s.data.toList (p+q+1) j<16777216:=Nat.lt_of_lt_of_le (wd_lt _ _ _) (by
     have:8*j≤24:=by omega
     exact Nat.le_trans (Nat.pow_le_pow_right (by decide) this) (by decide))
    have e1:((q+1:Nat):Int)-1=(q:Int):=by omega
    have e2:p+(q+1)=p+q+1:=rfl
    rw [e1,e2]
    generalize wd s.data.toList (p+q+1) j=X at *
    have hXI:(X:Int)<16777216:=by omega
    have HQ:=hide hqj
    have hpq:(p:Int)+(q:Int)<(s.size:Int):=by omega
    have hpq0:0≤(p:Int)+(q:Int):=by omega
    have hpqM:(p:Int)+(q:Int)≤4611686018427387904:=by omega
    have hq4:(q:Int)≤4:=by omega
    clear hX e1 e2 hqj hhI hkI hk0 hk hp
    go_wp2
    go_roundw
    case rel=>exact ⟨q,j+1,by have:=unhide HQ; omega,by go_num,by rw [unhide HE,wrap_step hXI],unhide HBel⟩
    case measure=>simp [intOf]
 ·
  rw [numI_no hh]
  have hhI:(s.size:Int)<(p:Int)+(k:Int):=by omega
  clear hh
  go_enter Tryz.func68,Tryz.ntmps68
  go_wp2
  go_ret
  exact ⟨rfl,Below.refl _ _⟩
theorem l6Num_neg (s:ByteArray) (p:Int) (w:World) (hp:p<0) :
  Calls Tryz.prog 68 #[.string s,.int .i64 p,.int .i64 2] w fun e w'=>e = .returned (.int .i64 (-1))∧Below w.heap.size w w':=by
 go_enter Tryz.func68,Tryz.ntmps68
 go_wp2
 go_ret
 exact ⟨rfl,Below.refl _ _⟩
def RdrT (w:World) (b:Nat) (s:ByteArray) (p:Nat):Prop:=Three w b (.string s) (.int .i64 (min p (8*s.size):Nat)) (.bool true)
theorem RdrT.before {w:World} {b p:Nat} {s:ByteArray} (h:RdrT w b s p) (hp:p<8*s.size):Three w b (.string s) (.int .i64 (p:Int)) (.bool true):=by
 unfold RdrT at h
 rwa [Nat.min_eq_left (by omega)] at h
theorem RdrT.next {w:World} {b p:Nat} {s:ByteArray} (h:Three w b (.string s) (.int .i64 ((p:Int)+1)) (.bool true)) (hp:p<8*s.size):RdrT w b s (p+1):=by
 unfold RdrT
 rwa [Nat.min_eq_left (by omega)]
theorem RdrT.past {w:World} {b p:Nat} {s:ByteArray} (h:RdrT w b s p) (hp:8*s.size≤p):Three w b (.string s) (.int .i64 (8*s.size:Nat)) (.bool true):=by
 unfold RdrT at h
 rwa [Nat.min_eq_right (by omega)] at h
theorem RdrT.bad {w:World} {b p:Nat} {s:ByteArray} (h:Three w b (.string s) (.int .i64 (8*s.size:Nat)) (.bool true)) (hp:8*s.size≤p):RdrT w b s (p+1):=by
 unfold RdrT
 rwa [Nat.min_eq_right (by omega)]
theorem RdrT.at {w:World} {b p:Nat} {s:ByteArray} (h:RdrT w b s p) (hp:p≤8*s.size):Three w b (.string s) (.int .i64 (p:Int)) (.bool true):=by
 unfold RdrT at h
 rwa [Nat.min_eq_left (by omega)] at h
attribute [local go_sem ↓] Go.wp_at_zero Go.wp_at_succ
set_option maxHeartbeats 800000 in
theorem badBit_any (b p:Nat) (s:ByteArray) (w:World) (h:RdrT w b s p) (hs:s.size≤2000000) :
  Calls Tryz.prog 231 #[.pointer (some ⟨b,0,none⟩)] w fun e w'=>e = .returned (.int .i64 (numB s/2 ^ p%2:Nat))∧RdrT w' b s (p+1)∧Keep1 b w w':=by
 have hs':(s.size:Int)≤2000000:=by omega
 by_cases hp:p<8*s.size
 ·
  have h3:=h.before hp
  have hq:p/8<s.size:=by omega
  have hb:=numB_bit s p hq
  generalize hN:numB s/2 ^ p%2=N at *
  have Hp:=hide hp
  have hpI:(p:Int)<8*(s.size:Int):=by omega
  have hp7:p2 (p%8)≤128:=p2_le (p%8) 7 (by omega)
  have hp1:=p2_pos (p%8)
  have h3':=hide h3
  obtain ⟨c0,c1,c2,f0,f1,f2,hb3⟩:=h3
  have hb':(s[p/8]).toNat/p2 (p%8)%2=N:=hb
  clear h hN hb
  obtain ⟨Q,hQ⟩:∃ Q,p/8=Q:=⟨_,rfl⟩
  obtain ⟨R,hR⟩:∃ R,p%8=R:=⟨_,rfl⟩
  simp only [hQ,hR] at hb' hp7 hp1 hq
  have hbd:=(s[Q]).toNat_lt
  generalize hPW:p2 R=PW at *
  have HPW:=hide (fun W=>powR R PW W (by omega) hPW)
  have e1:IntKind.i64.wrap (Q:Int)=(Q:Int):=wrap_id _ (by omega) (by omega)
  have e2:(p:Int)/8=(Q:Int):=by omega
  have e3:(p:Int)%8=(R:Int):=by omega
  have e4:Int.tmod (p:Int) 8=(R:Int):=by rw [Int.tmod_eq_emod_of_nonneg (by omega)]; exact e3
  have e5:(Q:Int)<(s.size:Int):=by omega
  have e6:(0:Int)≤(Q:Int):=by omega
  have hle:(s[Q]).toNat/PW≤(s[Q]).toNat:=Nat.div_le_self _ _
  have e7:((s[Q]).toNat:Int)/(PW:Int)=(((s[Q]).toNat/PW:Nat):Int):=by simp
  have e0:(0:Int)≤((s[Q]).toNat:Int)/(PW:Int)∧((s[Q]).toNat:Int)/(PW:Int)≤255:=by rw [e7]; exact ⟨Int.natCast_nonneg _,by omega⟩
  have e8:IntKind.i64.wrap (((s[Q]).toNat:Int)/(PW:Int))=((s[Q]).toNat:Int)/(PW:Int):=wrap_id _ (by omega) (by omega)
  have e10:((s[Q]).toNat:Int)/(PW:Int)%2=(N:Int):=by rw [e7]; exact_mod_cast hb'
  have e9:Int.tmod (((s[Q]).toNat:Int)/(PW:Int)) 2=(N:Int):=by rw [Int.tmod_eq_emod_of_nonneg e0.1]; exact e10
  have e14:IntKind.i64.wrap ((s[Q]).toNat:Int)=((s[Q]).toNat:Int):=wrap_id _ (by omega) (by omega)
  have e12:¬ PW=0:=by omega
  clear hs hp hQ hR hPW hb' hle hbd hp7 hp1 e7 e0
  go_enter Tryz.func231,Tryz.ntmps231
  go_wp2
  go_quiet (fail)
  go_wp2
  go_region_held3 (fun W=>W.cell? ⟨b,0,none⟩=some (.string s)∧W.cell? ⟨b,1,none⟩=some (.int .i64 (p:Int))) (first | exact ⟨c0,c1⟩ | assumption) (first | (go_at_call 252; refine (unhide HPW _).mono ?_; rintro e w' ⟨rfl,rfl⟩))
  all_goals
   go_wp2
   go_ret
   exact ⟨rfl,RdrT.next (by exact (unhide h3').set1 _) (unhide Hp),keep1_set _ _ _ _ _⟩
 ·
  have h3:=h.past (by omega)
  have h3':=hide h3
  have Hp:=hide hp
  have hN:=hide (numB_past s p (by omega))
  obtain ⟨c0,c1,c2,f0,f1,f2,hb3⟩:=h3
  rw [Int.natCast_mul] at c1
  clear h hp hs
  go_enter Tryz.func231,Tryz.ntmps231
  go_wp2
  go_quiet (fail)
  go_wp2
  go_ret
  exact ⟨ret_int (by rw [unhide hN]; rfl),RdrT.bad ((unhide h3').set2 _) (by have:=unhide Hp; omega),keep1_set _ _ _ _ _⟩
set_option maxHeartbeats 800000 in
theorem badNum_any (b p c:Nat) (s:ByteArray) (w:World) (h:RdrT w b s p) (hs:s.size≤2000000) (hc:c≤16) :
  Calls Tryz.prog 232 #[.pointer (some ⟨b,0,none⟩),.int .i64 (c:Int)] w fun e w'=>e = .returned (.int .i64 (numB s/2 ^ p%2 ^ c:Nat))∧RdrT w' b s (p+c)∧Keep1 b w w':=by
 have Hs:=hide hs
 have hc':(c:Int)≤16:=by omega
 have Hc:=hide hc
 clear hs hc
 go_enter Tryz.func232,Tryz.ntmps232
 go_wp2_with fail
 go_loopw [5,6] (fun n i wr=>∃ k:Nat,k≤c∧i = .int .i64 k∧n = .int .i64 (numB s/2 ^ p%2 ^ k:Nat)∧RdrT wr b s (p+k)∧Keep1 b w wr) (fun _ i _=>c-(intOf i).toNat)
 case atStart=>exact ⟨0,Nat.zero_le _,rfl,by simp [Nat.mod_one],h,Keep1.refl _ _⟩
 case round=>
  obtain ⟨k,hk,rfl,rfl,hr,hbel⟩:=hrel
  clear h
  have Hk:=hide hk
  by_cases hlt:k<c
  ·
   have hkc:(k:Int)<(c:Int):=by omega
   have hk16:k≤16:=by have:=unhide Hc; omega
   have hst:Hid (numB s/2 ^ p%2 ^ (k+1)=numB s/2 ^ p%2 ^ k+numB s/2 ^ (p+k)%2*p2 k):=num_step (numB s) p k
   have hn1:=num_bd (numB s) p k hk16
   have hx:numB s/2 ^ (p+k)%2≤1:=by omega
   have hpw:=pow_bdN k hk16
   have hbit:=hide (badBit_any b (p+k) s wr hr (unhide Hs))
   have HPW:=hide (fun W=>powR k (p2 k) W (by omega) rfl)
   generalize numB s/2 ^ p%2 ^ k=n at *
   generalize numB s/2 ^ (p+k)%2=x at *
   generalize p2 k=PW at *
   have hmul:x*PW≤65536:=by rcases (show x=0∨x=1 by omega) with e | e <;> subst e <;> omega
   have e1:IntKind.i64.wrap ((x:Int)*(PW:Int))=((x*PW:Nat):Int):=by rw [←Int.natCast_mul]; exact wrap_id _ (by omega) (by omega)
   have e1':((x:Int)*(PW:Int))=((x*PW:Nat):Int):=by rw [←Int.natCast_mul]
   have hn1':(n:Int)<65536:=by omega
   have hm1':((x*PW:Nat):Int)≤65536:=by omega
   generalize hM:x*PW=M at *
   clear hM hk16 hx hpw hn1 hmul hk hr
   go_wp2_with fail
   refine (unhide hbit).mono ?_
   rintro e x1 ⟨rfl,hr1,hb1⟩
   go_wp2_with fail
   refine (unhide HPW _).mono ?_
   rintro e x2 ⟨rfl,rfl⟩
   go_wp2
   go_roundw
   case rel=>exact ⟨k+1,by omega,by go_num,by rw [unhide hst]; go_num,hr1,hbel.trans hb1⟩
   case measure=>simp [intOf]; omega
  ·
   obtain rfl:k=c:=by have:=unhide Hk; omega
   go_wp2
   go_ret
   exact ⟨rfl,hr,hbel⟩
set_option maxHeartbeats 800000 in
theorem badWhole_any (b p:Nat) (s:ByteArray) (w:World) (h:RdrT w b s p) (hs:s.size≤2000000) (hp:p≤8*s.size) :
  Calls Tryz.prog 219 #[.pointer (some ⟨b,0,none⟩)] w fun e w'=>e = .returned (.bool (decide (numB s/2 ^ p%2 ^ ((8-p%8)%8)=0)))∧RdrT w' b s (p+(8-p%8)%8)∧Keep1 b w w':=by
 have Hs:=hide hs
 have hp7:(8-p%8)%8≤7:=by omega
 have hpm:(p+(8-p%8)%8)%8=0:=by omega
 have hpl:p+(8-p%8)%8≤8*s.size:=by omega
 have hmin:∀ j,j<(8-p%8)%8→(p+j)%8≠0:=by omega
 have hsI:(s.size:Int)≤2000000:=by omega
 generalize (8-p%8)%8=c at *
 have Hp:=hide hpl
 clear hs hp hpl
 go_enter Tryz.func219,Tryz.ntmps219
 go_wp2_with fail
 go_loopw [3] (fun n wr=>∃ k m:Nat,k≤c∧n = .int .i64 (m:Nat)∧m≤k∧(m=0↔numB s/2 ^ p%2 ^ k=0)∧RdrT wr b s (p+k)∧Keep1 b w wr) (fun _ wr=>c+p-(match wr.cell? ⟨b,1,none⟩ with | some (.int _ i)=>i.toNat | _=>0))
 case atStart=>exact ⟨0,0,Nat.zero_le _,rfl,Nat.le_refl _,by simp [Nat.mod_one],h,Keep1.refl _ _⟩
 case round=>
  obtain ⟨k,m,hk,rfl,hmk,hm0,hr,hbel⟩:=hrel
  clear h
  have h3:=hr.at (by have:=unhide Hp; omega)
  obtain ⟨c0,c1,c2,f0,f1,f2,hb3⟩:=h3
  have Hk:=hide hk
  have Hm0:=hide hm0
  have hpk:((p+k:Nat):Int)≤16000000:=by have:=unhide Hp; omega
  clear hm0
  by_cases hlt:k<c
  ·
   have hne:¬ ((p+k:Nat):Int)%8=0:=by have:=hmin k hlt; omega
   have hst:=hide (rest_step (numB s) p k)
   have hx:numB s/2 ^ (p+k)%2≤1:=by omega
   have hbit:=hide (badBit_any b (p+k) s wr hr (unhide Hs))
   generalize numB s/2 ^ (p+k)%2=x at *
   have hxI:(x:Int)≤1:=by omega
   have hmI:(m:Int)≤7:=by omega
   have HX:=hide hx
   have Hmk:=hide hmk
   have Hlt:=hide hlt
   have Hpk:=hide (show p+k<8*s.size by have:=unhide Hp; omega)
   clear hmin hx hk hmk hlt hr hpm hp7
   generalize hPK:p+k=pk at *
   have HPK:=hide hPK
   clear hPK
   go_wp2_with fail
   refine (unhide hbit).mono ?_
   rintro e x1 ⟨rfl,hr1,hb1⟩
   go_wp2
   go_roundw
   case rel=>exact ⟨k+1,m+x,unhide Hlt,by go_num,by have:=unhide Hmk; have:=unhide HX; omega,by rw [unhide hst,←unhide Hm0]; omega,by rw [←unhide HPK] at hr1; exact hr1,hbel.trans hb1⟩
   case measure=>
    have h1:=(hr1.at (by have:=unhide Hpk; omega)).2.1
    rw [h1,c1]
    have:=unhide HPK; have:=unhide Hlt
    simp
    omega
  ·
   obtain rfl:k=c:=by have:=unhide Hk; omega
   have he:((p+k:Nat):Int)%8=0:=by omega
   generalize hPK:p+k=pk at *
   go_wp2
   go_ret
   refine ⟨ret_bool ?_,by rw [hPK]; exact hr,hbel⟩
   rw [show decide (numB s/2 ^ p%2 ^ k=0)=decide (m=0) from decide_eq_decide.2 (unhide Hm0).symm]
   rcases Nat.eq_zero_or_pos m with h0 | h0
   ·
    subst h0; rfl
   ·
    rw [decide_eq_false (by omega)]
    first | (exact decide_eq_false (by omega)) | (exact beq_false_of_ne (by omega)) | (exact (by omega:False).elim)
end Go.Proofs.YtkdlcomfpffhhaaGreatDoor
namespace Go.Proofs.YtkdlcomfpffhhaaGreatDoor
open Go.RowKit Corb
theorem implBitsLong_n (a:Option Addr) (cap n:Nat) (l:List (Int×Int)) (w:World) (hn:l.length=n) (h:PRow w a l) (hm:n≤1000000000) :
  Calls Tryz.prog 158 #[.slice a n cap] w fun e w'=>e = .returned (.int .i64 (longI l))∧Below w.heap.size w w':=by
 subst hn; exact implBitsLong_any a cap l w h hm
theorem getOk_no {s:List UInt8} {l:List Int} (h:bitsOk l=false∨4000<l.length):getOk s l=false∧getL s l=[]:=by
 have hk:getOk s l=false:=by
  unfold getOk
  rcases h with h | h
  ·
   simp [h]
  ·
   simp; omega
 exact ⟨hk,if_neg (by simp [hk])⟩
theorem getOk_eq {s:List UInt8} {l:List Int} (h:bitsOk l=true) (h4:l.length≤4000):getOk s l=(decide (s.length=(sumN l+7)/8)&&decide (valB s<2 ^ sumN l)):=by
 simp [getOk,h,h4]
theorem getL_no {s:List UInt8} {l:List Int} (h:getOk s l=false):getL s l=[]:=if_neg (by simp [h])
theorem getL_yes {s:List UInt8} {l:List Int} (h:getOk s l=true):getL s l=readV (valB s) 0 l:=if_pos h
theorem ret_two {v:Value} {a b:Bool} (h:a=b):Ending.returned (.tuple #[v,.bool a]) = .returned (.tuple #[v,.bool b]):=by rw [h]
def blank (l:List Int):List (Int×Int):=l.map fun b=>(0,b)
theorem blank_len (l:List Int):(blank l).length=l.length:=by simp [blank]
theorem pOk_blank (b:Int):pOk 0 b=inB b 0 16:=by
 rw [Bool.eq_iff_iff,pOk_true,inB_true]
 have:=p2_pos b.toNat
 constructor
 ·
  exact fun h=>h.1
 ·
  exact fun h=>⟨h,by omega,by omega⟩
theorem blank_ok (l:List Int):allOk (blank l)=bitsOk l:=by
 simp only [allOk,bitsOk,blank,List.all_map]
 congr 1
 funext b
 exact pOk_blank b
theorem blank_sum (l:List Int) (h:bitsOk l=true):sumBits (blank l)=(sumN l:Int):=by
 induction l with
 | nil=>rfl
 | cons b l ih=>
  have h':(0≤b∧b≤16)∧bitsOk l=true:=by simpa [bitsOk] using h
  have:=ih h'.2
  simp only [sumBits,blank,List.map_cons,List.sum_cons] at this ⊢
  rw [sumN_cons,this]
  omega
theorem blank_long (l:List Int) (h4:l.length≤4000):longI (blank l)=if bitsOk l=true then (sumN l:Int) else -1:=by
 unfold longI lOk
 rw [blank_ok,blank_len]
 rcases hb:bitsOk l with _ | _
 ·
  simp
 ·
  simp [h4,blank_sum l hb]
theorem blank_snoc (l:List Int) (b:Int):blank (l++[b])=blank l++[(0,b)]:=by simp [blank]
theorem blank_get (l:List Int) (k:Nat) (h:k<l.length):(blank l).getD k (0,0)=(0,l.getD k 0):=by
 simp [blank,List.getD,h]
set_option maxHeartbeats 400000 in
theorem blankOf_any (b:Int) (w:World) :
  Calls Tryz.prog 157 #[.int .i64 b] w fun e w'=>e = .returned (.agg #[.int .i64 0,.int .i64 b])∧Below w.heap.size w w':=by
 go_enter Tryz.func157,Tryz.ntmps157
 go_wp2
 exact bodyPost_ret (v:=.agg #[.int .i64 0,.int .i64 b]) (by simp [results,Tryz.results157,go_sem]) rfl ⟨rfl,(Below.refl _ _).alloc (Nat.le_refl _) _⟩
set_option maxHeartbeats 1600000 in
theorem eachB_any (a:Option Addr) (cap:Nat) (l:List Int) (w:World) (h:IRow w a l) (h4:l.length≤4000) :
  Calls Tryz.prog 132 #[.slice a l.length cap,.func (.func 157) #[] #[]] w fun e w'=>∃ v,e = .returned v∧Pcs w' w.heap.size v (blank l)∧Below w.heap.size w w':=by
 have H4:=hide h4
 have h4':(l.length:Int)≤4000:=by omega
 clear h4
 obtain ⟨i0,hi,hz0,hz1,hz2⟩:=info_parts Tryz.infoPiece
 go_enter Tryz.func132,Tryz.ntmps132
 go_wp2_with fail
 go_loopw [5,7,10] (fun o _ i wr=>∃ k:Nat,k≤l.length∧i = .int .i64 k∧Pcs wr w.heap.size o (blank (l.take k))∧Below w.heap.size w wr) (fun _ _ i _=>l.length-(intOf i).toNat)
 case atStart=>exact ⟨0,Nat.zero_le _,rfl,World.ownsRow_nil _ _ _ _,Below.refl _ _⟩
 case round=>
  obtain ⟨k,hk,rfl,hq,hbel⟩:=hrel
  by_cases hlt:k<l.length
  ·
   obtain ⟨g,o,rfl,hg,hc⟩:=(h.later hbel) (by omega)
   have c0:=hc k hlt
   have htk:=hide (take_snocI l k hlt)
   have hlk:Hid ((blank (l.take k)).length=k):=by show (blank (l.take k)).length=k; rw [blank_len]; simp; omega
   have HK:=hide hk
   clear hc hk h
   generalize l.getD k 0=y at *
   go_wp2_with fail
   refine (blankOf_any y _).mono ?_
   rintro e x1 ⟨rfl,hb1⟩
   have hq1:=Pcs.later hq hb1 (Nat.le_refl _)
   have hbel1:=bnext hbel hb1
   have hbs1:=hbel1.size
   clear hq hbel hb1
   go_wp2_with (at_builtin; refine wpList_append_own _ rfl _ _ 170 rfl w.heap.size 173 i0 (.agg #[.int .i64 0,.int .i64 0]) 2 16 Tryz.underlying170 hi hz0 hz1 hz2 rfl (by decide) _ _ _ rfl (World.ownsRow.alloc hq1 _) ⟨x1.heap.size,0,none⟩ 1 1 [.int .i64 0,.int .i64 y] rfl rfl (by intro j u hj; match j,hj with | 0,hj=>simp at hj; subst hj; simp [Addr.add] | 1,hj=>simp at hj; subst hj; simp [Addr.add]) (by intro u hu; simp at hu; rcases hu with rfl | rfl <;> rfl) (by have:=unhide hlk; have:=unhide H4; unfold maxLen; omega) (by have:=unhide hlk; have:=unhide H4; omega) (by simp; omega) ?_; intro v' x2 hown hgrow hnil; clear hnil)
   have hb2:=grown_step (v:=u5) hgrow hq1 (Nat.le_refl _) hbs1 hbel1
   have hq2:=pcs_snoc hown
   rw [←blank_snoc,←unhide htk] at hq2
   clear hown hgrow hq1
   go_wp2
   go_roundw
   case rel=>exact ⟨k+1,by have:=unhide HK; omega,by go_num,hq2,hb2⟩
   case measure=>simp [intOf]; omega
  ·
   have hlk2:l.take k=l:=List.take_of_length_le (by omega)
   rw [hlk2] at hq
   obtain ⟨va,vc,rfl⟩:=hq.form
   clear hlk2 h
   go_wp2
   go_ret
   exact ⟨_,rfl,hq,hbel⟩
theorem methPassR (a:Addr) (w:World):(method 500 213 (.pointer (some a)) "loop.example/corbel/impl.pass").run Tryz.prog w = .ok (274,.pointer (some a)) w:=by kernel_rfl
set_option maxHeartbeats 3200000 in
theorem eachR_any (b:Nat) (s:ByteArray) (a:Option Addr) (cap:Nat) (l:List Int) (w:World) (h:PRow w a (blank l)) (hbo:bitsOk l=true) (h4:l.length≤4000) (hs:s.size≤2000000) (hr:Rdr w b s 0) (hb:∀ g o,a=some ⟨g,o,none⟩→0<l.length→g<b) :
  Calls Tryz.prog 197 #[.slice a l.length cap,.func (.method "loop.example/corbel/impl.pass") #[.iface 213 (.pointer (some ⟨b,0,none⟩))] #[]] w fun e w'=>
   ∃ v,e = .returned v∧IOwn w' (b+1) v (readV (numB s) 0 l)∧Rdr w' b s (sumN l)∧Below b w w':=by
 have Hbo:=hide hbo
 have H4:=hide h4
 have Hs:=hide hs
 have h4':(l.length:Int)≤4000:=by omega
 have hbl:=blank_len l
 clear hbo h4 hs
 obtain ⟨i0,hi,hz0,hz1,hz2⟩:=info_parts Tryz.infoInt
 have mp:=methPassR ⟨b,0,none⟩
 have Hb:=hide hb
 clear hb
 go_enter Tryz.func197,Tryz.ntmps197
 go_wp2_with fail
 go_loopw [5,7,10] (fun o _ i wr=>∃ k:Nat,k≤l.length∧i = .int .i64 k∧IOwn wr (b+1) o (readV (numB s) 0 (l.take k))∧Rdr wr b s (sumN (l.take k))∧Below b w wr) (fun _ _ i _=>l.length-(intOf i).toNat)
 case atStart=>exact ⟨0,Nat.zero_le _,rfl,IOwn.nil _ _,hr,Below.refl _ _⟩
 case round=>
  obtain ⟨k,hk,rfl,hown,hrr,hbel⟩:=hrel
  have hrl:=hrr.lt
  by_cases hlt:k<l.length
  ·
   obtain ⟨g,o,rfl,hg,hc⟩:=h (by omega)
   have hgb:=unhide Hb g o rfl (by omega)
   have hck:=hc k (by omega)
   rw [blank_get l k hlt] at hck
   have c0:=(hbel.cell (p:=⟨g,o+k*2,none⟩) hgb).trans hck.1
   have c1:=(hbel.cell (p:=⟨g,o+k*2+1,none⟩) hgb).trans hck.2
   have htk:=hide (take_snocI l k hlt)
   have hrd:=hide (readV_append (numB s) 0 (l.take k) [l.getD k 0])
   have hsu:=hide (sumN_append (l.take k) [l.getD k 0])
   have hlk:Hid ((readV (numB s) 0 (l.take k)).length=k):=by show (readV (numB s) 0 (l.take k)).length=k; rw [readV_len]; simp; omega
   obtain ⟨y0,y1⟩:=bitsOk_get (unhide Hbo) k hlt
   have HK:=hide hk
   clear hc hk h hr hck hbl
   generalize l.getD k 0=y at *
   obtain ⟨c,rfl⟩:=Int.eq_ofNat_of_zero_le y0
   go_wp2_with fail
   refine (rdPass_any b (sumN (l.take k)) c 0 s _ (hrr.alloc _) (unhide Hs) (by omega)).mono ?_
   rintro e x1 ⟨rfl,hr1,hk1⟩
   have hown1:IOwn x1 (b+1) u5 (readV (numB s) 0 (l.take k)):=hk1.own (World.ownsRow.alloc hown _) (Nat.lt_succ_self _)
   have hbel1:=(hbel.alloc (Nat.le_of_lt hrl) (.cells #[.int .i64 0,.int .i64 (c:Int)] 173)).trans hk1.1
   have hr1l:=hr1.lt
   generalize hX:numB s/2 ^ sumN (l.take k)%2 ^ c=X at *
   have HX:=hide hX
   clear hX hown hrr hbel hk1
   go_wp2_with (at_builtin; refine wpList_append_own _ rfl _ _ 146 rfl (b+1) 3 i0 (.int .i64 0) 1 8 Tryz.underlying146 hi hz0 hz1 hz2 rfl (by decide) _ _ _ rfl (World.ownsRow.alloc hown1 _) ⟨x1.heap.size,0,none⟩ 1 1 [.int .i64 (X:Int)] rfl rfl (by intro j u hj; match j,hj with | 0,hj=>simp at hj; subst hj; simp [Addr.add]) (by intro u hu; simp at hu; subst hu; rfl) (by have:=unhide hlk; have:=unhide H4; unfold maxLen; omega) (by have:=unhide hlk; have:=unhide H4; omega) (by simp; omega) ?_; intro v' x3 hown hgrow hnil; clear hnil)
   have hr3:Rdr x3 b s (sumN (l.take k)+c):=hr1.kept (grown_step (v:=u5) hgrow hown1 (Nat.le_refl _) (by omega) (Below.refl _ _))
   have hbel3:Below b w x3:=grown_step (v:=u5) hgrow hown1 (Nat.le_succ _) (by omega) hbel1
   have hown3:=iown_snoc hown
   clear hown hgrow hown1 hr1 hbel1
   go_wp2
   go_roundw
   case rel=>
    refine ⟨k+1,by have:=unhide HK; omega,by go_num,?_,?_,hbel3⟩
    ·
     rw [unhide htk,unhide hrd]
     simp only [readV,Nat.zero_add,Int.toNat_natCast]
     rw [unhide HX]
     exact hown3
    ·
     rw [unhide htk,unhide hsu]
     simp only [sumN,List.map_cons,List.map_nil,List.sum_cons,List.sum_nil,Int.toNat_natCast,Nat.add_zero]
     exact hr3
   case measure=>simp [intOf]; omega
  ·
   have hlk2:l.take k=l:=List.take_of_length_le (by omega)
   rw [hlk2] at hown hrr
   obtain ⟨va,vc,rfl⟩:=hown.form
   clear hlk2 h hr
   go_wp2
   go_ret
   exact ⟨_,rfl,hown,hrr,hbel⟩
set_option maxHeartbeats 800000 in
theorem walkR_any (b:Nat) (s:ByteArray) (a:Option Addr) (cap:Nat) (l:List Int) (w:World) (h:PRow w a (blank l)) (hbo:bitsOk l=true) (h4:l.length≤4000) (hs:s.size≤2000000) (hr:Rdr w b s 0) (hb:∀ g o,a=some ⟨g,o,none⟩→0<l.length→g<b) :
  Calls Tryz.prog 159 #[.iface 213 (.pointer (some ⟨b,0,none⟩)),.slice a l.length cap] w fun e w'=>
   ∃ v,e = .returned v∧IOwn w' (b+1) v (readV (numB s) 0 l)∧Rdr w' b s (sumN l)∧Below b w w':=by
 go_enter Tryz.func159,Tryz.ntmps159
 go_wp2_with fail
 refine (eachR_any b s a cap l _ h hbo h4 hs hr hb).mono ?_
 rintro e w1 ⟨v,rfl,hown,hrr,hbel⟩
 obtain ⟨va,vc,rfl⟩:=hown.form
 go_wp2
 go_ret
 exact ⟨_,rfl,hown,hrr,hbel⟩
set_option maxHeartbeats 3200000 in
theorem implBitsGet_any (s:ByteArray) (a:Option Addr) (cap:Nat) (l:List Int) (w:World) (h:IRow w a l) (hs:s.size≤2000000) (hl:l.length≤2000000) :
  Calls Tryz.prog 114 #[.string s,.slice a l.length cap] w fun e w'=>∃ v,e = .returned (.tuple #[v,.bool (getOk s.data.toList l)])∧IOwn w' w.heap.size v (getL s.data.toList l)∧Below w.heap.size w w':=by
 have hlI:(l.length:Int)≤2000000:=by omega
 have Hs:=hide hs
 clear hs hl
 by_cases h4:l.length≤4000
 ·
  have h4I:(l.length:Int)≤4000:=by omega
  have H4:=hide h4
  have hlong:=hide (blank_long l h4)
  have hbl:=hide (blank_len l)
  go_enter Tryz.func114,Tryz.ntmps114
  go_wp2_with fail
  refine (eachB_any a cap l _ h (unhide H4)).mono ?_
  rintro e x1 ⟨v,rfl,hq,hb1⟩
  obtain ⟨va,vc,rfl⟩:=hq.formN (unhide hbl)
  have hrow:=hq.rowN (unhide hbl)
  clear h h4
  go_wp2_with fail
  refine (implBitsLong_n va vc l.length (blank l) _ (unhide hbl) hrow (by have:=unhide H4; omega)).mono ?_
  rintro e x2 ⟨rfl,hb2⟩
  rw [unhide hlong]
  have hq2:=hq.later hb2 (Nat.le_refl _)
  have hrow2:=hq2.rowN (unhide hbl)
  have hbel2:=bnext hb1 hb2
  have hws:=hide hbel2.size
  clear hrow hb1 hb2 hq
  rcases hbo:bitsOk l with _ | _
  ·
   have hno:=hide (getOk_no (s:=s.data.toList) (Or.inl hbo))
   rw [if_neg (by simp)]
   go_wp2
   go_ret2
   refine ⟨_,ret_two (unhide hno).1.symm,?_,hbel2⟩
   rw [(unhide hno).2]
   exact IOwn.nil _ _
  ·
   have Hbo:=hide hbo
   have hge:=hide (getOk_eq (s:=s.data.toList) hbo (unhide H4))
   have hsd:s.data.toList.length=s.size:=by simp
   have hsb:=sumN_bd hbo
   have hS:(sumN l:Int)≤64000:=by have:=unhide H4; omega
   have hS0:(0:Int)≤(sumN l:Int):=by omega
   have hcl:=hide (rest_clear s.data.toList (sumN l))
   rw [hsd] at hge hcl
   rw [if_pos rfl]
   have hyes:=hide (getL_yes (s:=s.data.toList) (l:=l))
   have hnot:=hide (getL_no (s:=s.data.toList) (l:=l))
   have hV:valB s.data.toList=numB s:=rfl
   rw [hV] at hge hcl hyes
   clear hbo hsb hsd hV
   generalize hm:sumN l=m at *
   have Hm:=hide hm
   clear hm
   by_cases he:(s.size:Int)=((m:Int)+7)/8
   ·
    have he':s.size=(m+7)/8:=by omega
    have hR0:=rdr_new x2 s 215
    have hB0:Below x2.heap.size x2 (x2.alloc (.cells #[.string s,.int .i64 0,.bool false] 215)):=(Below.refl _ _).alloc (Nat.le_refl _) _
    have hrow3:=hrow2.later hB0
    have hgb:∀ g o,va=some ⟨g,o,none⟩→0<l.length→g<x2.heap.size:=by
     intro g o e h0
     obtain ⟨g',o',e',hg',_⟩:=hrow2 (by rw [unhide hbl]; exact h0)
     rw [e] at e'
     simp only [Option.some.injEq,Addr.mk.injEq,and_true] at e'
     omega
    have HE:=hide he'
    have HG:=hide hgb
    clear he' hgb hrow2
    go_wp2_with fail
    refine (walkR_any x2.heap.size s va vc l _ hrow3 (unhide Hbo) (unhide H4) (unhide Hs) hR0 (unhide HG)).mono ?_
    rintro e x3 ⟨v,rfl,hown,hrr,hb3⟩
    have hbel3:=bnext hbel2 (hB0.trans hb3)
    rw [unhide Hm] at hrr
    clear hR0 hB0 hrow3 hb3 hbel2 hq2
    obtain ⟨va',vc',rfl⟩:=hown.form
    go_wp2_with fail
    refine (rdClear_any x2.heap.size m s _ hrr (unhide Hs) (by have:=unhide HE; omega)).mono ?_
    rintro e x4 ⟨rfl,hr4,hk4⟩
    have hown4:=hk4.own hown (Nat.lt_succ_self _)
    have hbel4:=hbel3.trans (hk4.1.mono (unhide hws))
    clear hown hrr hr4 hk4 hbel3
    by_cases hC:numB s/2 ^ m%2 ^ ((8-m%8)%8)=0
    ·
     rw [decide_eq_true hC]
     have hok:getOk s.data.toList l=true:=by
      rw [unhide hge,decide_eq_true (unhide HE),decide_eq_true ((unhide hcl (unhide HE)).1 hC)]; rfl
     have HOK:=hide hok
     clear hok hC
     go_wp2
     go_ret2
     refine ⟨_,ret_two (unhide HOK).symm,?_,hbel4⟩
     rw [unhide hyes (unhide HOK)]
     exact IOwn.mono hown4 (Nat.le_succ_of_le (unhide hws))
    ·
     rw [decide_eq_false hC]
     have hno:getOk s.data.toList l=false:=by
      rw [unhide hge,decide_eq_false (fun h=>hC ((unhide hcl (unhide HE)).2 h))]; simp
     have HNO:=hide hno
     have HL:=hide (unhide hnot hno)
     clear hno hC
     go_wp2
     go_ret2
     refine ⟨_,ret_two (unhide HNO).symm,?_,hbel4⟩
     rw [unhide HL]
     exact IOwn.nil _ _
   ·
    have hno:getOk s.data.toList l=false:=by
     rw [unhide hge,decide_eq_false (by omega)]; rfl
    have hne:((s.size:Int) != ((m:Int)+7)/8)=true:=by simpa using he
    have HNO:=hide hno
    have HL:=hide (unhide hnot hno)
    clear hno
    go_wp2
    go_ret2
    refine ⟨_,ret_two (unhide HNO).symm,?_,hbel2⟩
    rw [unhide HL]
    exact IOwn.nil _ _
 ·
  have hno:=hide (getOk_no (s:=s.data.toList) (l:=l) (Or.inr (by omega)))
  have h4I:4000<(l.length:Int):=by omega
  clear h4
  go_enter Tryz.func114,Tryz.ntmps114
  go_wp2
  go_ret2
  refine ⟨_,ret_two (unhide hno).1.symm,?_,Below.refl _ _⟩
  rw [(unhide hno).2]
  exact IOwn.nil _ _
end Go.Proofs.YtkdlcomfpffhhaaGreatDoor
