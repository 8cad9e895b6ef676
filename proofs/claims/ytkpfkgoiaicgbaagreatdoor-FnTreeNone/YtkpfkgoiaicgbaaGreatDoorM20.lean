/- Of what the proof is made: 26 texts, one behind the other. -/
import Derived.Test.YtkpfkgoiaicgbaaGreatDoorM9
import Derived.Test.YtkpfkgoiaicgbaaGreatDoorM8
import Derived.Test.YtkpfkgoiaicgbaaGreatDoorM1
import Derived.Test.YtkpfkgoiaicgbaaGreatDoorM2
import Derived.Deep.CutRange
import Derived.Laws.IdiomStrings
import Derived.Laws.OwnMore
import Derived.Deep.RegionHeld3
import Derived.Test.YtkpfkgoiaicgbaaGreatDoorM5
import Derived.Deep.DrawnRows
set_option linter.unusedSimpArgs false
set_option linter.unusedVariables false
set_option maxHeartbeats 6400000
namespace Go.Proofs.YtkpfkgoiaicgbaaGreatDoor
open Go.RowKit Corb
def Bys(w:World)(b:Nat)(v:Value)(l:List UInt8):Prop:=w.ownsRow (b+1) 5 1 v l.length (dU l)
theorem Bys.form{w:World}{b:Nat}{v:Value}{l:List UInt8}(h:Bys w b v l):∃a cap,v = .slice a l.length cap:=by
 rcases h.2 with⟨e,h0⟩|⟨g,cap,_,e,_⟩
 · exact⟨none,0,by rw[e,h0]⟩
 · exact⟨_,cap,e⟩
theorem Bys.set{w:World}{b o:Nat}{v:Value}{l:List UInt8}(h:Bys w b v l)(u:Value):Bys (w.setCell ⟨b,o,none⟩ u) b v l:=
 ownsRow_setCell_below h (a:=⟨b,o,none⟩) (Nat.lt_succ_self b) u
theorem Bys.drew{w:World}{b:Nat}{v:Value}{l:List UInt8}(h:Bys w b v l):Bys w.drew b v l:=h
theorem Bw(V m:Nat)(hV:V<p2 m):V/p2 (8*(m/8))<p2 (m%8):=by
 have:=Bp V m (m/8) hV (by omega);rw[show m-8*(m/8)=m%8 by omega]at this;exact this
theorem vO(k:Nat)(h:k<256):(UInt8.ofNat k).toNat=k:=by
 have:k%256=k:=Nat.mod_eq_of_lt h;simp[this]
theorem Iu(n k:Nat):n%p2 (k+1)=n%p2 k+n/p2 k%2*p2 k:=xt n k
theorem KO(V n k m:Nat):V+n%p2 (k+1)*p2 m=V+n%p2 k*p2 m+n/p2 k%2*p2 (m+k):=by
 rw[Iu,Nat.add_mul,Nat.mul_assoc,show p2 k*p2 m=p2 (m+k) by unfold p2;rw[←Nat.pow_add,Nat.add_comm]];omega
def nu(l:List (Int×Int)):List (Nat×Nat):=l.map (fun p=>(p.1.toNat,p.2.toNat))
def aU(l:List (Int×Int)):Nat×Nat:=gm (0,0) (nu l)
def bS(l:List (Int×Int)):List UInt8:=leS (((aU l).2+7)/8) (aU l).1
def nC(l:List (Int×Int)):List UInt8:=if lOk l=true then bS l else []
theorem dt{l:List (Int×Int)}(h:lOk l=true):nC l=bS l:=if_pos h
theorem KN{l:List (Int×Int)}(h:lOk l=false):nC l=[]:=if_neg (by simp[h])
theorem EZ(l:List (Int×Int))(k:Nat)(h:k<l.length):aU (l.take (k+1)) =
  ((aU (l.take k)).1+(l.getD k (0,0)).1.toNat*p2 (aU (l.take k)).2,(aU (l.take k)).2+(l.getD k (0,0)).2.toNat):=by
 rw[List.take_succ_eq_append_getElem h,aU,nu,List.map_append,pq];simp only[List.map_cons,List.map_nil,gm];have e:l.getD k (0,0)=l[k]:=by simp[List.getD,h]
 rw[e];rfl
theorem un(l:List (Int×Int))(h:aN l=true):((aU l).2:Int)=bp l:=by
 have key:∀(m:List (Int×Int)) (s:Nat×Nat),aN m=true->((gm s (nu m)).2:Int)=(s.2:Int)+bp m:=by
  intro m;induction m with
  | nil=>intro s _;simp[nu,gm,bp]
  | cons p m ih=>
   intro s hm;simp only[aN,List.all_cons,Bool.and_eq_true]at hm;have hp:=aW.1 hm.1;have:=ih (s.1+p.1.toNat*2 ^ s.2,s.2+p.2.toNat) hm.2;simp only[nu,List.map_cons,gm]at this ⊢;rw[this];simp only[bp,List.map_cons,List.sum_cons];omega
 have:=key l (0,0) h;simpa[aU]using this
theorem vB(l:List (Int×Int))(h:aN l=true):(aU l).1<p2 (aU l).2:=by
 have key:∀(m:List (Int×Int)) (s:Nat×Nat),s.1<p2 s.2->aN m=true->(gm s (nu m)).1<p2 (gm s (nu m)).2:=by
  intro m;induction m with
  | nil=>intro s hs _;exact hs
  | cons p m ih=>
   intro s hs hm;simp only[aN,List.all_cons,Bool.and_eq_true]at hm;have hp:=aW.1 hm.1;have hn:p.1.toNat<p2 p.2.toNat:=by omega
   exact ih _ (Io s.1 s.2 p.1.toNat p.2.toNat hs hn) hm.2
 exact key l (0,0) (by decide) h
theorem B7{a b:List UInt8}(h:a=b):Ending.returned (.string ⟨a.toArray⟩) = .returned (.string ⟨b.toArray⟩):=by rw[h]
theorem zq{w:World}{b:Nat}{v:Value}{l:List UInt8}(h:Bys w b v l) :
  (convert 22 9 v).run Tryz.prog w = .ok (.string ⟨l.toArray⟩) w:=by
 rcases h.2 with⟨e,h0⟩|⟨g,cap,_,e,_⟩
 · subst e;have hl:l=[]:=List.eq_nil_of_length_eq_zero h0;subst hl;rw[run_convert_bytes_string w _ _ _ none 0 0 Tryz.underlying22 Tryz.underlying5 Tryz.underlying9];rfl
 ·
  subst e;exact run_convert_bytes_back w _ _ _ ⟨g,0,none⟩ cap l Tryz.underlying22 Tryz.underlying5 Tryz.underlying9 (fun j hj=>by
   have:=h.cells (g:=g) rfl j (.int .u8 (l[j].toNat:Int)) (by simp[dU,hj]);exact this)
theorem l8.below{w w':World}{a:Option Addr}{l:List (Int×Int)}{B:Nat}(h:l8 w a l)(hB:w.heap.size<=B)(hb:Below B w w'):l8 w' a l:=h.later (hb.mono hB)
theorem Two.kept{w w':World}{b:Nat}{v0 v1:Value}(h:Two w b v0 v1)(hb:Below (b+1) w w'):Two w' b v0 v1:=by
 obtain⟨c0,c1,f0,f1,hlt⟩:=h;have hs:=Nat.lt_succ_self b;exact⟨(hb.cell (p:=⟨b,0,none⟩) hs).trans c0,(hb.cell (p:=⟨b,1,none⟩) hs).trans c1,(hb.frozen (p:=⟨b,0,none⟩) hs).trans f0,(hb.frozen (p:=⟨b,1,none⟩) hs).trans f1,Nat.lt_of_lt_of_le hlt hb.size⟩
def iR(w:World)(b V m:Nat):Prop:=
 V<p2 m/\∃v,Two w b v (.int .i64 (m:Int))/\Bys w b v (leS ((m+7)/8) V)
theorem Ip{w W2 WA w':World}{b:Nat}{v v' v1:Value}{l:List UInt8}{x:UInt8}(T2:Two W2 b v v1)(Y2:Bys W2 b v l)(B2:Below b w W2)
  (hWA:Below (b+1) W2 WA) (hown:w'.ownsRow (b+1) 5 1 v' (l.length+1) (dU l++[.int .u8 (x.toNat:Int)])) (hgrow:WA.grownBy w' v.ownBlock) :
  (∃g cap,v' = .slice (some ⟨g,0,none⟩) (l.length+1) cap)/\Two w' b v v1/\Bys w' b v' (l++[x])/\Below b w w':=by
 have hlt:=T2.2.2.2.2;have hlt2:=Nat.lt_of_lt_of_le hlt hWA.size;have hblk:∀k,v.ownBlock=some k->b+1<=k:=fun k hk=>(Y2.lt k hk).1;have hb:Below (b+1) W2 w':=hWA.grown hgrow (by omega) hblk;refine⟨?_,T2.kept hb,?_,B2.trans (hb.mono (by omega))⟩
 ·
  rcases hown.2 with⟨_,h0⟩|⟨g,cap,_,e,_⟩
  · omega
  · exact⟨g,cap,e⟩
 · show w'.ownsRow (b+1) 5 1 v' (l++[x]).length (dU (l++[x]));simpa[dU]using hown
theorem Bys.at{w:World}{b g cap j:Nat}{l:List UInt8}(h:Bys w b (.slice (some ⟨g,0,none⟩) l.length cap) l)(hj:j<l.length) :
  w.cell? ⟨g,j,none⟩=some (.int .u8 ((l.getD j 0).toNat:Int))/\w.frozen? ⟨g,j,none⟩=false/\b<g:=by
 refine⟨?_,World.ownsRow.frozenAt h j,(World.ownsRow.lt h g rfl).1⟩;rw[World.ownsRow.cellAt h j (by omega)];simp[dU,hj,List.getD]
theorem Bys.put{w:World}{b g cap j:Nat}{l:List UInt8}(h:Bys w b (.slice (some ⟨g,0,none⟩) l.length cap) l)(x:UInt8) :
  Bys (w.setCell ⟨g,j,none⟩ (.int .u8 (x.toNat:Int))) b (.slice (some ⟨g,0,none⟩) l.length cap) (l.set j x):=by
 have:=World.ownsRow.stored h j (.int .u8 (x.toNat:Int));show World.ownsRow _ _ _ _ _ (l.set j x).length (dU (l.set j x));rw[List.length_set];have e:dU (l.set j x)=(dU l).set j (.int .u8 (x.toNat:Int)):=by simp[dU,List.map_set]
 rw[e];exact this.1
theorem Nj(V m x:Nat)(hV:V<p2 m)(hx:x<=1) :
  V+x*p2 m<p2 (m+1)/\leS ((m+1+7)/8) (V+x*p2 m)=(leS (m/8+1) V).set (m/8) (UInt8.ofNat (V/p2 (8*(m/8))+x*p2 (m%8))):=by
 refine⟨add_lt V x m hV hx,?_⟩;rw[show(m+1+7)/8=m/8+1 by omega];exact Km (m/8) V x m rfl hx hV
theorem Ni(V m:Nat)(hV:V<p2 m)(hr:m%8=0):leS ((m+7)/8) V++[0]=leS (m/8+1) V:=by
 rw[show(m+7)/8=m/8 by omega];exact(Kl (m/8) V (by rw[show 8*(m/8)=m by omega];exact hV)).symm
theorem M4(V m:Nat)(hr:m%8≠0):leS ((m+7)/8) V=leS (m/8+1) V:=by
 rw[show(m+7)/8=m/8+1 by omega]
theorem MZ(V m:Nat)(hV:V<p2 m):((leS (m/8+1) V).getD (m/8) 0).toNat=V/p2 (8*(m/8)):=by
 rw[BB _ _ _ (by omega)];have h1:=Bw V m hV;have h2:=xR (m%8) 7 (by omega);have h3:p2 7=128:=rfl;have e:V/2 ^ (8*(m/8))%256=V/p2 (8*(m/8)):=Nat.mod_eq_of_lt (by show V/p2 (8*(m/8))<256;omega);rw[e,vO _ (by omega)]
def Box(w:World)(P:Nat)(x y:Int):Prop:=w.heap[P]?=some (.cells #[.int .i64 x,.int .i64 y] 180)
theorem JN(w:World)(x y:Int):Box (w.alloc (.cells #[.int .i64 x,.int .i64 y] 180)) w.heap.size x y:=by
 show(w.heap.push _)[w.heap.size]?=_;simp
theorem Box.cells{w:World}{P:Nat}{x y:Int}(h:Box w P x y):w.cell? ⟨P,0,none⟩=some (.int .i64 x)/\w.cell? ⟨P,1,none⟩=some (.int .i64 y)/\P<w.heap.size:=by
 refine⟨by simp[World.cell?,show w.heap[P]?=_ from h],by simp[World.cell?,show w.heap[P]?=_ from h],?_⟩;have h':w.heap[P]?=some _:=h;exact(Array.getElem?_eq_some_iff.1 h').1
theorem Box.ne{w:World}{P b:Nat}{x y:Int}{v:Value}{l:List UInt8}(h:Box w P x y)(hy:Bys w b v l)(k:Nat)(hk:v.ownBlock=some k):k≠P:=by
 rintro rfl;rcases hy.2 with⟨e,_⟩|⟨g,cap,cur,e,_,hg,_⟩
 · subst e;simp[Value.ownBlock]at hk
 · subst e;simp only[Value.ownBlock,Option.some.injEq]at hk;subst hk;have h':w.heap[g]?=some (.cells #[.int .i64 x,.int .i64 y] 180):=h;rw[h']at hg;simp at hg
theorem Box.set{w:World}{P b o:Nat}{x y:Int}(h:Box w P x y)(hb:b≠P)(u:Value):Box (w.setCell ⟨b,o,none⟩ u) P x y:=by
 show(w.setCell ⟨b,o,none⟩ u).heap[P]?=_;rw[Below.heap_setCell w ⟨b,o,none⟩ u P (fun e=>hb e.symm)];exact h
theorem Box.drew{w:World}{P:Nat}{x y:Int}(h:Box w P x y):Box w.drew P x y:=h
theorem Box.alloc{w:World}{P:Nat}{x y:Int}(h:Box w P x y)(o:Obj):Box (w.alloc o) P x y:=by
 show(w.alloc o).heap[P]?=_;rw[Below.heap_alloc w o P h.cells.2.2];exact h
theorem Box.grown{w w':World}{P b:Nat}{x y:Int}{v:Value}{l:List UInt8}(h:Box w P x y)(hy:Bys w b v l)(hg:w.grownBy w' v.ownBlock):Box w' P x y:=by
 show w'.heap[P]?=_;rw[hg.block P h.cells.2.2 (fun e=>h.ne hy P e.symm rfl)];exact h
def da(b:Nat)(w w':World):Prop:=w.heap.size<=w'.heap.size/\∀k,k<w.heap.size->k≠b->(∀cur fr,w.heap[k]?≠some (.cells cur 5 fr))->w'.heap[k]?=w.heap[k]?
theorem da.refl(b:Nat)(w:World):da b w w:=⟨Nat.le_refl _,fun _ _ _ _=>rfl⟩
theorem da.trans{b:Nat}{w w1 w2:World}(h:da b w w1)(k:da b w1 w2):da b w w2:=
 ⟨Nat.le_trans h.1 k.1,fun j hj hb ht=>by
  have e:=h.2 j hj hb ht;rw[k.2 j (Nat.lt_of_lt_of_le hj h.1) hb (fun cur fr=>by rw[e];exact ht cur fr),e]⟩
theorem da.drew{b:Nat}{w w':World}(h:da b w w'):da b w w'.drew:=h
theorem da.alloc{b:Nat}{w w':World}(h:da b w w')(o:Obj):da b w (w'.alloc o):=
 h.trans ⟨by simp,fun j hj _ _=>Below.heap_alloc w' o j hj⟩
theorem da.set{b o:Nat}{w w':World}(h:da b w w')(u:Value):da b w (w'.setCell ⟨b,o,none⟩ u):=
 h.trans ⟨by simp,fun j _ hb _=>Below.heap_setCell w' ⟨b,o,none⟩ u j hb⟩
theorem da.setRow{b c g j cap:Nat}{w w':World}{l:List UInt8}(h:da b w w')(hy:Bys w' c (.slice (some ⟨g,0,none⟩) l.length cap) l)(u:Value):da b w (w'.setCell ⟨g,j,none⟩ u):=by
 refine h.trans ⟨by simp,fun k _ _ ht=>?_⟩;by_cases e:k=g
 ·
  subst e;rcases hy.2 with⟨e,_⟩|⟨g',cap',cur,e,_,hg,_⟩
  · simp at e
  · simp only[Value.slice.injEq,Option.some.injEq,Addr.mk.injEq,and_true,true_and]at e;obtain⟨rfl,_⟩:=e;exact absurd hg (ht cur (0,0))
 · exact Below.heap_setCell w' ⟨g,j,none⟩ u k e
theorem da.grown{b c:Nat}{w w' w'':World}{v:Value}{l:List UInt8}(h:da b w w')(hy:Bys w' c v l)(hg:w'.grownBy w'' v.ownBlock):da b w w'':=by
 refine h.trans ⟨hg.size,fun k hk _ ht=>?_⟩;refine hg.block k hk (fun e=>?_);rcases hy.2 with⟨e',_⟩|⟨g',cap',cur,e',_,hg',_⟩
 · subst e';simp[Value.ownBlock]at e
 · subst e';simp only[Value.ownBlock,Option.some.injEq]at e;subst e;exact ht cur (0,0) hg'
theorem AL(B X r:Nat)(hB:B<p2 r)(hr:r<8)(hX:X=0∨X=p2 r):bits .or .u8 (B:Int) (X:Int)=((B+X:Nat):Int):=by
 have h7:=xR r 7 (by omega);have h3:p2 7=128:=rfl;rw[u8_or_nat B X (by omega) (by omega)]
 congr 1
 rw[Nat.or_comm];rcases hX with rfl|rfl
 · simp
 · rw[nat_join r (p2 r) B (by unfold p2;simp) hB];omega
theorem Two.other{w:World}{b g o:Nat}{v0 v1:Value}(h:Two w b v0 v1)(hg:g≠b)(u:Value):Two (w.setCell ⟨g,o,none⟩ u) b v0 v1:=by
 obtain⟨c0,c1,f0,f1,hb⟩:=h;refine⟨?_,?_,by simpa using f0,by simpa using f1,by simpa using hb⟩
 · rw[World.cell?_setCell_other _ _ _ _ (by simp only[ne_eq,Addr.mk.injEq];omega)];exact c0
 · rw[World.cell?_setCell_other _ _ _ _ (by simp only[ne_eq,Addr.mk.injEq];omega)];exact c1
theorem uq{w wr:World}{b g cap V1 m1 x L X:Nat}{P:Nat}{p q:Int}(htr:Two wr b (.slice (some ⟨g,0,none⟩) (leS (m1/8+1) V1).length cap) (.int .i64 (m1:Int)))
  (hput:Bys (wr.setCell ⟨g,m1/8,none⟩ (.int .u8 ((UInt8.ofNat (L+X)).toNat:Int))) b (.slice (some ⟨g,0,none⟩) (leS (m1/8+1) V1).length cap) ((leS (m1/8+1) V1).set (m1/8) (UInt8.ofNat (L+X))))
  (hw1:V1+x*p2 m1<p2 (m1+1)) (hw2:leS ((m1+1+7)/8) (V1+x*p2 m1)=(leS (m1/8+1) V1).set (m1/8) (UInt8.ofNat (L+X)))
  (hbv:(UInt8.ofNat (L+X)).toNat=L+X) (hgb:b<g) (hgP:g≠P) (hPb:P≠b) (hbox:Box wr P p q) (hbel:Below b w wr) (hby0:Bys wr b (.slice (some ⟨g,0,none⟩) (leS (m1/8+1) V1).length cap) (leS (m1/8+1) V1)) (hkp:da b w wr) :
  iR ((wr.setCell ⟨g,m1/8,none⟩ (.int .u8 ((L:Int)+(X:Int)))).setCell ⟨b,1,none⟩ (.int .i64 ((m1:Int)+1))).drew b (V1+x*p2 m1) (m1+1) /\
  Box ((wr.setCell ⟨g,m1/8,none⟩ (.int .u8 ((L:Int)+(X:Int)))).setCell ⟨b,1,none⟩ (.int .i64 ((m1:Int)+1))).drew P p q /\
  Below b w ((wr.setCell ⟨g,m1/8,none⟩ (.int .u8 ((L:Int)+(X:Int)))).setCell ⟨b,1,none⟩ (.int .i64 ((m1:Int)+1))).drew /\
  da b w ((wr.setCell ⟨g,m1/8,none⟩ (.int .u8 ((L:Int)+(X:Int)))).setCell ⟨b,1,none⟩ (.int .i64 ((m1:Int)+1))).drew:=by
 have e:((UInt8.ofNat (L+X)).toNat:Int)=(L:Int)+(X:Int):=by rw[hbv];omega
 rw[e]at hput;refine⟨⟨hw1,.slice (some ⟨g,0,none⟩) (leS (m1/8+1) V1).length cap,?_,?_⟩,?_,?_,?_⟩
 · exact((htr.other (by omega) _).set1 _).drew
 · rw[hw2];exact(hput.set _).drew
 · exact((hbox.set (by omega) _).set (by omega) _).drew
 · exact(ai (ai hbel (by omega) _) (Nat.le_refl _) _).drew
 · exact((hkp.setRow hby0 _).set _).drew
theorem Ij(b V m:Nat)(num bits:Int)(w:World)(h:iR w b V m)(hp:pOk num bits=true)(hm:m<=100000) :
  Calls Tryz.prog 267 #[.pointer (some ⟨b,0,none⟩),.agg #[.int .i64 num,.int .i64 bits]] w fun e w'=>e = .returned (.int .i64 num) /\
   iR w' b (V+num.toNat*p2 m) (m+bits.toNat)/\Below b w w'/\da b w w':=by
 obtain⟨⟨b0,b1⟩,n0,n1⟩:=aW.1 hp;have hq:=(Am bits b1).2;obtain⟨n,rfl⟩:=Int.eq_ofNat_of_zero_le n0;obtain⟨c,rfl⟩:=Int.eq_ofNat_of_zero_le b0;rw[Int.toNat_natCast,Int.toNat_natCast];rw[Int.toNat_natCast]at n1 hq;have hnmod:Hid (n%p2 c=n):=Nat.mod_eq_of_lt (by omega);have hn2:(n:Int)<65536:=by omega
 obtain⟨i0,hi,hz0,hz1,hz2⟩:=info_parts Tryz.infoU8;have hbw:b<w.heap.size:=by obtain⟨_,v,ht,_⟩:=h;exact ht.2.2.2.2
 have hbox0:=JN w (n:Int) (c:Int);have h0:iR (w.alloc (.cells #[.int .i64 (n:Int),.int .i64 (c:Int)] 180)) b V m:=by
  obtain⟨hV,v,ht,hy⟩:=h;exact⟨hV,v,ht.kept ((Below.refl _ _).alloc (by omega) _),World.ownsRow.alloc hy _⟩
 have hbel0:Below b w (w.alloc (.cells #[.int .i64 (n:Int),.int .i64 (c:Int)] 180)):=(Below.refl _ _).alloc (by omega) _;clear n1 hq h hp;go_enter Tryz.func267,Tryz.ntmps267;go_wp2_with fail
 go_loopw [5,8] (fun _ i wr=>∃k:Nat,k<=c/\i = .int .i64 k/\iR wr b (V+n%p2 k*p2 m) (m+k)/\Box wr w.heap.size n c/\Below b w wr/\da b w wr) (fun _ i _=>c-(intOf i).toNat)
 case atStart=>exact⟨0,Nat.zero_le _,rfl,by simpa[p2,Nat.mod_one]using h0,hbox0,hbel0,(da.refl _ _).alloc _⟩
 case round=>
  obtain⟨k,hk,rfl,hout,hbox,hbel,hkp⟩:=hrel;clear h0 hbox0 hbel0;obtain⟨bc0,bc1,bclt⟩:=hbox.cells;by_cases hlt:k<c
  ·
   have hval:=af (KO V n k m);have hnk:n/p2 k<=n:=Nat.div_le_self _ _;have Hsh:Hid ((n:Int)/2 ^ k=((n/p2 k:Nat):Int)):=(Int.natCast_ediv n (2 ^ k)).symm;obtain⟨hV,v,htr,hby⟩:=hout;obtain⟨sa,scap,rfl⟩:=hby.form;have hlb:=Bw (V+n%p2 k*p2 m) (m+k) hV;generalize V+n%p2 k*p2 m=V1 at *
   generalize hm1:m+k=m1 at *
   have hx:n/p2 k%2<=1:=by omega
   have hnkI:((n/p2 k:Nat):Int)<65536:=by omega
   have hone:=ki ((n/p2 k:Nat):Int) (Int.natCast_nonneg _) (Int.lt_trans hnkI (by omega));have hxI:((n/p2 k:Nat):Int)%2=((n/p2 k%2:Nat):Int):=by omega
   rw[hxI]at hone;have hp7:p2 (m1%8)<=128:=xR (m1%8) 7 (by omega);have hXle:n/p2 k%2*p2 (m1%8)<=1*p2 (m1%8):=Nat.mul_le_mul_right _ hx;have hmul:((n/p2 k%2:Nat):Int)*(2:Int) ^ (m1%8)=((n/p2 k%2*p2 (m1%8):Nat):Int):=by rw[Int.natCast_mul,iP]
   have hX01:n/p2 k%2*p2 (m1%8)=0∨n/p2 k%2*p2 (m1%8)=p2 (m1%8):=by
    rcases (show n/p2 k%2=0∨n/p2 k%2=1 by omega)with e|e<;>rw[e]<;>simp
   obtain⟨hw1,hw2⟩:=Nj V1 m1 (n/p2 k%2) hV hx;have hwb:=MZ V1 m1 hV;have hor:=AL (V1/p2 (8*(m1/8))) (n/p2 k%2*p2 (m1%8)) (m1%8) hlb (by omega) hX01;have hpad:=af (Ni V1 m1 hV);have hsame:=af (M4 V1 m1);have hlen:(leS (m1/8+1) V1).length=m1/8+1:=az _ _;have hlen0:(leS ((m1+7)/8) V1).length=(m1+7)/8:=az _ _;have hm1le:m1<=100016:=by omega
   have hb256:V1/p2 (8*(m1/8))+n/p2 k%2*p2 (m1%8)<256:=by omega
   have hbv:=vO _ hb256;have hkc:(k:Int)<(c:Int):=by omega
   have hk16:(k:Int)<=16:=by omega
   have hr8:(m1:Int)%8<8:=by omega
   have hm1I:(m1:Int)<=100016:=by omega
   have hXI:((n/p2 k%2*p2 (m1%8):Nat):Int)<=128:=by omega
   have hx1I:((n/p2 k%2:Nat):Int)<=1:=by omega
   have Hm1:=af hm1;have HK:=af hk;have Hlen:=af hlen;have Hlen0:=af hlen0;have Hm1le:=af hm1le;have Hw1:=af hw1;have Hw2:=af hw2;have Hwb:=af hwb;have Hbv:=af hbv;have hsh:=ae Hsh;clear Hsh hxI hX01 hlb hp7 hXle hw1 hw2 hwb hlen hlen0 hm1le hb256 hbv hnk hx hm1 hk hV hlt;generalize n/p2 k=nk at *
   generalize nk%2=x at *
   generalize x*p2 (m1%8)=X at *
   generalize V1/p2 (8*(m1/8))=L at *
   have htr':=af htr;obtain⟨k0,k1,f0,f1,hbw'⟩:=htr;have hPb:w.heap.size≠b:=by omega
   by_cases hr:m1%8=0
   ·
    have hrI:((m1:Int)%8 == 0)=true:=by simp;omega
    have hpd:=af (ae hpad hr);clear hr hpad hsame hr8 hm;have hl0:(leS ((m1+7)/8) V1).length<=20000:=by have:=ae Hlen0;have:=ae Hm1le;omega
    have Hl0:=af hl0;clear hl0;go_wp2_with (at_builtin;refine wpList_append_own _ rfl _ _ 22 rfl (b+1) 5 i0 (.int .u8 0) 1 1 Tryz.underlying22 hi hz0 hz1 hz2 rfl (by decide) _ _ _ rfl (World.ownsRow.alloc hby _) ⟨wr.heap.size,0,none⟩ 1 1 [.int .u8 0] rfl rfl (by intro j u hj;match j,hj with | 0,hj=>simp at hj;subst hj;simp[Addr.add]) (by intro u hu;simp at hu;subst hu;rfl) (by have:=ae Hl0;unfold maxLen;omega) (by have:=ae Hl0;omega) (by simp;omega) ?_;intro v' w' hown hgrow hnil;clear hnil;have hbox':=(hbox.alloc _).grown (World.ownsRow.alloc hby _) hgrow;have hkp':=(hkp.alloc (.cells #[.int .u8 0] 5)).grown (World.ownsRow.alloc hby _) hgrow;obtain⟨⟨g,cap,rfl⟩,T3,Y3,B3⟩:=Ip (x:=0) (ae htr') hby hbel ((Below.refl _ _).alloc (by omega) _) hown hgrow;clear hown hgrow hby hbox hbel hkp htr' k0 k1 f0 f1;have T3':=af T3;obtain⟨k0,k1,f0,f1,hb3⟩:=T3);have hlenA:(leS ((m1+7)/8) V1).length+1=(leS (m1/8+1) V1).length:=by rw[←ae hpd,List.length_append];rfl
    rw[hlenA]at Y3 ⊢;have T4:=(ae T3').set0 (.slice (some ⟨g,0,none⟩) (leS (m1/8+1) V1).length cap);have hby:=Y3.set (o:=0) (.slice (some ⟨g,0,none⟩) (leS (m1/8+1) V1).length cap);rw[ae hpd]at hby;have hbox:=hbox'.set (b:=b) (o:=0) (by omega) (.slice (some ⟨g,0,none⟩) (leS (m1/8+1) V1).length cap);have hkp:=hkp'.set (o:=0) (.slice (some ⟨g,0,none⟩) (leS (m1/8+1) V1).length cap);have hbel:Below b w _:=ai B3 (o:=0) (Nat.le_refl _) (.slice (some ⟨g,0,none⟩) (leS (m1/8+1) V1).length cap);clear Y3 B3 T3' k0 k1 f0 f1 hbox' hkp' bc0 bc1 bclt hlenA hb3;generalize w'.setCell ⟨b,0,none⟩ (.slice (some ⟨g,0,none⟩) (leS (m1/8+1) V1).length cap)=wA at *
    have htr':=af T4;obtain⟨k0,k1,f0,f1,hb3⟩:=T4;obtain⟨bc0,bc1,bclt⟩:=hbox.cells;obtain⟨gc,gf,gb⟩:=hby.at (j:=m1/8) (by have:=ae Hlen;omega);rw[ae Hwb]at gc;have hput:=af (hby.put (j:=m1/8) (UInt8.ofNat (L+X)));have hgP:g≠w.heap.size:=hbox.ne hby g rfl;have Hby:=af hby;have Hkp:=af hkp;clear hkp;have hlenN:=ae Hlen;rw[hlenN]at k0;generalize hN:m1/8+1=N at k0;have hidx:(m1:Int)/8<(N:Int):=by omega
    clear hN hlenN hby
    go_region
    all_goals
     go_wp2;go_roundw
     case rel=>
      have hst:=uq (ae htr') (ae hput) (ae Hw1) (ae Hw2) (ae Hbv) gb hgP hPb hbox hbel (ae Hby) (ae Hkp);refine⟨k+1,by have:=ae HK;omega,by go_num,?_,hst.2.1,hst.2.2.1,hst.2.2.2⟩;rw[ae hval,show m+(k+1)=m1+1 by have:=ae Hm1;omega];exact hst.1
     case measure=>simp[intOf];omega
   ·
    have hrI:((m1:Int)%8 == 0)=false:=by simp;omega
    have hsm:=ae hsame hr;rw[hsm]at hby k0 htr';obtain⟨g,cap,hform⟩:∃g cap,Value.slice sa (leS (m1/8+1) V1).length scap = .slice (some ⟨g,0,none⟩) (leS (m1/8+1) V1).length cap:=by
     rcases hby.2 with⟨_,h0⟩|⟨g,cap,_,e,_⟩
     · have:=ae Hlen;omega
     · exact⟨g,cap,e⟩
    rw[hform]at hby k0 htr';obtain⟨gc,gf,gb⟩:=hby.at (j:=m1/8) (by have:=ae Hlen;omega);rw[ae Hwb]at gc;have hput:=af (hby.put (j:=m1/8) (UInt8.ofNat (L+X)));have hgP:g≠w.heap.size:=hbox.ne hby g rfl;have Hby:=af hby;have Hkp:=af hkp;clear hkp;have hlenN:=ae Hlen;rw[hlenN]at k0;generalize hN:m1/8+1=N at k0;have hidx:(m1:Int)/8<(N:Int):=by omega
    clear hN hlenN hform hsm hr hpad hsame hby hm hr8;go_wp2_with fail
    go_region
    all_goals
     go_wp2;go_roundw
     case rel=>
      have hst:=uq (ae htr') (ae hput) (ae Hw1) (ae Hw2) (ae Hbv) gb hgP hPb hbox hbel (ae Hby) (ae Hkp);refine⟨k+1,by have:=ae HK;omega,by go_num,?_,hst.2.1,hst.2.2.1,hst.2.2.2⟩;rw[ae hval,show m+(k+1)=m1+1 by have:=ae Hm1;omega];exact hst.1
     case measure=>simp[intOf];omega
  ·
   have hkc:k=c:=by omega
   subst hkc;rw[ae hnmod]at hout;go_wp2;go_ret;exact⟨rfl,hout,hbel,hkp⟩
def Ints(w:World)(b:Nat)(v:Value)(xs:List Int):Prop:=w.ownsRow (b+1) 3 1 v xs.length (xs.map (Value.int .i64))
theorem Ints.keep{w w':World}{b:Nat}{v:Value}{xs:List Int}(h:Ints w b v xs)(hk:da b w w'):Ints w' b v xs:=by
 refine⟨h.1,?_⟩;rcases h.2 with e|⟨g,cap,cur,e,hb,hg,hr⟩
 · exact .inl e
 · refine .inr ⟨g,cap,cur,e,hb,?_,hr⟩;rw[hk.2 g (Array.getElem?_eq_some_iff.1 hg).1 (by omega) (fun cur' fr=>by rw[hg];simp)];exact hg
theorem Bys.other{w w':World}{b c:Nat}{v o:Value}{l:List UInt8}{xs:List Int}(h:Bys w b v l)(ho:Ints w c o xs)(hg:w.grownBy w' o.ownBlock):Bys w' b v l:=by
 refine World.ownsRow.kept h hg ?_;cases hv:v.ownBlock with
 | none=>exact .inl rfl
 | some k=>
  refine .inr (fun e=>?_);rcases h.2 with⟨e1,_⟩|⟨g,cap,cur,e1,_,hg1,_⟩
  · subst e1;simp[Value.ownBlock]at hv
  ·
   rcases ho.2 with⟨e2,_⟩|⟨g2,cap2,cur2,e2,_,hg2,_⟩
   · subst e2;simp[Value.ownBlock]at e
   · subst e1 e2;simp only[Value.ownBlock,Option.some.injEq]at hv e;subst hv;subst e;rw[hg1]at hg2;simp at hg2
theorem iR.alloc{w:World}{b V m:Nat}(h:iR w b V m)(o:Obj):iR (w.alloc o) b V m:=by
 obtain⟨hV,v,ht,hy⟩:=h;exact⟨hV,v,ht.kept ((Below.refl _ _).alloc (by have:=ht.2.2.2.2;omega) _),World.ownsRow.alloc hy _⟩
theorem iR.other{w w':World}{b V m:Nat}{o:Value}{xs:List Int}(h:iR w b V m)(ho:Ints w b o xs)(hg:w.grownBy w' o.ownBlock):iR w' b V m:=by
 obtain⟨hV,v,ht,hy⟩:=h;exact⟨hV,v,ht.kept ((Below.refl _ _).grown hg (by have:=ht.2.2.2.2;omega) (fun k hk=>(World.ownsRow.lt ho k hk).1)),hy.other ho hg⟩
theorem iR.lt{w:World}{b V m:Nat}(h:iR w b V m):b<w.heap.size:=by
 obtain⟨hV,v,ht,hy⟩:=h;exact ht.2.2.2.2
theorem DU(a:Addr)(w:World):(method 476 241 (.pointer (some a)) "loop.example/corbel/impl.pass").run Tryz.prog w = .ok (267,.pointer (some a)) w:=by kernel_rfl
theorem CY(b:Nat)(a:Option Addr)(cap:Nat)(l:List (Int×Int))(w0 w:World)(h:l8 w0 a l)(h0:Below b w0 w)(hs:w0.heap.size<=b)(hok:lOk l=true)(hw:iR w b 0 0) :
  Calls Tryz.prog 180 #[.slice a l.length cap,.func (.method "loop.example/corbel/impl.pass") #[.iface 241 (.pointer (some ⟨b,0,none⟩))] #[]] w fun e w'=>
   (∃v,e = .returned v)/\iR w' b (aU l).1 (aU l).2/\Below b w w':=by
 simp only[lOk,Bool.and_eq_true,decide_eq_true_iff]at hok;obtain⟨hall,h4⟩:=hok;have hall':=af hall;have H4:=af h4;have h4':(l.length:Int)<=4000:=by omega
 clear hall h4;obtain⟨i0,hi,hz0,hz1,hz2⟩:=info_parts Tryz.infoInt;have mp:=DU ⟨b,0,none⟩;go_enter Tryz.func180,Tryz.ntmps180;go_wp2_with fail
 go_loopw [5,7,10] (fun o _ i wr=>∃(k:Nat) (xs:List Int),k<=l.length/\i = .int .i64 k/\xs.length=k/\Ints wr b o xs/\iR wr b (aU (l.take k)).1 (aU (l.take k)).2/\Below b w wr) (fun _ _ i _=>l.length-(intOf i).toNat)
 case atStart=>exact⟨0,[],Nat.zero_le _,rfl,rfl,World.ownsRow_nil _ _ _ _,hw,Below.refl _ _⟩
 case round=>
  obtain⟨k,xs,hk,rfl,hxs,hints,hout,hbel⟩:=hrel;have hltb:=hout.lt;by_cases hlt:k<l.length
  ·
   obtain⟨g,o,rfl,hg,hc⟩:=(h.below hs (h0.trans hbel)) (by omega);obtain⟨c0,c1⟩:=hc k hlt;have hmb:=un (l.take k) (jI (ae hall') k);obtain⟨s0,s1⟩:=Ay (jI (ae hall') k);have s2:((l.take k).length:Int)<=4000:=by simp;omega
   have hml:Hid ((aU (l.take k)).2<=64000):=by show(aU (l.take k)).2<=64000;omega
   have hpk:=af (Ci (ae hall') k hlt);have hstep:=af (EZ l k hlt);have HK:=af hk;have HX:=af hxs;clear hmb s0 s1 s2 hc hk hxs hw;generalize (l.getD k (0,0)).1=x at *
   generalize (l.getD k (0,0)).2=y at *
   generalize aU (l.take k)=S at *
   go_wp2_with fail;refine(Ij b S.1 S.2 x y _ (hout.alloc _) (ae hpk) (by have:=ae hml;omega)).mono ?_;rintro e w1 ⟨rfl,hout1,hbel1,hkp1⟩;have hints1:Ints w1 b u5 xs:=Ints.keep (World.ownsRow.alloc hints _) hkp1;have hbel2:=(hbel.alloc (Nat.le_of_lt hltb) (.cells #[.int .i64 x,.int .i64 y] 180)).trans hbel1;have hlt1:=hout1.lt;clear hout hints hbel hbel1 hkp1;go_wp2_with (at_builtin;refine wpList_append_own _ rfl _ _ 154 rfl (b+1) 3 i0 (.int .i64 0) 1 8 Tryz.underlying154 hi hz0 hz1 hz2 rfl (by decide) _ _ _ rfl (World.ownsRow.alloc hints1 _) ⟨w1.heap.size,0,none⟩ 1 1 [.int .i64 x] rfl rfl (by intro j u hj;match j,hj with | 0,hj=>simp at hj;subst hj;simp[Addr.add]) (by intro u hu;simp at hu;subst hu;rfl) (by have:=ae HX;have:=ae H4;unfold maxLen;omega) (by have:=ae HX;have:=ae H4;omega) (by simp;omega) ?_;intro v' w2 hown hgrow hnil;clear hnil);have hout2:iR w2 b _ _:=(hout1.alloc (.cells #[.int .i64 x] 3)).other (World.ownsRow.alloc hints1 _) hgrow;have hints2:Ints w2 b v' (xs++[x]):=by
    show World.ownsRow _ _ _ _ _ (xs++[x]).length _;simpa using hown
   have hbel3:Below b w w2:=(hbel2.alloc (Nat.le_of_lt hlt1) _).grown hgrow (by simp;omega) (fun j hj=>Nat.le_of_lt (World.ownsRow.lt hints1 j hj).1);clear hown hgrow hints1 hout1 hbel2;go_wp2;go_roundw
   case rel=>exact⟨k+1,xs++[x],by have:=ae HK;omega,by go_num,by have:=ae HX;simp;omega,hints2,by rw[ae hstep];exact hout2,hbel3⟩
   case measure=>simp[intOf];omega
  ·
   have hlk:Hid (l.take k=l):=List.take_of_length_le (by omega);clear h hw;obtain⟨va,vc,rfl⟩:∃va vc,u5 = .slice va xs.length vc:=by
    rcases hints.2 with⟨e,h0⟩|⟨g,cp,_,e,_⟩
    · exact⟨none,0,by rw[e,h0]⟩
    · exact⟨_,cp,e⟩
   go_wp2;go_ret;rw[ae hlk]at hout;exact⟨⟨_,rfl⟩,hout,hbel⟩
theorem E4(b:Nat)(a:Option Addr)(cap:Nat)(l:List (Int×Int))(w0 w:World)(h:l8 w0 a l)(h0:Below b w0 w)(hs:w0.heap.size<=b)(hok:lOk l=true)(hw:iR w b 0 0) :
  Calls Tryz.prog 149 #[.iface 241 (.pointer (some ⟨b,0,none⟩)),.slice a l.length cap] w fun e w'=>
   (∃v,e = .returned v)/\iR w' b (aU l).1 (aU l).2/\Below b w w':=by
 go_enter Tryz.func149,Tryz.ntmps149;go_wp2_with fail;refine(CY b a cap l w0 _ h h0 hs hok hw).mono ?_;rintro e w1 ⟨⟨v,rfl⟩,hout,hbel⟩;go_wp2;go_ret;exact⟨⟨_,rfl⟩,hout,hbel⟩
theorem Jq(w:World)(t:TypeId):iR (w.alloc (.cells #[.slice none 0 0,.int .i64 0] t)) w.heap.size 0 0:=
 ⟨by decide,.slice none 0 0,⟨by simp,by simp,by simp,by simp,by simp⟩,World.ownsRow_nil _ _ _ _⟩
theorem ea(a:Option Addr)(cap:Nat)(l:List (Int×Int))(w:World)(h:l8 w a l)(hm:l.length<=1000000000) :
  Calls Tryz.prog 121 #[.slice a l.length cap] w fun e w'=>e = .returned (.string ⟨(nC l).toArray⟩)/\Below w.heap.size w w':=by
 cases hok:lOk l
 · have HI:=af (KN hok);have HL:=rq hok;go_enter Tryz.func121,Tryz.ntmps121;go_wp2_with (go_at_call 148;refine(fE _ _ _ _ h hm).mono ?_;rintro e w1 ⟨rfl,hb1⟩;rw[HL]);go_ret;exact⟨B7 (a:=[]) (ae HI).symm,hb1⟩
 ·
  have HI:=af (dt hok);have HL:=tJ hok;have hall:aN l=true:=by simp only[lOk,Bool.and_eq_true]at hok;exact hok.1
  obtain⟨s0,_⟩:=Ay hall;generalize bp l=sb at *
  clear hall;go_enter Tryz.func121,Tryz.ntmps121;go_wp2_with fail;refine(fE _ _ _ _ h hm).mono ?_;rintro e w1 ⟨rfl,hb1⟩;rw[HL];clear HL;have h1:=h.later hb1;go_wp2_with fail;refine(E4 w1.heap.size a cap l w1 _ h1 ((Below.refl _ _).alloc (Nat.le_refl _) _) (Nat.le_refl _) hok (Jq w1 _)).mono ?_;rintro e w2 ⟨⟨v0,rfl⟩,⟨_,v,T,Y⟩,hb2⟩;have hconv:=zq Y;obtain⟨va,vc,rfl⟩:=Y.form;obtain⟨k0,k1,f0,f1,hb3⟩:=T;clear k1 Y;generalize hres:(leS (((aU l).2+7)/8) (aU l).1)=res at *
  have HR:Hid (res=nC l):=by have h:=ae HI;rw[h,←hres];exact rfl
  clear hres;go_wp2;go_ret;exact⟨B7 (ae HR),aj hb1 (((Below.refl _ _).alloc (Nat.le_refl _) _).trans hb2)⟩
end Go.Proofs.YtkpfkgoiaicgbaaGreatDoor
namespace Go.Proofs.YtkpfkgoiaicgbaaGreatDoor
open Corb
theorem tE(q k V W:Nat)(hV:V<2 ^ (8*q)):leS (q+k) (V+W*2 ^ (8*q))=leS q V++leS k W:=by
 induction k with
 | zero=>simp[leS,BA q V W (8*q) (Nat.le_refl _)]
 | succ k ih=>
  rw[show q+(k+1)=(q+k)+1 by omega];simp only[leS];rw[ih,List.append_assoc]
  congr 3
  have e:2 ^ (8*(q+k))=2 ^ (8*q)*2 ^ (8*k):=by rw[←Nat.pow_add];congr 1;omega
  rw[e,←Nat.div_div_eq_div_mul,Nat.add_mul_div_right _ _ (Nat.two_pow_pos _),Nat.div_eq_of_lt hV,Nat.zero_add]
theorem Ao(V m:Nat)(l:List (Nat×Nat)):gm (V,m) l=(V+(gm (0,0) l).1*2 ^ m,m+(gm (0,0) l).2):=by
 have key:∀(l:List (Nat×Nat)) (W k:Nat),gm (V+W*2 ^ m,m+k) l=(V+(gm (W,k) l).1*2 ^ m,m+(gm (W,k) l).2):=by
  intro l;induction l with
  | nil=>intro W k;rfl
  | cons p l ih=>
   intro W k;simp only[gm];have e:V+W*2 ^ m+p.1*2 ^ (m+k)=V+(W+p.1*2 ^ k)*2 ^ m:=by
    rw[Nat.add_mul,Nat.pow_add,Nat.mul_assoc,Nat.mul_comm (2 ^ m)];omega
   rw[e,Nat.add_assoc m k p.2];exact ih _ _
 have:=key l 0 0;simpa using this
theorem kP(l m:List (Int×Int)):aU (l++m)=((aU l).1+(aU m).1*2 ^ (aU l).2,(aU l).2+(aU m).2):=by
 rw[aU,nu,List.map_append,pq];exact Ao _ _ _
theorem mP(l m:List (Int×Int)):aN (l++m)=(aN l&&aN m):=by simp[aN]
theorem Cd(f b:List (Int×Int))(hf:lOk f=true)(hb:lOk b=true)(hl:f.length+b.length<=4000)(h8:(aU f).2%8=0):nC (f++b)=nC f++nC b:=by
 have hfa:aN f=true:=by simp only[lOk,Bool.and_eq_true]at hf;exact hf.1
 have hba:aN b=true:=by simp only[lOk,Bool.and_eq_true]at hb;exact hb.1
 have hok:lOk (f++b)=true:=by
  simp only[lOk,Bool.and_eq_true,decide_eq_true_iff,mP];exact⟨⟨hfa,hba⟩,by simpa using hl⟩
 rw[dt hok,dt hf,dt hb,bS,bS,bS,kP];have hlt:=vB f hfa;generalize aU f=F at *
 generalize aU b=B at *
 obtain⟨V,m⟩:=F;obtain⟨W,k⟩:=B;have h8':m%8=0:=h8;have e:m=8*(m/8):=by omega
 show leS ((m+k+7)/8) (V+W*2 ^ m)=leS ((m+7)/8) V++leS ((k+7)/8) W;rw[show(m+k+7)/8=m/8+(k+7)/8 by omega,show(m+7)/8=m/8 by omega];have:=tE (m/8) ((k+7)/8) V W (by rw[←e];exact hlt);rw[←e]at this;exact this
end Go.Proofs.YtkpfkgoiaicgbaaGreatDoor
namespace Go.Proofs.YtkpfkgoiaicgbaaGreatDoor
open Go.RowKit Corb
set_option maxRecDepth 100000
theorem GG(V:Nat):leS 4 V=leS 2 (V%65536)++leS 2 (V/65536):=by
 have:=tE 2 2 (V%65536) (V/65536) (Nat.mod_lt _ (by decide));rw[←this]
 congr 1
 show V=V%65536+V/65536*2 ^ 16;omega
def dC(ws:List Nat):List (Int×Int):=ws.map fun(x:Nat)=>(((x:Nat):Int),(16:Int))
theorem yP{ws:List Nat}(h:∀x∈ws,x<65536)(hl:ws.length<=100):lOk (dC ws)=true:=by
 unfold lOk;simp only[Bool.and_eq_true,decide_eq_true_eq];refine⟨?_,by unfold dC;rw[List.length_map];omega⟩;unfold aN dC;rw[List.all_map,List.all_eq_true];intro x hx;have h16:p2 (16:Int).toNat=65536:=by decide
 have:=h x hx;show pOk ((x:Nat):Int) 16=true;exact aW.2 ⟨by omega,by omega,by rw[h16];omega⟩
theorem E6{ws:List Nat}(h:∀x∈ws,x<65536)(hl:ws.length<=100):nC (dC ws)=ws.flatMap (leS 2):=by
 induction ws with
 | nil=>decide
 | cons x ws ih=>
  have hx:x<65536:=h x (by simp);have h1:lOk (dC [x])=true:=yP (fun y hy=>by rw[List.mem_singleton.1 hy];exact hx) (by simp);have h2:lOk (dC ws)=true:=yP (fun y hy=>h y (by simp[hy])) (by simp at hl;omega);have e:dC (x :: ws)=dC [x]++dC ws:=rfl;have e1:aU (dC [x])=(x,16):=by simp[aU,nu,gm,dC]
  rw[e,Cd _ _ h1 h2 (by unfold dC;simp at hl ⊢;omega) (by rw[e1];exact(by decide:(16:Nat)%8=0)),ih (fun y hy=>h y (by simp[hy])) (by simp at hl;omega),dt h1,bS,e1,List.flatMap_cons];show leS ((16+7)/8) x++_=_;rw[show(16+7)/8=2 by decide]
def bU(ws:List Nat):List Int:=ws.map fun(x:Nat)=>((x:Nat):Int)
theorem E5(ws:List Nat)(k:Nat)(h:k<ws.length):(bU ws).getD k 0=((ws.getD k 0:Nat):Int):=by
 unfold bU;simp[List.getD,h]
theorem AO(ws:List Nat)(k:Nat)(h:k<ws.length):dC (ws.take (k+1))=dC (ws.take k)++[(((ws.getD k 0:Nat):Int),(16:Int))]:=by
 unfold dC;rw[List.take_succ_eq_append_getElem h,List.map_append];simp[List.getD,h]
theorem Jp(x:Int)(w:World):Calls Tryz.prog 123 #[.int .i64 x] w fun e w'=>e = .returned (.agg #[.int .i64 x,.int .i64 16])/\Below w.heap.size w w':=by
 go_enter Tryz.func123,Tryz.ntmps123;go_wp2;refine bodyPost_ret (v:=.agg #[.int .i64 x,.int .i64 16]) (by simp[results,Tryz.results123,go_sem]) rfl ⟨rfl,?_⟩;exact(Below.refl _ _).alloc (Nat.le_refl _) _
theorem zv(a:Option Addr)(cap n:Nat)(ws:List Nat)(w:World)(hn:ws.length=n)(h:bC w a (bU ws))(hm:n<=100) :
  Calls Tryz.prog 122 #[.slice a n cap,.func (.func 123) #[] #[]] w fun e w'=>∃v,e = .returned v/\Pcs w' w.heap.size v (dC ws)/\Below w.heap.size w w':=by
 have hmI:(n:Int)<=100:=by omega
 have Hn:=af hn;have Hm:=af hm;have Hl:Hid ((bU ws).length=n):=by show _=_;unfold bU;rw[List.length_map];exact hn
 clear hn hm;obtain⟨i0,hi,hz0,hz1,hz2⟩:=info_parts Tryz.infoPiece;go_enter Tryz.func122,Tryz.ntmps122;go_wp2_with fail
 go_loopw [5,7,10] (fun o _ i wr=>∃k:Nat,k<=n/\i = .int .i64 k/\Pcs wr w.heap.size o (dC (ws.take k))/\Below w.heap.size w wr) (fun _ _ i _=>n-(intOf i).toNat)
 case atStart=>exact⟨0,Nat.zero_le _,rfl,World.ownsRow_nil _ _ _ _,Below.refl _ _⟩
 case round=>
  obtain⟨k,hk,rfl,hq,hbel⟩:=hrel;by_cases hlt:k<n
  ·
   obtain⟨g,o,rfl,hg,hcc⟩:=(h.later hbel) (by rw[ae Hl];omega);have c0:=hcc k (by rw[ae Hl];exact hlt);rw[E5 ws k (by rw[ae Hn];exact hlt)]at c0;have hst:=af (AO ws k (by rw[ae Hn];exact hlt));have hlk:Hid ((dC (ws.take k)).length=k):=by show _=_;unfold dC;have:=ae Hn;simp;omega
   have Hk:=af hk;clear hcc hk h;generalize ((ws.getD k 0:Nat):Int)=y at *
   have HP:=af (Jp y wr);go_wp2_with fail;refine(ae HP).mono ?_;rintro e x1 ⟨rfl,hb1⟩;have hq1:=Pcs.later hq hb1 (Nat.le_refl _);have hbel1:=aj hbel hb1;have hbs1:=hbel1.size;have hlen1:Hid ((dC (ws.take k)).length+1<=maxLen/\((dC (ws.take k)).length+1)*16<=140737488355328):=by
    show _/\_;rw[ae hlk];have:=ae Hm;unfold maxLen;omega
   clear hq hbel hb1 HP;go_wp2_with (at_builtin;refine wpList_append_own _ rfl _ _ 177 rfl w.heap.size 180 i0 (.agg #[.int .i64 0,.int .i64 0]) 2 16 Tryz.underlying177 hi hz0 hz1 hz2 rfl (by decide) _ _ _ rfl (World.ownsRow.alloc hq1 _) ⟨x1.heap.size,0,none⟩ 1 1 [.int .i64 y,.int .i64 16] rfl rfl (qj x1 _ _ _) (qi _ _) (ae hlen1).1 (ae hlen1).2 (aB hbs1 _) ?_;intro v' x2 hown hgrow hnil;clear hnil);have hb2:=aK (v:=u5) hgrow hq1 (Nat.le_refl _) hbs1 hbel1;have hq2:=kC hown;rw[←ae hst]at hq2;clear hown hgrow hq1;go_wp2;go_roundw
   case rel=>exact⟨k+1,by have:=ae Hk;omega,by go_num,hq2,hb2⟩
   case measure=>simp[intOf];omega
  · have hkn:ws.take k=ws:=List.take_of_length_le (by rw[ae Hn];omega);rw[hkn]at hq;have HQ:=af hq;have HB:=af hbel;clear hq hbel hkn;go_wp2;go_ret;exact⟨_,rfl,ae HQ,ae HB⟩
theorem cU(a:Option Addr)(cap n:Nat)(ws:List Nat)(w:World)(hn:ws.length=n)(h:bC w a (bU ws))(hm:n<=100)(hw:∀x∈ws,x<65536) :
  Calls Tryz.prog 76 #[.slice a n cap] w fun e w'=>e = .returned (.string ⟨(ws.flatMap (leS 2)).toArray⟩)/\Below w.heap.size w w':=by
 have HE:=af (zv a cap n ws w hn h hm);have HW:=af (E6 hw (by omega));have hl:(dC ws).length=n:=by unfold dC;rw[List.length_map];exact hn
 have Hl:=af hl;have Hm:=af hm;clear hn h hm hw hl;go_enter Tryz.func76,Tryz.ntmps76;go_wp2_with fail;refine(ae HE).mono ?_;rintro e w1 ⟨v,rfl,hP,hb1⟩;obtain⟨a1,c1,rfl⟩:=hP.formN (ae Hl);have HC:=ea a1 c1 (dC ws) w1 (hP.rowN (ae Hl)) (by have:=ae Hl;have:=ae Hm;omega);rw[ae HW,ae Hl]at HC;have HC':=af HC;have HB:=af hb1;clear hP hb1 HC HE;go_wp2_with fail;refine(ae HC').mono ?_;rintro e w2 ⟨rfl,hb2⟩;have HB2:=af (aj (ae HB) hb2);clear hb2;go_wp2;go_ret;exact⟨rfl,ae HB2⟩
theorem cT(V:Nat)(w:World)(hV:V<4294967296) :
  Calls Tryz.prog 77 #[.int .i64 (V:Int)] w fun e w'=>e = .returned (.string ⟨(leS 4 V).toArray⟩)/\Below w.heap.size w w':=by
 have e1:bits .and .i64 (V:Int) 65535=((V%65536:Nat):Int):=by
  have:=wM (V:Int) (by omega) (by omega);rw[this];omega
 have HF:Hid ([V%65536,V/65536].flatMap (leS 2)=leS 4 V):=by
  show _=_;rw[GG];simp
 have hq:V/65536<65536:=by omega
 have HR:Hid (bC (w.alloc (.cells #[.int .i64 ((V%65536:Nat):Int),.int .i64 ((V/65536:Nat):Int)] 3)) (some ⟨w.heap.size,0,none⟩) (bU [V%65536,V/65536])):=by
  intro _;refine⟨w.heap.size,0,rfl,by simp,fun i hi=>?_⟩
  match i,hi with
  | 0,_=>simp[bU]
  | 1,_=>simp[bU]
 have HC:=af (cU (some ⟨w.heap.size,0,none⟩) 2 2 [V%65536,V/65536] _ rfl (ae HR) (by omega) (fun x hx=>by
  simp only[List.mem_cons,List.mem_nil_iff,or_false]at hx;rcases hx with rfl|rfl
  · exact Nat.mod_lt _ (by decide)
  · exact hq))
 rw[ae HF]at HC;have HA:Hid (Below w.heap.size w (w.alloc (.cells #[.int .i64 ((V%65536:Nat):Int),.int .i64 ((V/65536:Nat):Int)] 3))):=(Below.refl _ _).alloc (Nat.le_refl _) _;generalize hx:V%65536=x at *
 generalize hy:V/65536=y at *
 have e2:(V:Int)/65536=(y:Int):=by omega
 clear HF HR hx;go_enter Tryz.func77,Tryz.ntmps77;go_wp2_with fail;refine(ae HC).mono ?_;rintro e w1 ⟨rfl,hb1⟩;have HB:=af (aj (ae HA) hb1);clear hb1;go_wp2;go_ret;exact⟨rfl,ae HB⟩
def JA(W:World)(g:Nat)(how st crc pk lg:Nat)(nm:ByteArray):Prop:=W.cell? ⟨g,0,none⟩=some (.int .i64 (how:Nat))/\W.cell? ⟨g,1,none⟩=some (.int .i64 (st:Nat))/\W.cell? ⟨g,2,none⟩=some (.int .i64 (crc:Nat))/\W.cell? ⟨g,3,none⟩=some (.int .i64 (pk:Nat))/\W.cell? ⟨g,4,none⟩=some (.int .i64 (lg:Nat))/\W.cell? ⟨g,5,none⟩=some (.string nm)
def sC(w:World)(how st crc pk lg:Nat)(nm:ByteArray)(W:World):Prop:=Below w.heap.size w W/\w.heap.size<W.heap.size/\JA W w.heap.size how st crc pk lg nm
theorem sC.later{w W W':World}{how st crc pk lg:Nat}{nm:ByteArray}(h:sC w how st crc pk lg nm W)(hb:Below W.heap.size W W'):sC w how st crc pk lg nm W':=by
 have hc:∀j,W'.cell? ⟨w.heap.size,j,none⟩=W.cell? ⟨w.heap.size,j,none⟩:=fun j=>hb.cell (p:=⟨w.heap.size,j,none⟩) h.2.1;exact⟨h.1.trans (hb.mono (Nat.le_of_lt h.2.1)),Nat.lt_of_lt_of_le h.2.1 hb.size,(hc 0).trans h.2.2.1,(hc 1).trans h.2.2.2.1,(hc 2).trans h.2.2.2.2.1,(hc 3).trans h.2.2.2.2.2.1,(hc 4).trans h.2.2.2.2.2.2.1,(hc 5).trans h.2.2.2.2.2.2.2⟩
theorem EG(W:World)(x y z:Nat):bC (W.alloc (.cells #[.int .i64 ((x:Nat):Int),.int .i64 ((y:Nat):Int),.int .i64 ((z:Nat):Int)] 3)) (some ⟨W.heap.size,0,none⟩) (bU [x,y,z]):=by
 intro _;refine⟨W.heap.size,0,rfl,by simp,fun i hi=>?_⟩
 match i,hi with
 | 0,_=>simp[bU]
 | 1,_=>simp[bU]
 | 2,_=>simp[bU]
theorem Le(W:World)(x y:Nat):bC (W.alloc (.cells #[.int .i64 ((x:Nat):Int),.int .i64 ((y:Nat):Int)] 3)) (some ⟨W.heap.size,0,none⟩) (bU [x,y]):=by
 intro _;refine⟨W.heap.size,0,rfl,by simp,fun i hi=>?_⟩
 match i,hi with
 | 0,_=>simp[bU]
 | 1,_=>simp[bU]
def sB(w:World)(how st crc pk lg:Nat)(nm:ByteArray)(W:World)(r0 r1:Option Nat):Prop:=sC w how st crc pk lg nm W/\(∀g,r0=some g->bC W (some ⟨g,0,none⟩) (bU [20,0,how]))/\∀g,r1=some g->bC W (some ⟨g,0,none⟩) (bU [nm.size,0])
theorem sB.later{w W W':World}{how st crc pk lg:Nat}{nm:ByteArray}{r0 r1:Option Nat}(h:sB w how st crc pk lg nm W r0 r1)(hb:Below W.heap.size W W'):sB w how st crc pk lg nm W' r0 r1:=⟨h.1.later hb,fun g e=>(h.2.1 g e).later hb,fun g e=>(h.2.2 g e).later hb⟩
theorem sB.new0{w W:World}{how st crc pk lg:Nat}{nm:ByteArray}{r1:Option Nat}(h:sB w how st crc pk lg nm W none r1):sB w how st crc pk lg nm (W.alloc (.cells #[.int .i64 20,.int .i64 0,.int .i64 ((how:Nat):Int)] 3)) (some W.heap.size) r1:=by
 have h2:=h.later ((Below.refl W.heap.size W).alloc (Nat.le_refl _) (.cells #[.int .i64 20,.int .i64 0,.int .i64 ((how:Nat):Int)] 3));exact⟨h2.1,fun g e=>by cases e;exact EG W 20 0 how,h2.2.2⟩
theorem sB.new1{w W:World}{how st crc pk lg:Nat}{nm:ByteArray}{r0:Option Nat}(h:sB w how st crc pk lg nm W r0 none):sB w how st crc pk lg nm (W.alloc (.cells #[.int .i64 ((nm.size:Nat):Int),.int .i64 0] 3)) r0 (some W.heap.size):=by
 have h2:=h.later ((Below.refl W.heap.size W).alloc (Nat.le_refl _) (.cells #[.int .i64 ((nm.size:Nat):Int),.int .i64 0] 3));exact⟨h2.1,h2.2.1,fun g e=>by cases e;exact Le W nm.size 0⟩
def aZ(l:List UInt8):ByteArray:=⟨l.toArray⟩
def kO(how st crc pk lg n:Nat):ByteArray:=aZ ([20,0,how].flatMap (leS 2))++aZ (leS 4 st)++aZ (leS 4 crc)++aZ (leS 4 pk)++aZ (leS 4 lg)++aZ ([n,0].flatMap (leS 2))
theorem yE(how st crc pk lg:Nat)(nm:ByteArray)(w:World)(h0:how<65536)(h1:st<4294967296)(h2:crc<4294967296)(h3:pk<4294967296)(h4:lg<4294967296)(h5:nm.size<65536) :
  Calls Tryz.prog 120 #[.agg #[.int .i64 (how:Nat),.int .i64 (st:Nat),.int .i64 (crc:Nat),.int .i64 (pk:Nat),.int .i64 (lg:Nat),.string nm]] w fun e w'=>e = .returned (.string (kO how st crc pk lg nm.size))/\Below w.heap.size w w':=by
 have hmix:Tryz.prog.follows .mixedOrders=true:=by kernel_rfl
 have CW0:Hid (∀g W,bC W (some ⟨g,0,none⟩) (bU [20,0,how])->Calls Tryz.prog 76 #[.slice (some ⟨g,0,none⟩) 3 3] W fun e w'=>e = .returned (.string (aZ ([20,0,how].flatMap (leS 2))))/\Below W.heap.size W w'):=fun g W h=>cU _ 3 3 [20,0,how] W rfl h (by omega) (fun x hx=>by simp at hx;omega);have CW1:Hid (∀g W,bC W (some ⟨g,0,none⟩) (bU [nm.size,0])->Calls Tryz.prog 76 #[.slice (some ⟨g,0,none⟩) 2 2] W fun e w'=>e = .returned (.string (aZ ([nm.size,0].flatMap (leS 2))))/\Below W.heap.size W w'):=fun g W h=>cU _ 2 2 [nm.size,0] W rfl h (by omega) (fun x hx=>by simp at hx;omega);have CLA1:Hid (∀W,Calls Tryz.prog 77 #[.int .i64 (st:Int)] W fun e w'=>e = .returned (.string (aZ (leS 4 st)))/\Below W.heap.size W w'):=fun W=>cT st W h1;have CLA2:Hid (∀W,Calls Tryz.prog 77 #[.int .i64 (crc:Int)] W fun e w'=>e = .returned (.string (aZ (leS 4 crc)))/\Below W.heap.size W w'):=fun W=>cT crc W h2;have CLA3:Hid (∀W,Calls Tryz.prog 77 #[.int .i64 (pk:Int)] W fun e w'=>e = .returned (.string (aZ (leS 4 pk)))/\Below W.heap.size W w'):=fun W=>cT pk W h3;have CLA4:Hid (∀W,Calls Tryz.prog 77 #[.int .i64 (lg:Int)] W fun e w'=>e = .returned (.string (aZ (leS 4 lg)))/\Below W.heap.size W w'):=fun W=>cT lg W h4;have hz:∀l:List UInt8,(aZ l).size=l.length:=fun l=>by simp[aZ,ByteArray.size]
 have z0:((aZ ([20,0,how].flatMap (leS 2))).size:Int)<=100:=by rw[hz];simp[az]
 have z5:((aZ ([nm.size,0].flatMap (leS 2))).size:Int)<=100:=by rw[hz];simp[az]
 have z1:((aZ (leS 4 st)).size:Int)<=100:=by rw[hz,az];omega
 have z2:((aZ (leS 4 crc)).size:Int)<=100:=by rw[hz,az];omega
 have z3:((aZ (leS 4 pk)).size:Int)<=100:=by rw[hz,az];omega
 have z4:((aZ (leS 4 lg)).size:Int)<=100:=by rw[hz,az];omega
 unfold kO;generalize aZ ([20,0,how].flatMap (leS 2))=A0 at *
 generalize aZ ([nm.size,0].flatMap (leS 2))=A5 at *
 generalize aZ (leS 4 st)=A1 at *
 generalize aZ (leS 4 crc)=A2 at *
 generalize aZ (leS 4 pk)=A3 at *
 generalize aZ (leS 4 lg)=A4 at *
 have hnI:(nm.size:Int)<65536:=by omega
 have T0':Hid (sC w how st crc pk lg nm (w.alloc (.cells #[.int .i64 (how:Nat),.int .i64 (st:Nat),.int .i64 (crc:Nat),.int .i64 (pk:Nat),.int .i64 (lg:Nat),.string nm] 58))):=⟨(Below.refl _ _).alloc (Nat.le_refl _) _,by simp,by simp,by simp,by simp,by simp,by simp,by simp⟩;clear h0 h1 h2 h3 h4 h5 hz;go_enter Tryz.func120,Tryz.ntmps120;go_wp2_with fail;obtain⟨W0,hW0⟩:∃x,w.alloc (.cells #[.int .i64 (how:Nat),.int .i64 (st:Nat),.int .i64 (crc:Nat),.int .i64 (pk:Nat),.int .i64 (lg:Nat),.string nm] 58)=x:=⟨_,rfl⟩;rw[hW0]at T0';rw[hW0];have T0:=T0';clear T0' hW0;refine wp_region_held_drew (S:=fun W=>JA W w.heap.size how st crc pk lg nm) hmix (ae T0).2.2 (fun hS=>?_);refine ag 0 (.pointer (some ⟨w.heap.size,0,none⟩)) rfl (by kernel_rfl) (fun _ _ _ h=>h) rfl (fun W hSw=>by obtain⟨s0,s1,s2,s3,s4,s5⟩:=hSw;go_simp) hS ?_;refine ag 1 (.int .i64 (how:Nat)) rfl (by kernel_rfl) (fun _ _ _ h=>h) rfl (fun W hSw=>by obtain⟨s0,s1,s2,s3,s4,s5⟩:=hSw;go_simp) hS ?_;refine ag 4 (.pointer (some ⟨w.heap.size,1,none⟩)) rfl (by kernel_rfl) (fun _ _ _ h=>h) rfl (fun W hSw=>by obtain⟨s0,s1,s2,s3,s4,s5⟩:=hSw;go_simp) hS ?_;refine ag 5 (.int .i64 (st:Nat)) rfl (by kernel_rfl) (fun _ _ _ h=>h) rfl (fun W hSw=>by obtain⟨s0,s1,s2,s3,s4,s5⟩:=hSw;go_simp) hS ?_;refine ag 8 (.pointer (some ⟨w.heap.size,2,none⟩)) rfl (by kernel_rfl) (fun _ _ _ h=>h) rfl (fun W hSw=>by obtain⟨s0,s1,s2,s3,s4,s5⟩:=hSw;go_simp) hS ?_;refine ag 9 (.int .i64 (crc:Nat)) rfl (by kernel_rfl) (fun _ _ _ h=>h) rfl (fun W hSw=>by obtain⟨s0,s1,s2,s3,s4,s5⟩:=hSw;go_simp) hS ?_;refine ag 12 (.pointer (some ⟨w.heap.size,3,none⟩)) rfl (by kernel_rfl) (fun _ _ _ h=>h) rfl (fun W hSw=>by obtain⟨s0,s1,s2,s3,s4,s5⟩:=hSw;go_simp) hS ?_;refine ag 13 (.int .i64 (pk:Nat)) rfl (by kernel_rfl) (fun _ _ _ h=>h) rfl (fun W hSw=>by obtain⟨s0,s1,s2,s3,s4,s5⟩:=hSw;go_simp) hS ?_;refine ag 16 (.pointer (some ⟨w.heap.size,4,none⟩)) rfl (by kernel_rfl) (fun _ _ _ h=>h) rfl (fun W hSw=>by obtain⟨s0,s1,s2,s3,s4,s5⟩:=hSw;go_simp) hS ?_;refine ag 17 (.int .i64 (lg:Nat)) rfl (by kernel_rfl) (fun _ _ _ h=>h) rfl (fun W hSw=>by obtain⟨s0,s1,s2,s3,s4,s5⟩:=hSw;go_simp) hS ?_;refine ag 20 (.pointer (some ⟨w.heap.size,5,none⟩)) rfl (by kernel_rfl) (fun _ _ _ h=>h) rfl (fun W hSw=>by obtain⟨s0,s1,s2,s3,s4,s5⟩:=hSw;go_simp) hS ?_;refine ag 21 (.string nm) rfl (by kernel_rfl) (fun _ _ _ h=>h) rfl (fun W hSw=>by obtain⟨s0,s1,s2,s3,s4,s5⟩:=hSw;go_simp) hS ?_;refine ag 22 (.int .i64 (nm.size:Nat)) rfl (by kernel_rfl) (fun _ _ _ h=>h) rfl (fun W hSw=>by obtain⟨s0,s1,s2,s3,s4,s5⟩:=hSw;go_simp) hS ?_;have hs:sB w how st crc pk lg nm W0.drew none none:=⟨⟨(ae T0).1.drew,(ae T0).2.1,(ae T0).2.2⟩,nofun,nofun⟩;generalize W0.drew=W at hs hS ⊢;refine wpAnyH_ready (rs:=[2,23]) (by kernel_rfl) (by simp) ?_;repeat' first
  | exact AllReadyH.nil
  | refine AllReadyH.cons rfl (fun K hK=>?_) ?_
  | (refine gz 5 rfl ?_;go_simp;have hs:=hs.new0;refine Shut.out hK _ _ hs.1.2.2 (fun hS=>?_);clear hK K;generalize W.alloc (.cells #[.int .i64 20,.int .i64 0,.int .i64 ((how:Nat):Int)] 3)=V at hs hS ⊢;generalize W.heap.size=g at hs ⊢;revert V;intro W hS hs;(first|refine wpAnyH_ready (rs:=[3,23]) (by decide +kernel) (by simp) ?_|refine wpAnyH_ready (rs:=[3]) (by decide +kernel) (by simp) ?_))
  | (refine gz 26 rfl ?_;go_simp;have hs:=hs.new1;refine Shut.out hK _ _ hs.1.2.2 (fun hS=>?_);clear hK K;generalize W.alloc (.cells #[.int .i64 ((nm.size:Nat):Int),.int .i64 0] 3)=V at hs hS ⊢;generalize W.heap.size=g at hs ⊢;revert V;intro W hS hs;(first|refine wpAnyH_ready (rs:=[2]) (by decide +kernel) (by simp) ?_|refine wpAnyH_ready (rs:=[3]) (by decide +kernel) (by simp) ?_|refine wpAnyH_ready (rs:=[6]) (by decide +kernel) (by simp) ?_|refine wpAnyH_ready (rs:=[10]) (by decide +kernel) (by simp) ?_|refine wpAnyH_ready (rs:=[14]) (by decide +kernel) (by simp) ?_|refine wpAnyH_ready (rs:=[18]) (by decide +kernel) (by simp) ?_|refine wpAnyH_ready (rs:=[24]) (by decide +kernel) (by simp) ?_))
  | (refine gz 6 rfl ?_;go_simp;go_at_call 76;refine(ae CW0 _ _ (hs.2.1 _ rfl)).mono ?_;rintro e W ⟨rfl,Bd⟩;have hs:=hs.later Bd;refine Shut.out hK _ _ hs.1.2.2 (fun hS=>?_);clear hK K;clear Bd;(first|refine wpAnyH_ready (rs:=[6,23]) (by decide +kernel) (by simp) ?_|refine wpAnyH_ready (rs:=[6]) (by decide +kernel) (by simp) ?_))
  | (refine gz 9 rfl ?_;go_simp;go_at_call 77;refine(ae CLA1 _).mono ?_;rintro e W ⟨rfl,Bd⟩;have hs:=hs.later Bd;refine Shut.out hK _ _ hs.1.2.2 (fun hS=>?_);clear hK K;clear Bd;refine wpAnyH_take (i:=7) (v:=.string (A0++A1)) rfl (by kernel_rfl) (by kernel_rfl) (by kernel_rfl) (fun _ _ _ h=>h) (Or.inl ⟨by rfl,fun W hSw=>by go_simp<;>omega⟩) hS ?_;(first|refine wpAnyH_ready (rs:=[10,23]) (by decide +kernel) (by simp) ?_|refine wpAnyH_ready (rs:=[10]) (by decide +kernel) (by simp) ?_))
  | (refine gz 13 rfl ?_;go_simp;go_at_call 77;refine(ae CLA2 _).mono ?_;rintro e W ⟨rfl,Bd⟩;have hs:=hs.later Bd;refine Shut.out hK _ _ hs.1.2.2 (fun hS=>?_);clear hK K;clear Bd;refine wpAnyH_take (i:=11) (v:=.string (A0++A1++A2)) rfl (by kernel_rfl) (by kernel_rfl) (by kernel_rfl) (fun _ _ _ h=>h) (Or.inl ⟨by rfl,fun W hSw=>by go_simp<;>omega⟩) hS ?_;(first|refine wpAnyH_ready (rs:=[14,23]) (by decide +kernel) (by simp) ?_|refine wpAnyH_ready (rs:=[14]) (by decide +kernel) (by simp) ?_))
  | (refine gz 17 rfl ?_;go_simp;go_at_call 77;refine(ae CLA3 _).mono ?_;rintro e W ⟨rfl,Bd⟩;have hs:=hs.later Bd;refine Shut.out hK _ _ hs.1.2.2 (fun hS=>?_);clear hK K;clear Bd;refine wpAnyH_take (i:=15) (v:=.string (A0++A1++A2++A3)) rfl (by kernel_rfl) (by kernel_rfl) (by kernel_rfl) (fun _ _ _ h=>h) (Or.inl ⟨by rfl,fun W hSw=>by go_simp<;>omega⟩) hS ?_;(first|refine wpAnyH_ready (rs:=[18,23]) (by decide +kernel) (by simp) ?_|refine wpAnyH_ready (rs:=[18]) (by decide +kernel) (by simp) ?_))
  | (refine gz 21 rfl ?_;go_simp;go_at_call 77;refine(ae CLA4 _).mono ?_;rintro e W ⟨rfl,Bd⟩;have hs:=hs.later Bd;refine Shut.out hK _ _ hs.1.2.2 (fun hS=>?_);clear hK K;clear Bd;refine wpAnyH_take (i:=19) (v:=.string (A0++A1++A2++A3++A4)) rfl (by kernel_rfl) (by kernel_rfl) (by kernel_rfl) (fun _ _ _ h=>h) (Or.inl ⟨by rfl,fun W hSw=>by go_simp<;>omega⟩) hS ?_;(first|refine wpAnyH_ready (rs:=[23]) (by decide +kernel) (by simp) ?_|refine wpAnyH_ready (rs:=[24]) (by decide +kernel) (by simp) ?_))
  | (refine gz 27 rfl ?_;go_simp;go_at_call 76;refine(ae CW1 _ _ (hs.2.2 _ rfl)).mono ?_;rintro e W ⟨rfl,Bd⟩;have hs:=hs.later Bd;refine Shut.out hK _ _ hs.1.2.2 (fun hS=>?_);clear hK K;clear Bd;refine wpAnyH_take (i:=25) (v:=.string (A0++A1++A2++A3++A4++A5)) rfl (by kernel_rfl) (by kernel_rfl) (by kernel_rfl) (fun _ _ _ h=>h) (Or.inl ⟨by rfl,fun W hSw=>by go_simp<;>omega⟩) hS ?_;refine wpAnyH_ready (rs:=[26]) (by kernel_rfl) (by simp) ?_)
  | (refine gz 2 rfl ?_;go_simp;refine Shut.out hK _ _ hs.1.2.2 (fun hS=>?_);clear hK K;refine wpAnyH_done (by kernel_rfl) ?_ _;generalize hAA:A0++A1++A2++A3++A4++A5=AA;go_wp2;go_ret;exact⟨by subst hAA;rfl,hs.1.1⟩)
theorem ce(l:List UInt8):(aZ l).size=l.length:=by simp[aZ,ByteArray.size]
theorem fL(how st crc pk lg n:Nat):(kO how st crc pk lg n).size=26:=by
 unfold kO;rw[ByteArray.size_append,ByteArray.size_append,ByteArray.size_append,ByteArray.size_append,ByteArray.size_append];simp only[ce,List.flatMap_cons,List.flatMap_nil,List.length_append,az,List.length_nil]
def bJ(how st crc pk lg:Nat)(nm:ByteArray):ByteArray:=(⟨#[80,75,3,4]⟩:ByteArray)++kO how st crc pk lg nm.size++nm
theorem wJ(how st crc pk lg:Nat)(nm bd:ByteArray)(w:World)(h0:how<65536)(h1:st<4294967296)(h2:crc<4294967296)(h3:pk<4294967296)(h4:lg<4294967296)(h5:nm.size<65536) :
  Calls Tryz.prog 74 #[.agg #[.int .i64 (how:Nat),.int .i64 (st:Nat),.int .i64 (crc:Nat),.int .i64 (pk:Nat),.int .i64 (lg:Nat),.string nm,.string bd]] w fun e w'=>e = .returned (.string (bJ how st crc pk lg nm))/\Below w.heap.size w w':=by
 have HC:=af (fun W=>yE how st crc pk lg nm W h0 h1 h2 h3 h4 h5);have hmix:Tryz.prog.follows .mixedOrders=true:=by kernel_rfl
 obtain⟨A,hA⟩:∃A,kO how st crc pk lg nm.size=A:=⟨_,rfl⟩;have hAz:(A.size:Int)<=1000:=by
  rw[←hA,fL];omega
 have hnI:(nm.size:Int)<65536:=by omega
 have hB:bJ how st crc pk lg nm=(⟨#[80,75,3,4]⟩:ByteArray)++A++nm:=by unfold bJ;rw[hA]
 rw[hA]at HC;rw[hB];have T0':Hid (sC w how st crc pk lg nm (w.alloc (.cells #[.int .i64 (how:Nat),.int .i64 (st:Nat),.int .i64 (crc:Nat),.int .i64 (pk:Nat),.int .i64 (lg:Nat),.string nm,.string bd] 60))):=⟨(Below.refl _ _).alloc (Nat.le_refl _) _,by simp,by simp,by simp,by simp,by simp,by simp,by simp⟩;clear h0 h1 h2 h3 h4 h5 hA hB;go_enter Tryz.func74,Tryz.ntmps74;go_wp2_with fail;obtain⟨W0,hW0⟩:∃x,w.alloc (.cells #[.int .i64 (how:Nat),.int .i64 (st:Nat),.int .i64 (crc:Nat),.int .i64 (pk:Nat),.int .i64 (lg:Nat),.string nm,.string bd] 60)=x:=⟨_,rfl⟩;rw[hW0]at T0';rw[hW0];have T0:=T0';clear T0' hW0;refine wp_region_held_drew (S:=fun W=>JA W w.heap.size how st crc pk lg nm) hmix (ae T0).2.2 (fun hS=>?_);refine ag 0 (.pointer (some ⟨w.heap.size,0,none⟩)) rfl (by kernel_rfl) (fun _ _ _ h=>h) rfl (fun W hSw=>by obtain⟨s0,s1,s2,s3,s4,s5⟩:=hSw;go_simp) hS ?_;refine ag 1 (.agg #[.int .i64 (how:Nat),.int .i64 (st:Nat),.int .i64 (crc:Nat),.int .i64 (pk:Nat),.int .i64 (lg:Nat),.string nm]) rfl (by kernel_rfl) (fun _ _ _ h=>h) rfl (fun W hSw=>by obtain⟨s0,s1,s2,s3,s4,s5⟩:=hSw;go_simp) hS ?_;refine ag 4 (.pointer (some ⟨w.heap.size,0,none⟩)) rfl (by kernel_rfl) (fun _ _ _ h=>h) rfl (fun W hSw=>by obtain⟨s0,s1,s2,s3,s4,s5⟩:=hSw;go_simp) hS ?_;refine ag 5 (.pointer (some ⟨w.heap.size,5,none⟩)) rfl (by kernel_rfl) (fun _ _ _ h=>h) rfl (fun W hSw=>by obtain⟨s0,s1,s2,s3,s4,s5⟩:=hSw;go_simp) hS ?_;refine ag 6 (.string nm) rfl (by kernel_rfl) (fun _ _ _ h=>h) rfl (fun W hSw=>by obtain⟨s0,s1,s2,s3,s4,s5⟩:=hSw;go_simp) hS ?_;have T1:Hid (sC w how st crc pk lg nm W0.drew):=⟨(ae T0).1.drew,(ae T0).2.1,(ae T0).2.2⟩;generalize W0.drew=W1 at *
 refine ah 2 (by kernel_rfl) rfl fun K hK=>?_;go_simp;go_at_call 120;refine(ae HC W1).mono ?_;rintro e W2 ⟨rfl,Bd⟩;have T2:=af ((ae T1).later Bd);refine Shut.out hK _ _ (ae T2).2.2 (fun hS=>?_);clear hK K Bd;refine ag 3 (.string ((⟨#[80,75,3,4]⟩:ByteArray)++A)) rfl (by kernel_rfl) (fun _ _ _ h=>h) rfl (fun W hSw=>by obtain⟨s0,s1,s2,s3,s4,s5⟩:=hSw;go_simp<;>omega) hS ?_;refine ag 7 (.string ((⟨#[80,75,3,4]⟩:ByteArray)++A++nm)) rfl (by kernel_rfl) (fun _ _ _ h=>h) rfl (fun W hSw=>by obtain⟨s0,s1,s2,s3,s4,s5⟩:=hSw;go_simp<;>omega) hS ?_;refine ah 8 (by kernel_rfl) rfl fun K hK=>?_;go_simp;refine Shut.out hK _ _ (ae T2).2.2 (fun hS=>?_);clear hK K;refine wpAnyH_done (by kernel_rfl) ?_ _;generalize hAA:(⟨#[80,75,3,4]⟩:ByteArray)++A++nm=AA;go_wp2;go_ret;exact⟨by subst hAA;rfl,(ae T2).1⟩
theorem qH(how st crc pk lg:Nat)(nm:ByteArray):(bJ how st crc pk lg nm).size=30+nm.size:=by
 unfold bJ;rw[ByteArray.size_append,ByteArray.size_append,fL];have:(⟨#[80,75,3,4]⟩:ByteArray).size=4:=rfl;omega
theorem oY(how st crc pk lg:Nat)(nm bd:ByteArray)(w:World)(h0:how<65536)(h1:st<4294967296)(h2:crc<4294967296)(h3:pk<4294967296)(h4:lg<4294967296)(h5:nm.size<65536)(h6:bd.size<=100000) :
  Calls Tryz.prog 47 #[.agg #[.int .i64 (how:Nat),.int .i64 (st:Nat),.int .i64 (crc:Nat),.int .i64 (pk:Nat),.int .i64 (lg:Nat),.string nm,.string bd]] w fun e w'=>e = .returned (.string (bJ how st crc pk lg nm++bd))/\Below w.heap.size w w':=by
 have hmix:Tryz.prog.follows .mixedOrders=true:=by kernel_rfl
 have HC:=af (fun W=>wJ how st crc pk lg nm bd W h0 h1 h2 h3 h4 h5);have hAz:((bJ how st crc pk lg nm).size:Int)<=70000:=by rw[qH];omega
 have hbI:(bd.size:Int)<=100000:=by omega
 generalize bJ how st crc pk lg nm=A at *
 have T0':Hid (sC w how st crc pk lg nm (w.alloc (.cells #[.int .i64 (how:Nat),.int .i64 (st:Nat),.int .i64 (crc:Nat),.int .i64 (pk:Nat),.int .i64 (lg:Nat),.string nm,.string bd] 60))/\(w.alloc (.cells #[.int .i64 (how:Nat),.int .i64 (st:Nat),.int .i64 (crc:Nat),.int .i64 (pk:Nat),.int .i64 (lg:Nat),.string nm,.string bd] 60)).cell? ⟨w.heap.size,6,none⟩=some (.string bd)):=⟨⟨(Below.refl _ _).alloc (Nat.le_refl _) _,by simp,by simp,by simp,by simp,by simp,by simp,by simp⟩,by simp⟩;clear h0 h1 h2 h3 h4 h5 h6;go_enter Tryz.func47,Tryz.ntmps47;go_wp2_with fail;obtain⟨W0,hW0⟩:∃x,w.alloc (.cells #[.int .i64 (how:Nat),.int .i64 (st:Nat),.int .i64 (crc:Nat),.int .i64 (pk:Nat),.int .i64 (lg:Nat),.string nm,.string bd] 60)=x:=⟨_,rfl⟩;rw[hW0]at T0';rw[hW0];have T0:=T0';clear T0' hW0;refine wp_region_held_drew (S:=fun W=>JA W w.heap.size how st crc pk lg nm/\W.cell? ⟨w.heap.size,6,none⟩=some (.string bd)) hmix ⟨(ae T0).1.2.2,(ae T0).2⟩ (fun hS=>?_);refine ag 0 (.agg #[.int .i64 (how:Nat),.int .i64 (st:Nat),.int .i64 (crc:Nat),.int .i64 (pk:Nat),.int .i64 (lg:Nat),.string nm,.string bd]) rfl (by kernel_rfl) (fun _ _ _ h=>h) rfl (fun W hSw=>by obtain⟨⟨s0,s1,s2,s3,s4,s5⟩,s6⟩:=hSw;go_simp) hS ?_;refine ag 2 (.pointer (some ⟨w.heap.size,6,none⟩)) rfl (by kernel_rfl) (fun _ _ _ h=>h) rfl (fun W hSw=>by obtain⟨⟨s0,s1,s2,s3,s4,s5⟩,s6⟩:=hSw;go_simp) hS ?_;refine ag 3 (.string bd) rfl (by kernel_rfl) (fun _ _ _ h=>h) rfl (fun W hSw=>by obtain⟨⟨s0,s1,s2,s3,s4,s5⟩,s6⟩:=hSw;go_simp) hS ?_;have T1:Hid (sC w how st crc pk lg nm W0.drew/\W0.drew.cell? ⟨w.heap.size,6,none⟩=some (.string bd)):=⟨⟨(ae T0).1.1.drew,(ae T0).1.2.1,(ae T0).1.2.2⟩,(ae T0).2⟩;generalize W0.drew=W1 at *
 refine ah 1 (by kernel_rfl) rfl fun K hK=>?_;go_simp;go_at_call 74;refine(ae HC W1).mono ?_;rintro e W2 ⟨rfl,Bd⟩;have T2:Hid (sC w how st crc pk lg nm W2/\W2.cell? ⟨w.heap.size,6,none⟩=some (.string bd)):=⟨(ae T1).1.later Bd,by rw[Bd.cell (p:=⟨w.heap.size,6,none⟩) (ae T1).1.2.1];exact(ae T1).2⟩;refine Shut.out hK _ _ ⟨(ae T2).1.2.2,(ae T2).2⟩ (fun hS=>?_);clear hK K Bd;refine ag 4 (.string (A++bd)) rfl (by kernel_rfl) (fun _ _ _ h=>h) rfl (fun W hSw=>by obtain⟨⟨s0,s1,s2,s3,s4,s5⟩,s6⟩:=hSw;go_simp<;>omega) hS ?_;refine ah 5 (by kernel_rfl) rfl fun K hK=>?_;go_simp;refine Shut.out hK _ _ ⟨(ae T2).1.2.2,(ae T2).2⟩ (fun hS=>?_);clear hK K;refine wpAnyH_done (by kernel_rfl) ?_ _;generalize hAA:A++bd=AA;go_wp2;go_ret;exact⟨by subst hAA;rfl,(ae T2).1.1⟩
end Go.Proofs.YtkpfkgoiaicgbaaGreatDoor
namespace Go.Proofs.YtkpfkgoiaicgbaaGreatDoor
open Corb
theorem wX(l:List UInt8):leS l.length (bT l)=l:=by
 apply List.ext_getElem
 · rw[az]
 · intro j h1 h2;have h:=BB l.length (bT l) j h2;rw[yL]at h;rw[List.getD_eq_getElem?_getD,List.getElem?_eq_getElem h1,List.getD_eq_getElem?_getD,List.getElem?_eq_getElem h2]at h;simpa using h
theorem sw(k V:Nat):bT (leS k V)=V%2 ^ (8*k):=by
 induction k with
 | zero=>simp[leS,bT,Nat.mod_one]
 | succ k ih=>
  simp only[leS];rw[gh,ih,az];have e:2 ^ (8*(k+1))=2 ^ (8*k)*256:=by rw[Nat.mul_add,Nat.pow_add]
  rw[e,Nat.mod_mul]
  congr 2
  simp[bT]
theorem xH(V p k:Nat):V/2 ^ p%2 ^ (k+1)=V/2 ^ p%2 ^ k+V/2 ^ (p+k)%2*2 ^ k:=by
 rw[xt,Nat.div_div_eq_div_mul,←Nat.pow_add]
def d9(l:List Int):Nat:=(l.map Int.toNat).sum
theorem pw(a b:List Int):d9 (a++b)=d9 a+d9 b:=by simp[d9]
theorem jb(x:Int)(b:List Int):d9 (x :: b)=x.toNat+d9 b:=by simp[d9]
def de(V:Nat):Nat->List Int->List Int
 | _,[]=>[]
 | p,b :: bs=>((V/2 ^ p%2 ^ b.toNat:Nat):Int) :: de V (p+b.toNat) bs
theorem tS(V p:Nat)(l:List Int):(de V p l).length=l.length:=by
 induction l generalizing p with
 | nil=>rfl
 | cons b l ih=>simp[de,ih]
theorem vq(V p:Nat)(a b:List Int):de V p (a++b)=de V p a++de V (p+d9 a) b:=by
 induction a generalizing p with
 | nil=>simp[de,d9]
 | cons x a ih=>simp[de,ih,jb,Nat.add_assoc]
def dw(l:List Int):Bool:=l.all (fun b=>decide (0<=b)&&decide (b<=16))
def ir(s:List UInt8)(l:List Int):Bool:=dw l&&decide (l.length<=4000)&&decide (s.length=(d9 l+7)/8)&&decide (bT s<2 ^ d9 l)
def wE(s:List UInt8)(l:List Int):List Int:=if ir s l=true then de (bT s) 0 l else []
theorem zb{l:List Int}(h:dw l=true)(k:Nat)(hk:k<l.length):0<=l.getD k 0/\l.getD k 0<=16:=by
 have:=List.all_eq_true.1 h (l.getD k 0) (by simp[List.getD,hk]);simpa using this
theorem Lb{l:List Int}(h:dw l=true):d9 l<=16*l.length:=by
 induction l with
 | nil=>simp[d9]
 | cons b l ih=>
  have h':(0<=b/\b<=16)/\dw l=true:=by simpa[dw]using h
  have:=ih h'.2;rw[jb,List.length_cons];omega
theorem Ap(s:List UInt8)(m:Nat)(h:s.length=(m+7)/8):(bT s/2 ^ m%2 ^ ((8-m%8)%8)=0)<->bT s<2 ^ m:=by
 have hlt:=nS s;have e:8*s.length=m+(8-m%8)%8:=by omega
 rw[e,Nat.pow_add]at hlt;have h2:bT s/2 ^ m<2 ^ ((8-m%8)%8):=Nat.div_lt_of_lt_mul hlt;rw[Nat.mod_eq_of_lt h2];constructor
 ·
  intro h0;rcases Nat.div_eq_zero_iff.1 h0 with h|h
  · have:=Nat.two_pow_pos m;omega
  · exact h
 · exact Nat.div_eq_of_lt
def wd(l:List UInt8)(i k:Nat):Nat:=bT ((l.drop i).take k)
theorem Jo(l:List UInt8)(i k:Nat):wd l i k<2 ^ (8*k):=by
 unfold wd;refine Nat.lt_of_lt_of_le (nS _) (Nat.pow_le_pow_right (by decide) ?_);rw[List.length_take];omega
theorem kQ(l:List UInt8)(i:Nat):wd l i 2<65536:=Jo l i 2
theorem ec(l:List UInt8)(i:Nat):wd l i 4<4294967296:=Jo l i 4
theorem fj{l:List UInt8}{i k:Nat}(h:i+k<=l.length):((l.drop i).take k).length=k:=by
 rw[List.length_take,List.length_drop];omega
theorem mJ{l:List UInt8}{i k:Nat}(h:i+k<=l.length):leS k (wd l i k)=(l.drop i).take k:=by
 have:=wX ((l.drop i).take k);rw[fj h]at this;exact this
theorem Mq{l:List UInt8}{i j:Nat}(k:Nat)(h:i+j<=l.length):wd l i (j+k)=wd l i j+2 ^ (8*j)*wd l (i+j) k:=by
 unfold wd;rw[List.take_add,gh,fj h,List.drop_drop]
theorem M0{l:List UInt8}{i:Nat}(h:i+2<=l.length):wd l i 4=wd l i 2+65536*wd l (i+2) 2:=Mq (j:=2) 2 h
theorem yM{l:List UInt8}{i k v:Nat}(h:i+k<=l.length)(hv:v<2 ^ (8*k)):wd l i k=v<->(l.drop i).take k=leS k v:=by
 constructor
 · intro e;rw[←e,mJ h]
 · intro e;unfold wd;rw[e,sw,Nat.mod_eq_of_lt hv]
theorem EW{l:List UInt8}{i k:Nat}(h:i+k<=l.length):bT l/2 ^ (8*i)%2 ^ (8*k)=wd l i k:=by
 have e1:bT l=bT (l.take i)+2 ^ (8*i)*bT (l.drop i):=by
  have h1:=gh (l.take i) (l.drop i);rw[List.take_append_drop,List.length_take,Nat.min_eq_left (by omega)]at h1;exact h1
 have l1:bT (l.take i)<2 ^ (8*i):=by
  have:=nS (l.take i);rw[List.length_take,Nat.min_eq_left (by omega)]at this;exact this
 have e2:bT (l.drop i)=wd l i k+2 ^ (8*k)*bT ((l.drop i).drop k):=by
  have h1:=gh ((l.drop i).take k) ((l.drop i).drop k);rw[List.take_append_drop,fj h]at h1;exact h1
 rw[e1,Nat.add_mul_div_left _ _ (Nat.two_pow_pos _),Nat.div_eq_of_lt l1,Nat.zero_add,e2,Nat.add_mul_mod_self_left,Nat.mod_eq_of_lt (Jo l i k)]
theorem rT(V b:Nat):∀(n p j:Nat),j<n->(de V p (List.replicate n ((b:Nat):Int))).getD j 0=((V/2 ^ (p+b*j)%2 ^ b:Nat):Int)
 | 0,_,_,h=>by omega
 | n+1,p,0,_=>by simp[List.replicate_succ,de]
 | n+1,p,j+1,h=>by
  rw[List.replicate_succ];simp only[de,List.getD_cons_succ];rw[rT V b n _ j (by omega),Int.toNat_natCast,show p+b+b*j=p+b*(j+1) by rw[Nat.mul_add];omega]
theorem uQ{l:List UInt8}(h:30<=l.length):ir (l.take 30) (List.replicate 15 16)=true:=by
 have e1:d9 (List.replicate 15 16)=240:=by decide
 have e2:(l.take 30).length=30:=by rw[List.length_take];omega
 have e3:dw (List.replicate 15 16)=true:=by decide
 have e4:=nS (l.take 30);rw[e2]at e4;unfold ir;rw[e1,e2,e3];simpa using e4
theorem zK{l:List UInt8}(h:30<=l.length)(j:Nat)(hj:j<15):(wE (l.take 30) (List.replicate 15 16)).getD j 0=((wd l (2*j) 2:Nat):Int):=by
 unfold wE;rw[if_pos (uQ h)];have h1:=rT (bT (l.take 30)) 16 15 0 j hj;rw[show((16:Nat):Int)=16 from rfl]at h1;rw[h1];have e2:(l.take 30).length=30:=by rw[List.length_take];omega
 have h2:=EW (l:=l.take 30) (i:=2*j) (k:=2) (by omega);rw[show 0+16*j=8*(2*j) by omega,show(16:Nat)=8*2 from rfl,h2]
 congr 1
 unfold wd;rw[List.drop_take,List.take_take,Nat.min_eq_left (by omega)]
theorem Gn{l:List UInt8}(h:30<=l.length):(wE (l.take 30) (List.replicate 15 16)).length=15:=by
 unfold wE;rw[if_pos (uQ h),tS,List.length_replicate]
def pL(l:List UInt8):Bool:=decide (wd l 0 4=67324752)&&(decide (wd l 4 2=20)&&(decide (wd l 6 2=0)&&decide (wd l 28 2=0)))
theorem Aj(l:List UInt8)(n:Nat):l.take (30+n)=(l.drop 0).take 4++((l.drop 4).take 2++((l.drop 6).take 2++((l.drop 8).take 2++((l.drop 10).take 4++((l.drop 14).take 4++((l.drop 18).take 4++((l.drop 22).take 4++((l.drop 26).take 2++((l.drop 28).take 2++(l.drop 30).take n))))))))):=by
 have st:∀i k m,(l.drop i).take (k+m)=(l.drop i).take k++(l.drop (i+k)).take m:=fun i k m=>by rw[List.take_add,List.drop_drop]
 rw[←st 28 2 n,←st 26 2 _,←st 22 4 _,←st 18 4 _,←st 14 4 _,←st 10 4 _,←st 8 2 _,←st 6 2 _,←st 4 2 _,←st 0 4 _,List.drop_zero]
 congr 1
 omega
theorem mh(how st crc pk lg:Nat)(nm:ByteArray):(bJ how st crc pk lg nm).data.toList=leS 4 67324752++(leS 2 20++(leS 2 0++(leS 2 how++(leS 4 st++(leS 4 crc++(leS 4 pk++(leS 4 lg++(leS 2 nm.size++(leS 2 0++nm.data.toList))))))))):=by
 have e:leS 4 67324752=[80,75,3,4]:=by decide +kernel
 rw[e];unfold bJ kO aZ;simp
theorem Gp{l:List UInt8}{nm:ByteArray}(h:30+wd l 26 2<=l.length)(hn:nm.data.toList=(l.drop 30).take (wd l 26 2)) :
  (bJ (wd l 8 2) (wd l 10 4) (wd l 14 4) (wd l 18 4) (wd l 22 4) nm).data.toList.isPrefixOf l=pL l:=by
 have hs:nm.size=wd l 26 2:=by
  have:=congrArg List.length hn;rw[fj h]at this;simpa using this
 have hlen:(bJ (wd l 8 2) (wd l 10 4) (wd l 14 4) (wd l 18 4) (wd l 22 4) nm).data.toList.length=30+wd l 26 2:=by
  rw[mh,hn];simp only[List.length_append,az,fj h];omega
 rw[Bool.eq_iff_iff,List.isPrefixOf_iff_prefix,List.prefix_iff_eq_take,hlen,Aj,mh,hs,hn,
  mJ (i:=8) (k:=2) (by omega),mJ (i:=10) (k:=4) (by omega),mJ (i:=14) (k:=4) (by omega),mJ (i:=18) (k:=4) (by omega),mJ (i:=22) (k:=4) (by omega),mJ (i:=26) (k:=2) (by omega)]
 simp only[pL,Bool.and_eq_true,decide_eq_true_eq];rw[yM (i:=0) (k:=4) (by omega) (by decide),yM (i:=4) (k:=2) (by omega) (by decide),yM (i:=6) (k:=2) (by omega) (by decide),yM (i:=28) (k:=2) (by omega) (by decide)];constructor
 · intro e;obtain⟨e1,e⟩:=List.append_inj e (by rw[az,fj (by omega)]);obtain⟨e2,e⟩:=List.append_inj e (by rw[az,fj (by omega)]);obtain⟨e3,e⟩:=List.append_inj e (by rw[az,fj (by omega)]);have e:=List.append_cancel_left (List.append_cancel_left (List.append_cancel_left (List.append_cancel_left (List.append_cancel_left (List.append_cancel_left e)))));obtain⟨e4,_⟩:=List.append_inj e (by rw[az,fj (by omega)]);exact⟨e1.symm,e2.symm,e3.symm,e4.symm⟩
 · rintro⟨e1,e2,e3,e4⟩;rw[e1,e2,e3,e4]
theorem AM{a b:List UInt8}{i m:Nat}(k:Nat)(h:a.length=m):wd (a++b) (m+i) k=wd b i k:=by
 unfold wd;rw[←h,List.drop_append,List.drop_eq_nil_of_le (by omega),List.nil_append,Nat.add_sub_cancel_left]
theorem fp{k V:Nat}(b:List UInt8)(h:V<2 ^ (8*k)):wd (leS k V++b) 0 k=V:=by
 unfold wd;rw[List.drop_zero,List.take_append_of_le_length (by rw[az];exact Nat.le_refl _),List.take_of_length_le (by rw[az];exact Nat.le_refl _),sw,Nat.mod_eq_of_lt h]
theorem qJ{how st crc pk lg:Nat}{nm:ByteArray}(r:List UInt8)(h0:how<65536)(h1:st<4294967296)(h2:crc<4294967296)(h3:pk<4294967296)(h4:lg<4294967296)(h5:nm.size<65536) :
  pL ((bJ how st crc pk lg nm).data.toList++r)=true/\wd ((bJ how st crc pk lg nm).data.toList++r) 8 2=how/\wd ((bJ how st crc pk lg nm).data.toList++r) 10 4=st/\wd ((bJ how st crc pk lg nm).data.toList++r) 14 4=crc/\wd ((bJ how st crc pk lg nm).data.toList++r) 18 4=pk/\wd ((bJ how st crc pk lg nm).data.toList++r) 22 4=lg/\wd ((bJ how st crc pk lg nm).data.toList++r) 26 2=nm.size/\(((bJ how st crc pk lg nm).data.toList++r).drop 30).take nm.size=nm.data.toList/\((bJ how st crc pk lg nm).data.toList++r).drop (30+nm.size)=r:=by
 rw[mh];simp only[List.append_assoc];have g4:∀(V:Nat) (b:List UInt8) (i k:Nat),wd (leS 4 V++b) (4+i) k=wd b i k:=fun V b i k=>AM k (az 4 V);have g2:∀(V:Nat) (b:List UInt8) (i k:Nat),wd (leS 2 V++b) (2+i) k=wd b i k:=fun V b i k=>AM k (az 2 V);have d4:∀(V:Nat) (b:List UInt8) (i:Nat),(leS 4 V++b).drop (4+i)=b.drop i:=fun V b i=>by rw[List.drop_append,List.drop_eq_nil_of_le (by rw[az];omega),List.nil_append,az,Nat.add_sub_cancel_left]
 have d2:∀(V:Nat) (b:List UInt8) (i:Nat),(leS 2 V++b).drop (2+i)=b.drop i:=fun V b i=>by rw[List.drop_append,List.drop_eq_nil_of_le (by rw[az];omega),List.nil_append,az,Nat.add_sub_cancel_left]
 have e30:∀j,30+j=4+(2+(2+(2+(4+(4+(4+(4+(2+(2+j))))))))):=fun j=>by omega
 have hl:nm.data.toList.length=nm.size:=by simp
 refine⟨?_,?_,?_,?_,?_,?_,?_,?_,?_⟩
 · unfold pL;rw[fp _ (by decide),show(4:Nat)=4+0 from rfl,g4,fp _ (by decide),show(6:Nat)=4+(2+0)from rfl,g4,g2,fp _ (by decide),show(28:Nat)=4+(2+(2+(2+(4+(4+(4+(4+(2+0))))))))from rfl,g4,g2,g2,g2,g4,g4,g4,g4,g2,fp _ (by decide)];rfl
 · rw[show(8:Nat)=4+(2+(2+0))from rfl,g4,g2,g2,fp _ h0]
 · rw[show(10:Nat)=4+(2+(2+(2+0)))from rfl,g4,g2,g2,g2,fp _ h1]
 · rw[show(14:Nat)=4+(2+(2+(2+(4+0))))from rfl,g4,g2,g2,g2,g4,fp _ h2]
 · rw[show(18:Nat)=4+(2+(2+(2+(4+(4+0)))))from rfl,g4,g2,g2,g2,g4,g4,fp _ h3]
 · rw[show(22:Nat)=4+(2+(2+(2+(4+(4+(4+0))))))from rfl,g4,g2,g2,g2,g4,g4,g4,fp _ h4]
 · rw[show(26:Nat)=4+(2+(2+(2+(4+(4+(4+(4+0)))))))from rfl,g4,g2,g2,g2,g4,g4,g4,g4,fp _ h5]
 · rw[show(30:Nat)=4+(2+(2+(2+(4+(4+(4+(4+(2+(2+0)))))))))from rfl,d4,d2,d2,d2,d4,d4,d4,d4,d2,d2,List.drop_zero,List.take_append_of_le_length (by omega),List.take_of_length_le (by omega)]
 · rw[e30,d4,d2,d2,d2,d4,d4,d4,d4,d2,d2,List.drop_append,List.drop_eq_nil_of_le (by omega),List.nil_append,hl,Nat.sub_self,List.drop_zero]
end Go.Proofs.YtkpfkgoiaicgbaaGreatDoor
namespace Go.Proofs.YtkpfkgoiaicgbaaGreatDoor
open Go.RowKit Corb
attribute [local go_sem ↓] Go.wp_at_zero Go.wp_at_succ
theorem BX(k:Nat)(h:k<=16):p2 k<=65536:=by
 have h2:2 ^ k<=2 ^ 16:=Nat.pow_le_pow_right (by omega) h;have h4:p2 k=2 ^ k:=rfl;omega
theorem rest_step(V p j:Nat):(V/2 ^ p%2 ^ (j+1)=0)<->(V/2 ^ p%2 ^ j=0/\V/2 ^ (p+j)%2=0):=by
 rw[xH];have:=Nat.two_pow_pos j;constructor
 ·
  intro h;have h1:=Nat.eq_zero_of_add_eq_zero_right h;have h2:=Nat.eq_zero_of_add_eq_zero_left h;rcases Nat.mul_eq_zero.1 h2 with h3|h3
  · exact⟨h1,h3⟩
  · omega
 · rintro⟨h1,h2⟩;rw[h1,h2];simp
end Go.Proofs.YtkpfkgoiaicgbaaGreatDoor
namespace Go.Proofs.YtkpfkgoiaicgbaaGreatDoor
open Go.RowKit Corb
theorem Box.keep1{w w':World}{P b:Nat}{x y:Int}(h:Box w P x y)(hk:ax b w w')(hb:P≠b):Box w' P x y:=by
 unfold Box at *
 rw[hk.2 P (Array.getElem?_eq_some_iff.1 h).1 hb];exact h
theorem KG(n x k M:Nat)(hn:n<p2 k)(hx:x<=1)(hk:k<=16)(hM:x*p2 k=M):bits .or .i64 (n:Int) (M:Int)=((n+M:Nat):Int):=by
 have h1:=BX k hk;have hM2:M<=65536:=by
  rcases (show x=0∨x=1 by omega)with e|e<;>subst e<;>omega
 rw[jp n M (by omega) (by omega)]
 congr 1
 rw[Nat.or_comm];rw[nat_join k M n (by rw[←hM];exact Nat.mul_mod_left _ _) hn];omega
theorem rS(b p c:Nat)(num:Int)(s:ByteArray)(w:World)(h:Rdr w b s p)(hs:s.size<=2000000)(hc:c<=16) :
  Calls Tryz.prog 217 #[.pointer (some ⟨b,0,none⟩),.agg #[.int .i64 num,.int .i64 (c:Int)]] w fun e w'=>e = .returned (.int .i64 (au s/2 ^ p%2 ^ c:Nat))/\Rdr w' b s (p+c)/\ax b w w':=by
 have Hs:=af hs;have hc':(c:Int)<=16:=by omega
 have Hc:=af hc;have hlt:=h.lt;have h0:=h.alloc (.cells #[.int .i64 num,.int .i64 (c:Int)] 180);have hk0:ax b w (w.alloc (.cells #[.int .i64 num,.int .i64 (c:Int)] 180)):=(ax.refl _ _).alloc (by omega) _;clear hs hc h;go_enter Tryz.func217,Tryz.ntmps217;go_wp2_with fail
 go_loopw [5,6,9] (fun n _ i wr=>∃k:Nat,k<=c/\i = .int .i64 k/\n = .int .i64 (au s/2 ^ p%2 ^ k:Nat)/\Rdr wr b s (p+k)/\ax b w wr) (fun _ _ i _=>c-(intOf i).toNat)
 case atStart=>exact⟨0,Nat.zero_le _,rfl,by simp[Nat.mod_one],h0,hk0⟩
 case round=>
  obtain⟨k,hk,rfl,rfl,hr,hbel⟩:=hrel;clear h0 hk0;have Hk:=af hk;by_cases hlt:k<c
  ·
   have hkc:(k:Int)<(c:Int):=by omega
   have hk16:k<=16:=by have:=ae Hc;omega
   have hst:Hid (au s/2 ^ p%2 ^ (k+1)=au s/2 ^ p%2 ^ k+au s/2 ^ (p+k)%2*p2 k):=xH (au s) p k;have hn0:au s/2 ^ p%2 ^ k<p2 k:=Nat.mod_lt _ (Nat.two_pow_pos k);have hx:au s/2 ^ (p+k)%2<=1:=by omega
   have hpw:=BX k hk16;have hbit:=af (oH b (p+k) s wr hr (ae Hs));have hp2i:=iP k;generalize au s/2 ^ p%2 ^ k=n at *
   generalize au s/2 ^ (p+k)%2=x at *
   have hor:=KG n x k (x*p2 k) hn0 hx hk16 rfl;have hmul:x*p2 k<=65536:=by rcases (show x=0∨x=1 by omega)with e|e<;>rw[e]<;>omega
   have e1':(x:Int)*2 ^ k=((x*p2 k:Nat):Int):=by rw[Int.natCast_mul,hp2i]
   have e1:IntKind.i64.wrap ((x:Int)*2 ^ k)=((x*p2 k:Nat):Int):=by rw[e1'];exact ee _ (by omega) (by omega)
   generalize x*p2 k=M at *
   have e2:IntKind.i64.wrap (M:Int)=(M:Int):=ee _ (by omega) (by omega);have k16:(k:Int)<=16:=by omega
   clear hk16 hx hpw hmul hk hr hn0 hp2i;go_wp2_with fail;refine(ae hbit).mono ?_;rintro e x1 ⟨rfl,hr1,hb1⟩;go_wp2;go_roundw
   case rel=>exact⟨k+1,by omega,by go_num,by rw[ae hst];go_num,hr1,hbel.trans hb1⟩
   case measure=>simp[intOf];omega
  ·
   obtain rfl:k=c:=by have:=ae Hk;omega
   go_wp2;go_ret;exact⟨rfl,hr,hbel⟩
theorem KF(m x:Nat)(hm:m<=1)(hx:x<=1):∃y:Nat,bits .or .i64 (m:Int) (x:Int)=(y:Int)/\y<=1/\(y=0<->m=0/\x=0):=by
 refine⟨m ||| x,jp m x (by omega) (by omega),?_,?_⟩
 · rcases (show m=0∨m=1 by omega)with e|e<;>rcases (show x=0∨x=1 by omega)with f|f<;>subst e<;>subst f<;>decide
 · rcases (show m=0∨m=1 by omega)with e|e<;>rcases (show x=0∨x=1 by omega)with f|f<;>subst e<;>subst f<;>decide
theorem pt(b p:Nat)(s:ByteArray)(w:World)(h:Rdr w b s p)(hs:s.size<=2000000)(hp:p<=8*s.size) :
  Calls Tryz.prog 150 #[.pointer (some ⟨b,0,none⟩)] w fun e w'=>e = .returned (.bool (decide (au s/2 ^ p%2 ^ ((8-p%8)%8)=0)))/\Rdr w' b s (p+(8-p%8)%8)/\ax b w w':=by
 have Hs:=af hs;have hp7:(8-p%8)%8<=7:=by omega
 have hpm:(p+(8-p%8)%8)%8=0:=by omega
 have hpl:p+(8-p%8)%8<=8*s.size:=by omega
 have hmin:∀j,j<(8-p%8)%8->(p+j)%8≠0:=by omega
 have hsI:(s.size:Int)<=2000000:=by omega
 generalize (8-p%8)%8=c at *
 have Hp:=af hpl;clear hs hp hpl;go_enter Tryz.func150,Tryz.ntmps150;go_wp2_with fail
 go_loopw [3] (fun n wr=>∃k m:Nat,k<=c/\n = .int .i64 (m:Nat)/\m<=1/\(m=0<->au s/2 ^ p%2 ^ k=0)/\Rdr wr b s (p+k)/\ax b w wr) (fun _ wr=>c+p-(match wr.cell? ⟨b,1,none⟩with|some (.int _ i)=>i.toNat|_=>0))
 case atStart=>exact⟨0,0,Nat.zero_le _,rfl,by omega,by simp[Nat.mod_one],h,ax.refl _ _⟩
 case round=>
  obtain⟨k,m,hk,rfl,hmk,hm0,hr,hbel⟩:=hrel;clear h;have h3:=hr.at (by have:=ae Hp;omega);obtain⟨c0,c1,c2,f0,f1,f2,hb3⟩:=h3;have Hk:=af hk;have Hm0:=af hm0;have hpk:((p+k:Nat):Int)<=16000000:=by have:=ae Hp;omega
  clear hm0;by_cases hlt:k<c
  ·
   have hne:¬ ((p+k:Nat):Int)%8=0:=by have:=hmin k hlt;omega
   have hst:=af (rest_step (au s) p k);have hx:au s/2 ^ (p+k)%2<=1:=by omega
   have hbit:=af (oH b (p+k) s wr hr (ae Hs));generalize au s/2 ^ (p+k)%2=x at *
   obtain⟨y,hor,hy1,hy0⟩:=KF m x hmk hx;have HY:=af hy0;have HY1:=af hy1;have Hlt:=af hlt;have Hpk:=af (show p+k<8*s.size by have:=ae Hp;omega);clear hmin hx hk hmk hlt hr hpm hp7 hy0 hy1;generalize hPK:p+k=pk at *
   have HPK:=af hPK;clear hPK;go_wp2_with fail;refine(ae hbit).mono ?_;rintro e x1 ⟨rfl,hr1,hb1⟩;go_wp2;go_roundw
   case rel=>exact⟨k+1,y,ae Hlt,rfl,ae HY1,by rw[ae hst,←ae Hm0];exact ae HY,by rw[←ae HPK]at hr1;exact hr1,hbel.trans hb1⟩
   case measure=>
    have h1:=(hr1.at (by have:=ae Hpk;omega)).2.1;rw[h1,c1];have:=ae HPK;have:=ae Hlt;simp;omega
  ·
   obtain rfl:k=c:=by have:=ae Hk;omega
   have he:((p+k:Nat):Int)%8=0:=by omega
   generalize hPK:p+k=pk at *
   go_wp2;go_ret;refine⟨ak ?_,by rw[hPK];exact hr,hbel⟩;rw[show decide (au s/2 ^ p%2 ^ k=0)=decide (m=0)from decide_eq_decide.2 (ae Hm0).symm];rcases Nat.eq_zero_or_pos m with h0|h0
   · subst h0;rfl
   · rw[decide_eq_false (by omega)];first|(exact decide_eq_false (by omega))|(exact beq_false_of_ne (by omega))|(exact(by omega:False).elim)
def bi(m:List UInt8):List (Int×Int):=m.map fun b=>((b.toNat:Int),8)
theorem jg(m:List UInt8):(bi m).length=m.length:=by simp[bi]
theorem Cv(m:List UInt8):aN (bi m)=true:=by
 simp only[aN,bi,List.all_map,List.all_eq_true];intro b _;have:=UInt8.toNat_lt b;have h8:p2 (8:Int).toNat=256:=by decide
 have h9:pOk (b.toNat:Int) 8=true:=aW.2 ⟨by omega,by omega,by rw[h8];omega⟩;exact h9
theorem zg(m:List UInt8):aU (bi m)=(bT m,8*m.length):=by
 induction m with
 | nil=>rfl
 | cons b m ih=>
  have e0:bi (b :: m)=[((b.toNat:Int),(8:Int))]++bi m:=rfl;have e:aU [((b.toNat:Int),(8:Int))]=(b.toNat,8):=by simp[aU,nu,gm]
  have e2:bT (b :: m)=bT [b]+2 ^ (8*1)*bT m:=gh [b] m;have e3:bT [b]=b.toNat:=by simp[bT]
  rw[e0,kP,ih,e,e2,e3];refine Prod.ext ?_ ?_
  · show b.toNat+bT m*2 ^ 8=b.toNat+2 ^ (8*1)*bT m;rw[Nat.mul_comm]
  · show 8+8*m.length=8*(b :: m).length;rw[List.length_cons];omega
theorem l9(m:List UInt8)(h:m.length<=4000):lOk (bi m)=true:=by
 simp only[lOk,Bool.and_eq_true,decide_eq_true_iff];exact⟨Cv m,by rw[jg];exact h⟩
theorem zf(m:List UInt8)(h:m.length<=4000):nC (bi m)=m:=by
 rw[dt (l9 m h),bS,zg];show leS ((8*m.length+7)/8) (bT m)=m;rw[show(8*m.length+7)/8=m.length by omega];exact wX m
def dy(n:Nat):List (Int×Int):=[(1,1),(0,2),(0,5),((n:Int),16),(((65535-n:Nat):Int),16)]
def oZ(n:Nat):Nat:=1+n*256+(65535-n)*16777216
theorem qI(n:Nat)(h:n<=65535):lOk (dy n)=true:=by
 have h16:p2 (16:Int).toNat=65536:=by decide
 have a1:pOk 1 1=true:=by decide
 have a2:pOk 0 2=true:=by decide
 have a3:pOk 0 5=true:=by decide
 have a4:pOk (n:Int) 16=true:=aW.2 ⟨by omega,by omega,by rw[h16];omega⟩;have a5:pOk ((65535-n:Nat):Int) 16=true:=aW.2 ⟨by omega,by omega,by rw[h16];omega⟩;simp only[lOk,aN,dy,List.all_cons,List.all_nil,a1,a2,a3,a4,a5];simp
theorem ts(n:Nat):aU (dy n)=(oZ n,40):=by
 simp[aU,nu,dy,gm,oZ]
theorem Dt(n:Nat)(h:n<=65535):nC (dy n)=leS 5 (oZ n):=by
 rw[dt (qI n h),bS,ts];simp only[Nat.reduceAdd,Nat.reduceDiv]
theorem wI(n:Nat):(aU (dy n)).2%8=0:=by rw[ts];simp only[Nat.reduceMod]
theorem tX(L:List UInt8)(h:L.length<=300):nC (dy L.length++bi L)=leS 5 (oZ L.length)++L:=by
 rw[Cd (dy L.length) (bi L) (qI _ (by omega)) (l9 L (by omega)) (by rw[jg];simp[dy];omega) (wI _),Dt _ (by omega),zf L (by omega)]
def ew(L:List UInt8):List UInt8:=if L.length<=300 then leS 5 (oZ L.length)++L else []
theorem Js(n:Nat)(h:n<=300):n ^^^ 65535=65535-n:=by
 apply Nat.eq_of_testBit_eq;intro i;have e1:(65535:Nat)=2 ^ 16-1:=rfl;have e2:65535-n=2 ^ 16-(n+1):=by omega
 rw[e2,Nat.testBit_two_pow_sub_succ (by omega),Nat.testBit_xor,e1,Nat.testBit_two_pow_sub_one];by_cases hi:i<16
 · simp[hi]
 · have:n.testBit i=false:=Nat.testBit_lt_two_pow (Nat.lt_of_lt_of_le (show n<2 ^ 16 by omega) (Nat.pow_le_pow_right (by omega) (by omega)));simp[hi,this]
theorem ja(s:ByteArray):s.data.toList.length=s.size:=by simp
theorem iK(k:Int)(w:World) :
  Calls Tryz.prog 124 #[.int .i64 k] w fun e w'=>e = .returned (.slice (some ⟨w.heap.size,0,none⟩) 2 2)/\w'=w.alloc (.cells #[.int .i64 1,.int .i64 1,.int .i64 k,.int .i64 2] 180):=by
 go_enter Tryz.func124,Tryz.ntmps124;go_wp2;go_ret;exact⟨rfl,rfl⟩
theorem KZ(w:World)(a b c d e f:Value)(t:TypeId)(g:Nat)(hg:w.heap.size=g):∀(j:Nat) (u:Value),[a,b,c,d,e,f][j]?=some u->(w.alloc (.cells #[a,b,c,d,e,f] t)).cell? ((⟨g,0,none⟩:Addr).add j)=some u:=by
 subst hg;intro j u hj
 match j,hj with
 | 0,hj=>simp at hj;subst hj;simp[Addr.add]
 | 1,hj=>simp at hj;subst hj;simp[Addr.add]
 | 2,hj=>simp at hj;subst hj;simp[Addr.add]
 | 3,hj=>simp at hj;subst hj;simp[Addr.add]
 | 4,hj=>simp at hj;subst hj;simp[Addr.add]
 | 5,hj=>simp at hj;subst hj;simp[Addr.add]
theorem KY(a b c d e f:Int):∀u∈[Value.int .i64 a,.int .i64 b,.int .i64 c,.int .i64 d,.int .i64 e,.int .i64 f],u.oneCell'=true:=by
 intro u hu;simp at hu;rcases hu with rfl|rfl|rfl|rfl|rfl|rfl<;>rfl
theorem IZ(s:ByteArray)(i:Nat)(h:i<s.size):s.data.toList.take (i+1)=s.data.toList.take i++[s[i]]:=by
 have hl:=ja s;rw[List.take_add_one,List.getElem?_eq_getElem (by omega)];simp;rfl
theorem vP(m:List UInt8)(b:UInt8):bi m++[((b.toNat:Int),(8:Int))]=bi (m++[b]):=by simp[bi]
theorem Cz(s:ByteArray)(w:World):∃(c:Nat) (x:World) (cs:Array Value) (f:Nat×Nat),(convert 9 22 (.string s)).run Tryz.prog w = .ok (.slice (some ⟨w.heap.size,0,none⟩) s.size c) x/\Below w.heap.size w x/\x.heap[w.heap.size]?=some (.cells cs 5 f)/\∀i (h:i<s.size),cs[i]?=some (.int .u8 (s[i].toNat:Int)):=by
 refine⟨_,_,bytesRow s (grownCap w s.size 0 5),((bytesRow s (grownCap w s.size 0 5)).size,(bytesRow s (grownCap w s.size 0 5)).size+1),run_bytes_of_string w _ _ _ s Tryz.underlying9 Tryz.underlying22 Tryz.underlying5,?_,?_,?_⟩
 · exact((Below.refl _ w).drew).alloc (by simp) _
 · exact Array.getElem?_push_size
 · intro i h;exact bytesRow_at s (grownCap w s.size 0 5) i h
theorem IB{w:World}{b i:Nat}{cs:Array Value}{t:TypeId}{f:Nat×Nat}{v:Value}(h:w.heap[b]?=some (.cells cs t f))(hc:cs[i]?=some v):w.cell? ⟨b,i,none⟩=some v:=by
 unfold World.cell?;rw[h];exact hc
theorem sK(s:ByteArray)(w:World)(hs:s.size<=300) :
  Calls Tryz.prog 78 #[.string s] w fun e w'=>e = .returned (.string ⟨(leS 5 (oZ s.size)++s.data.toList).toArray⟩)/\Below w.heap.size w w':=by
 obtain⟨i0,hi,hz0,hz1,hz2⟩:=info_parts Tryz.infoPiece;have hsI:(s.size:Int)<=300:=by omega
 have hI:¬ (300:Int)<(s.size:Int):=by omega
 obtain⟨N,hN⟩:∃N:Nat,65535-s.size=N:=⟨_,rfl⟩;have hx:bits .xor .i64 (s.size:Int) 65535=(N:Int):=by
  have:=kj s.size 65535 (by omega) (by omega);rw[Js s.size hs,hN]at this;exact this
 have HH:Hid (dy s.size=[(1,1),(0,2)]++[(0,5),((s.size:Int),16),((N:Int),16)]):=by show _=_;unfold dy;rw[hN];rfl
 have hP0:Hid ((w.alloc (.cells #[.int .i64 1,.int .i64 1,.int .i64 0,.int .i64 2] 180)).ownsRow w.heap.size 180 2 (.slice (some ⟨w.heap.size,0,none⟩) 2 2) 2 [.int .i64 1,.int .i64 1,.int .i64 0,.int .i64 2]):=World.ownsRow_lit w #[.int .i64 1,.int .i64 1,.int .i64 0,.int .i64 2] 2 (Nat.le_refl _) (by unfold maxLen;omega) rfl;have hB0:Hid (Below w.heap.size w (w.alloc (.cells #[.int .i64 1,.int .i64 1,.int .i64 0,.int .i64 2] 180))):=(Below.refl _ _).alloc (Nat.le_refl _) _;have hput:=af (tX s.data.toList (by rw[ja];exact hs));have hL:=af (ja s);have bd:Hid (2+3<=maxLen/\(2+3)*16<=140737488355328):=by show _/\_;unfold maxLen;omega
 clear hs hN;go_enter Tryz.func78,Tryz.ntmps78;go_wp2_with fail;refine(iK 0 w).mono ?_;rintro e x1 ⟨rfl,hx1⟩;have h1P:=af (show x1.ownsRow w.heap.size 180 2 (.slice (some ⟨w.heap.size,0,none⟩) 2 2) 2 [.int .i64 1,.int .i64 1,.int .i64 0,.int .i64 2] by rw[hx1];exact ae hP0);have h1B:=af (show Below w.heap.size w x1 by rw[hx1];exact ae hB0);have hbs1:=(ae h1B).size;clear hx1;go_wp2_with (at_builtin;refine wpList_append_own _ rfl _ _ 177 rfl w.heap.size 180 i0 (.agg #[.int .i64 0,.int .i64 0]) 2 16 Tryz.underlying177 hi hz0 hz1 hz2 rfl (by decide) (.slice (some ⟨w.heap.size,0,none⟩) 2 2) _ _ rfl (World.ownsRow.alloc (ae h1P) _) ⟨x1.heap.size,0,none⟩ 3 3 [.int .i64 0,.int .i64 5,.int .i64 (s.size:Nat),.int .i64 16,.int .i64 (N:Nat),.int .i64 16] rfl rfl (KZ _ _ _ _ _ _ _ _ _ rfl) (KY _ _ _ _ _ _) (ae bd).1 (ae bd).2 (aB hbs1 _) ?_;intro v' x2 hown hgrow hnil;clear hnil;obtain⟨c3,x3,cs,fz,hcv,hb3,hh3,hc3⟩:=Cz s x2);have hb2:Below w.heap.size w x2:=aK (v:=.slice (some ⟨w.heap.size,0,none⟩) 2 2) hgrow (ae h1P) (Nat.le_refl _) hbs1 (ae h1B);have hq2:Pcs x2 w.heap.size v' (dy s.size):=by rw[ae HH];exact hown
 have hq3:=af (hq2.later hb3 (Nat.le_refl _));have hB3:=af (aj hb2 hb3);have hC3:Hid (∀W,aV 5 x3 W->∀i (hi:i<s.size),W.cell? ⟨x2.heap.size,i,none⟩=some (.int .u8 (s[i].toNat:Int))):=fun W h i hi=>IB (h _ _ _ hh3) (hc3 i hi);generalize x2.heap.size=G at *
 obtain⟨va,vc,rfl⟩:=(ae hq3).form;have hhl:Hid ((dy s.size).length=5):=rfl;clear hown hgrow hb2 hq2 hcv hb3 hc3 hh3
 go_loopw [4,6,23] (fun v _ i wr=>∃k:Nat,k<=s.size/\i = .int .i64 k/\Pcs wr w.heap.size v (dy s.size++bi (s.data.toList.take k))/\aV 5 x3 wr/\Below w.heap.size w wr) (fun _ _ i _=>s.size-(intOf i).toNat)
 case atStart=>exact⟨0,Nat.zero_le _,rfl,by simpa[bi]using ae hq3,aV.refl _ _,ae hB3⟩
 case round=>
  obtain⟨k,hk,rfl,hq,hkt,hbel⟩:=hrel;have hlen:Hid ((dy s.size++bi (s.data.toList.take k)).length=5+k):=by
   show _=_;rw[List.length_append,ae hhl,jg,List.length_take,ae hL];omega
  obtain⟨ra,rc,rfl⟩:=hq.formN (ae hlen);by_cases hlt:k<s.size
  ·
   have hltI:(k:Int)<(s.size:Int):=by omega
   have hcell:=ae hC3 wr hkt k hlt;have hx256:(s[k].toNat:Int)<256:=by have:=UInt8.toNat_lt s[k];omega
   have hst:Hid (dy s.size++bi (s.data.toList.take k)++[((s[k].toNat:Int),(8:Int))]=dy s.size++bi (s.data.toList.take (k+1))):=by show _=_;rw[List.append_assoc,vP,IZ s k hlt]
   have bdk:Hid (5+k+1<=maxLen/\(5+k+1)*16<=140737488355328):=by show _/\_;unfold maxLen;omega
   have hqo:=af (hq.own (ae hlen));have hbs:=hbel.size;have HBel:=af (And.intro hbel hkt);clear hq hbel hkt;go_wp2_with (at_builtin;refine wpList_append_own _ rfl _ _ 177 rfl w.heap.size 180 i0 (.agg #[.int .i64 0,.int .i64 0]) 2 16 Tryz.underlying177 hi hz0 hz1 hz2 rfl (by decide) (.slice ra (5+k) rc) _ _ rfl (World.ownsRow.alloc (ae hqo) _) ⟨wr.heap.size,0,none⟩ 1 1 [.int .i64 (s[k].toNat:Int),.int .i64 8] rfl rfl (qj _ _ _ _) (qi _ _) (ae bdk).1 (ae bdk).2 (aB hbs _) ?_;intro v' y2 hown hgrow hnil;clear hnil);have hb2:=aK (v:=.slice ra (5+k) rc) hgrow (ae hqo) (Nat.le_refl _) hbs (ae HBel).1;have hq2:=Ek (ae hlen) hown;rw[ae hst]at hq2;have hkt2:=((ae HBel).2.alloc (.cells #[.int .i64 (s[k].toNat:Int),.int .i64 8] 180)).grown (World.ownsRow.alloc (ae hqo) _) (by decide) hgrow;clear hown hgrow;go_wp2;go_roundw
   case rel=>exact⟨k+1,by omega,by go_num,hq2,hkt2,hb2⟩
   case measure=>simp[intOf];omega
  ·
   obtain rfl:k=s.size:=by omega
   have hall:Hid (s.data.toList.take s.size=s.data.toList):=List.take_of_length_le (by rw[ae hL];exact Nat.le_refl _);rw[ae hall]at hq hlen;have hp2:Hid (nC (dy s.size++bi s.data.toList)=leS 5 (oZ s.size)++s.data.toList):=by have:=ae hput;rw[ae hL]at this;exact this
   have HP:=af (ea ra rc (dy s.size++bi s.data.toList) wr (hq.rowN (ae hlen)) (by rw[ae hlen];omega));rw[ae hlen,ae hp2]at HP;clear hq hk hlt hkt;go_wp2_with fail;refine(ae HP).mono ?_;rintro e y1 ⟨rfl,hy⟩;go_wp2;go_ret;exact⟨rfl,aj hbel hy⟩
theorem ow(s:ByteArray)(w:World)(hs:s.size<=1048576) :
  Calls Tryz.prog 78 #[.string s] w fun e w'=>e = .returned (.string ⟨(ew s.data.toList).toArray⟩)/\Below w.heap.size w w':=by
 by_cases h3:s.size<=300
 ·
  have e:ew s.data.toList=leS 5 (oZ s.size)++s.data.toList:=by unfold ew;rw[ja,if_pos h3]
  rw[e];exact sK s w h3
 ·
  have hI:(300:Int)<(s.size:Int):=by omega
  have e:ew s.data.toList=[]:=by unfold ew;rw[ja,if_neg h3]
  rw[e];clear hs h3 e;go_enter Tryz.func78,Tryz.ntmps78;go_wp2;go_ret;exact⟨rfl,Below.refl _ _⟩
attribute [local go_sem ↓] Go.wp_at_zero Go.wp_at_succ
end Go.Proofs.YtkpfkgoiaicgbaaGreatDoor
namespace Go.Proofs.YtkpfkgoiaicgbaaGreatDoor
open Go.RowKit Corb
theorem qL(a:Option Addr)(cap n:Nat)(l:List (Int×Int))(w:World)(hn:l.length=n)(h:l8 w a l)(hm:n<=1000000000) :
  Calls Tryz.prog 148 #[.slice a n cap] w fun e w'=>e = .returned (.int .i64 (nr l))/\Below w.heap.size w w':=by
 subst hn;exact fE a cap l w h hm
theorem Rdr.over{w:World}{b p:Nat}{s:ByteArray}(h:Rdr w b s p)(hp:8*s.size<p):Three w b (.string s) (.int .i64 (8*(s.size:Int))) (.bool true):=by
 unfold Rdr at h;rw[Nat.min_eq_right (by omega),decide_eq_true (by omega)]at h;exact h
theorem wF{s:List UInt8}{l:List Int}(h:dw l=false∨4000<l.length):ir s l=false/\wE s l=[]:=by
 have hk:ir s l=false:=by
  unfold ir;rcases h with h|h
  · simp[h]
  · simp;omega
 exact⟨hk,if_neg (by simp[hk])⟩
theorem Gl{s:List UInt8}{l:List Int}(h:dw l=true)(h4:l.length<=4000):ir s l=(decide (s.length=(d9 l+7)/8)&&decide (bT s<2 ^ d9 l)):=by
 simp[ir,h,h4]
theorem J4{s:List UInt8}{l:List Int}(h:ir s l=false):wE s l=[]:=if_neg (by simp[h])
theorem Gk{s:List UInt8}{l:List Int}(h:ir s l=true):wE s l=de (bT s) 0 l:=if_pos h
theorem nE{v:Value}{a b:Bool}(h:a=b):Ending.returned (.tuple #[v,.bool a]) = .returned (.tuple #[v,.bool b]):=by rw[h]
def blank(l:List Int):List (Int×Int):=l.map fun b=>(0,b)
theorem kV(l:List Int):(blank l).length=l.length:=by simp[blank]
theorem Eb(b:Int):pOk 0 b=inB b 0 16:=by
 rw[Bool.eq_iff_iff,aW,aD];have:=rK b.toNat
 constructor
 · exact fun h=>h.1
 · exact fun h=>⟨h,by omega,by omega⟩
theorem FG(l:List Int):aN (blank l)=dw l:=by
 simp only[aN,dw,blank,List.all_map]
 congr 1
 funext b
 exact Eb b
theorem Co(l:List Int)(h:dw l=true):bp (blank l)=(d9 l:Int):=by
 induction l with
 | nil=>rfl
 | cons b l ih=>
  have h':(0<=b/\b<=16)/\dw l=true:=by simpa[dw]using h
  have:=ih h'.2;simp only[bp,blank,List.map_cons,List.sum_cons]at this ⊢;rw[jb,this];omega
theorem zc(l:List Int)(h4:l.length<=4000):nr (blank l)=if dw l=true then(d9 l:Int)else -1:=by
 unfold nr lOk;rw[FG,kV];rcases hb:dw l with _|_
 · simp
 · simp[h4,Co l hb]
theorem zd(l:List Int)(b:Int):blank (l++[b])=blank l++[(0,b)]:=by simp[blank]
theorem Cn(l:List Int)(k:Nat)(h:k<l.length):(blank l).getD k (0,0)=(0,l.getD k 0):=by
 simp[blank,List.getD,h]
theorem vJ(b:Int)(w:World) :
  Calls Tryz.prog 147 #[.int .i64 b] w fun e w'=>e = .returned (.agg #[.int .i64 0,.int .i64 b])/\Below w.heap.size w w':=by
 go_enter Tryz.func147,Tryz.ntmps147;go_wp2;exact bodyPost_ret (v:=.agg #[.int .i64 0,.int .i64 b]) (by simp[results,Tryz.results147,go_sem]) rfl ⟨rfl,(Below.refl _ _).alloc (Nat.le_refl _) _⟩
theorem CO(a:Option Addr)(cap:Nat)(l:List Int)(w:World)(h:bC w a l)(h4:l.length<=4000) :
  Calls Tryz.prog 122 #[.slice a l.length cap,.func (.func 147) #[] #[]] w fun e w'=>∃v,e = .returned v/\Pcs w' w.heap.size v (blank l)/\Below w.heap.size w w':=by
 have H4:=af h4;have h4':(l.length:Int)<=4000:=by omega
 clear h4;obtain⟨i0,hi,hz0,hz1,hz2⟩:=info_parts Tryz.infoPiece;go_enter Tryz.func122,Tryz.ntmps122;go_wp2_with fail
 go_loopw [5,7,10] (fun o _ i wr=>∃k:Nat,k<=l.length/\i = .int .i64 k/\Pcs wr w.heap.size o (blank (l.take k))/\Below w.heap.size w wr) (fun _ _ i _=>l.length-(intOf i).toNat)
 case atStart=>exact⟨0,Nat.zero_le _,rfl,World.ownsRow_nil _ _ _ _,Below.refl _ _⟩
 case round=>
  obtain⟨k,hk,rfl,hq,hbel⟩:=hrel;by_cases hlt:k<l.length
  ·
   obtain⟨g,o,rfl,hg,hc⟩:=(h.later hbel) (by omega);have c0:=hc k hlt;have htk:=af (cz l k hlt);have hlk:Hid ((blank (l.take k)).length=k):=by show(blank (l.take k)).length=k;rw[kV];simp;omega
   have HK:=af hk;clear hc hk h;generalize l.getD k 0=y at *
   go_wp2_with fail;refine(vJ y _).mono ?_;rintro e x1 ⟨rfl,hb1⟩;have hq1:=Pcs.later hq hb1 (Nat.le_refl _);have hbel1:=aj hbel hb1;have hbs1:=hbel1.size;clear hq hbel hb1;go_wp2_with (at_builtin;refine wpList_append_own _ rfl _ _ 177 rfl w.heap.size 180 i0 (.agg #[.int .i64 0,.int .i64 0]) 2 16 Tryz.underlying177 hi hz0 hz1 hz2 rfl (by decide) _ _ _ rfl (World.ownsRow.alloc hq1 _) ⟨x1.heap.size,0,none⟩ 1 1 [.int .i64 0,.int .i64 y] rfl rfl (by intro j u hj;match j,hj with | 0,hj=>simp at hj;subst hj;simp[Addr.add] | 1,hj=>simp at hj;subst hj;simp[Addr.add]) (by intro u hu;simp at hu;rcases hu with rfl|rfl<;>rfl) (by have:=ae hlk;have:=ae H4;unfold maxLen;omega) (by have:=ae hlk;have:=ae H4;omega) (by simp;omega) ?_;intro v' x2 hown hgrow hnil;clear hnil);have hb2:=aK (v:=u5) hgrow hq1 (Nat.le_refl _) hbs1 hbel1;have hq2:=kC hown;rw[←zd,←ae htk]at hq2;clear hown hgrow hq1;go_wp2;go_roundw
   case rel=>exact⟨k+1,by have:=ae HK;omega,by go_num,hq2,hb2⟩
   case measure=>simp[intOf];omega
  · have hlk2:l.take k=l:=List.take_of_length_le (by omega);rw[hlk2]at hq;obtain⟨va,vc,rfl⟩:=hq.form;clear hlk2 h;go_wp2;go_ret;exact⟨_,rfl,hq,hbel⟩
theorem DT(a:Addr)(w:World):(method 476 217 (.pointer (some a)) "loop.example/corbel/impl.pass").run Tryz.prog w = .ok (217,.pointer (some a)) w:=by kernel_rfl
theorem CV(b:Nat)(s:ByteArray)(a:Option Addr)(cap:Nat)(l:List Int)(w:World)(h:l8 w a (blank l))(hbo:dw l=true)(h4:l.length<=4000)(hs:s.size<=2000000)(hr:Rdr w b s 0)(hb:∀g o,a=some ⟨g,o,none⟩->0<l.length->g<b) :
  Calls Tryz.prog 180 #[.slice a l.length cap,.func (.method "loop.example/corbel/impl.pass") #[.iface 217 (.pointer (some ⟨b,0,none⟩))] #[]] w fun e w'=>
   ∃v,e = .returned v/\ar w' (b+1) v (de (au s) 0 l)/\Rdr w' b s (d9 l)/\Below b w w':=by
 have Hbo:=af hbo;have H4:=af h4;have Hs:=af hs;have h4':(l.length:Int)<=4000:=by omega
 have hbl:=kV l;clear hbo h4 hs;obtain⟨i0,hi,hz0,hz1,hz2⟩:=info_parts Tryz.infoInt;have mp:=DT ⟨b,0,none⟩;have Hb:=af hb;clear hb;go_enter Tryz.func180,Tryz.ntmps180;go_wp2_with fail
 go_loopw [5,7,10] (fun o _ i wr=>∃k:Nat,k<=l.length/\i = .int .i64 k/\ar wr (b+1) o (de (au s) 0 (l.take k))/\Rdr wr b s (d9 (l.take k))/\Below b w wr) (fun _ _ i _=>l.length-(intOf i).toNat)
 case atStart=>exact⟨0,Nat.zero_le _,rfl,ar.nil _ _,hr,Below.refl _ _⟩
 case round=>
  obtain⟨k,hk,rfl,hown,hrr,hbel⟩:=hrel;have hrl:=hrr.lt;by_cases hlt:k<l.length
  ·
   obtain⟨g,o,rfl,hg,hc⟩:=h (by omega);have hgb:=ae Hb g o rfl (by omega);have hck:=hc k (by omega);rw[Cn l k hlt]at hck;have c0:=(hbel.cell (p:=⟨g,o+k*2,none⟩) hgb).trans hck.1;have c1:=(hbel.cell (p:=⟨g,o+k*2+1,none⟩) hgb).trans hck.2;have htk:=af (cz l k hlt);have hrd:=af (vq (au s) 0 (l.take k) [l.getD k 0]);have hsu:=af (pw (l.take k) [l.getD k 0]);have hlk:Hid ((de (au s) 0 (l.take k)).length=k):=by show(de (au s) 0 (l.take k)).length=k;rw[tS];simp;omega
   obtain⟨y0,y1⟩:=zb (ae Hbo) k hlt;have HK:=af hk;clear hc hk h hr hck hbl;generalize l.getD k 0=y at *
   obtain⟨c,rfl⟩:=Int.eq_ofNat_of_zero_le y0;go_wp2_with fail;refine(rS b (d9 (l.take k)) c 0 s _ (hrr.alloc _) (ae Hs) (by omega)).mono ?_;rintro e x1 ⟨rfl,hr1,hk1⟩;have hown1:ar x1 (b+1) u5 (de (au s) 0 (l.take k)):=hk1.own (World.ownsRow.alloc hown _) (Nat.lt_succ_self _);have hbel1:=(hbel.alloc (Nat.le_of_lt hrl) (.cells #[.int .i64 0,.int .i64 (c:Int)] 180)).trans hk1.1;have hr1l:=hr1.lt;generalize hX:au s/2 ^ d9 (l.take k)%2 ^ c=X at *
   have HX:=af hX;clear hX hown hrr hbel hk1;go_wp2_with (at_builtin;refine wpList_append_own _ rfl _ _ 154 rfl (b+1) 3 i0 (.int .i64 0) 1 8 Tryz.underlying154 hi hz0 hz1 hz2 rfl (by decide) _ _ _ rfl (World.ownsRow.alloc hown1 _) ⟨x1.heap.size,0,none⟩ 1 1 [.int .i64 (X:Int)] rfl rfl (by intro j u hj;match j,hj with | 0,hj=>simp at hj;subst hj;simp[Addr.add]) (by intro u hu;simp at hu;subst hu;rfl) (by have:=ae hlk;have:=ae H4;unfold maxLen;omega) (by have:=ae hlk;have:=ae H4;omega) (by simp;omega) ?_;intro v' x3 hown hgrow hnil;clear hnil);have hr3:Rdr x3 b s (d9 (l.take k)+c):=hr1.kept (aK (v:=u5) hgrow hown1 (Nat.le_refl _) (by omega) (Below.refl _ _));have hbel3:Below b w x3:=aK (v:=u5) hgrow hown1 (Nat.le_succ _) (by omega) hbel1;have hown3:=ll hown;clear hown hgrow hown1 hr1 hbel1;go_wp2;go_roundw
   case rel=>
    refine⟨k+1,by have:=ae HK;omega,by go_num,?_,?_,hbel3⟩
    · rw[ae htk,ae hrd];simp only[de,Nat.zero_add,Int.toNat_natCast];rw[ae HX];exact hown3
    · rw[ae htk,ae hsu];simp only[d9,List.map_cons,List.map_nil,List.sum_cons,List.sum_nil,Int.toNat_natCast,Nat.add_zero];exact hr3
   case measure=>simp[intOf];omega
  · have hlk2:l.take k=l:=List.take_of_length_le (by omega);rw[hlk2]at hown hrr;obtain⟨va,vc,rfl⟩:=hown.form;clear hlk2 h hr;go_wp2;go_ret;exact⟨_,rfl,hown,hrr,hbel⟩
theorem E3(b:Nat)(s:ByteArray)(a:Option Addr)(cap:Nat)(l:List Int)(w:World)(h:l8 w a (blank l))(hbo:dw l=true)(h4:l.length<=4000)(hs:s.size<=2000000)(hr:Rdr w b s 0)(hb:∀g o,a=some ⟨g,o,none⟩->0<l.length->g<b) :
  Calls Tryz.prog 149 #[.iface 217 (.pointer (some ⟨b,0,none⟩)),.slice a l.length cap] w fun e w'=>
   ∃v,e = .returned v/\ar w' (b+1) v (de (au s) 0 l)/\Rdr w' b s (d9 l)/\Below b w w':=by
 go_enter Tryz.func149,Tryz.ntmps149;go_wp2_with fail;refine(CV b s a cap l _ h hbo h4 hs hr hb).mono ?_;rintro e w1 ⟨v,rfl,hown,hrr,hbel⟩;obtain⟨va,vc,rfl⟩:=hown.form;go_wp2;go_ret;exact⟨_,rfl,hown,hrr,hbel⟩
theorem pO(s:ByteArray)(a:Option Addr)(cap:Nat)(l:List Int)(w:World)(h:bC w a l)(hs:s.size<=2000000)(hl:l.length<=2000000) :
  Calls Tryz.prog 106 #[.string s,.slice a l.length cap] w fun e w'=>∃v,e = .returned (.tuple #[v,.bool (ir s.data.toList l)])/\ar w' w.heap.size v (wE s.data.toList l)/\Below w.heap.size w w':=by
 have hlI:(l.length:Int)<=2000000:=by omega
 have Hs:=af hs;clear hs hl;by_cases h4:l.length<=4000
 ·
  have h4I:(l.length:Int)<=4000:=by omega
  have H4:=af h4;have hlong:=af (zc l h4);have hbl:=af (kV l);go_enter Tryz.func106,Tryz.ntmps106;go_wp2_with fail;refine(CO a cap l _ h (ae H4)).mono ?_;rintro e x1 ⟨v,rfl,hq,hb1⟩;obtain⟨va,vc,rfl⟩:=hq.formN (ae hbl);have hrow:=hq.rowN (ae hbl);clear h h4;go_wp2_with fail;refine(qL va vc l.length (blank l) _ (ae hbl) hrow (by have:=ae H4;omega)).mono ?_;rintro e x2 ⟨rfl,hb2⟩;rw[ae hlong];have hq2:=hq.later hb2 (Nat.le_refl _);have hrow2:=hq2.rowN (ae hbl);have hbel2:=aj hb1 hb2;have hws:=af hbel2.size;clear hrow hb1 hb2 hq;rcases hbo:dw l with _|_
  ·
   have hno:=af (wF (s:=s.data.toList) (Or.inl hbo));rw[if_neg (by simp)];go_wp2
   go_ret2
   refine⟨_,nE (ae hno).1.symm,?_,hbel2⟩;rw[(ae hno).2];exact ar.nil _ _
  ·
   have Hbo:=af hbo;have hge:=af (Gl (s:=s.data.toList) hbo (ae H4));have hsd:s.data.toList.length=s.size:=by simp
   have hsb:=Lb hbo;have hS:(d9 l:Int)<=64000:=by have:=ae H4;omega
   have hS0:(0:Int)<=(d9 l:Int):=by omega
   have hcl:=af (Ap s.data.toList (d9 l));rw[hsd]at hge hcl;rw[if_pos rfl];have hyes:=af (Gk (s:=s.data.toList) (l:=l));have hnot:=af (J4 (s:=s.data.toList) (l:=l));have hV:bT s.data.toList=au s:=rfl;rw[hV]at hge hcl hyes;clear hbo hsb hsd hV;generalize hm:d9 l=m at *
   have Hm:=af hm;clear hm;by_cases he:(s.size:Int)=((m:Int)+7)/8
   ·
    have he':s.size=(m+7)/8:=by omega
    have hR0:=KP x2 s 219;have hB0:Below x2.heap.size x2 (x2.alloc (.cells #[.string s,.int .i64 0,.bool false] 219)):=(Below.refl _ _).alloc (Nat.le_refl _) _;have hrow3:=hrow2.later hB0;have hgb:∀g o,va=some ⟨g,o,none⟩->0<l.length->g<x2.heap.size:=by
     intro g o e h0;obtain⟨g',o',e',hg',_⟩:=hrow2 (by rw[ae hbl];exact h0);rw[e]at e';simp only[Option.some.injEq,Addr.mk.injEq,and_true]at e';omega
    have HE:=af he';have HG:=af hgb;clear he' hgb hrow2;go_wp2_with fail;refine(E3 x2.heap.size s va vc l _ hrow3 (ae Hbo) (ae H4) (ae Hs) hR0 (ae HG)).mono ?_;rintro e x3 ⟨v,rfl,hown,hrr,hb3⟩;have hbel3:=aj hbel2 (hB0.trans hb3);rw[ae Hm]at hrr;clear hR0 hB0 hrow3 hb3 hbel2 hq2;obtain⟨va',vc',rfl⟩:=hown.form;go_wp2_with fail;refine(pt x2.heap.size m s _ hrr (ae Hs) (by have:=ae HE;omega)).mono ?_;rintro e x4 ⟨rfl,hr4,hk4⟩;have hown4:=hk4.own hown (Nat.lt_succ_self _);have hbel4:=hbel3.trans (hk4.1.mono (ae hws));clear hown hrr hr4 hk4 hbel3;by_cases hC:au s/2 ^ m%2 ^ ((8-m%8)%8)=0
    ·
     rw[decide_eq_true hC];have hok:ir s.data.toList l=true:=by
      rw[ae hge,decide_eq_true (ae HE),decide_eq_true ((ae hcl (ae HE)).1 hC)];rfl
     have HOK:=af hok;clear hok hC;go_wp2
     go_ret2
     refine⟨_,nE (ae HOK).symm,?_,hbel4⟩;rw[ae hyes (ae HOK)];exact ar.mono hown4 (Nat.le_succ_of_le (ae hws))
    ·
     rw[decide_eq_false hC];have hno:ir s.data.toList l=false:=by
      rw[ae hge,decide_eq_false (fun h=>hC ((ae hcl (ae HE)).2 h))];simp
     have HNO:=af hno;have HL:=af (ae hnot hno);clear hno hC;go_wp2
     go_ret2
     refine⟨_,nE (ae HNO).symm,?_,hbel4⟩;rw[ae HL];exact ar.nil _ _
   ·
    have hno:ir s.data.toList l=false:=by
     rw[ae hge,decide_eq_false (by omega)];rfl
    have hne:((s.size:Int) != ((m:Int)+7)/8)=true:=by simpa using he
    have HNO:=af hno;have HL:=af (ae hnot hno);clear hno;go_wp2
    go_ret2
    refine⟨_,nE (ae HNO).symm,?_,hbel2⟩;rw[ae HL];exact ar.nil _ _
 ·
  have hno:=af (wF (s:=s.data.toList) (l:=l) (Or.inr (by omega)));have h4I:4000<(l.length:Int):=by omega
  clear h4;go_enter Tryz.func106,Tryz.ntmps106;go_wp2
  go_ret2
  refine⟨_,nE (ae hno).1.symm,?_,Below.refl _ _⟩;rw[(ae hno).2];exact ar.nil _ _
end Go.Proofs.YtkpfkgoiaicgbaaGreatDoor
namespace Go.Proofs.YtkpfkgoiaicgbaaGreatDoor
open Corb
def bitsOf(l:List (Int×Int)):List Int:=l.map (·.2)
def numsOf(l:List (Int×Int)):List Int:=l.map (·.1)
theorem xW(V p q:Nat)(l:List Int):de V (p+q) l=de (V/2 ^ p) q l:=by
 induction l generalizing q with
 | nil=>rfl
 | cons b l ih=>
  simp only[de];rw[Nat.div_div_eq_div_mul,←Nat.pow_add,←ih,Nat.add_assoc]
theorem Er(l:List (Int×Int))(W:Nat)(h:aN l=true):de ((aU l).1+W*2 ^ (aU l).2) 0 (bitsOf l)=numsOf l:=by
 induction l generalizing W with
 | nil=>rfl
 | cons p l ih=>
  have h':pOk p.1 p.2=true/\aN l=true:=by simpa[aN]using h
  obtain⟨⟨b0,b1⟩,n0,n1⟩:=aW.1 h'.1;have e1:aU [p]=(p.1.toNat,p.2.toNat):=by simp[aU,nu,gm]
  have e2:aU (p :: l)=(p.1.toNat+(aU l).1*2 ^ p.2.toNat,p.2.toNat+(aU l).2):=by
   rw[show p :: l=[p]++l from rfl,kP,e1]
  have hn:p.1.toNat<2 ^ p.2.toNat:=by
   have:((p2 p.2.toNat:Nat):Int)=((2 ^ p.2.toNat:Nat):Int):=rfl;omega
  have hV:(aU (p :: l)).1+W*2 ^ (aU (p :: l)).2=p.1.toNat+((aU l).1+W*2 ^ (aU l).2)*2 ^ p.2.toNat:=by
   rw[e2];simp only;rw[Nat.pow_add,Nat.add_mul,Nat.add_assoc]
   congr 2
   rw[Nat.mul_comm (2 ^ p.2.toNat),Nat.mul_assoc]
  rw[hV];show((((p.1.toNat+((aU l).1+W*2 ^ (aU l).2)*2 ^ p.2.toNat)/2 ^ 0%2 ^ p.2.toNat:Nat):Int)) :: de _ (0+p.2.toNat) (bitsOf l)=p.1 :: numsOf l;rw[Nat.pow_zero,Nat.div_one,Nat.add_mul_mod_self_right,Nat.mod_eq_of_lt hn];rw[show 0+p.2.toNat=p.2.toNat+0 by omega,xW,Nat.add_mul_div_right _ _ (Nat.two_pow_pos _),Nat.div_eq_of_lt hn,Nat.zero_add,ih W h'.2]
  congr 1
  omega
theorem Ez{l:List (Int×Int)}(h:aN l=true):d9 (bitsOf l)=(aU l).2:=by
 have h1:=un l h;have h2:(d9 (bitsOf l):Int)=bp l:=by
  clear h1;induction l with
  | nil=>rfl
  | cons p l ih=>
   have h':pOk p.1 p.2=true/\aN l=true:=by simpa[aN]using h
   obtain⟨⟨b0,b1⟩,_⟩:=aW.1 h'.1;have:=ih h'.2;simp only[bitsOf,List.map_cons,bp,List.sum_cons]at this ⊢;rw[jb];omega
 omega
theorem Jm{l:List (Int×Int)}(h:lOk l=true):bT (nC l)=(aU l).1:=by
 have ha:aN l=true:=by simp only[lOk,Bool.and_eq_true]at h;exact h.1
 rw[dt h,bS,sw,Nat.mod_eq_of_lt];exact Nat.lt_of_lt_of_le (vB l ha) (Nat.pow_le_pow_right (by omega) (by omega))
end Go.Proofs.YtkpfkgoiaicgbaaGreatDoor
