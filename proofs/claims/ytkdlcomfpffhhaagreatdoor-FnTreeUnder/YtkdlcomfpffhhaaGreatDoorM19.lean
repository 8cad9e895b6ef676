/- Of what the proof is made: 26 texts, one behind the other. -/
import Derived.Test.YtkdlcomfpffhhaaGreatDoorM8
import Derived.Test.YtkdlcomfpffhhaaGreatDoorM7
import Derived.Test.YtkdlcomfpffhhaaGreatDoorM1
import Derived.Test.YtkdlcomfpffhhaaGreatDoorM2
import Derived.Deep.CutRange
import Derived.Laws.IdiomStrings
import Derived.Laws.OwnMore
import Derived.Deep.RegionHeld3
import Derived.Test.YtkdlcomfpffhhaaGreatDoorM3
import Derived.Deep.DrawnRows
set_option linter.unusedSimpArgs false
set_option linter.unusedVariables false
set_option maxHeartbeats 6400000
namespace Go.Proofs.YtkdlcomfpffhhaaGreatDoor
open Go.RowKit Corb
def Bys(w:World)(b:Nat)(v:Value)(l:List UInt8):Prop:=w.ownsRow (b+1) 5 1 v l.length (dU l)
theorem Bys.form{w:World}{b:Nat}{v:Value}{l:List UInt8}(h:Bys w b v l):∃a cap,v = .slice a l.length cap:=by
 rcases h.2 with⟨e,h0⟩|⟨g,cap,_,e,_⟩
 · exact⟨none,0,by rw[e,h0]⟩
 · exact⟨_,cap,e⟩
theorem Bys.set{w:World}{b o:Nat}{v:Value}{l:List UInt8}(h:Bys w b v l)(u:Value):Bys (w.setCell ⟨b,o,none⟩ u) b v l:=
 a3i h (a:=⟨b,o,none⟩) (a0m b) u
theorem Bys.drew{w:World}{b:Nat}{v:Value}{l:List UInt8}(h:Bys w b v l):Bys w.drew b v l:=h
theorem Bh(V m:Nat)(hV:V<p2 m):V/p2 (8*(m/8))<p2 (m%8):=by
 have:=A9 V m (m/8) hV (by omega);rw[show m-8*(m/8)=m%8 by omega]at this;exact this
theorem vC(k:Nat)(h:k<256):(UInt8.ofNat k).toNat=k:=by
 have:k%256=k:=a1t h;simp[this]
theorem Ic(n k:Nat):n%p2 (k+1)=n%p2 k+n/p2 k%2*p2 k:=wX n k
theorem KB(V n k m:Nat):V+n%p2 (k+1)*p2 m=V+n%p2 k*p2 m+n/p2 k%2*p2 (m+k):=by
 rw[Ic,a1o,a1O,show p2 k*p2 m=p2 (m+k) by unfold p2;rw[←a0T,a26]];omega
def nc(l:List (Int×Int)):List (Nat×Nat):=l.map (fun p=>(p.1.toNat,p.2.toNat))
def aT(l:List (Int×Int)):Nat×Nat:=gg (0,0) (nc l)
def bR(l:List (Int×Int)):List UInt8:=leS (((aT l).2+7)/8) (aT l).1
def ni(l:List (Int×Int)):List UInt8:=if lOk l=true then bR l else []
theorem dt{l:List (Int×Int)}(h:lOk l=true):ni l=bR l:=a0d h
theorem KA{l:List (Int×Int)}(h:lOk l=false):ni l=[]:=a0e (by simp[h])
theorem EH(l:List (Int×Int))(k:Nat)(h:k<l.length):aT (l.take (k+1)) =
  ((aT (l.take k)).1+(l.getD k (0,0)).1.toNat*p2 (aT (l.take k)).2,(aT (l.take k)).2+(l.getD k (0,0)).2.toNat):=by
 rw[a1c h,aT,nc,a0N,o8];simp only[a0o,a1S,gg];have e:l.getD k (0,0)=l[k]:=by simp[List.getD,h]
 rw[e];rfl
theorem tW(l:List (Int×Int))(h:aM l=true):((aT l).2:Int)=bp l:=by
 have key:∀(m:List (Int×Int)) (s:Nat×Nat),aM m=true->((gg s (nc m)).2:Int)=(s.2:Int)+bp m:=by
  intro m;induction m with
  | nil=>intro s _;simp[nc,gg,bp]
  | cons p m ih=>
   intro s hm;simp only[aM,a1V,a0i]at hm;have hp:=aV.1 hm.1;have:=ih (s.1+p.1.toNat*2 ^ s.2,s.2+p.2.toNat) hm.2;simp only[nc,a0o,gg]at this ⊢;rw[this];simp only[bp,a0o,a0M];omega
 have:=key l (0,0) h;simpa[aT]using this
theorem vn(l:List (Int×Int))(h:aM l=true):(aT l).1<p2 (aT l).2:=by
 have key:∀(m:List (Int×Int)) (s:Nat×Nat),s.1<p2 s.2->aM m=true->(gg s (nc m)).1<p2 (gg s (nc m)).2:=by
  intro m;induction m with
  | nil=>intro s hs _;exact hs
  | cons p m ih=>
   intro s hs hm;simp only[aM,a1V,a0i]at hm;have hp:=aV.1 hm.1;have hn:p.1.toNat<p2 p.2.toNat:=by omega
   exact ih _ (Hz s.1 s.2 p.1.toNat p.2.toNat hs hn) hm.2
 exact key l (0,0) (by decide) h
theorem BK{a b:List UInt8}(h:a=b):Ending.returned (.string ⟨a.toArray⟩) = .returned (.string ⟨b.toArray⟩):=by rw[h]
theorem y8{w:World}{b:Nat}{v:Value}{l:List UInt8}(h:Bys w b v l) :
  (convert 22 9 v).run Tryz.prog w = .ok (.string ⟨l.toArray⟩) w:=by
 rcases h.2 with⟨e,h0⟩|⟨g,cap,_,e,_⟩
 · subst e;have hl:l=[]:=a2h h0;subst hl;rw[run_convert_bytes_string w _ _ _ none 0 0 a1m a2o a1J];rfl
 ·
  subst e;exact run_convert_bytes_back w _ _ _ ⟨g,0,none⟩ cap l a1m a2o a1J (fun j hj=>by
   have:=h.cells (g:=g) rfl j (.int .u8 (l[j].toNat:Int)) (by simp[dU,hj]);exact this)
theorem lS.below{w w':World}{a:Option Addr}{l:List (Int×Int)}{B:Nat}(h:lS w a l)(hB:w.heap.size<=B)(hb:Below B w w'):lS w' a l:=h.later (hb.mono hB)
theorem Two.kept{w w':World}{b:Nat}{v0 v1:Value}(h:Two w b v0 v1)(hb:Below (b+1) w w'):Two w' b v0 v1:=by
 obtain⟨c0,c1,f0,f1,hlt⟩:=h;have hs:=a0m b;exact⟨(hb.cell (p:=⟨b,0,none⟩) hs).trans c0,(hb.cell (p:=⟨b,1,none⟩) hs).trans c1,(hb.frozen (p:=⟨b,0,none⟩) hs).trans f0,(hb.frozen (p:=⟨b,1,none⟩) hs).trans f1,a0k hlt hb.size⟩
def iK(w:World)(b V m:Nat):Prop:=
 V<p2 m/\∃v,Two w b v (.int .i64 (m:Int))/\Bys w b v (leS ((m+7)/8) V)
theorem H5{w W2 WA w':World}{b:Nat}{v v' v1:Value}{l:List UInt8}{x:UInt8}(T2:Two W2 b v v1)(Y2:Bys W2 b v l)(B2:Below b w W2)
  (hWA:Below (b+1) W2 WA) (hown:w'.ownsRow (b+1) 5 1 v' (l.length+1) (dU l++[.int .u8 (x.toNat:Int)])) (hgrow:WA.grownBy w' v.ownBlock) :
  (∃g cap,v' = .slice (some ⟨g,0,none⟩) (l.length+1) cap)/\Two w' b v v1/\Bys w' b v' (l++[x])/\Below b w w':=by
 have hlt:=T2.2.2.2.2;have hlt2:=a0k hlt hWA.size;have hblk:∀k,v.ownBlock=some k->b+1<=k:=fun k hk=>(Y2.lt k hk).1;have hb:Below (b+1) W2 w':=hWA.grown hgrow (by omega) hblk;refine⟨?_,T2.kept hb,?_,B2.trans (hb.mono (by omega))⟩
 ·
  rcases hown.2 with⟨_,h0⟩|⟨g,cap,_,e,_⟩
  · omega
  · exact⟨g,cap,e⟩
 · show w'.ownsRow (b+1) 5 1 v' (l++[x]).length (dU (l++[x]));simpa[dU]using hown
theorem Bys.at{w:World}{b g cap j:Nat}{l:List UInt8}(h:Bys w b (.slice (some ⟨g,0,none⟩) l.length cap) l)(hj:j<l.length) :
  w.cell? ⟨g,j,none⟩=some (.int .u8 ((l.getD j 0).toNat:Int))/\w.frozen? ⟨g,j,none⟩=false/\b<g:=by
 refine⟨?_,a3E h j,(a0y h g rfl).1⟩;rw[a1f h j (by omega)];simp[dU,hj,List.getD]
theorem Bys.put{w:World}{b g cap j:Nat}{l:List UInt8}(h:Bys w b (.slice (some ⟨g,0,none⟩) l.length cap) l)(x:UInt8) :
  Bys (w.setCell ⟨g,j,none⟩ (.int .u8 (x.toNat:Int))) b (.slice (some ⟨g,0,none⟩) l.length cap) (l.set j x):=by
 have:=a2m h j (.int .u8 (x.toNat:Int));show World.ownsRow _ _ _ _ _ (l.set j x).length (dU (l.set j x));rw[a1H];have e:dU (l.set j x)=(dU l).set j (.int .u8 (x.toNat:Int)):=by simp[dU,List.map_set]
 rw[e];exact this.1
theorem MN(V m x:Nat)(hV:V<p2 m)(hx:x<=1) :
  V+x*p2 m<p2 (m+1)/\leS ((m+1+7)/8) (V+x*p2 m)=(leS (m/8+1) V).set (m/8) (UInt8.ofNat (V/p2 (8*(m/8))+x*p2 (m%8))):=by
 refine⟨add_lt V x m hV hx,?_⟩;rw[show(m+1+7)/8=m/8+1 by omega];exact J4 (m/8) V x m rfl hx hV
theorem MM(V m:Nat)(hV:V<p2 m)(hr:m%8=0):leS ((m+7)/8) V++[0]=leS (m/8+1) V:=by
 rw[show(m+7)/8=m/8 by omega];exact(J3 (m/8) V (by rw[show 8*(m/8)=m by omega];exact hV)).symm
theorem MH(V m:Nat)(hr:m%8≠0):leS ((m+7)/8) V=leS (m/8+1) V:=by
 rw[show(m+7)/8=m/8+1 by omega]
theorem MF(V m:Nat)(hV:V<p2 m):((leS (m/8+1) V).getD (m/8) 0).toNat=V/p2 (8*(m/8)):=by
 rw[Bl _ _ _ (by omega)];have h1:=Bh V m hV;have h2:=xC (m%8) 7 (by omega);have h3:p2 7=128:=rfl;have e:V/2 ^ (8*(m/8))%256=V/p2 (8*(m/8)):=a1t (by show V/p2 (8*(m/8))<256;omega);rw[e,vC _ (by omega)]
def Box(w:World)(P:Nat)(x y:Int):Prop:=w.heap[P]?=some (.cells #[.int .i64 x,.int .i64 y] 173)
theorem Jz(w:World)(x y:Int):Box (w.alloc (.cells #[.int .i64 x,.int .i64 y] 173)) w.heap.size x y:=by
 show(w.heap.push _)[w.heap.size]?=_;simp
theorem Box.cells{w:World}{P:Nat}{x y:Int}(h:Box w P x y):w.cell? ⟨P,0,none⟩=some (.int .i64 x)/\w.cell? ⟨P,1,none⟩=some (.int .i64 y)/\P<w.heap.size:=by
 refine⟨by simp[World.cell?,show w.heap[P]?=_ from h],by simp[World.cell?,show w.heap[P]?=_ from h],?_⟩;have h':w.heap[P]?=some _:=h;exact(Array.getElem?_eq_some_iff.1 h').1
theorem Box.ne{w:World}{P b:Nat}{x y:Int}{v:Value}{l:List UInt8}(h:Box w P x y)(hy:Bys w b v l)(k:Nat)(hk:v.ownBlock=some k):k≠P:=by
 rintro rfl;rcases hy.2 with⟨e,_⟩|⟨g,cap,cur,e,_,hg,_⟩
 · subst e;simp[Value.ownBlock]at hk
 · subst e;simp only[Value.ownBlock,a0j]at hk;subst hk;have h':w.heap[g]?=some (.cells #[.int .i64 x,.int .i64 y] 173):=h;rw[h']at hg;simp at hg
theorem Box.set{w:World}{P b o:Nat}{x y:Int}(h:Box w P x y)(hb:b≠P)(u:Value):Box (w.setCell ⟨b,o,none⟩ u) P x y:=by
 show(w.setCell ⟨b,o,none⟩ u).heap[P]?=_;rw[a0J w ⟨b,o,none⟩ u P (fun e=>hb e.symm)];exact h
theorem Box.drew{w:World}{P:Nat}{x y:Int}(h:Box w P x y):Box w.drew P x y:=h
theorem Box.alloc{w:World}{P:Nat}{x y:Int}(h:Box w P x y)(o:Obj):Box (w.alloc o) P x y:=by
 show(w.alloc o).heap[P]?=_;rw[a1l w o P h.cells.2.2];exact h
theorem Box.grown{w w':World}{P b:Nat}{x y:Int}{v:Value}{l:List UInt8}(h:Box w P x y)(hy:Bys w b v l)(hg:w.grownBy w' v.ownBlock):Box w' P x y:=by
 show w'.heap[P]?=_;rw[hg.block P h.cells.2.2 (fun e=>h.ne hy P e.symm rfl)];exact h
def da(b:Nat)(w w':World):Prop:=w.heap.size<=w'.heap.size/\∀k,k<w.heap.size->k≠b->(∀cur fr,w.heap[k]?≠some (.cells cur 5 fr))->w'.heap[k]?=w.heap[k]?
theorem da.refl(b:Nat)(w:World):da b w w:=⟨a0a _,fun _ _ _ _=>rfl⟩
theorem da.trans{b:Nat}{w w1 w2:World}(h:da b w w1)(k:da b w1 w2):da b w w2:=
 ⟨a0P h.1 k.1,fun j hj hb ht=>by
  have e:=h.2 j hj hb ht;rw[k.2 j (a0k hj h.1) hb (fun cur fr=>by rw[e];exact ht cur fr),e]⟩
theorem da.drew{b:Nat}{w w':World}(h:da b w w'):da b w w'.drew:=h
theorem da.alloc{b:Nat}{w w':World}(h:da b w w')(o:Obj):da b w (w'.alloc o):=
 h.trans ⟨by simp,fun j hj _ _=>a1l w' o j hj⟩
theorem da.set{b o:Nat}{w w':World}(h:da b w w')(u:Value):da b w (w'.setCell ⟨b,o,none⟩ u):=
 h.trans ⟨by simp,fun j _ hb _=>a0J w' ⟨b,o,none⟩ u j hb⟩
theorem da.setRow{b c g j cap:Nat}{w w':World}{l:List UInt8}(h:da b w w')(hy:Bys w' c (.slice (some ⟨g,0,none⟩) l.length cap) l)(u:Value):da b w (w'.setCell ⟨g,j,none⟩ u):=by
 refine h.trans ⟨by simp,fun k _ _ ht=>?_⟩;by_cases e:k=g
 ·
  subst e;rcases hy.2 with⟨e,_⟩|⟨g',cap',cur,e,_,hg,_⟩
  · simp at e
  · simp only[a0L,a0j,a0w,a0V,a1v]at e;obtain⟨rfl,_⟩:=e;exact absurd hg (ht cur (0,0))
 · exact a0J w' ⟨g,j,none⟩ u k e
theorem da.grown{b c:Nat}{w w' w'':World}{v:Value}{l:List UInt8}(h:da b w w')(hy:Bys w' c v l)(hg:w'.grownBy w'' v.ownBlock):da b w w'':=by
 refine h.trans ⟨hg.size,fun k hk _ ht=>?_⟩;refine hg.block k hk (fun e=>?_);rcases hy.2 with⟨e',_⟩|⟨g',cap',cur,e',_,hg',_⟩
 · subst e';simp[Value.ownBlock]at e
 · subst e';simp only[Value.ownBlock,a0j]at e;subst e;exact ht cur (0,0) hg'
theorem Au(B X r:Nat)(hB:B<p2 r)(hr:r<8)(hX:X=0∨X=p2 r):bits .or .u8 (B:Int) (X:Int)=((B+X:Nat):Int):=by
 have h7:=xC r 7 (by omega);have h3:p2 7=128:=rfl;rw[u8_or_nat B X (by omega) (by omega)]
 congr 1
 rw[Nat.or_comm];rcases hX with rfl|rfl
 · simp
 · rw[nat_join r (p2 r) B (by unfold p2;simp) hB];omega
theorem Two.other{w:World}{b g o:Nat}{v0 v1:Value}(h:Two w b v0 v1)(hg:g≠b)(u:Value):Two (w.setCell ⟨g,o,none⟩ u) b v0 v1:=by
 obtain⟨c0,c1,f0,f1,hb⟩:=h;refine⟨?_,?_,by simpa using f0,by simpa using f1,by simpa using hb⟩
 · rw[World.cell?_setCell_other _ _ _ _ (by simp only[ne_eq,a0w];omega)];exact c0
 · rw[World.cell?_setCell_other _ _ _ _ (by simp only[ne_eq,a0w];omega)];exact c1
theorem tY{w wr:World}{b g cap V1 m1 x L X:Nat}{P:Nat}{p q:Int}(htr:Two wr b (.slice (some ⟨g,0,none⟩) (leS (m1/8+1) V1).length cap) (.int .i64 (m1:Int)))
  (hput:Bys (wr.setCell ⟨g,m1/8,none⟩ (.int .u8 ((UInt8.ofNat (L+X)).toNat:Int))) b (.slice (some ⟨g,0,none⟩) (leS (m1/8+1) V1).length cap) ((leS (m1/8+1) V1).set (m1/8) (UInt8.ofNat (L+X))))
  (hw1:V1+x*p2 m1<p2 (m1+1)) (hw2:leS ((m1+1+7)/8) (V1+x*p2 m1)=(leS (m1/8+1) V1).set (m1/8) (UInt8.ofNat (L+X)))
  (hbv:(UInt8.ofNat (L+X)).toNat=L+X) (hgb:b<g) (hgP:g≠P) (hPb:P≠b) (hbox:Box wr P p q) (hbel:Below b w wr) (hby0:Bys wr b (.slice (some ⟨g,0,none⟩) (leS (m1/8+1) V1).length cap) (leS (m1/8+1) V1)) (hkp:da b w wr) :
  iK ((wr.setCell ⟨g,m1/8,none⟩ (.int .u8 ((L:Int)+(X:Int)))).setCell ⟨b,1,none⟩ (.int .i64 ((m1:Int)+1))).drew b (V1+x*p2 m1) (m1+1) /\
  Box ((wr.setCell ⟨g,m1/8,none⟩ (.int .u8 ((L:Int)+(X:Int)))).setCell ⟨b,1,none⟩ (.int .i64 ((m1:Int)+1))).drew P p q /\
  Below b w ((wr.setCell ⟨g,m1/8,none⟩ (.int .u8 ((L:Int)+(X:Int)))).setCell ⟨b,1,none⟩ (.int .i64 ((m1:Int)+1))).drew /\
  da b w ((wr.setCell ⟨g,m1/8,none⟩ (.int .u8 ((L:Int)+(X:Int)))).setCell ⟨b,1,none⟩ (.int .i64 ((m1:Int)+1))).drew:=by
 have e:((UInt8.ofNat (L+X)).toNat:Int)=(L:Int)+(X:Int):=by rw[hbv];omega
 rw[e]at hput;refine⟨⟨hw1,.slice (some ⟨g,0,none⟩) (leS (m1/8+1) V1).length cap,?_,?_⟩,?_,?_,?_⟩
 · exact((htr.other (by omega) _).set1 _).drew
 · rw[hw2];exact(hput.set _).drew
 · exact((hbox.set (by omega) _).set (by omega) _).drew
 · exact(ai (ai hbel (by omega) _) (a0a _) _).drew
 · exact((hkp.setRow hby0 _).set _).drew
theorem Hu(b V m:Nat)(num bits:Int)(w:World)(h:iK w b V m)(hp:pOk num bits=true)(hm:m<=100000) :
  Calls Tryz.prog 329 #[.pointer (some ⟨b,0,none⟩),.agg #[.int .i64 num,.int .i64 bits]] w fun e w'=>e = .returned (.int .i64 num) /\
   iK w' b (V+num.toNat*p2 m) (m+bits.toNat)/\Below b w w'/\da b w w':=by
 obtain⟨⟨b0,b1⟩,n0,n1⟩:=aV.1 hp;have hq:=(zX bits b1).2;obtain⟨n,rfl⟩:=a0u n0;obtain⟨c,rfl⟩:=a0u b0;rw[a0r,a0r];rw[a0r]at n1 hq;have hnmod:Hid (n%p2 c=n):=a1t (by omega);have hn2:(n:Int)<65536:=by omega
 obtain⟨i0,hi,hz0,hz1,hz2⟩:=a0z Tryz.infoU8;have hbw:b<w.heap.size:=by obtain⟨_,v,ht,_⟩:=h;exact ht.2.2.2.2
 have hbox0:=Jz w (n:Int) (c:Int);have h0:iK (w.alloc (.cells #[.int .i64 (n:Int),.int .i64 (c:Int)] 173)) b V m:=by
  obtain⟨hV,v,ht,hy⟩:=h;exact⟨hV,v,ht.kept ((a0c _ _).alloc (by omega) _),a0n hy _⟩
 have hbel0:Below b w (w.alloc (.cells #[.int .i64 (n:Int),.int .i64 (c:Int)] 173)):=(a0c _ _).alloc (by omega) _;clear n1 hq h hp;go_enter Tryz.func329,Tryz.ntmps329;go_wp2_with fail
 go_loopw [5,8] (fun _ i wr=>∃k:Nat,k<=c/\i = .int .i64 k/\iK wr b (V+n%p2 k*p2 m) (m+k)/\Box wr w.heap.size n c/\Below b w wr/\da b w wr) (fun _ i _=>c-(intOf i).toNat)
 case atStart=>exact⟨0,a0h _,rfl,by simpa[p2,a2k]using h0,hbox0,hbel0,(da.refl _ _).alloc _⟩
 case round=>
  obtain⟨k,hk,rfl,hout,hbox,hbel,hkp⟩:=hrel;clear h0 hbox0 hbel0;obtain⟨bc0,bc1,bclt⟩:=hbox.cells;by_cases hlt:k<c
  ·
   have hval:=af (KB V n k m);have hnk:n/p2 k<=n:=Nat.div_le_self _ _;have Hsh:Hid ((n:Int)/2 ^ k=((n/p2 k:Nat):Int)):=(Int.natCast_ediv n (2 ^ k)).symm;obtain⟨hV,v,htr,hby⟩:=hout;obtain⟨sa,scap,rfl⟩:=hby.form;have hlb:=Bh (V+n%p2 k*p2 m) (m+k) hV;generalize V+n%p2 k*p2 m=V1 at *
   generalize hm1:m+k=m1 at *
   have hx:n/p2 k%2<=1:=by omega
   have hnkI:((n/p2 k:Nat):Int)<65536:=by omega
   have hone:=j9 ((n/p2 k:Nat):Int) (Int.natCast_nonneg _) (Int.lt_trans hnkI (by omega));have hxI:((n/p2 k:Nat):Int)%2=((n/p2 k%2:Nat):Int):=by omega
   rw[hxI]at hone;have hp7:p2 (m1%8)<=128:=xC (m1%8) 7 (by omega);have hXle:n/p2 k%2*p2 (m1%8)<=1*p2 (m1%8):=a2u _ hx;have hmul:((n/p2 k%2:Nat):Int)*(2:Int) ^ (m1%8)=((n/p2 k%2*p2 (m1%8):Nat):Int):=by rw[a3c,iI]
   have hX01:n/p2 k%2*p2 (m1%8)=0∨n/p2 k%2*p2 (m1%8)=p2 (m1%8):=by
    rcases (show n/p2 k%2=0∨n/p2 k%2=1 by omega)with e|e<;>rw[e]<;>simp
   obtain⟨hw1,hw2⟩:=MN V1 m1 (n/p2 k%2) hV hx;have hwb:=MF V1 m1 hV;have hor:=Au (V1/p2 (8*(m1/8))) (n/p2 k%2*p2 (m1%8)) (m1%8) hlb (by omega) hX01;have hpad:=af (MM V1 m1 hV);have hsame:=af (MH V1 m1);have hlen:(leS (m1/8+1) V1).length=m1/8+1:=az _ _;have hlen0:(leS ((m1+7)/8) V1).length=(m1+7)/8:=az _ _;have hm1le:m1<=100016:=by omega
   have hb256:V1/p2 (8*(m1/8))+n/p2 k%2*p2 (m1%8)<256:=by omega
   have hbv:=vC _ hb256;have hkc:(k:Int)<(c:Int):=by omega
   have hk16:(k:Int)<=16:=by omega
   have hr8:(m1:Int)%8<8:=by omega
   have hm1I:(m1:Int)<=100016:=by omega
   have hXI:((n/p2 k%2*p2 (m1%8):Nat):Int)<=128:=by omega
   have hx1I:((n/p2 k%2:Nat):Int)<=1:=by omega
   have Hm1:=af hm1;have HK:=af hk;have Hlen:=af hlen;have Hlen0:=af hlen0;have Hm1le:=af hm1le;have Hw1:=af hw1;have Hw2:=af hw2;have Hwb:=af hwb;have Hbv:=af hbv;have hsh:=ae Hsh;clear Hsh hxI hX01 hlb hp7 hXle hw1 hw2 hwb hlen hlen0 hm1le hb256 hbv hnk hx hm1 hk hV hlt;generalize n/p2 k=nk at *
   generalize nk%2=x at *
   generalize x*p2 (m1%8)=X at *
   generalize V1/p2 (8*(m1/8))=L at *
   have htr':=af htr;obtain⟨k0,k1,f0,f1,hbw'⟩:=htr;have hPb:w.heap.size≠b:=by omega
   by_cases hr:m1%8=0
   ·
    have hrI:((m1:Int)%8 == 0)=true:=by simp;omega
    have hpd:=af (ae hpad hr);clear hr hpad hsame hr8 hm;have hl0:(leS ((m1+7)/8) V1).length<=20000:=by have:=ae Hlen0;have:=ae Hm1le;omega
    have Hl0:=af hl0;clear hl0;go_wp2_with (at_builtin;refine a0H _ rfl _ _ 22 rfl (b+1) 5 i0 (.int .u8 0) 1 1 a1m hi hz0 hz1 hz2 rfl (by decide) _ _ _ rfl (a0n hby _) ⟨wr.heap.size,0,none⟩ 1 1 [.int .u8 0] rfl rfl (by intro j u hj;match j,hj with | 0,hj=>simp at hj;subst hj;simp[Addr.add]) (by intro u hu;simp at hu;subst hu;rfl) (by have:=ae Hl0;unfold maxLen;omega) (by have:=ae Hl0;omega) (by simp;omega) ?_;intro v' w' hown hgrow hnil;clear hnil;have hbox':=(hbox.alloc _).grown (a0n hby _) hgrow;have hkp':=(hkp.alloc (.cells #[.int .u8 0] 5)).grown (a0n hby _) hgrow;obtain⟨⟨g,cap,rfl⟩,T3,Y3,B3⟩:=H5 (x:=0) (ae htr') hby hbel ((a0c _ _).alloc (by omega) _) hown hgrow;clear hown hgrow hby hbox hbel hkp htr' k0 k1 f0 f1;have T3':=af T3;obtain⟨k0,k1,f0,f1,hb3⟩:=T3);have hlenA:(leS ((m1+7)/8) V1).length+1=(leS (m1/8+1) V1).length:=by rw[←ae hpd,a0l];rfl
    rw[hlenA]at Y3 ⊢;have T4:=(ae T3').set0 (.slice (some ⟨g,0,none⟩) (leS (m1/8+1) V1).length cap);have hby:=Y3.set (o:=0) (.slice (some ⟨g,0,none⟩) (leS (m1/8+1) V1).length cap);rw[ae hpd]at hby;have hbox:=hbox'.set (b:=b) (o:=0) (by omega) (.slice (some ⟨g,0,none⟩) (leS (m1/8+1) V1).length cap);have hkp:=hkp'.set (o:=0) (.slice (some ⟨g,0,none⟩) (leS (m1/8+1) V1).length cap);have hbel:Below b w _:=ai B3 (o:=0) (a0a _) (.slice (some ⟨g,0,none⟩) (leS (m1/8+1) V1).length cap);clear Y3 B3 T3' k0 k1 f0 f1 hbox' hkp' bc0 bc1 bclt hlenA hb3;generalize w'.setCell ⟨b,0,none⟩ (.slice (some ⟨g,0,none⟩) (leS (m1/8+1) V1).length cap)=wA at *
    have htr':=af T4;obtain⟨k0,k1,f0,f1,hb3⟩:=T4;obtain⟨bc0,bc1,bclt⟩:=hbox.cells;obtain⟨gc,gf,gb⟩:=hby.at (j:=m1/8) (by have:=ae Hlen;omega);rw[ae Hwb]at gc;have hput:=af (hby.put (j:=m1/8) (UInt8.ofNat (L+X)));have hgP:g≠w.heap.size:=hbox.ne hby g rfl;have Hby:=af hby;have Hkp:=af hkp;clear hkp;have hlenN:=ae Hlen;rw[hlenN]at k0;generalize hN:m1/8+1=N at k0;have hidx:(m1:Int)/8<(N:Int):=by omega
    clear hN hlenN hby
    go_region
    all_goals
     go_wp2;go_roundw
     case rel=>
      have hst:=tY (ae htr') (ae hput) (ae Hw1) (ae Hw2) (ae Hbv) gb hgP hPb hbox hbel (ae Hby) (ae Hkp);refine⟨k+1,by have:=ae HK;omega,by go_num,?_,hst.2.1,hst.2.2.1,hst.2.2.2⟩;rw[ae hval,show m+(k+1)=m1+1 by have:=ae Hm1;omega];exact hst.1
     case measure=>simp[intOf];omega
   ·
    have hrI:((m1:Int)%8 == 0)=false:=by simp;omega
    have hsm:=ae hsame hr;rw[hsm]at hby k0 htr';obtain⟨g,cap,hform⟩:∃g cap,Value.slice sa (leS (m1/8+1) V1).length scap = .slice (some ⟨g,0,none⟩) (leS (m1/8+1) V1).length cap:=by
     rcases hby.2 with⟨_,h0⟩|⟨g,cap,_,e,_⟩
     · have:=ae Hlen;omega
     · exact⟨g,cap,e⟩
    rw[hform]at hby k0 htr';obtain⟨gc,gf,gb⟩:=hby.at (j:=m1/8) (by have:=ae Hlen;omega);rw[ae Hwb]at gc;have hput:=af (hby.put (j:=m1/8) (UInt8.ofNat (L+X)));have hgP:g≠w.heap.size:=hbox.ne hby g rfl;have Hby:=af hby;have Hkp:=af hkp;clear hkp;have hlenN:=ae Hlen;rw[hlenN]at k0;generalize hN:m1/8+1=N at k0;have hidx:(m1:Int)/8<(N:Int):=by omega
    clear hN hlenN hform hsm hr hpad hsame hby hm hr8;go_wp2_with fail
    go_region
    all_goals
     go_wp2;go_roundw
     case rel=>
      have hst:=tY (ae htr') (ae hput) (ae Hw1) (ae Hw2) (ae Hbv) gb hgP hPb hbox hbel (ae Hby) (ae Hkp);refine⟨k+1,by have:=ae HK;omega,by go_num,?_,hst.2.1,hst.2.2.1,hst.2.2.2⟩;rw[ae hval,show m+(k+1)=m1+1 by have:=ae Hm1;omega];exact hst.1
     case measure=>simp[intOf];omega
  ·
   have hkc:k=c:=by omega
   subst hkc;rw[ae hnmod]at hout;go_wp2;go_ret;exact⟨rfl,hout,hbel,hkp⟩
def Ints(w:World)(b:Nat)(v:Value)(xs:List Int):Prop:=w.ownsRow (b+1) 3 1 v xs.length (xs.map (Value.int .i64))
theorem Ints.keep{w w':World}{b:Nat}{v:Value}{xs:List Int}(h:Ints w b v xs)(hk:da b w w'):Ints w' b v xs:=by
 refine⟨h.1,?_⟩;rcases h.2 with e|⟨g,cap,cur,e,hb,hg,hr⟩
 · exact .inl e
 · refine .inr ⟨g,cap,cur,e,hb,?_,hr⟩;rw[hk.2 g (Array.getElem?_eq_some_iff.1 hg).1 (by omega) (fun cur' fr=>by rw[hg];simp)];exact hg
theorem Bys.other{w w':World}{b c:Nat}{v o:Value}{l:List UInt8}{xs:List Int}(h:Bys w b v l)(ho:Ints w c o xs)(hg:w.grownBy w' o.ownBlock):Bys w' b v l:=by
 refine a1I h hg ?_;cases hv:v.ownBlock with
 | none=>exact .inl rfl
 | some k=>
  refine .inr (fun e=>?_);rcases h.2 with⟨e1,_⟩|⟨g,cap,cur,e1,_,hg1,_⟩
  · subst e1;simp[Value.ownBlock]at hv
  ·
   rcases ho.2 with⟨e2,_⟩|⟨g2,cap2,cur2,e2,_,hg2,_⟩
   · subst e2;simp[Value.ownBlock]at e
   · subst e1 e2;simp only[Value.ownBlock,a0j]at hv e;subst hv;subst e;rw[hg1]at hg2;simp at hg2
theorem iK.alloc{w:World}{b V m:Nat}(h:iK w b V m)(o:Obj):iK (w.alloc o) b V m:=by
 obtain⟨hV,v,ht,hy⟩:=h;exact⟨hV,v,ht.kept ((a0c _ _).alloc (by have:=ht.2.2.2.2;omega) _),a0n hy _⟩
theorem iK.other{w w':World}{b V m:Nat}{o:Value}{xs:List Int}(h:iK w b V m)(ho:Ints w b o xs)(hg:w.grownBy w' o.ownBlock):iK w' b V m:=by
 obtain⟨hV,v,ht,hy⟩:=h;exact⟨hV,v,ht.kept ((a0c _ _).grown hg (by have:=ht.2.2.2.2;omega) (fun k hk=>(a0y ho k hk).1)),hy.other ho hg⟩
theorem iK.lt{w:World}{b V m:Nat}(h:iK w b V m):b<w.heap.size:=by
 obtain⟨hV,v,ht,hy⟩:=h;exact ht.2.2.2.2
theorem Dy(a:Addr)(w:World):(method 500 236 (.pointer (some a)) "loop.example/corbel/impl.pass").run Tryz.prog w = .ok (329,.pointer (some a)) w:=by kernel_rfl
theorem Cu(b:Nat)(a:Option Addr)(cap:Nat)(l:List (Int×Int))(w0 w:World)(h:lS w0 a l)(h0:Below b w0 w)(hs:w0.heap.size<=b)(hok:lOk l=true)(hw:iK w b 0 0) :
  Calls Tryz.prog 197 #[.slice a l.length cap,.func (.method "loop.example/corbel/impl.pass") #[.iface 236 (.pointer (some ⟨b,0,none⟩))] #[]] w fun e w'=>
   (∃v,e = .returned v)/\iK w' b (aT l).1 (aT l).2/\Below b w w':=by
 simp only[lOk,a0i,a2z]at hok;obtain⟨hall,h4⟩:=hok;have hall':=af hall;have H4:=af h4;have h4':(l.length:Int)<=4000:=by omega
 clear hall h4;obtain⟨i0,hi,hz0,hz1,hz2⟩:=a0z Tryz.infoInt;have mp:=Dy ⟨b,0,none⟩;go_enter Tryz.func197,Tryz.ntmps197;go_wp2_with fail
 go_loopw [5,7,10] (fun o _ i wr=>∃(k:Nat) (xs:List Int),k<=l.length/\i = .int .i64 k/\xs.length=k/\Ints wr b o xs/\iK wr b (aT (l.take k)).1 (aT (l.take k)).2/\Below b w wr) (fun _ _ i _=>l.length-(intOf i).toNat)
 case atStart=>exact⟨0,[],a0h _,rfl,rfl,a07 _ _ _ _,hw,a0c _ _⟩
 case round=>
  obtain⟨k,xs,hk,rfl,hxs,hints,hout,hbel⟩:=hrel;have hltb:=hout.lt;by_cases hlt:k<l.length
  ·
   obtain⟨g,o,rfl,hg,hc⟩:=(h.below hs (h0.trans hbel)) (by omega);obtain⟨c0,c1⟩:=hc k hlt;have hmb:=tW (l.take k) (jD (ae hall') k);obtain⟨s0,s1⟩:=Ai (jD (ae hall') k);have s2:((l.take k).length:Int)<=4000:=by simp;omega
   have hml:Hid ((aT (l.take k)).2<=64000):=by show(aT (l.take k)).2<=64000;omega
   have hpk:=af (BX (ae hall') k hlt);have hstep:=af (EH l k hlt);have HK:=af hk;have HX:=af hxs;clear hmb s0 s1 s2 hc hk hxs hw;generalize (l.getD k (0,0)).1=x at *
   generalize (l.getD k (0,0)).2=y at *
   generalize aT (l.take k)=S at *
   go_wp2_with fail;refine(Hu b S.1 S.2 x y _ (hout.alloc _) (ae hpk) (by have:=ae hml;omega)).mono ?_;rintro e w1 ⟨rfl,hout1,hbel1,hkp1⟩;have hints1:Ints w1 b u5 xs:=Ints.keep (a0n hints _) hkp1;have hbel2:=(hbel.alloc (a0x hltb) (.cells #[.int .i64 x,.int .i64 y] 173)).trans hbel1;have hlt1:=hout1.lt;clear hout hints hbel hbel1 hkp1;go_wp2_with (at_builtin;refine a0H _ rfl _ _ 146 rfl (b+1) 3 i0 (.int .i64 0) 1 8 a05 hi hz0 hz1 hz2 rfl (by decide) _ _ _ rfl (a0n hints1 _) ⟨w1.heap.size,0,none⟩ 1 1 [.int .i64 x] rfl rfl (by intro j u hj;match j,hj with | 0,hj=>simp at hj;subst hj;simp[Addr.add]) (by intro u hu;simp at hu;subst hu;rfl) (by have:=ae HX;have:=ae H4;unfold maxLen;omega) (by have:=ae HX;have:=ae H4;omega) (by simp;omega) ?_;intro v' w2 hown hgrow hnil;clear hnil);have hout2:iK w2 b _ _:=(hout1.alloc (.cells #[.int .i64 x] 3)).other (a0n hints1 _) hgrow;have hints2:Ints w2 b v' (xs++[x]):=by
    show World.ownsRow _ _ _ _ _ (xs++[x]).length _;simpa using hown
   have hbel3:Below b w w2:=(hbel2.alloc (a0x hlt1) _).grown hgrow (by simp;omega) (fun j hj=>a0x (a0y hints1 j hj).1);clear hown hgrow hints1 hout1 hbel2;go_wp2;go_roundw
   case rel=>exact⟨k+1,xs++[x],by have:=ae HK;omega,by go_num,by have:=ae HX;simp;omega,hints2,by rw[ae hstep];exact hout2,hbel3⟩
   case measure=>simp[intOf];omega
  ·
   have hlk:Hid (l.take k=l):=a0s (by omega);clear h hw;obtain⟨va,vc,rfl⟩:∃va vc,u5 = .slice va xs.length vc:=by
    rcases hints.2 with⟨e,h0⟩|⟨g,cp,_,e,_⟩
    · exact⟨none,0,by rw[e,h0]⟩
    · exact⟨_,cp,e⟩
   go_wp2;go_ret;rw[ae hlk]at hout;exact⟨⟨_,rfl⟩,hout,hbel⟩
theorem EJ(b:Nat)(a:Option Addr)(cap:Nat)(l:List (Int×Int))(w0 w:World)(h:lS w0 a l)(h0:Below b w0 w)(hs:w0.heap.size<=b)(hok:lOk l=true)(hw:iK w b 0 0) :
  Calls Tryz.prog 159 #[.iface 236 (.pointer (some ⟨b,0,none⟩)),.slice a l.length cap] w fun e w'=>
   (∃v,e = .returned v)/\iK w' b (aT l).1 (aT l).2/\Below b w w':=by
 go_enter Tryz.func159,Tryz.ntmps159;go_wp2_with fail;refine(Cu b a cap l w0 _ h h0 hs hok hw).mono ?_;rintro e w1 ⟨⟨v,rfl⟩,hout,hbel⟩;go_wp2;go_ret;exact⟨⟨_,rfl⟩,hout,hbel⟩
theorem Jd(w:World)(t:TypeId):iK (w.alloc (.cells #[.slice none 0 0,.int .i64 0] t)) w.heap.size 0 0:=
 ⟨by decide,.slice none 0 0,⟨by simp,by simp,by simp,by simp,by simp⟩,a07 _ _ _ _⟩
theorem ea(a:Option Addr)(cap:Nat)(l:List (Int×Int))(w:World)(h:lS w a l)(hm:l.length<=1000000000) :
  Calls Tryz.prog 131 #[.slice a l.length cap] w fun e w'=>e = .returned (.string ⟨(ni l).toArray⟩)/\Below w.heap.size w w':=by
 cases hok:lOk l
 · have HI:=af (KA hok);have HL:=qW hok;go_enter Tryz.func131,Tryz.ntmps131;go_wp2_with (go_at_call 158;refine(fC _ _ _ _ h hm).mono ?_;rintro e w1 ⟨rfl,hb1⟩;rw[HL]);go_ret;exact⟨BK (a:=[]) (ae HI).symm,hb1⟩
 ·
  have HI:=af (dt hok);have HL:=tq hok;have hall:aM l=true:=by simp only[lOk,a0i]at hok;exact hok.1
  obtain⟨s0,_⟩:=Ai hall;generalize bp l=sb at *
  clear hall;go_enter Tryz.func131,Tryz.ntmps131;go_wp2_with fail;refine(fC _ _ _ _ h hm).mono ?_;rintro e w1 ⟨rfl,hb1⟩;rw[HL];clear HL;have h1:=h.later hb1;go_wp2_with fail;refine(EJ w1.heap.size a cap l w1 _ h1 ((a0c _ _).alloc (a0a _) _) (a0a _) hok (Jd w1 _)).mono ?_;rintro e w2 ⟨⟨v0,rfl⟩,⟨_,v,T,Y⟩,hb2⟩;have hconv:=y8 Y;obtain⟨va,vc,rfl⟩:=Y.form;obtain⟨k0,k1,f0,f1,hb3⟩:=T;clear k1 Y;generalize hres:(leS (((aT l).2+7)/8) (aT l).1)=res at *
  have HR:Hid (res=ni l):=by have h:=ae HI;rw[h,←hres];exact rfl
  clear hres;go_wp2;go_ret;exact⟨BK (ae HR),aj hb1 (((a0c _ _).alloc (a0a _) _).trans hb2)⟩
end Go.Proofs.YtkdlcomfpffhhaaGreatDoor
namespace Go.Proofs.YtkdlcomfpffhhaaGreatDoor
open Corb
theorem ti(q k V W:Nat)(hV:V<2 ^ (8*q)):leS (q+k) (V+W*2 ^ (8*q))=leS q V++leS k W:=by
 induction k with
 | zero=>simp[leS,Bj q V W (8*q) (a0a _)]
 | succ k ih=>
  rw[show q+(k+1)=(q+k)+1 by omega];simp only[leS];rw[ih,a0U]
  congr 3
  have e:2 ^ (8*(q+k))=2 ^ (8*q)*2 ^ (8*k):=by rw[←a0T];congr 1;omega
  rw[e,←a2c,Nat.add_mul_div_right _ _ (a1B _),a10 hV,a0A]
theorem zY(V m:Nat)(l:List (Nat×Nat)):gg (V,m) l=(V+(gg (0,0) l).1*2 ^ m,m+(gg (0,0) l).2):=by
 have key:∀(l:List (Nat×Nat)) (W k:Nat),gg (V+W*2 ^ m,m+k) l=(V+(gg (W,k) l).1*2 ^ m,m+(gg (W,k) l).2):=by
  intro l;induction l with
  | nil=>intro W k;rfl
  | cons p l ih=>
   intro W k;simp only[gg];have e:V+W*2 ^ m+p.1*2 ^ (m+k)=V+(W+p.1*2 ^ k)*2 ^ m:=by
    rw[a1o,a0T,a1O,a1k (2 ^ m)];omega
   rw[e,a1W m k p.2];exact ih _ _
 have:=key l 0 0;simpa using this
theorem kN(l m:List (Int×Int)):aT (l++m)=((aT l).1+(aT m).1*2 ^ (aT l).2,(aT l).2+(aT m).2):=by
 rw[aT,nc,a0N,o8];exact zY _ _ _
theorem mz(l m:List (Int×Int)):aM (l++m)=(aM l&&aM m):=by simp[aM]
theorem BR(f b:List (Int×Int))(hf:lOk f=true)(hb:lOk b=true)(hl:f.length+b.length<=4000)(h8:(aT f).2%8=0):ni (f++b)=ni f++ni b:=by
 have hfa:aM f=true:=by simp only[lOk,a0i]at hf;exact hf.1
 have hba:aM b=true:=by simp only[lOk,a0i]at hb;exact hb.1
 have hok:lOk (f++b)=true:=by
  simp only[lOk,a0i,a2z,mz];exact⟨⟨hfa,hba⟩,by simpa using hl⟩
 rw[dt hok,dt hf,dt hb,bR,bR,bR,kN];have hlt:=vn f hfa;generalize aT f=F at *
 generalize aT b=B at *
 obtain⟨V,m⟩:=F;obtain⟨W,k⟩:=B;have h8':m%8=0:=h8;have e:m=8*(m/8):=by omega
 show leS ((m+k+7)/8) (V+W*2 ^ m)=leS ((m+7)/8) V++leS ((k+7)/8) W;rw[show(m+k+7)/8=m/8+(k+7)/8 by omega,show(m+7)/8=m/8 by omega];have:=ti (m/8) ((k+7)/8) V W (by rw[←e];exact hlt);rw[←e]at this;exact this
end Go.Proofs.YtkdlcomfpffhhaaGreatDoor
namespace Go.Proofs.YtkdlcomfpffhhaaGreatDoor
open Go.RowKit Corb
set_option maxRecDepth 100000
theorem Gq(V:Nat):leS 4 V=leS 2 (V%65536)++leS 2 (V/65536):=by
 have:=ti 2 2 (V%65536) (V/65536) (a15 _ (by decide));rw[←this]
 congr 1
 show V=V%65536+V/65536*2 ^ 16;omega
def dC(ws:List Nat):List (Int×Int):=ws.map fun(x:Nat)=>(((x:Nat):Int),(16:Int))
theorem yx{ws:List Nat}(h:∀x∈ws,x<65536)(hl:ws.length<=100):lOk (dC ws)=true:=by
 unfold lOk;simp only[a0i,a0q];refine⟨?_,by unfold dC;rw[a0S];omega⟩;unfold aM dC;rw[List.all_map,a0R];intro x hx;have h16:p2 (16:Int).toNat=65536:=by decide
 have:=h x hx;show pOk ((x:Nat):Int) 16=true;exact aV.2 ⟨by omega,by omega,by rw[h16];omega⟩
theorem EL{ws:List Nat}(h:∀x∈ws,x<65536)(hl:ws.length<=100):ni (dC ws)=ws.flatMap (leS 2):=by
 induction ws with
 | nil=>decide
 | cons x ws ih=>
  have hx:x<65536:=h x (by simp);have h1:lOk (dC [x])=true:=yx (fun y hy=>by rw[a01.1 hy];exact hx) (by simp);have h2:lOk (dC ws)=true:=yx (fun y hy=>h y (by simp[hy])) (by simp at hl;omega);have e:dC (x :: ws)=dC [x]++dC ws:=rfl;have e1:aT (dC [x])=(x,16):=by simp[aT,nc,gg,dC]
  rw[e,BR _ _ h1 h2 (by unfold dC;simp at hl ⊢;omega) (by rw[e1];exact(by decide:(16:Nat)%8=0)),ih (fun y hy=>h y (by simp[hy])) (by simp at hl;omega),dt h1,bR,e1,a0W];show leS ((16+7)/8) x++_=_;rw[show(16+7)/8=2 by decide]
def bT(ws:List Nat):List Int:=ws.map fun(x:Nat)=>((x:Nat):Int)
theorem EK(ws:List Nat)(k:Nat)(h:k<ws.length):(bT ws).getD k 0=((ws.getD k 0:Nat):Int):=by
 unfold bT;simp[List.getD,h]
theorem Az(ws:List Nat)(k:Nat)(h:k<ws.length):dC (ws.take (k+1))=dC (ws.take k)++[(((ws.getD k 0:Nat):Int),(16:Int))]:=by
 unfold dC;rw[a1c h,a0N];simp[List.getD,h]
theorem Jc(x:Int)(w:World):Calls Tryz.prog 133 #[.int .i64 x] w fun e w'=>e = .returned (.agg #[.int .i64 x,.int .i64 16])/\Below w.heap.size w w':=by
 go_enter Tryz.func133,Tryz.ntmps133;go_wp2;refine a0K (v:=.agg #[.int .i64 x,.int .i64 16]) (by simp[results,Tryz.results133,go_sem]) rfl ⟨rfl,?_⟩;exact(a0c _ _).alloc (a0a _) _
theorem zd(a:Option Addr)(cap n:Nat)(ws:List Nat)(w:World)(hn:ws.length=n)(h:bB w a (bT ws))(hm:n<=100) :
  Calls Tryz.prog 132 #[.slice a n cap,.func (.func 133) #[] #[]] w fun e w'=>∃v,e = .returned v/\Pcs w' w.heap.size v (dC ws)/\Below w.heap.size w w':=by
 have hmI:(n:Int)<=100:=by omega
 have Hn:=af hn;have Hm:=af hm;have Hl:Hid ((bT ws).length=n):=by show _=_;unfold bT;rw[a0S];exact hn
 clear hn hm;obtain⟨i0,hi,hz0,hz1,hz2⟩:=a0z Tryz.infoPiece;go_enter Tryz.func132,Tryz.ntmps132;go_wp2_with fail
 go_loopw [5,7,10] (fun o _ i wr=>∃k:Nat,k<=n/\i = .int .i64 k/\Pcs wr w.heap.size o (dC (ws.take k))/\Below w.heap.size w wr) (fun _ _ i _=>n-(intOf i).toNat)
 case atStart=>exact⟨0,a0h _,rfl,a07 _ _ _ _,a0c _ _⟩
 case round=>
  obtain⟨k,hk,rfl,hq,hbel⟩:=hrel;by_cases hlt:k<n
  ·
   obtain⟨g,o,rfl,hg,hcc⟩:=(h.later hbel) (by rw[ae Hl];omega);have c0:=hcc k (by rw[ae Hl];exact hlt);rw[EK ws k (by rw[ae Hn];exact hlt)]at c0;have hst:=af (Az ws k (by rw[ae Hn];exact hlt));have hlk:Hid ((dC (ws.take k)).length=k):=by show _=_;unfold dC;have:=ae Hn;simp;omega
   have Hk:=af hk;clear hcc hk h;generalize ((ws.getD k 0:Nat):Int)=y at *
   have HP:=af (Jc y wr);go_wp2_with fail;refine(ae HP).mono ?_;rintro e x1 ⟨rfl,hb1⟩;have hq1:=Pcs.later hq hb1 (a0a _);have hbel1:=aj hbel hb1;have hbs1:=hbel1.size;have hlen1:Hid ((dC (ws.take k)).length+1<=maxLen/\((dC (ws.take k)).length+1)*16<=140737488355328):=by
    show _/\_;rw[ae hlk];have:=ae Hm;unfold maxLen;omega
   clear hq hbel hb1 HP;go_wp2_with (at_builtin;refine a0H _ rfl _ _ 170 rfl w.heap.size 173 i0 (.agg #[.int .i64 0,.int .i64 0]) 2 16 a1r hi hz0 hz1 hz2 rfl (by decide) _ _ _ rfl (a0n hq1 _) ⟨x1.heap.size,0,none⟩ 1 1 [.int .i64 y,.int .i64 16] rfl rfl (pT x1 _ _ _) (pS _ _) (ae hlen1).1 (ae hlen1).2 (aB hbs1 _) ?_;intro v' x2 hown hgrow hnil;clear hnil);have hb2:=aJ (v:=u5) hgrow hq1 (a0a _) hbs1 hbel1;have hq2:=kz hown;rw[←ae hst]at hq2;clear hown hgrow hq1;go_wp2;go_roundw
   case rel=>exact⟨k+1,by have:=ae Hk;omega,by go_num,hq2,hb2⟩
   case measure=>simp[intOf];omega
  · have hkn:ws.take k=ws:=a0s (by rw[ae Hn];omega);rw[hkn]at hq;have HQ:=af hq;have HB:=af hbel;clear hq hbel hkn;go_wp2;go_ret;exact⟨_,rfl,ae HQ,ae HB⟩
theorem cU(a:Option Addr)(cap n:Nat)(ws:List Nat)(w:World)(hn:ws.length=n)(h:bB w a (bT ws))(hm:n<=100)(hw:∀x∈ws,x<65536) :
  Calls Tryz.prog 89 #[.slice a n cap] w fun e w'=>e = .returned (.string ⟨(ws.flatMap (leS 2)).toArray⟩)/\Below w.heap.size w w':=by
 have HE:=af (zd a cap n ws w hn h hm);have HW:=af (EL hw (by omega));have hl:(dC ws).length=n:=by unfold dC;rw[a0S];exact hn
 have Hl:=af hl;have Hm:=af hm;clear hn h hm hw hl;go_enter Tryz.func89,Tryz.ntmps89;go_wp2_with fail;refine(ae HE).mono ?_;rintro e w1 ⟨v,rfl,hP,hb1⟩;obtain⟨a1,c1,rfl⟩:=hP.formN (ae Hl);have HC:=ea a1 c1 (dC ws) w1 (hP.rowN (ae Hl)) (by have:=ae Hl;have:=ae Hm;omega);rw[ae HW,ae Hl]at HC;have HC':=af HC;have HB:=af hb1;clear hP hb1 HC HE;go_wp2_with fail;refine(ae HC').mono ?_;rintro e w2 ⟨rfl,hb2⟩;have HB2:=af (aj (ae HB) hb2);clear hb2;go_wp2;go_ret;exact⟨rfl,ae HB2⟩
theorem cT(V:Nat)(w:World)(hV:V<4294967296) :
  Calls Tryz.prog 90 #[.int .i64 (V:Int)] w fun e w'=>e = .returned (.string ⟨(leS 4 V).toArray⟩)/\Below w.heap.size w w':=by
 have e1:bits .and .i64 (V:Int) 65535=((V%65536:Nat):Int):=by
  have:=wB (V:Int) (by omega) (by omega);rw[this];omega
 have HF:Hid ([V%65536,V/65536].flatMap (leS 2)=leS 4 V):=by
  show _=_;rw[Gq];simp
 have hq:V/65536<65536:=by omega
 have HR:Hid (bB (w.alloc (.cells #[.int .i64 ((V%65536:Nat):Int),.int .i64 ((V/65536:Nat):Int)] 3)) (some ⟨w.heap.size,0,none⟩) (bT [V%65536,V/65536])):=by
  intro _;refine⟨w.heap.size,0,rfl,by simp,fun i hi=>?_⟩
  match i,hi with
  | 0,_=>simp[bT]
  | 1,_=>simp[bT]
 have HC:=af (cU (some ⟨w.heap.size,0,none⟩) 2 2 [V%65536,V/65536] _ rfl (ae HR) (by omega) (fun x hx=>by
  simp only[a1j,List.mem_nil_iff,a19]at hx;rcases hx with rfl|rfl
  · exact a15 _ (by decide)
  · exact hq))
 rw[ae HF]at HC;have HA:Hid (Below w.heap.size w (w.alloc (.cells #[.int .i64 ((V%65536:Nat):Int),.int .i64 ((V/65536:Nat):Int)] 3))):=(a0c _ _).alloc (a0a _) _;generalize hx:V%65536=x at *
 generalize hy:V/65536=y at *
 have e2:(V:Int)/65536=(y:Int):=by omega
 clear HF HR hx;go_enter Tryz.func90,Tryz.ntmps90;go_wp2_with fail;refine(ae HC).mono ?_;rintro e w1 ⟨rfl,hb1⟩;have HB:=af (aj (ae HA) hb1);clear hb1;go_wp2;go_ret;exact⟨rfl,ae HB⟩
def Jl(W:World)(g:Nat)(how st crc pk lg:Nat)(nm:ByteArray):Prop:=W.cell? ⟨g,0,none⟩=some (.int .i64 (how:Nat))/\W.cell? ⟨g,1,none⟩=some (.int .i64 (st:Nat))/\W.cell? ⟨g,2,none⟩=some (.int .i64 (crc:Nat))/\W.cell? ⟨g,3,none⟩=some (.int .i64 (pk:Nat))/\W.cell? ⟨g,4,none⟩=some (.int .i64 (lg:Nat))/\W.cell? ⟨g,5,none⟩=some (.string nm)
def rZ(w:World)(how st crc pk lg:Nat)(nm:ByteArray)(W:World):Prop:=Below w.heap.size w W/\w.heap.size<W.heap.size/\Jl W w.heap.size how st crc pk lg nm
theorem rZ.later{w W W':World}{how st crc pk lg:Nat}{nm:ByteArray}(h:rZ w how st crc pk lg nm W)(hb:Below W.heap.size W W'):rZ w how st crc pk lg nm W':=by
 have hc:∀j,W'.cell? ⟨w.heap.size,j,none⟩=W.cell? ⟨w.heap.size,j,none⟩:=fun j=>hb.cell (p:=⟨w.heap.size,j,none⟩) h.2.1;exact⟨h.1.trans (hb.mono (a0x h.2.1)),a0k h.2.1 hb.size,(hc 0).trans h.2.2.1,(hc 1).trans h.2.2.2.1,(hc 2).trans h.2.2.2.2.1,(hc 3).trans h.2.2.2.2.2.1,(hc 4).trans h.2.2.2.2.2.2.1,(hc 5).trans h.2.2.2.2.2.2.2⟩
theorem Ep(W:World)(x y z:Nat):bB (W.alloc (.cells #[.int .i64 ((x:Nat):Int),.int .i64 ((y:Nat):Int),.int .i64 ((z:Nat):Int)] 3)) (some ⟨W.heap.size,0,none⟩) (bT [x,y,z]):=by
 intro _;refine⟨W.heap.size,0,rfl,by simp,fun i hi=>?_⟩
 match i,hi with
 | 0,_=>simp[bT]
 | 1,_=>simp[bT]
 | 2,_=>simp[bT]
theorem KX(W:World)(x y:Nat):bB (W.alloc (.cells #[.int .i64 ((x:Nat):Int),.int .i64 ((y:Nat):Int)] 3)) (some ⟨W.heap.size,0,none⟩) (bT [x,y]):=by
 intro _;refine⟨W.heap.size,0,rfl,by simp,fun i hi=>?_⟩
 match i,hi with
 | 0,_=>simp[bT]
 | 1,_=>simp[bT]
def rY(w:World)(how st crc pk lg:Nat)(nm:ByteArray)(W:World)(r0 r1:Option Nat):Prop:=rZ w how st crc pk lg nm W/\(∀g,r0=some g->bB W (some ⟨g,0,none⟩) (bT [20,0,how]))/\∀g,r1=some g->bB W (some ⟨g,0,none⟩) (bT [nm.size,0])
theorem rY.later{w W W':World}{how st crc pk lg:Nat}{nm:ByteArray}{r0 r1:Option Nat}(h:rY w how st crc pk lg nm W r0 r1)(hb:Below W.heap.size W W'):rY w how st crc pk lg nm W' r0 r1:=⟨h.1.later hb,fun g e=>(h.2.1 g e).later hb,fun g e=>(h.2.2 g e).later hb⟩
theorem rY.new0{w W:World}{how st crc pk lg:Nat}{nm:ByteArray}{r1:Option Nat}(h:rY w how st crc pk lg nm W none r1):rY w how st crc pk lg nm (W.alloc (.cells #[.int .i64 20,.int .i64 0,.int .i64 ((how:Nat):Int)] 3)) (some W.heap.size) r1:=by
 have h2:=h.later ((a0c W.heap.size W).alloc (a0a _) (.cells #[.int .i64 20,.int .i64 0,.int .i64 ((how:Nat):Int)] 3));exact⟨h2.1,fun g e=>by cases e;exact Ep W 20 0 how,h2.2.2⟩
theorem rY.new1{w W:World}{how st crc pk lg:Nat}{nm:ByteArray}{r0:Option Nat}(h:rY w how st crc pk lg nm W r0 none):rY w how st crc pk lg nm (W.alloc (.cells #[.int .i64 ((nm.size:Nat):Int),.int .i64 0] 3)) r0 (some W.heap.size):=by
 have h2:=h.later ((a0c W.heap.size W).alloc (a0a _) (.cells #[.int .i64 ((nm.size:Nat):Int),.int .i64 0] 3));exact⟨h2.1,h2.2.1,fun g e=>by cases e;exact KX W nm.size 0⟩
def aZ(l:List UInt8):ByteArray:=⟨l.toArray⟩
def kM(how st crc pk lg n:Nat):ByteArray:=aZ ([20,0,how].flatMap (leS 2))++aZ (leS 4 st)++aZ (leS 4 crc)++aZ (leS 4 pk)++aZ (leS 4 lg)++aZ ([n,0].flatMap (leS 2))
theorem yj(how st crc pk lg:Nat)(nm:ByteArray)(w:World)(h0:how<65536)(h1:st<4294967296)(h2:crc<4294967296)(h3:pk<4294967296)(h4:lg<4294967296)(h5:nm.size<65536) :
  Calls Tryz.prog 130 #[.agg #[.int .i64 (how:Nat),.int .i64 (st:Nat),.int .i64 (crc:Nat),.int .i64 (pk:Nat),.int .i64 (lg:Nat),.string nm]] w fun e w'=>e = .returned (.string (kM how st crc pk lg nm.size))/\Below w.heap.size w w':=by
 have hmix:Tryz.prog.follows .mixedOrders=true:=by kernel_rfl
 have CW0:Hid (∀g W,bB W (some ⟨g,0,none⟩) (bT [20,0,how])->Calls Tryz.prog 89 #[.slice (some ⟨g,0,none⟩) 3 3] W fun e w'=>e = .returned (.string (aZ ([20,0,how].flatMap (leS 2))))/\Below W.heap.size W w'):=fun g W h=>cU _ 3 3 [20,0,how] W rfl h (by omega) (fun x hx=>by simp at hx;omega);have CW1:Hid (∀g W,bB W (some ⟨g,0,none⟩) (bT [nm.size,0])->Calls Tryz.prog 89 #[.slice (some ⟨g,0,none⟩) 2 2] W fun e w'=>e = .returned (.string (aZ ([nm.size,0].flatMap (leS 2))))/\Below W.heap.size W w'):=fun g W h=>cU _ 2 2 [nm.size,0] W rfl h (by omega) (fun x hx=>by simp at hx;omega);have CLA1:Hid (∀W,Calls Tryz.prog 90 #[.int .i64 (st:Int)] W fun e w'=>e = .returned (.string (aZ (leS 4 st)))/\Below W.heap.size W w'):=fun W=>cT st W h1;have CLA2:Hid (∀W,Calls Tryz.prog 90 #[.int .i64 (crc:Int)] W fun e w'=>e = .returned (.string (aZ (leS 4 crc)))/\Below W.heap.size W w'):=fun W=>cT crc W h2;have CLA3:Hid (∀W,Calls Tryz.prog 90 #[.int .i64 (pk:Int)] W fun e w'=>e = .returned (.string (aZ (leS 4 pk)))/\Below W.heap.size W w'):=fun W=>cT pk W h3;have CLA4:Hid (∀W,Calls Tryz.prog 90 #[.int .i64 (lg:Int)] W fun e w'=>e = .returned (.string (aZ (leS 4 lg)))/\Below W.heap.size W w'):=fun W=>cT lg W h4;have hz:∀l:List UInt8,(aZ l).size=l.length:=fun l=>by simp[aZ,ByteArray.size]
 have z0:((aZ ([20,0,how].flatMap (leS 2))).size:Int)<=100:=by rw[hz];simp[az]
 have z5:((aZ ([nm.size,0].flatMap (leS 2))).size:Int)<=100:=by rw[hz];simp[az]
 have z1:((aZ (leS 4 st)).size:Int)<=100:=by rw[hz,az];omega
 have z2:((aZ (leS 4 crc)).size:Int)<=100:=by rw[hz,az];omega
 have z3:((aZ (leS 4 pk)).size:Int)<=100:=by rw[hz,az];omega
 have z4:((aZ (leS 4 lg)).size:Int)<=100:=by rw[hz,az];omega
 unfold kM;generalize aZ ([20,0,how].flatMap (leS 2))=A0 at *
 generalize aZ ([nm.size,0].flatMap (leS 2))=A5 at *
 generalize aZ (leS 4 st)=A1 at *
 generalize aZ (leS 4 crc)=A2 at *
 generalize aZ (leS 4 pk)=A3 at *
 generalize aZ (leS 4 lg)=A4 at *
 have hnI:(nm.size:Int)<65536:=by omega
 have T0':Hid (rZ w how st crc pk lg nm (w.alloc (.cells #[.int .i64 (how:Nat),.int .i64 (st:Nat),.int .i64 (crc:Nat),.int .i64 (pk:Nat),.int .i64 (lg:Nat),.string nm] 61))):=⟨(a0c _ _).alloc (a0a _) _,by simp,by simp,by simp,by simp,by simp,by simp,by simp⟩;clear h0 h1 h2 h3 h4 h5 hz;go_enter Tryz.func130,Tryz.ntmps130;go_wp2_with fail;obtain⟨W0,hW0⟩:∃x,w.alloc (.cells #[.int .i64 (how:Nat),.int .i64 (st:Nat),.int .i64 (crc:Nat),.int .i64 (pk:Nat),.int .i64 (lg:Nat),.string nm] 61)=x:=⟨_,rfl⟩;rw[hW0]at T0';rw[hW0];have T0:=T0';clear T0' hW0;refine a0Q (S:=fun W=>Jl W w.heap.size how st crc pk lg nm) hmix (ae T0).2.2 (fun hS=>?_);refine ag 0 (.pointer (some ⟨w.heap.size,0,none⟩)) rfl (by kernel_rfl) (fun _ _ _ h=>h) rfl (fun W hSw=>by obtain⟨s0,s1,s2,s3,s4,s5⟩:=hSw;go_simp) hS ?_;refine ag 1 (.int .i64 (how:Nat)) rfl (by kernel_rfl) (fun _ _ _ h=>h) rfl (fun W hSw=>by obtain⟨s0,s1,s2,s3,s4,s5⟩:=hSw;go_simp) hS ?_;refine ag 4 (.pointer (some ⟨w.heap.size,1,none⟩)) rfl (by kernel_rfl) (fun _ _ _ h=>h) rfl (fun W hSw=>by obtain⟨s0,s1,s2,s3,s4,s5⟩:=hSw;go_simp) hS ?_;refine ag 5 (.int .i64 (st:Nat)) rfl (by kernel_rfl) (fun _ _ _ h=>h) rfl (fun W hSw=>by obtain⟨s0,s1,s2,s3,s4,s5⟩:=hSw;go_simp) hS ?_;refine ag 8 (.pointer (some ⟨w.heap.size,2,none⟩)) rfl (by kernel_rfl) (fun _ _ _ h=>h) rfl (fun W hSw=>by obtain⟨s0,s1,s2,s3,s4,s5⟩:=hSw;go_simp) hS ?_;refine ag 9 (.int .i64 (crc:Nat)) rfl (by kernel_rfl) (fun _ _ _ h=>h) rfl (fun W hSw=>by obtain⟨s0,s1,s2,s3,s4,s5⟩:=hSw;go_simp) hS ?_;refine ag 12 (.pointer (some ⟨w.heap.size,3,none⟩)) rfl (by kernel_rfl) (fun _ _ _ h=>h) rfl (fun W hSw=>by obtain⟨s0,s1,s2,s3,s4,s5⟩:=hSw;go_simp) hS ?_;refine ag 13 (.int .i64 (pk:Nat)) rfl (by kernel_rfl) (fun _ _ _ h=>h) rfl (fun W hSw=>by obtain⟨s0,s1,s2,s3,s4,s5⟩:=hSw;go_simp) hS ?_;refine ag 16 (.pointer (some ⟨w.heap.size,4,none⟩)) rfl (by kernel_rfl) (fun _ _ _ h=>h) rfl (fun W hSw=>by obtain⟨s0,s1,s2,s3,s4,s5⟩:=hSw;go_simp) hS ?_;refine ag 17 (.int .i64 (lg:Nat)) rfl (by kernel_rfl) (fun _ _ _ h=>h) rfl (fun W hSw=>by obtain⟨s0,s1,s2,s3,s4,s5⟩:=hSw;go_simp) hS ?_;refine ag 20 (.pointer (some ⟨w.heap.size,5,none⟩)) rfl (by kernel_rfl) (fun _ _ _ h=>h) rfl (fun W hSw=>by obtain⟨s0,s1,s2,s3,s4,s5⟩:=hSw;go_simp) hS ?_;refine ag 21 (.string nm) rfl (by kernel_rfl) (fun _ _ _ h=>h) rfl (fun W hSw=>by obtain⟨s0,s1,s2,s3,s4,s5⟩:=hSw;go_simp) hS ?_;refine ag 22 (.int .i64 (nm.size:Nat)) rfl (by kernel_rfl) (fun _ _ _ h=>h) rfl (fun W hSw=>by obtain⟨s0,s1,s2,s3,s4,s5⟩:=hSw;go_simp) hS ?_;have hs:rY w how st crc pk lg nm W0.drew none none:=⟨⟨(ae T0).1.drew,(ae T0).2.1,(ae T0).2.2⟩,nofun,nofun⟩;generalize W0.drew=W at hs hS ⊢;refine a0v (rs:=[2,23]) (by kernel_rfl) (by simp) ?_;repeat' first
  | exact a03
  | refine a0C rfl (fun K hK=>?_) ?_
  | (refine gw 5 rfl ?_;go_simp;have hs:=hs.new0;refine a0f hK _ _ hs.1.2.2 (fun hS=>?_);clear hK K;generalize W.alloc (.cells #[.int .i64 20,.int .i64 0,.int .i64 ((how:Nat):Int)] 3)=V at hs hS ⊢;generalize W.heap.size=g at hs ⊢;revert V;intro W hS hs;(first|refine a0v (rs:=[3,23]) (by decide +kernel) (by simp) ?_|refine a0v (rs:=[3]) (by decide +kernel) (by simp) ?_))
  | (refine gw 26 rfl ?_;go_simp;have hs:=hs.new1;refine a0f hK _ _ hs.1.2.2 (fun hS=>?_);clear hK K;generalize W.alloc (.cells #[.int .i64 ((nm.size:Nat):Int),.int .i64 0] 3)=V at hs hS ⊢;generalize W.heap.size=g at hs ⊢;revert V;intro W hS hs;(first|refine a0v (rs:=[2]) (by decide +kernel) (by simp) ?_|refine a0v (rs:=[3]) (by decide +kernel) (by simp) ?_|refine a0v (rs:=[6]) (by decide +kernel) (by simp) ?_|refine a0v (rs:=[10]) (by decide +kernel) (by simp) ?_|refine a0v (rs:=[14]) (by decide +kernel) (by simp) ?_|refine a0v (rs:=[18]) (by decide +kernel) (by simp) ?_|refine a0v (rs:=[24]) (by decide +kernel) (by simp) ?_))
  | (refine gw 6 rfl ?_;go_simp;go_at_call 89;refine(ae CW0 _ _ (hs.2.1 _ rfl)).mono ?_;rintro e W ⟨rfl,Bd⟩;have hs:=hs.later Bd;refine a0f hK _ _ hs.1.2.2 (fun hS=>?_);clear hK K;clear Bd;(first|refine a0v (rs:=[6,23]) (by decide +kernel) (by simp) ?_|refine a0v (rs:=[6]) (by decide +kernel) (by simp) ?_))
  | (refine gw 9 rfl ?_;go_simp;go_at_call 90;refine(ae CLA1 _).mono ?_;rintro e W ⟨rfl,Bd⟩;have hs:=hs.later Bd;refine a0f hK _ _ hs.1.2.2 (fun hS=>?_);clear hK K;clear Bd;refine a0X (i:=7) (v:=.string (A0++A1)) rfl (by kernel_rfl) (by kernel_rfl) (by kernel_rfl) (fun _ _ _ h=>h) (a02 ⟨by rfl,fun W hSw=>by go_simp<;>omega⟩) hS ?_;(first|refine a0v (rs:=[10,23]) (by decide +kernel) (by simp) ?_|refine a0v (rs:=[10]) (by decide +kernel) (by simp) ?_))
  | (refine gw 13 rfl ?_;go_simp;go_at_call 90;refine(ae CLA2 _).mono ?_;rintro e W ⟨rfl,Bd⟩;have hs:=hs.later Bd;refine a0f hK _ _ hs.1.2.2 (fun hS=>?_);clear hK K;clear Bd;refine a0X (i:=11) (v:=.string (A0++A1++A2)) rfl (by kernel_rfl) (by kernel_rfl) (by kernel_rfl) (fun _ _ _ h=>h) (a02 ⟨by rfl,fun W hSw=>by go_simp<;>omega⟩) hS ?_;(first|refine a0v (rs:=[14,23]) (by decide +kernel) (by simp) ?_|refine a0v (rs:=[14]) (by decide +kernel) (by simp) ?_))
  | (refine gw 17 rfl ?_;go_simp;go_at_call 90;refine(ae CLA3 _).mono ?_;rintro e W ⟨rfl,Bd⟩;have hs:=hs.later Bd;refine a0f hK _ _ hs.1.2.2 (fun hS=>?_);clear hK K;clear Bd;refine a0X (i:=15) (v:=.string (A0++A1++A2++A3)) rfl (by kernel_rfl) (by kernel_rfl) (by kernel_rfl) (fun _ _ _ h=>h) (a02 ⟨by rfl,fun W hSw=>by go_simp<;>omega⟩) hS ?_;(first|refine a0v (rs:=[18,23]) (by decide +kernel) (by simp) ?_|refine a0v (rs:=[18]) (by decide +kernel) (by simp) ?_))
  | (refine gw 21 rfl ?_;go_simp;go_at_call 90;refine(ae CLA4 _).mono ?_;rintro e W ⟨rfl,Bd⟩;have hs:=hs.later Bd;refine a0f hK _ _ hs.1.2.2 (fun hS=>?_);clear hK K;clear Bd;refine a0X (i:=19) (v:=.string (A0++A1++A2++A3++A4)) rfl (by kernel_rfl) (by kernel_rfl) (by kernel_rfl) (fun _ _ _ h=>h) (a02 ⟨by rfl,fun W hSw=>by go_simp<;>omega⟩) hS ?_;(first|refine a0v (rs:=[23]) (by decide +kernel) (by simp) ?_|refine a0v (rs:=[24]) (by decide +kernel) (by simp) ?_))
  | (refine gw 27 rfl ?_;go_simp;go_at_call 89;refine(ae CW1 _ _ (hs.2.2 _ rfl)).mono ?_;rintro e W ⟨rfl,Bd⟩;have hs:=hs.later Bd;refine a0f hK _ _ hs.1.2.2 (fun hS=>?_);clear hK K;clear Bd;refine a0X (i:=25) (v:=.string (A0++A1++A2++A3++A4++A5)) rfl (by kernel_rfl) (by kernel_rfl) (by kernel_rfl) (fun _ _ _ h=>h) (a02 ⟨by rfl,fun W hSw=>by go_simp<;>omega⟩) hS ?_;refine a0v (rs:=[26]) (by kernel_rfl) (by simp) ?_)
  | (refine gw 2 rfl ?_;go_simp;refine a0f hK _ _ hs.1.2.2 (fun hS=>?_);clear hK K;refine a0F (by kernel_rfl) ?_ _;generalize hAA:A0++A1++A2++A3++A4++A5=AA;go_wp2;go_ret;exact⟨by subst hAA;rfl,hs.1.1⟩)
theorem cb(l:List UInt8):(aZ l).size=l.length:=by simp[aZ,ByteArray.size]
theorem fK(how st crc pk lg n:Nat):(kM how st crc pk lg n).size=26:=by
 unfold kM;rw[a0D,a0D,a0D,a0D,a0D];simp only[cb,a0W,a2Q,a0l,az,a1i]
def bJ(how st crc pk lg:Nat)(nm:ByteArray):ByteArray:=(⟨#[80,75,3,4]⟩:ByteArray)++kM how st crc pk lg nm.size++nm
theorem ww(how st crc pk lg:Nat)(nm bd:ByteArray)(w:World)(h0:how<65536)(h1:st<4294967296)(h2:crc<4294967296)(h3:pk<4294967296)(h4:lg<4294967296)(h5:nm.size<65536) :
  Calls Tryz.prog 87 #[.agg #[.int .i64 (how:Nat),.int .i64 (st:Nat),.int .i64 (crc:Nat),.int .i64 (pk:Nat),.int .i64 (lg:Nat),.string nm,.string bd]] w fun e w'=>e = .returned (.string (bJ how st crc pk lg nm))/\Below w.heap.size w w':=by
 have HC:=af (fun W=>yj how st crc pk lg nm W h0 h1 h2 h3 h4 h5);have hmix:Tryz.prog.follows .mixedOrders=true:=by kernel_rfl
 obtain⟨A,hA⟩:∃A,kM how st crc pk lg nm.size=A:=⟨_,rfl⟩;have hAz:(A.size:Int)<=1000:=by
  rw[←hA,fK];omega
 have hnI:(nm.size:Int)<65536:=by omega
 have hB:bJ how st crc pk lg nm=(⟨#[80,75,3,4]⟩:ByteArray)++A++nm:=by unfold bJ;rw[hA]
 rw[hA]at HC;rw[hB];have T0':Hid (rZ w how st crc pk lg nm (w.alloc (.cells #[.int .i64 (how:Nat),.int .i64 (st:Nat),.int .i64 (crc:Nat),.int .i64 (pk:Nat),.int .i64 (lg:Nat),.string nm,.string bd] 63))):=⟨(a0c _ _).alloc (a0a _) _,by simp,by simp,by simp,by simp,by simp,by simp,by simp⟩;clear h0 h1 h2 h3 h4 h5 hA hB;go_enter Tryz.func87,Tryz.ntmps87;go_wp2_with fail;obtain⟨W0,hW0⟩:∃x,w.alloc (.cells #[.int .i64 (how:Nat),.int .i64 (st:Nat),.int .i64 (crc:Nat),.int .i64 (pk:Nat),.int .i64 (lg:Nat),.string nm,.string bd] 63)=x:=⟨_,rfl⟩;rw[hW0]at T0';rw[hW0];have T0:=T0';clear T0' hW0;refine a0Q (S:=fun W=>Jl W w.heap.size how st crc pk lg nm) hmix (ae T0).2.2 (fun hS=>?_);refine ag 0 (.pointer (some ⟨w.heap.size,0,none⟩)) rfl (by kernel_rfl) (fun _ _ _ h=>h) rfl (fun W hSw=>by obtain⟨s0,s1,s2,s3,s4,s5⟩:=hSw;go_simp) hS ?_;refine ag 1 (.agg #[.int .i64 (how:Nat),.int .i64 (st:Nat),.int .i64 (crc:Nat),.int .i64 (pk:Nat),.int .i64 (lg:Nat),.string nm]) rfl (by kernel_rfl) (fun _ _ _ h=>h) rfl (fun W hSw=>by obtain⟨s0,s1,s2,s3,s4,s5⟩:=hSw;go_simp) hS ?_;refine ag 4 (.pointer (some ⟨w.heap.size,0,none⟩)) rfl (by kernel_rfl) (fun _ _ _ h=>h) rfl (fun W hSw=>by obtain⟨s0,s1,s2,s3,s4,s5⟩:=hSw;go_simp) hS ?_;refine ag 5 (.pointer (some ⟨w.heap.size,5,none⟩)) rfl (by kernel_rfl) (fun _ _ _ h=>h) rfl (fun W hSw=>by obtain⟨s0,s1,s2,s3,s4,s5⟩:=hSw;go_simp) hS ?_;refine ag 6 (.string nm) rfl (by kernel_rfl) (fun _ _ _ h=>h) rfl (fun W hSw=>by obtain⟨s0,s1,s2,s3,s4,s5⟩:=hSw;go_simp) hS ?_;have T1:Hid (rZ w how st crc pk lg nm W0.drew):=⟨(ae T0).1.drew,(ae T0).2.1,(ae T0).2.2⟩;generalize W0.drew=W1 at *
 refine ah 2 (by kernel_rfl) rfl fun K hK=>?_;go_simp;go_at_call 130;refine(ae HC W1).mono ?_;rintro e W2 ⟨rfl,Bd⟩;have T2:=af ((ae T1).later Bd);refine a0f hK _ _ (ae T2).2.2 (fun hS=>?_);clear hK K Bd;refine ag 3 (.string ((⟨#[80,75,3,4]⟩:ByteArray)++A)) rfl (by kernel_rfl) (fun _ _ _ h=>h) rfl (fun W hSw=>by obtain⟨s0,s1,s2,s3,s4,s5⟩:=hSw;go_simp<;>omega) hS ?_;refine ag 7 (.string ((⟨#[80,75,3,4]⟩:ByteArray)++A++nm)) rfl (by kernel_rfl) (fun _ _ _ h=>h) rfl (fun W hSw=>by obtain⟨s0,s1,s2,s3,s4,s5⟩:=hSw;go_simp<;>omega) hS ?_;refine ah 8 (by kernel_rfl) rfl fun K hK=>?_;go_simp;refine a0f hK _ _ (ae T2).2.2 (fun hS=>?_);clear hK K;refine a0F (by kernel_rfl) ?_ _;generalize hAA:(⟨#[80,75,3,4]⟩:ByteArray)++A++nm=AA;go_wp2;go_ret;exact⟨by subst hAA;rfl,(ae T2).1⟩
theorem qu(how st crc pk lg:Nat)(nm:ByteArray):(bJ how st crc pk lg nm).size=30+nm.size:=by
 unfold bJ;rw[a0D,a0D,fK];have:(⟨#[80,75,3,4]⟩:ByteArray).size=4:=rfl;omega
theorem oM(how st crc pk lg:Nat)(nm bd:ByteArray)(w:World)(h0:how<65536)(h1:st<4294967296)(h2:crc<4294967296)(h3:pk<4294967296)(h4:lg<4294967296)(h5:nm.size<65536)(h6:bd.size<=100000) :
  Calls Tryz.prog 60 #[.agg #[.int .i64 (how:Nat),.int .i64 (st:Nat),.int .i64 (crc:Nat),.int .i64 (pk:Nat),.int .i64 (lg:Nat),.string nm,.string bd]] w fun e w'=>e = .returned (.string (bJ how st crc pk lg nm++bd))/\Below w.heap.size w w':=by
 have hmix:Tryz.prog.follows .mixedOrders=true:=by kernel_rfl
 have HC:=af (fun W=>ww how st crc pk lg nm bd W h0 h1 h2 h3 h4 h5);have hAz:((bJ how st crc pk lg nm).size:Int)<=70000:=by rw[qu];omega
 have hbI:(bd.size:Int)<=100000:=by omega
 generalize bJ how st crc pk lg nm=A at *
 have T0':Hid (rZ w how st crc pk lg nm (w.alloc (.cells #[.int .i64 (how:Nat),.int .i64 (st:Nat),.int .i64 (crc:Nat),.int .i64 (pk:Nat),.int .i64 (lg:Nat),.string nm,.string bd] 63))/\(w.alloc (.cells #[.int .i64 (how:Nat),.int .i64 (st:Nat),.int .i64 (crc:Nat),.int .i64 (pk:Nat),.int .i64 (lg:Nat),.string nm,.string bd] 63)).cell? ⟨w.heap.size,6,none⟩=some (.string bd)):=⟨⟨(a0c _ _).alloc (a0a _) _,by simp,by simp,by simp,by simp,by simp,by simp,by simp⟩,by simp⟩;clear h0 h1 h2 h3 h4 h5 h6;go_enter Tryz.func60,Tryz.ntmps60;go_wp2_with fail;obtain⟨W0,hW0⟩:∃x,w.alloc (.cells #[.int .i64 (how:Nat),.int .i64 (st:Nat),.int .i64 (crc:Nat),.int .i64 (pk:Nat),.int .i64 (lg:Nat),.string nm,.string bd] 63)=x:=⟨_,rfl⟩;rw[hW0]at T0';rw[hW0];have T0:=T0';clear T0' hW0;refine a0Q (S:=fun W=>Jl W w.heap.size how st crc pk lg nm/\W.cell? ⟨w.heap.size,6,none⟩=some (.string bd)) hmix ⟨(ae T0).1.2.2,(ae T0).2⟩ (fun hS=>?_);refine ag 0 (.agg #[.int .i64 (how:Nat),.int .i64 (st:Nat),.int .i64 (crc:Nat),.int .i64 (pk:Nat),.int .i64 (lg:Nat),.string nm,.string bd]) rfl (by kernel_rfl) (fun _ _ _ h=>h) rfl (fun W hSw=>by obtain⟨⟨s0,s1,s2,s3,s4,s5⟩,s6⟩:=hSw;go_simp) hS ?_;refine ag 2 (.pointer (some ⟨w.heap.size,6,none⟩)) rfl (by kernel_rfl) (fun _ _ _ h=>h) rfl (fun W hSw=>by obtain⟨⟨s0,s1,s2,s3,s4,s5⟩,s6⟩:=hSw;go_simp) hS ?_;refine ag 3 (.string bd) rfl (by kernel_rfl) (fun _ _ _ h=>h) rfl (fun W hSw=>by obtain⟨⟨s0,s1,s2,s3,s4,s5⟩,s6⟩:=hSw;go_simp) hS ?_;have T1:Hid (rZ w how st crc pk lg nm W0.drew/\W0.drew.cell? ⟨w.heap.size,6,none⟩=some (.string bd)):=⟨⟨(ae T0).1.1.drew,(ae T0).1.2.1,(ae T0).1.2.2⟩,(ae T0).2⟩;generalize W0.drew=W1 at *
 refine ah 1 (by kernel_rfl) rfl fun K hK=>?_;go_simp;go_at_call 87;refine(ae HC W1).mono ?_;rintro e W2 ⟨rfl,Bd⟩;have T2:Hid (rZ w how st crc pk lg nm W2/\W2.cell? ⟨w.heap.size,6,none⟩=some (.string bd)):=⟨(ae T1).1.later Bd,by rw[Bd.cell (p:=⟨w.heap.size,6,none⟩) (ae T1).1.2.1];exact(ae T1).2⟩;refine a0f hK _ _ ⟨(ae T2).1.2.2,(ae T2).2⟩ (fun hS=>?_);clear hK K Bd;refine ag 4 (.string (A++bd)) rfl (by kernel_rfl) (fun _ _ _ h=>h) rfl (fun W hSw=>by obtain⟨⟨s0,s1,s2,s3,s4,s5⟩,s6⟩:=hSw;go_simp<;>omega) hS ?_;refine ah 5 (by kernel_rfl) rfl fun K hK=>?_;go_simp;refine a0f hK _ _ ⟨(ae T2).1.2.2,(ae T2).2⟩ (fun hS=>?_);clear hK K;refine a0F (by kernel_rfl) ?_ _;generalize hAA:A++bd=AA;go_wp2;go_ret;exact⟨by subst hAA;rfl,(ae T2).1.1⟩
end Go.Proofs.YtkdlcomfpffhhaaGreatDoor
namespace Go.Proofs.YtkdlcomfpffhhaaGreatDoor
open Corb
theorem wM(l:List UInt8):leS l.length (bS l)=l:=by
 apply a3h
 · rw[az]
 · intro j h1 h2;have h:=Bl l.length (bS l) j h2;rw[yt]at h;rw[List.getD_eq_getElem?_getD,List.getElem?_eq_getElem h1,List.getD_eq_getElem?_getD,List.getElem?_eq_getElem h2]at h;simpa using h
theorem rU(k V:Nat):bS (leS k V)=V%2 ^ (8*k):=by
 induction k with
 | zero=>simp[leS,bS,a2k]
 | succ k ih=>
  simp only[leS];rw[fZ,ih,az];have e:2 ^ (8*(k+1))=2 ^ (8*k)*256:=by rw[a2d,a0T]
  rw[e,Nat.mod_mul]
  congr 2
  simp[bS]
theorem xo(V p k:Nat):V/2 ^ p%2 ^ (k+1)=V/2 ^ p%2 ^ k+V/2 ^ (p+k)%2*2 ^ k:=by
 rw[wX,a2c,←a0T]
def d9(l:List Int):Nat:=(l.map Int.toNat).sum
theorem pe(a b:List Int):d9 (a++b)=d9 a+d9 b:=by simp[d9]
theorem iW(x:Int)(b:List Int):d9 (x :: b)=x.toNat+d9 b:=by simp[d9]
def de(V:Nat):Nat->List Int->List Int
 | _,[]=>[]
 | p,b :: bs=>((V/2 ^ p%2 ^ b.toNat:Nat):Int) :: de V (p+b.toNat) bs
theorem tC(V p:Nat)(l:List Int):(de V p l).length=l.length:=by
 induction l generalizing p with
 | nil=>rfl
 | cons b l ih=>simp[de,ih]
theorem uZ(V p:Nat)(a b:List Int):de V p (a++b)=de V p a++de V (p+d9 a) b:=by
 induction a generalizing p with
 | nil=>simp[de,d9]
 | cons x a ih=>simp[de,ih,iW,a1W]
def dw(l:List Int):Bool:=l.all (fun b=>decide (0<=b)&&decide (b<=16))
def il(s:List UInt8)(l:List Int):Bool:=dw l&&decide (l.length<=4000)&&decide (s.length=(d9 l+7)/8)&&decide (bS s<2 ^ d9 l)
def wm(s:List UInt8)(l:List Int):List Int:=if il s l=true then de (bS s) 0 l else []
theorem yP{l:List Int}(h:dw l=true)(k:Nat)(hk:k<l.length):0<=l.getD k 0/\l.getD k 0<=16:=by
 have:=a0R.1 h (l.getD k 0) (by simp[List.getD,hk]);simpa using this
theorem KV{l:List Int}(h:dw l=true):d9 l<=16*l.length:=by
 induction l with
 | nil=>simp[d9]
 | cons b l ih=>
  have h':(0<=b/\b<=16)/\dw l=true:=by simpa[dw]using h
  have:=ih h'.2;rw[iW,a0B];omega
theorem z7(s:List UInt8)(m:Nat)(h:s.length=(m+7)/8):(bS s/2 ^ m%2 ^ ((8-m%8)%8)=0)<->bS s<2 ^ m:=by
 have hlt:=nC s;have e:8*s.length=m+(8-m%8)%8:=by omega
 rw[e,a0T]at hlt;have h2:bS s/2 ^ m<2 ^ ((8-m%8)%8):=Nat.div_lt_of_lt_mul hlt;rw[a1t h2];constructor
 ·
  intro h0;rcases Nat.div_eq_zero_iff.1 h0 with h|h
  · have:=a1B m;omega
  · exact h
 · exact a10
end Go.Proofs.YtkdlcomfpffhhaaGreatDoor
namespace Go.Proofs.YtkdlcomfpffhhaaGreatDoor
open Go.RowKit Corb
def bi(m:List UInt8):List (Int×Int):=m.map fun b=>((b.toNat:Int),8)
theorem i7(m:List UInt8):(bi m).length=m.length:=by simp[bi]
theorem Cj(m:List UInt8):aM (bi m)=true:=by
 simp only[aM,bi,List.all_map,a0R];intro b _;have:=a2L b;have h8:p2 (8:Int).toNat=256:=by decide
 have h9:pOk (b.toNat:Int) 8=true:=aV.2 ⟨by omega,by omega,by rw[h8];omega⟩;exact h9
theorem yU(m:List UInt8):aT (bi m)=(bS m,8*m.length):=by
 induction m with
 | nil=>rfl
 | cons b m ih=>
  have e0:bi (b :: m)=[((b.toNat:Int),(8:Int))]++bi m:=rfl;have e:aT [((b.toNat:Int),(8:Int))]=(b.toNat,8):=by simp[aT,nc,gg]
  have e2:bS (b :: m)=bS [b]+2 ^ (8*1)*bS m:=fZ [b] m;have e3:bS [b]=b.toNat:=by simp[bS]
  rw[e0,kN,ih,e,e2,e3];refine Prod.ext ?_ ?_
  · show b.toNat+bS m*2 ^ 8=b.toNat+2 ^ (8*1)*bS m;rw[a1k]
  · show 8+8*m.length=8*(b :: m).length;rw[a0B];omega
theorem lT(m:List UInt8)(h:m.length<=4000):lOk (bi m)=true:=by
 simp only[lOk,a0i,a2z];exact⟨Cj m,by rw[i7];exact h⟩
theorem yT(m:List UInt8)(h:m.length<=4000):ni (bi m)=m:=by
 rw[dt (lT m h),bR,yU];show leS ((8*m.length+7)/8) (bS m)=m;rw[show(8*m.length+7)/8=m.length by omega];exact wM m
def dy(n:Nat):List (Int×Int):=[(1,1),(0,2),(0,5),((n:Int),16),(((65535-n:Nat):Int),16)]
def oN(n:Nat):Nat:=1+n*256+(65535-n)*16777216
theorem qv(n:Nat)(h:n<=65535):lOk (dy n)=true:=by
 have h16:p2 (16:Int).toNat=65536:=by decide
 have a1:pOk 1 1=true:=by decide
 have a2:pOk 0 2=true:=by decide
 have a3:pOk 0 5=true:=by decide
 have a4:pOk (n:Int) 16=true:=aV.2 ⟨by omega,by omega,by rw[h16];omega⟩;have a5:pOk ((65535-n:Nat):Int) 16=true:=aV.2 ⟨by omega,by omega,by rw[h16];omega⟩;simp only[lOk,aM,dy,a1V,a2R,a1,a2,a3,a4,a5];simp
theorem sW(n:Nat):aT (dy n)=(oN n,40):=by
 simp[aT,nc,dy,gg,oN]
theorem Dc(n:Nat)(h:n<=65535):ni (dy n)=leS 5 (oN n):=by
 rw[dt (qv n h),bR,sW];simp only[Nat.reduceAdd,Nat.reduceDiv]
theorem wu(n:Nat):(aT (dy n)).2%8=0:=by rw[sW];simp only[Nat.reduceMod]
theorem tI(L:List UInt8)(h:L.length<=300):ni (dy L.length++bi L)=leS 5 (oN L.length)++L:=by
 rw[BR (dy L.length) (bi L) (qv _ (by omega)) (lT L (by omega)) (by rw[i7];simp[dy];omega) (wu _),Dc _ (by omega),yT L (by omega)]
def eu(L:List UInt8):List UInt8:=if L.length<=300 then leS 5 (oN L.length)++L else []
theorem Jf(n:Nat)(h:n<=300):n ^^^ 65535=65535-n:=by
 apply Nat.eq_of_testBit_eq;intro i;have e1:(65535:Nat)=2 ^ 16-1:=rfl;have e2:65535-n=2 ^ 16-(n+1):=by omega
 rw[e2,Nat.testBit_two_pow_sub_succ (by omega),Nat.testBit_xor,e1,Nat.testBit_two_pow_sub_one];by_cases hi:i<16
 · simp[hi]
 · have:n.testBit i=false:=Nat.testBit_lt_two_pow (a0k (show n<2 ^ 16 by omega) (a0Y (by omega) (by omega)));simp[hi,this]
theorem iV(s:ByteArray):s.data.toList.length=s.size:=by simp
theorem iD(k:Int)(w:World) :
  Calls Tryz.prog 134 #[.int .i64 k] w fun e w'=>e = .returned (.slice (some ⟨w.heap.size,0,none⟩) 2 2)/\w'=w.alloc (.cells #[.int .i64 1,.int .i64 1,.int .i64 k,.int .i64 2] 173):=by
 go_enter Tryz.func134,Tryz.ntmps134;go_wp2;go_ret;exact⟨rfl,rfl⟩
theorem KM(w:World)(a b c d e f:Value)(t:TypeId)(g:Nat)(hg:w.heap.size=g):∀(j:Nat) (u:Value),[a,b,c,d,e,f][j]?=some u->(w.alloc (.cells #[a,b,c,d,e,f] t)).cell? ((⟨g,0,none⟩:Addr).add j)=some u:=by
 subst hg;intro j u hj
 match j,hj with
 | 0,hj=>simp at hj;subst hj;simp[Addr.add]
 | 1,hj=>simp at hj;subst hj;simp[Addr.add]
 | 2,hj=>simp at hj;subst hj;simp[Addr.add]
 | 3,hj=>simp at hj;subst hj;simp[Addr.add]
 | 4,hj=>simp at hj;subst hj;simp[Addr.add]
 | 5,hj=>simp at hj;subst hj;simp[Addr.add]
theorem KL(a b c d e f:Int):∀u∈[Value.int .i64 a,.int .i64 b,.int .i64 c,.int .i64 d,.int .i64 e,.int .i64 f],u.oneCell'=true:=by
 intro u hu;simp at hu;rcases hu with rfl|rfl|rfl|rfl|rfl|rfl<;>rfl
theorem IG(s:ByteArray)(i:Nat)(h:i<s.size):s.data.toList.take (i+1)=s.data.toList.take i++[s[i]]:=by
 have hl:=iV s;rw[List.take_add_one,List.getElem?_eq_getElem (by omega)];simp;rfl
theorem vD(m:List UInt8)(b:UInt8):bi m++[((b.toNat:Int),(8:Int))]=bi (m++[b]):=by simp[bi]
theorem Cn(s:ByteArray)(w:World):∃(c:Nat) (x:World) (cs:Array Value) (f:Nat×Nat),(convert 9 22 (.string s)).run Tryz.prog w = .ok (.slice (some ⟨w.heap.size,0,none⟩) s.size c) x/\Below w.heap.size w x/\x.heap[w.heap.size]?=some (.cells cs 5 f)/\∀i (h:i<s.size),cs[i]?=some (.int .u8 (s[i].toNat:Int)):=by
 refine⟨_,_,bytesRow s (grownCap w s.size 0 5),((bytesRow s (grownCap w s.size 0 5)).size,(bytesRow s (grownCap w s.size 0 5)).size+1),run_bytes_of_string w _ _ _ s a1J a1m a2o,?_,?_,?_⟩
 · exact((a0c _ w).drew).alloc (by simp) _
 · exact Array.getElem?_push_size
 · intro i h;exact bytesRow_at s (grownCap w s.size 0 5) i h
theorem Il{w:World}{b i:Nat}{cs:Array Value}{t:TypeId}{f:Nat×Nat}{v:Value}(h:w.heap[b]?=some (.cells cs t f))(hc:cs[i]?=some v):w.cell? ⟨b,i,none⟩=some v:=by
 unfold World.cell?;rw[h];exact hc
theorem sr(s:ByteArray)(w:World)(hs:s.size<=300) :
  Calls Tryz.prog 91 #[.string s] w fun e w'=>e = .returned (.string ⟨(leS 5 (oN s.size)++s.data.toList).toArray⟩)/\Below w.heap.size w w':=by
 obtain⟨i0,hi,hz0,hz1,hz2⟩:=a0z Tryz.infoPiece;have hsI:(s.size:Int)<=300:=by omega
 have hI:¬ (300:Int)<(s.size:Int):=by omega
 obtain⟨N,hN⟩:∃N:Nat,65535-s.size=N:=⟨_,rfl⟩;have hx:bits .xor .i64 (s.size:Int) 65535=(N:Int):=by
  have:=ka s.size 65535 (by omega) (by omega);rw[Jf s.size hs,hN]at this;exact this
 have HH:Hid (dy s.size=[(1,1),(0,2)]++[(0,5),((s.size:Int),16),((N:Int),16)]):=by show _=_;unfold dy;rw[hN];rfl
 have hP0:Hid ((w.alloc (.cells #[.int .i64 1,.int .i64 1,.int .i64 0,.int .i64 2] 173)).ownsRow w.heap.size 173 2 (.slice (some ⟨w.heap.size,0,none⟩) 2 2) 2 [.int .i64 1,.int .i64 1,.int .i64 0,.int .i64 2]):=a09 w #[.int .i64 1,.int .i64 1,.int .i64 0,.int .i64 2] 2 (a0a _) (by unfold maxLen;omega) rfl;have hB0:Hid (Below w.heap.size w (w.alloc (.cells #[.int .i64 1,.int .i64 1,.int .i64 0,.int .i64 2] 173))):=(a0c _ _).alloc (a0a _) _;have hput:=af (tI s.data.toList (by rw[iV];exact hs));have hL:=af (iV s);have bd:Hid (2+3<=maxLen/\(2+3)*16<=140737488355328):=by show _/\_;unfold maxLen;omega
 clear hs hN;go_enter Tryz.func91,Tryz.ntmps91;go_wp2_with fail;refine(iD 0 w).mono ?_;rintro e x1 ⟨rfl,hx1⟩;have h1P:=af (show x1.ownsRow w.heap.size 173 2 (.slice (some ⟨w.heap.size,0,none⟩) 2 2) 2 [.int .i64 1,.int .i64 1,.int .i64 0,.int .i64 2] by rw[hx1];exact ae hP0);have h1B:=af (show Below w.heap.size w x1 by rw[hx1];exact ae hB0);have hbs1:=(ae h1B).size;clear hx1;go_wp2_with (at_builtin;refine a0H _ rfl _ _ 170 rfl w.heap.size 173 i0 (.agg #[.int .i64 0,.int .i64 0]) 2 16 a1r hi hz0 hz1 hz2 rfl (by decide) (.slice (some ⟨w.heap.size,0,none⟩) 2 2) _ _ rfl (a0n (ae h1P) _) ⟨x1.heap.size,0,none⟩ 3 3 [.int .i64 0,.int .i64 5,.int .i64 (s.size:Nat),.int .i64 16,.int .i64 (N:Nat),.int .i64 16] rfl rfl (KM _ _ _ _ _ _ _ _ _ rfl) (KL _ _ _ _ _ _) (ae bd).1 (ae bd).2 (aB hbs1 _) ?_;intro v' x2 hown hgrow hnil;clear hnil;obtain⟨c3,x3,cs,fz,hcv,hb3,hh3,hc3⟩:=Cn s x2);have hb2:Below w.heap.size w x2:=aJ (v:=.slice (some ⟨w.heap.size,0,none⟩) 2 2) hgrow (ae h1P) (a0a _) hbs1 (ae h1B);have hq2:Pcs x2 w.heap.size v' (dy s.size):=by rw[ae HH];exact hown
 have hq3:=af (hq2.later hb3 (a0a _));have hB3:=af (aj hb2 hb3);have hC3:Hid (∀W,aU 5 x3 W->∀i (hi:i<s.size),W.cell? ⟨x2.heap.size,i,none⟩=some (.int .u8 (s[i].toNat:Int))):=fun W h i hi=>Il (h _ _ _ hh3) (hc3 i hi);generalize x2.heap.size=G at *
 obtain⟨va,vc,rfl⟩:=(ae hq3).form;have hhl:Hid ((dy s.size).length=5):=rfl;clear hown hgrow hb2 hq2 hcv hb3 hc3 hh3
 go_loopw [4,6,23] (fun v _ i wr=>∃k:Nat,k<=s.size/\i = .int .i64 k/\Pcs wr w.heap.size v (dy s.size++bi (s.data.toList.take k))/\aU 5 x3 wr/\Below w.heap.size w wr) (fun _ _ i _=>s.size-(intOf i).toNat)
 case atStart=>exact⟨0,a0h _,rfl,by simpa[bi]using ae hq3,aU.refl _ _,ae hB3⟩
 case round=>
  obtain⟨k,hk,rfl,hq,hkt,hbel⟩:=hrel;have hlen:Hid ((dy s.size++bi (s.data.toList.take k)).length=5+k):=by
   show _=_;rw[a0l,ae hhl,i7,a0t,ae hL];omega
  obtain⟨ra,rc,rfl⟩:=hq.formN (ae hlen);by_cases hlt:k<s.size
  ·
   have hltI:(k:Int)<(s.size:Int):=by omega
   have hcell:=ae hC3 wr hkt k hlt;have hx256:(s[k].toNat:Int)<256:=by have:=a2L s[k];omega
   have hst:Hid (dy s.size++bi (s.data.toList.take k)++[((s[k].toNat:Int),(8:Int))]=dy s.size++bi (s.data.toList.take (k+1))):=by show _=_;rw[a0U,vD,IG s k hlt]
   have bdk:Hid (5+k+1<=maxLen/\(5+k+1)*16<=140737488355328):=by show _/\_;unfold maxLen;omega
   have hqo:=af (hq.own (ae hlen));have hbs:=hbel.size;have HBel:=af (a0b hbel hkt);clear hq hbel hkt;go_wp2_with (at_builtin;refine a0H _ rfl _ _ 170 rfl w.heap.size 173 i0 (.agg #[.int .i64 0,.int .i64 0]) 2 16 a1r hi hz0 hz1 hz2 rfl (by decide) (.slice ra (5+k) rc) _ _ rfl (a0n (ae hqo) _) ⟨wr.heap.size,0,none⟩ 1 1 [.int .i64 (s[k].toNat:Int),.int .i64 8] rfl rfl (pT _ _ _ _) (pS _ _) (ae bdk).1 (ae bdk).2 (aB hbs _) ?_;intro v' y2 hown hgrow hnil;clear hnil);have hb2:=aJ (v:=.slice ra (5+k) rc) hgrow (ae hqo) (a0a _) hbs (ae HBel).1;have hq2:=D5 (ae hlen) hown;rw[ae hst]at hq2;have hkt2:=((ae HBel).2.alloc (.cells #[.int .i64 (s[k].toNat:Int),.int .i64 8] 173)).grown (a0n (ae hqo) _) (by decide) hgrow;clear hown hgrow;go_wp2;go_roundw
   case rel=>exact⟨k+1,by omega,by go_num,hq2,hkt2,hb2⟩
   case measure=>simp[intOf];omega
  ·
   obtain rfl:k=s.size:=by omega
   have hall:Hid (s.data.toList.take s.size=s.data.toList):=a0s (by rw[ae hL];exact a0a _);rw[ae hall]at hq hlen;have hp2:Hid (ni (dy s.size++bi s.data.toList)=leS 5 (oN s.size)++s.data.toList):=by have:=ae hput;rw[ae hL]at this;exact this
   have HP:=af (ea ra rc (dy s.size++bi s.data.toList) wr (hq.rowN (ae hlen)) (by rw[ae hlen];omega));rw[ae hlen,ae hp2]at HP;clear hq hk hlt hkt;go_wp2_with fail;refine(ae HP).mono ?_;rintro e y1 ⟨rfl,hy⟩;go_wp2;go_ret;exact⟨rfl,aj hbel hy⟩
theorem oe(s:ByteArray)(w:World)(hs:s.size<=1048576) :
  Calls Tryz.prog 91 #[.string s] w fun e w'=>e = .returned (.string ⟨(eu s.data.toList).toArray⟩)/\Below w.heap.size w w':=by
 by_cases h3:s.size<=300
 ·
  have e:eu s.data.toList=leS 5 (oN s.size)++s.data.toList:=by unfold eu;rw[iV,a0d h3]
  rw[e];exact sr s w h3
 ·
  have hI:(300:Int)<(s.size:Int):=by omega
  have e:eu s.data.toList=[]:=by unfold eu;rw[iV,a0e h3]
  rw[e];clear hs h3 e;go_enter Tryz.func91,Tryz.ntmps91;go_wp2;go_ret;exact⟨rfl,a0c _ _⟩
end Go.Proofs.YtkdlcomfpffhhaaGreatDoor
namespace Go.Proofs.YtkdlcomfpffhhaaGreatDoor
open Corb
def wd(l:List UInt8)(i k:Nat):Nat:=bS ((l.drop i).take k)
theorem Jb(l:List UInt8)(i k:Nat):wd l i k<2 ^ (8*k):=by
 unfold wd;refine a0k (nC _) (a0Y (by decide) ?_);rw[a0t];omega
theorem kO(l:List UInt8)(i:Nat):wd l i 2<65536:=Jb l i 2
theorem ec(l:List UInt8)(i:Nat):wd l i 4<4294967296:=Jb l i 4
theorem fi{l:List UInt8}{i k:Nat}(h:i+k<=l.length):((l.drop i).take k).length=k:=by
 rw[a0t,a1F];omega
theorem mu{l:List UInt8}{i k:Nat}(h:i+k<=l.length):leS k (wd l i k)=(l.drop i).take k:=by
 have:=wM ((l.drop i).take k);rw[fi h]at this;exact this
theorem Md{l:List UInt8}{i j:Nat}(k:Nat)(h:i+j<=l.length):wd l i (j+k)=wd l i j+2 ^ (8*j)*wd l (i+j) k:=by
 unfold wd;rw[List.take_add,fZ,fi h,List.drop_drop]
theorem MG{l:List UInt8}{i:Nat}(h:i+2<=l.length):wd l i 4=wd l i 2+65536*wd l (i+2) 2:=Md (j:=2) 2 h
theorem yu{l:List UInt8}{i k v:Nat}(h:i+k<=l.length)(hv:v<2 ^ (8*k)):wd l i k=v<->(l.drop i).take k=leS k v:=by
 constructor
 · intro e;rw[←e,mu h]
 · intro e;unfold wd;rw[e,rU,a1t hv]
theorem EG{l:List UInt8}{i k:Nat}(h:i+k<=l.length):bS l/2 ^ (8*i)%2 ^ (8*k)=wd l i k:=by
 have e1:bS l=bS (l.take i)+2 ^ (8*i)*bS (l.drop i):=by
  have h1:=fZ (l.take i) (l.drop i);rw[a1C,a0t,a16 (by omega)]at h1;exact h1
 have l1:bS (l.take i)<2 ^ (8*i):=by
  have:=nC (l.take i);rw[a0t,a16 (by omega)]at this;exact this
 have e2:bS (l.drop i)=wd l i k+2 ^ (8*k)*bS ((l.drop i).drop k):=by
  have h1:=fZ ((l.drop i).take k) ((l.drop i).drop k);rw[a1C,fi h]at h1;exact h1
 rw[e1,Nat.add_mul_div_left _ _ (a1B _),a10 l1,a0A,e2,Nat.add_mul_mod_self_left,a1t (Jb l i k)]
theorem rD(V b:Nat):∀(n p j:Nat),j<n->(de V p (List.replicate n ((b:Nat):Int))).getD j 0=((V/2 ^ (p+b*j)%2 ^ b:Nat):Int)
 | 0,_,_,h=>by omega
 | n+1,p,0,_=>by simp[List.replicate_succ,de]
 | n+1,p,j+1,h=>by
  rw[List.replicate_succ];simp only[de,a2w];rw[rD V b n _ j (by omega),a0r,show p+b+b*j=p+b*(j+1) by rw[a2d];omega]
theorem uC{l:List UInt8}(h:30<=l.length):il (l.take 30) (List.replicate 15 16)=true:=by
 have e1:d9 (List.replicate 15 16)=240:=by decide
 have e2:(l.take 30).length=30:=by rw[a0t];omega
 have e3:dw (List.replicate 15 16)=true:=by decide
 have e4:=nC (l.take 30);rw[e2]at e4;unfold il;rw[e1,e2,e3];simpa using e4
theorem zr{l:List UInt8}(h:30<=l.length)(j:Nat)(hj:j<15):(wm (l.take 30) (List.replicate 15 16)).getD j 0=((wd l (2*j) 2:Nat):Int):=by
 unfold wm;rw[a0d (uC h)];have h1:=rD (bS (l.take 30)) 16 15 0 j hj;rw[show((16:Nat):Int)=16 from rfl]at h1;rw[h1];have e2:(l.take 30).length=30:=by rw[a0t];omega
 have h2:=EG (l:=l.take 30) (i:=2*j) (k:=2) (by omega);rw[show 0+16*j=8*(2*j) by omega,show(16:Nat)=8*2 from rfl,h2]
 congr 1
 unfold wd;rw[List.drop_take,List.take_take,a16 (by omega)]
theorem F7{l:List UInt8}(h:30<=l.length):(wm (l.take 30) (List.replicate 15 16)).length=15:=by
 unfold wm;rw[a0d (uC h),tC,a0E]
def px(l:List UInt8):Bool:=decide (wd l 0 4=67324752)&&(decide (wd l 4 2=20)&&(decide (wd l 6 2=0)&&decide (wd l 28 2=0)))
theorem zT(l:List UInt8)(n:Nat):l.take (30+n)=(l.drop 0).take 4++((l.drop 4).take 2++((l.drop 6).take 2++((l.drop 8).take 2++((l.drop 10).take 4++((l.drop 14).take 4++((l.drop 18).take 4++((l.drop 22).take 4++((l.drop 26).take 2++((l.drop 28).take 2++(l.drop 30).take n))))))))):=by
 have st:∀i k m,(l.drop i).take (k+m)=(l.drop i).take k++(l.drop (i+k)).take m:=fun i k m=>by rw[List.take_add,List.drop_drop]
 rw[←st 28 2 n,←st 26 2 _,←st 22 4 _,←st 18 4 _,←st 14 4 _,←st 10 4 _,←st 8 2 _,←st 6 2 _,←st 4 2 _,←st 0 4 _,a2n]
 congr 1
 omega
theorem lY(how st crc pk lg:Nat)(nm:ByteArray):(bJ how st crc pk lg nm).data.toList=leS 4 67324752++(leS 2 20++(leS 2 0++(leS 2 how++(leS 4 st++(leS 4 crc++(leS 4 pk++(leS 4 lg++(leS 2 nm.size++(leS 2 0++nm.data.toList))))))))):=by
 have e:leS 4 67324752=[80,75,3,4]:=by decide +kernel
 rw[e];unfold bJ kM aZ;simp
theorem F8{l:List UInt8}{nm:ByteArray}(h:30+wd l 26 2<=l.length)(hn:nm.data.toList=(l.drop 30).take (wd l 26 2)) :
  (bJ (wd l 8 2) (wd l 10 4) (wd l 14 4) (wd l 18 4) (wd l 22 4) nm).data.toList.isPrefixOf l=px l:=by
 have hs:nm.size=wd l 26 2:=by
  have:=congrArg List.length hn;rw[fi h]at this;simpa using this
 have hlen:(bJ (wd l 8 2) (wd l 10 4) (wd l 14 4) (wd l 18 4) (wd l 22 4) nm).data.toList.length=30+wd l 26 2:=by
  rw[lY,hn];simp only[a0l,az,fi h];omega
 rw[a2g,a3t,List.prefix_iff_eq_take,hlen,zT,lY,hs,hn,
  mu (i:=8) (k:=2) (by omega),mu (i:=10) (k:=4) (by omega),mu (i:=14) (k:=4) (by omega),mu (i:=18) (k:=4) (by omega),mu (i:=22) (k:=4) (by omega),mu (i:=26) (k:=2) (by omega)]
 simp only[px,a0i,a0q];rw[yu (i:=0) (k:=4) (by omega) (by decide),yu (i:=4) (k:=2) (by omega) (by decide),yu (i:=6) (k:=2) (by omega) (by decide),yu (i:=28) (k:=2) (by omega) (by decide)];constructor
 · intro e;obtain⟨e1,e⟩:=a2S e (by rw[az,fi (by omega)]);obtain⟨e2,e⟩:=a2S e (by rw[az,fi (by omega)]);obtain⟨e3,e⟩:=a2S e (by rw[az,fi (by omega)]);have e:=a2T (a2T (a2T (a2T (a2T (a2T e)))));obtain⟨e4,_⟩:=a2S e (by rw[az,fi (by omega)]);exact⟨e1.symm,e2.symm,e3.symm,e4.symm⟩
 · rintro⟨e1,e2,e3,e4⟩;rw[e1,e2,e3,e4]
theorem Ax{a b:List UInt8}{i m:Nat}(k:Nat)(h:a.length=m):wd (a++b) (m+i) k=wd b i k:=by
 unfold wd;rw[←h,a2F,a2U (by omega),a04,a1T]
theorem fo{k V:Nat}(b:List UInt8)(h:V<2 ^ (8*k)):wd (leS k V++b) 0 k=V:=by
 unfold wd;rw[a2n,a1p (by rw[az];exact a0a _),a0s (by rw[az];exact a0a _),rU,a1t h]
theorem qw{how st crc pk lg:Nat}{nm:ByteArray}(r:List UInt8)(h0:how<65536)(h1:st<4294967296)(h2:crc<4294967296)(h3:pk<4294967296)(h4:lg<4294967296)(h5:nm.size<65536) :
  px ((bJ how st crc pk lg nm).data.toList++r)=true/\wd ((bJ how st crc pk lg nm).data.toList++r) 8 2=how/\wd ((bJ how st crc pk lg nm).data.toList++r) 10 4=st/\wd ((bJ how st crc pk lg nm).data.toList++r) 14 4=crc/\wd ((bJ how st crc pk lg nm).data.toList++r) 18 4=pk/\wd ((bJ how st crc pk lg nm).data.toList++r) 22 4=lg/\wd ((bJ how st crc pk lg nm).data.toList++r) 26 2=nm.size/\(((bJ how st crc pk lg nm).data.toList++r).drop 30).take nm.size=nm.data.toList/\((bJ how st crc pk lg nm).data.toList++r).drop (30+nm.size)=r:=by
 rw[lY];simp only[a0U];have g4:∀(V:Nat) (b:List UInt8) (i k:Nat),wd (leS 4 V++b) (4+i) k=wd b i k:=fun V b i k=>Ax k (az 4 V);have g2:∀(V:Nat) (b:List UInt8) (i k:Nat),wd (leS 2 V++b) (2+i) k=wd b i k:=fun V b i k=>Ax k (az 2 V);have d4:∀(V:Nat) (b:List UInt8) (i:Nat),(leS 4 V++b).drop (4+i)=b.drop i:=fun V b i=>by rw[a2F,a2U (by rw[az];omega),a04,az,a1T]
 have d2:∀(V:Nat) (b:List UInt8) (i:Nat),(leS 2 V++b).drop (2+i)=b.drop i:=fun V b i=>by rw[a2F,a2U (by rw[az];omega),a04,az,a1T]
 have e30:∀j,30+j=4+(2+(2+(2+(4+(4+(4+(4+(2+(2+j))))))))):=fun j=>by omega
 have hl:nm.data.toList.length=nm.size:=by simp
 refine⟨?_,?_,?_,?_,?_,?_,?_,?_,?_⟩
 · unfold px;rw[fo _ (by decide),show(4:Nat)=4+0 from rfl,g4,fo _ (by decide),show(6:Nat)=4+(2+0)from rfl,g4,g2,fo _ (by decide),show(28:Nat)=4+(2+(2+(2+(4+(4+(4+(4+(2+0))))))))from rfl,g4,g2,g2,g2,g4,g4,g4,g4,g2,fo _ (by decide)];rfl
 · rw[show(8:Nat)=4+(2+(2+0))from rfl,g4,g2,g2,fo _ h0]
 · rw[show(10:Nat)=4+(2+(2+(2+0)))from rfl,g4,g2,g2,g2,fo _ h1]
 · rw[show(14:Nat)=4+(2+(2+(2+(4+0))))from rfl,g4,g2,g2,g2,g4,fo _ h2]
 · rw[show(18:Nat)=4+(2+(2+(2+(4+(4+0)))))from rfl,g4,g2,g2,g2,g4,g4,fo _ h3]
 · rw[show(22:Nat)=4+(2+(2+(2+(4+(4+(4+0))))))from rfl,g4,g2,g2,g2,g4,g4,g4,fo _ h4]
 · rw[show(26:Nat)=4+(2+(2+(2+(4+(4+(4+(4+0)))))))from rfl,g4,g2,g2,g2,g4,g4,g4,g4,fo _ h5]
 · rw[show(30:Nat)=4+(2+(2+(2+(4+(4+(4+(4+(2+(2+0)))))))))from rfl,d4,d2,d2,d2,d4,d4,d4,d4,d2,d2,a2n,a1p (by omega),a0s (by omega)]
 · rw[e30,d4,d2,d2,d2,d4,d4,d4,d4,d2,d2,a2F,a2U (by omega),a04,hl,Nat.sub_self,a2n]
end Go.Proofs.YtkdlcomfpffhhaaGreatDoor
namespace Go.Proofs.YtkdlcomfpffhhaaGreatDoor
open Go.RowKit Corb
attribute [local go_sem ↓] Go.wp_at_zero Go.wp_at_succ
theorem BJ(k:Nat)(h:k<=16):p2 k<=65536:=by
 have h2:2 ^ k<=2 ^ 16:=a0Y (by omega) h;have h4:p2 k=2 ^ k:=rfl;omega
theorem rest_step(V p j:Nat):(V/2 ^ p%2 ^ (j+1)=0)<->(V/2 ^ p%2 ^ j=0/\V/2 ^ (p+j)%2=0):=by
 rw[xo];have:=a1B j;constructor
 ·
  intro h;have h1:=Nat.eq_zero_of_add_eq_zero_right h;have h2:=Nat.eq_zero_of_add_eq_zero_left h;rcases Nat.mul_eq_zero.1 h2 with h3|h3
  · exact⟨h1,h3⟩
  · omega
 · rintro⟨h1,h2⟩;rw[h1,h2];simp
end Go.Proofs.YtkdlcomfpffhhaaGreatDoor
namespace Go.Proofs.YtkdlcomfpffhhaaGreatDoor
open Go.RowKit Corb
theorem Box.keep1{w w':World}{P b:Nat}{x y:Int}(h:Box w P x y)(hk:ax b w w')(hb:P≠b):Box w' P x y:=by
 unfold Box at *
 rw[hk.2 P (Array.getElem?_eq_some_iff.1 h).1 hb];exact h
theorem Kr(n x k M:Nat)(hn:n<p2 k)(hx:x<=1)(hk:k<=16)(hM:x*p2 k=M):bits .or .i64 (n:Int) (M:Int)=((n+M:Nat):Int):=by
 have h1:=BJ k hk;have hM2:M<=65536:=by
  rcases (show x=0∨x=1 by omega)with e|e<;>subst e<;>omega
 rw[jf n M (by omega) (by omega)]
 congr 1
 rw[Nat.or_comm];rw[nat_join k M n (by rw[←hM];exact Nat.mul_mod_left _ _) hn];omega
theorem rC(b p c:Nat)(num:Int)(s:ByteArray)(w:World)(h:Rdr w b s p)(hs:s.size<=2000000)(hc:c<=16) :
  Calls Tryz.prog 274 #[.pointer (some ⟨b,0,none⟩),.agg #[.int .i64 num,.int .i64 (c:Int)]] w fun e w'=>e = .returned (.int .i64 (au s/2 ^ p%2 ^ c:Nat))/\Rdr w' b s (p+c)/\ax b w w':=by
 have Hs:=af hs;have hc':(c:Int)<=16:=by omega
 have Hc:=af hc;have hlt:=h.lt;have h0:=h.alloc (.cells #[.int .i64 num,.int .i64 (c:Int)] 173);have hk0:ax b w (w.alloc (.cells #[.int .i64 num,.int .i64 (c:Int)] 173)):=(ax.refl _ _).alloc (by omega) _;clear hs hc h;go_enter Tryz.func274,Tryz.ntmps274;go_wp2_with fail
 go_loopw [5,6,9] (fun n _ i wr=>∃k:Nat,k<=c/\i = .int .i64 k/\n = .int .i64 (au s/2 ^ p%2 ^ k:Nat)/\Rdr wr b s (p+k)/\ax b w wr) (fun _ _ i _=>c-(intOf i).toNat)
 case atStart=>exact⟨0,a0h _,rfl,by simp[a2k],h0,hk0⟩
 case round=>
  obtain⟨k,hk,rfl,rfl,hr,hbel⟩:=hrel;clear h0 hk0;have Hk:=af hk;by_cases hlt:k<c
  ·
   have hkc:(k:Int)<(c:Int):=by omega
   have hk16:k<=16:=by have:=ae Hc;omega
   have hst:Hid (au s/2 ^ p%2 ^ (k+1)=au s/2 ^ p%2 ^ k+au s/2 ^ (p+k)%2*p2 k):=xo (au s) p k;have hn0:au s/2 ^ p%2 ^ k<p2 k:=a15 _ (a1B k);have hx:au s/2 ^ (p+k)%2<=1:=by omega
   have hpw:=BJ k hk16;have hbit:=af (ow b (p+k) s wr hr (ae Hs));have hp2i:=iI k;generalize au s/2 ^ p%2 ^ k=n at *
   generalize au s/2 ^ (p+k)%2=x at *
   have hor:=Kr n x k (x*p2 k) hn0 hx hk16 rfl;have hmul:x*p2 k<=65536:=by rcases (show x=0∨x=1 by omega)with e|e<;>rw[e]<;>omega
   have e1':(x:Int)*2 ^ k=((x*p2 k:Nat):Int):=by rw[a3c,hp2i]
   have e1:IntKind.i64.wrap ((x:Int)*2 ^ k)=((x*p2 k:Nat):Int):=by rw[e1'];exact ee _ (by omega) (by omega)
   generalize x*p2 k=M at *
   have e2:IntKind.i64.wrap (M:Int)=(M:Int):=ee _ (by omega) (by omega);have k16:(k:Int)<=16:=by omega
   clear hk16 hx hpw hmul hk hr hn0 hp2i;go_wp2_with fail;refine(ae hbit).mono ?_;rintro e x1 ⟨rfl,hr1,hb1⟩;go_wp2;go_roundw
   case rel=>exact⟨k+1,by omega,by go_num,by rw[ae hst];go_num,hr1,hbel.trans hb1⟩
   case measure=>simp[intOf];omega
  ·
   obtain rfl:k=c:=by have:=ae Hk;omega
   go_wp2;go_ret;exact⟨rfl,hr,hbel⟩
theorem Kq(m x:Nat)(hm:m<=1)(hx:x<=1):∃y:Nat,bits .or .i64 (m:Int) (x:Int)=(y:Int)/\y<=1/\(y=0<->m=0/\x=0):=by
 refine⟨m ||| x,jf m x (by omega) (by omega),?_,?_⟩
 · rcases (show m=0∨m=1 by omega)with e|e<;>rcases (show x=0∨x=1 by omega)with f|f<;>subst e<;>subst f<;>decide
 · rcases (show m=0∨m=1 by omega)with e|e<;>rcases (show x=0∨x=1 by omega)with f|f<;>subst e<;>subst f<;>decide
theorem pa(b p:Nat)(s:ByteArray)(w:World)(h:Rdr w b s p)(hs:s.size<=2000000)(hp:p<=8*s.size) :
  Calls Tryz.prog 160 #[.pointer (some ⟨b,0,none⟩)] w fun e w'=>e = .returned (.bool (decide (au s/2 ^ p%2 ^ ((8-p%8)%8)=0)))/\Rdr w' b s (p+(8-p%8)%8)/\ax b w w':=by
 have Hs:=af hs;have hp7:(8-p%8)%8<=7:=by omega
 have hpm:(p+(8-p%8)%8)%8=0:=by omega
 have hpl:p+(8-p%8)%8<=8*s.size:=by omega
 have hmin:∀j,j<(8-p%8)%8->(p+j)%8≠0:=by omega
 have hsI:(s.size:Int)<=2000000:=by omega
 generalize (8-p%8)%8=c at *
 have Hp:=af hpl;clear hs hp hpl;go_enter Tryz.func160,Tryz.ntmps160;go_wp2_with fail
 go_loopw [3] (fun n wr=>∃k m:Nat,k<=c/\n = .int .i64 (m:Nat)/\m<=1/\(m=0<->au s/2 ^ p%2 ^ k=0)/\Rdr wr b s (p+k)/\ax b w wr) (fun _ wr=>c+p-(match wr.cell? ⟨b,1,none⟩with|some (.int _ i)=>i.toNat|_=>0))
 case atStart=>exact⟨0,0,a0h _,rfl,by omega,by simp[a2k],h,ax.refl _ _⟩
 case round=>
  obtain⟨k,m,hk,rfl,hmk,hm0,hr,hbel⟩:=hrel;clear h;have h3:=hr.at (by have:=ae Hp;omega);obtain⟨c0,c1,c2,f0,f1,f2,hb3⟩:=h3;have Hk:=af hk;have Hm0:=af hm0;have hpk:((p+k:Nat):Int)<=16000000:=by have:=ae Hp;omega
  clear hm0;by_cases hlt:k<c
  ·
   have hne:¬ ((p+k:Nat):Int)%8=0:=by have:=hmin k hlt;omega
   have hst:=af (rest_step (au s) p k);have hx:au s/2 ^ (p+k)%2<=1:=by omega
   have hbit:=af (ow b (p+k) s wr hr (ae Hs));generalize au s/2 ^ (p+k)%2=x at *
   obtain⟨y,hor,hy1,hy0⟩:=Kq m x hmk hx;have HY:=af hy0;have HY1:=af hy1;have Hlt:=af hlt;have Hpk:=af (show p+k<8*s.size by have:=ae Hp;omega);clear hmin hx hk hmk hlt hr hpm hp7 hy0 hy1;generalize hPK:p+k=pk at *
   have HPK:=af hPK;clear hPK;go_wp2_with fail;refine(ae hbit).mono ?_;rintro e x1 ⟨rfl,hr1,hb1⟩;go_wp2;go_roundw
   case rel=>exact⟨k+1,y,ae Hlt,rfl,ae HY1,by rw[ae hst,←ae Hm0];exact ae HY,by rw[←ae HPK]at hr1;exact hr1,hbel.trans hb1⟩
   case measure=>
    have h1:=(hr1.at (by have:=ae Hpk;omega)).2.1;rw[h1,c1];have:=ae HPK;have:=ae Hlt;simp;omega
  ·
   obtain rfl:k=c:=by have:=ae Hk;omega
   have he:((p+k:Nat):Int)%8=0:=by omega
   generalize hPK:p+k=pk at *
   go_wp2;go_ret;refine⟨ak ?_,by rw[hPK];exact hr,hbel⟩;rw[show decide (au s/2 ^ p%2 ^ k=0)=decide (m=0)from decide_eq_decide.2 (ae Hm0).symm];rcases a3J m with h0|h0
   · subst h0;rfl
   · rw[a0p (by omega)];first|(exact a0p (by omega))|(exact beq_false_of_ne (by omega))|(exact(by omega:False).elim)
attribute [local go_sem ↓] Go.wp_at_zero Go.wp_at_succ
end Go.Proofs.YtkdlcomfpffhhaaGreatDoor
namespace Go.Proofs.YtkdlcomfpffhhaaGreatDoor
open Go.RowKit Corb
theorem qy(a:Option Addr)(cap n:Nat)(l:List (Int×Int))(w:World)(hn:l.length=n)(h:lS w a l)(hm:n<=1000000000) :
  Calls Tryz.prog 158 #[.slice a n cap] w fun e w'=>e = .returned (.int .i64 (na l))/\Below w.heap.size w w':=by
 subst hn;exact fC a cap l w h hm
theorem Rdr.over{w:World}{b p:Nat}{s:ByteArray}(h:Rdr w b s p)(hp:8*s.size<p):Three w b (.string s) (.int .i64 (8*(s.size:Int))) (.bool true):=by
 unfold Rdr at h;rw[Nat.min_eq_right (by omega),a0G (by omega)]at h;exact h
theorem wn{s:List UInt8}{l:List Int}(h:dw l=false∨4000<l.length):il s l=false/\wm s l=[]:=by
 have hk:il s l=false:=by
  unfold il;rcases h with h|h
  · simp[h]
  · simp;omega
 exact⟨hk,a0e (by simp[hk])⟩
theorem F5{s:List UInt8}{l:List Int}(h:dw l=true)(h4:l.length<=4000):il s l=(decide (s.length=(d9 l+7)/8)&&decide (bS s<2 ^ d9 l)):=by
 simp[il,h,h4]
theorem JO{s:List UInt8}{l:List Int}(h:il s l=false):wm s l=[]:=a0e (by simp[h])
theorem F4{s:List UInt8}{l:List Int}(h:il s l=true):wm s l=de (bS s) 0 l:=a0d h
theorem nj{v:Value}{a b:Bool}(h:a=b):Ending.returned (.tuple #[v,.bool a]) = .returned (.tuple #[v,.bool b]):=by rw[h]
def blank(l:List Int):List (Int×Int):=l.map fun b=>(0,b)
theorem kT(l:List Int):(blank l).length=l.length:=by simp[blank]
theorem DT(b:Int):pOk 0 b=inB b 0 16:=by
 rw[a2g,aV,aD];have:=rt b.toNat
 constructor
 · exact fun h=>h.1
 · exact fun h=>⟨h,by omega,by omega⟩
theorem Fq(l:List Int):aM (blank l)=dw l:=by
 simp only[aM,dw,blank,List.all_map]
 congr 1
 funext b
 exact DT b
theorem Cc(l:List Int)(h:dw l=true):bp (blank l)=(d9 l:Int):=by
 induction l with
 | nil=>rfl
 | cons b l ih=>
  have h':(0<=b/\b<=16)/\dw l=true:=by simpa[dw]using h
  have:=ih h'.2;simp only[bp,blank,a0o,a0M]at this ⊢;rw[iW,this];omega
theorem yQ(l:List Int)(h4:l.length<=4000):na (blank l)=if dw l=true then(d9 l:Int)else -1:=by
 unfold na lOk;rw[Fq,kT];rcases hb:dw l with _|_
 · simp
 · simp[h4,Cc l hb]
theorem yR(l:List Int)(b:Int):blank (l++[b])=blank l++[(0,b)]:=by simp[blank]
theorem Cb(l:List Int)(k:Nat)(h:k<l.length):(blank l).getD k (0,0)=(0,l.getD k 0):=by
 simp[blank,List.getD,h]
theorem vw(b:Int)(w:World) :
  Calls Tryz.prog 157 #[.int .i64 b] w fun e w'=>e = .returned (.agg #[.int .i64 0,.int .i64 b])/\Below w.heap.size w w':=by
 go_enter Tryz.func157,Tryz.ntmps157;go_wp2;exact a0K (v:=.agg #[.int .i64 0,.int .i64 b]) (by simp[results,Tryz.results157,go_sem]) rfl ⟨rfl,(a0c _ _).alloc (a0a _) _⟩
theorem Cr(a:Option Addr)(cap:Nat)(l:List Int)(w:World)(h:bB w a l)(h4:l.length<=4000) :
  Calls Tryz.prog 132 #[.slice a l.length cap,.func (.func 157) #[] #[]] w fun e w'=>∃v,e = .returned v/\Pcs w' w.heap.size v (blank l)/\Below w.heap.size w w':=by
 have H4:=af h4;have h4':(l.length:Int)<=4000:=by omega
 clear h4;obtain⟨i0,hi,hz0,hz1,hz2⟩:=a0z Tryz.infoPiece;go_enter Tryz.func132,Tryz.ntmps132;go_wp2_with fail
 go_loopw [5,7,10] (fun o _ i wr=>∃k:Nat,k<=l.length/\i = .int .i64 k/\Pcs wr w.heap.size o (blank (l.take k))/\Below w.heap.size w wr) (fun _ _ i _=>l.length-(intOf i).toNat)
 case atStart=>exact⟨0,a0h _,rfl,a07 _ _ _ _,a0c _ _⟩
 case round=>
  obtain⟨k,hk,rfl,hq,hbel⟩:=hrel;by_cases hlt:k<l.length
  ·
   obtain⟨g,o,rfl,hg,hc⟩:=(h.later hbel) (by omega);have c0:=hc k hlt;have htk:=af (cx l k hlt);have hlk:Hid ((blank (l.take k)).length=k):=by show(blank (l.take k)).length=k;rw[kT];simp;omega
   have HK:=af hk;clear hc hk h;generalize l.getD k 0=y at *
   go_wp2_with fail;refine(vw y _).mono ?_;rintro e x1 ⟨rfl,hb1⟩;have hq1:=Pcs.later hq hb1 (a0a _);have hbel1:=aj hbel hb1;have hbs1:=hbel1.size;clear hq hbel hb1;go_wp2_with (at_builtin;refine a0H _ rfl _ _ 170 rfl w.heap.size 173 i0 (.agg #[.int .i64 0,.int .i64 0]) 2 16 a1r hi hz0 hz1 hz2 rfl (by decide) _ _ _ rfl (a0n hq1 _) ⟨x1.heap.size,0,none⟩ 1 1 [.int .i64 0,.int .i64 y] rfl rfl (by intro j u hj;match j,hj with | 0,hj=>simp at hj;subst hj;simp[Addr.add] | 1,hj=>simp at hj;subst hj;simp[Addr.add]) (by intro u hu;simp at hu;rcases hu with rfl|rfl<;>rfl) (by have:=ae hlk;have:=ae H4;unfold maxLen;omega) (by have:=ae hlk;have:=ae H4;omega) (by simp;omega) ?_;intro v' x2 hown hgrow hnil;clear hnil);have hb2:=aJ (v:=u5) hgrow hq1 (a0a _) hbs1 hbel1;have hq2:=kz hown;rw[←yR,←ae htk]at hq2;clear hown hgrow hq1;go_wp2;go_roundw
   case rel=>exact⟨k+1,by have:=ae HK;omega,by go_num,hq2,hb2⟩
   case measure=>simp[intOf];omega
  · have hlk2:l.take k=l:=a0s (by omega);rw[hlk2]at hq;obtain⟨va,vc,rfl⟩:=hq.form;clear hlk2 h;go_wp2;go_ret;exact⟨_,rfl,hq,hbel⟩
theorem Dx(a:Addr)(w:World):(method 500 213 (.pointer (some a)) "loop.example/corbel/impl.pass").run Tryz.prog w = .ok (274,.pointer (some a)) w:=by kernel_rfl
theorem Ct(b:Nat)(s:ByteArray)(a:Option Addr)(cap:Nat)(l:List Int)(w:World)(h:lS w a (blank l))(hbo:dw l=true)(h4:l.length<=4000)(hs:s.size<=2000000)(hr:Rdr w b s 0)(hb:∀g o,a=some ⟨g,o,none⟩->0<l.length->g<b) :
  Calls Tryz.prog 197 #[.slice a l.length cap,.func (.method "loop.example/corbel/impl.pass") #[.iface 213 (.pointer (some ⟨b,0,none⟩))] #[]] w fun e w'=>
   ∃v,e = .returned v/\ar w' (b+1) v (de (au s) 0 l)/\Rdr w' b s (d9 l)/\Below b w w':=by
 have Hbo:=af hbo;have H4:=af h4;have Hs:=af hs;have h4':(l.length:Int)<=4000:=by omega
 have hbl:=kT l;clear hbo h4 hs;obtain⟨i0,hi,hz0,hz1,hz2⟩:=a0z Tryz.infoInt;have mp:=Dx ⟨b,0,none⟩;have Hb:=af hb;clear hb;go_enter Tryz.func197,Tryz.ntmps197;go_wp2_with fail
 go_loopw [5,7,10] (fun o _ i wr=>∃k:Nat,k<=l.length/\i = .int .i64 k/\ar wr (b+1) o (de (au s) 0 (l.take k))/\Rdr wr b s (d9 (l.take k))/\Below b w wr) (fun _ _ i _=>l.length-(intOf i).toNat)
 case atStart=>exact⟨0,a0h _,rfl,ar.nil _ _,hr,a0c _ _⟩
 case round=>
  obtain⟨k,hk,rfl,hown,hrr,hbel⟩:=hrel;have hrl:=hrr.lt;by_cases hlt:k<l.length
  ·
   obtain⟨g,o,rfl,hg,hc⟩:=h (by omega);have hgb:=ae Hb g o rfl (by omega);have hck:=hc k (by omega);rw[Cb l k hlt]at hck;have c0:=(hbel.cell (p:=⟨g,o+k*2,none⟩) hgb).trans hck.1;have c1:=(hbel.cell (p:=⟨g,o+k*2+1,none⟩) hgb).trans hck.2;have htk:=af (cx l k hlt);have hrd:=af (uZ (au s) 0 (l.take k) [l.getD k 0]);have hsu:=af (pe (l.take k) [l.getD k 0]);have hlk:Hid ((de (au s) 0 (l.take k)).length=k):=by show(de (au s) 0 (l.take k)).length=k;rw[tC];simp;omega
   obtain⟨y0,y1⟩:=yP (ae Hbo) k hlt;have HK:=af hk;clear hc hk h hr hck hbl;generalize l.getD k 0=y at *
   obtain⟨c,rfl⟩:=a0u y0;go_wp2_with fail;refine(rC b (d9 (l.take k)) c 0 s _ (hrr.alloc _) (ae Hs) (by omega)).mono ?_;rintro e x1 ⟨rfl,hr1,hk1⟩;have hown1:ar x1 (b+1) u5 (de (au s) 0 (l.take k)):=hk1.own (a0n hown _) (a0m _);have hbel1:=(hbel.alloc (a0x hrl) (.cells #[.int .i64 0,.int .i64 (c:Int)] 173)).trans hk1.1;have hr1l:=hr1.lt;generalize hX:au s/2 ^ d9 (l.take k)%2 ^ c=X at *
   have HX:=af hX;clear hX hown hrr hbel hk1;go_wp2_with (at_builtin;refine a0H _ rfl _ _ 146 rfl (b+1) 3 i0 (.int .i64 0) 1 8 a05 hi hz0 hz1 hz2 rfl (by decide) _ _ _ rfl (a0n hown1 _) ⟨x1.heap.size,0,none⟩ 1 1 [.int .i64 (X:Int)] rfl rfl (by intro j u hj;match j,hj with | 0,hj=>simp at hj;subst hj;simp[Addr.add]) (by intro u hu;simp at hu;subst hu;rfl) (by have:=ae hlk;have:=ae H4;unfold maxLen;omega) (by have:=ae hlk;have:=ae H4;omega) (by simp;omega) ?_;intro v' x3 hown hgrow hnil;clear hnil);have hr3:Rdr x3 b s (d9 (l.take k)+c):=hr1.kept (aJ (v:=u5) hgrow hown1 (a0a _) (by omega) (a0c _ _));have hbel3:Below b w x3:=aJ (v:=u5) hgrow hown1 (a1a _) (by omega) hbel1;have hown3:=li hown;clear hown hgrow hown1 hr1 hbel1;go_wp2;go_roundw
   case rel=>
    refine⟨k+1,by have:=ae HK;omega,by go_num,?_,?_,hbel3⟩
    · rw[ae htk,ae hrd];simp only[de,a0A,a0r];rw[ae HX];exact hown3
    · rw[ae htk,ae hsu];simp only[d9,a0o,a1S,a0M,a3G,a0r,a1e];exact hr3
   case measure=>simp[intOf];omega
  · have hlk2:l.take k=l:=a0s (by omega);rw[hlk2]at hown hrr;obtain⟨va,vc,rfl⟩:=hown.form;clear hlk2 h hr;go_wp2;go_ret;exact⟨_,rfl,hown,hrr,hbel⟩
theorem EI(b:Nat)(s:ByteArray)(a:Option Addr)(cap:Nat)(l:List Int)(w:World)(h:lS w a (blank l))(hbo:dw l=true)(h4:l.length<=4000)(hs:s.size<=2000000)(hr:Rdr w b s 0)(hb:∀g o,a=some ⟨g,o,none⟩->0<l.length->g<b) :
  Calls Tryz.prog 159 #[.iface 213 (.pointer (some ⟨b,0,none⟩)),.slice a l.length cap] w fun e w'=>
   ∃v,e = .returned v/\ar w' (b+1) v (de (au s) 0 l)/\Rdr w' b s (d9 l)/\Below b w w':=by
 go_enter Tryz.func159,Tryz.ntmps159;go_wp2_with fail;refine(Ct b s a cap l _ h hbo h4 hs hr hb).mono ?_;rintro e w1 ⟨v,rfl,hown,hrr,hbel⟩;obtain⟨va,vc,rfl⟩:=hown.form;go_wp2;go_ret;exact⟨_,rfl,hown,hrr,hbel⟩
theorem pz(s:ByteArray)(a:Option Addr)(cap:Nat)(l:List Int)(w:World)(h:bB w a l)(hs:s.size<=2000000)(hl:l.length<=2000000) :
  Calls Tryz.prog 114 #[.string s,.slice a l.length cap] w fun e w'=>∃v,e = .returned (.tuple #[v,.bool (il s.data.toList l)])/\ar w' w.heap.size v (wm s.data.toList l)/\Below w.heap.size w w':=by
 have hlI:(l.length:Int)<=2000000:=by omega
 have Hs:=af hs;clear hs hl;by_cases h4:l.length<=4000
 ·
  have h4I:(l.length:Int)<=4000:=by omega
  have H4:=af h4;have hlong:=af (yQ l h4);have hbl:=af (kT l);go_enter Tryz.func114,Tryz.ntmps114;go_wp2_with fail;refine(Cr a cap l _ h (ae H4)).mono ?_;rintro e x1 ⟨v,rfl,hq,hb1⟩;obtain⟨va,vc,rfl⟩:=hq.formN (ae hbl);have hrow:=hq.rowN (ae hbl);clear h h4;go_wp2_with fail;refine(qy va vc l.length (blank l) _ (ae hbl) hrow (by have:=ae H4;omega)).mono ?_;rintro e x2 ⟨rfl,hb2⟩;rw[ae hlong];have hq2:=hq.later hb2 (a0a _);have hrow2:=hq2.rowN (ae hbl);have hbel2:=aj hb1 hb2;have hws:=af hbel2.size;clear hrow hb1 hb2 hq;rcases hbo:dw l with _|_
  ·
   have hno:=af (wn (s:=s.data.toList) (a02 hbo));rw[a0e (by simp)];go_wp2
   go_ret2
   refine⟨_,nj (ae hno).1.symm,?_,hbel2⟩;rw[(ae hno).2];exact ar.nil _ _
  ·
   have Hbo:=af hbo;have hge:=af (F5 (s:=s.data.toList) hbo (ae H4));have hsd:s.data.toList.length=s.size:=by simp
   have hsb:=KV hbo;have hS:(d9 l:Int)<=64000:=by have:=ae H4;omega
   have hS0:(0:Int)<=(d9 l:Int):=by omega
   have hcl:=af (z7 s.data.toList (d9 l));rw[hsd]at hge hcl;rw[a0d rfl];have hyes:=af (F4 (s:=s.data.toList) (l:=l));have hnot:=af (JO (s:=s.data.toList) (l:=l));have hV:bS s.data.toList=au s:=rfl;rw[hV]at hge hcl hyes;clear hbo hsb hsd hV;generalize hm:d9 l=m at *
   have Hm:=af hm;clear hm;by_cases he:(s.size:Int)=((m:Int)+7)/8
   ·
    have he':s.size=(m+7)/8:=by omega
    have hR0:=KC x2 s 215;have hB0:Below x2.heap.size x2 (x2.alloc (.cells #[.string s,.int .i64 0,.bool false] 215)):=(a0c _ _).alloc (a0a _) _;have hrow3:=hrow2.later hB0;have hgb:∀g o,va=some ⟨g,o,none⟩->0<l.length->g<x2.heap.size:=by
     intro g o e h0;obtain⟨g',o',e',hg',_⟩:=hrow2 (by rw[ae hbl];exact h0);rw[e]at e';simp only[a0j,a0w,a0V]at e';omega
    have HE:=af he';have HG:=af hgb;clear he' hgb hrow2;go_wp2_with fail;refine(EI x2.heap.size s va vc l _ hrow3 (ae Hbo) (ae H4) (ae Hs) hR0 (ae HG)).mono ?_;rintro e x3 ⟨v,rfl,hown,hrr,hb3⟩;have hbel3:=aj hbel2 (hB0.trans hb3);rw[ae Hm]at hrr;clear hR0 hB0 hrow3 hb3 hbel2 hq2;obtain⟨va',vc',rfl⟩:=hown.form;go_wp2_with fail;refine(pa x2.heap.size m s _ hrr (ae Hs) (by have:=ae HE;omega)).mono ?_;rintro e x4 ⟨rfl,hr4,hk4⟩;have hown4:=hk4.own hown (a0m _);have hbel4:=hbel3.trans (hk4.1.mono (ae hws));clear hown hrr hr4 hk4 hbel3;by_cases hC:au s/2 ^ m%2 ^ ((8-m%8)%8)=0
    ·
     rw[a0G hC];have hok:il s.data.toList l=true:=by
      rw[ae hge,a0G (ae HE),a0G ((ae hcl (ae HE)).1 hC)];rfl
     have HOK:=af hok;clear hok hC;go_wp2
     go_ret2
     refine⟨_,nj (ae HOK).symm,?_,hbel4⟩;rw[ae hyes (ae HOK)];exact ar.mono hown4 (Nat.le_succ_of_le (ae hws))
    ·
     rw[a0p hC];have hno:il s.data.toList l=false:=by
      rw[ae hge,a0p (fun h=>hC ((ae hcl (ae HE)).2 h))];simp
     have HNO:=af hno;have HL:=af (ae hnot hno);clear hno hC;go_wp2
     go_ret2
     refine⟨_,nj (ae HNO).symm,?_,hbel4⟩;rw[ae HL];exact ar.nil _ _
   ·
    have hno:il s.data.toList l=false:=by
     rw[ae hge,a0p (by omega)];rfl
    have hne:((s.size:Int) != ((m:Int)+7)/8)=true:=by simpa using he
    have HNO:=af hno;have HL:=af (ae hnot hno);clear hno;go_wp2
    go_ret2
    refine⟨_,nj (ae HNO).symm,?_,hbel2⟩;rw[ae HL];exact ar.nil _ _
 ·
  have hno:=af (wn (s:=s.data.toList) (l:=l) (Or.inr (by omega)));have h4I:4000<(l.length:Int):=by omega
  clear h4;go_enter Tryz.func114,Tryz.ntmps114;go_wp2
  go_ret2
  refine⟨_,nj (ae hno).1.symm,?_,a0c _ _⟩;rw[(ae hno).2];exact ar.nil _ _
end Go.Proofs.YtkdlcomfpffhhaaGreatDoor
namespace Go.Proofs.YtkdlcomfpffhhaaGreatDoor
open Corb
def bitsOf(l:List (Int×Int)):List Int:=l.map (·.2)
def numsOf(l:List (Int×Int)):List Int:=l.map (·.1)
theorem xI(V p q:Nat)(l:List Int):de V (p+q) l=de (V/2 ^ p) q l:=by
 induction l generalizing q with
 | nil=>rfl
 | cons b l ih=>
  simp only[de];rw[a2c,←a0T,←ih,a1W]
theorem Eb(l:List (Int×Int))(W:Nat)(h:aM l=true):de ((aT l).1+W*2 ^ (aT l).2) 0 (bitsOf l)=numsOf l:=by
 induction l generalizing W with
 | nil=>rfl
 | cons p l ih=>
  have h':pOk p.1 p.2=true/\aM l=true:=by simpa[aM]using h
  obtain⟨⟨b0,b1⟩,n0,n1⟩:=aV.1 h'.1;have e1:aT [p]=(p.1.toNat,p.2.toNat):=by simp[aT,nc,gg]
  have e2:aT (p :: l)=(p.1.toNat+(aT l).1*2 ^ p.2.toNat,p.2.toNat+(aT l).2):=by
   rw[show p :: l=[p]++l from rfl,kN,e1]
  have hn:p.1.toNat<2 ^ p.2.toNat:=by
   have:((p2 p.2.toNat:Nat):Int)=((2 ^ p.2.toNat:Nat):Int):=rfl;omega
  have hV:(aT (p :: l)).1+W*2 ^ (aT (p :: l)).2=p.1.toNat+((aT l).1+W*2 ^ (aT l).2)*2 ^ p.2.toNat:=by
   rw[e2];simp only;rw[a0T,a1o,a1W]
   congr 2
   rw[a1k (2 ^ p.2.toNat),a1O]
  rw[hV];show((((p.1.toNat+((aT l).1+W*2 ^ (aT l).2)*2 ^ p.2.toNat)/2 ^ 0%2 ^ p.2.toNat:Nat):Int)) :: de _ (0+p.2.toNat) (bitsOf l)=p.1 :: numsOf l;rw[Nat.pow_zero,Nat.div_one,Nat.add_mul_mod_self_right,a1t hn];rw[show 0+p.2.toNat=p.2.toNat+0 by omega,xI,Nat.add_mul_div_right _ _ (a1B _),a10 hn,a0A,ih W h'.2]
  congr 1
  omega
theorem Ej{l:List (Int×Int)}(h:aM l=true):d9 (bitsOf l)=(aT l).2:=by
 have h1:=tW l h;have h2:(d9 (bitsOf l):Int)=bp l:=by
  clear h1;induction l with
  | nil=>rfl
  | cons p l ih=>
   have h':pOk p.1 p.2=true/\aM l=true:=by simpa[aM]using h
   obtain⟨⟨b0,b1⟩,_⟩:=aV.1 h'.1;have:=ih h'.2;simp only[bitsOf,a0o,bp,a0M]at this ⊢;rw[iW];omega
 omega
theorem I9{l:List (Int×Int)}(h:lOk l=true):bS (ni l)=(aT l).1:=by
 have ha:aM l=true:=by simp only[lOk,a0i]at h;exact h.1
 rw[dt h,bR,rU,a1t];exact a0k (vn l ha) (a0Y (by omega) (by omega))
end Go.Proofs.YtkdlcomfpffhhaaGreatDoor
