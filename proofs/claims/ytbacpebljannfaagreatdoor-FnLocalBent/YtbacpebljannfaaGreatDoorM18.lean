/- Of what the proof is made: 27 texts, one behind the other. -/
import Derived.Test.YtbacpebljannfaaGreatDoorRb1
import Derived.Test.YtbacpebljannfaaGreatDoorM7
import Derived.Test.YtbacpebljannfaaGreatDoorM6
import Derived.Test.YtbacpebljannfaaGreatDoorM1
import Derived.Test.YtbacpebljannfaaGreatDoorM2
import Derived.Deep.CutRange
import Derived.Laws.IdiomStrings
import Derived.Laws.OwnMore
import Derived.Test.YtbacpebljannfaaGreatDoorWk1
import Derived.Test.YtbacpebljannfaaGreatDoorM3
import Derived.Deep.RegionHeld3
import Derived.Deep.DrawnRows
set_option linter.unusedSimpArgs false
set_option maxHeartbeats 6400000
namespace Go.Proofs.YtbacpebljannfaaGreatDoor
open Go.RowKit Corb
def Bys(w:World)(b:Nat)(v:Value)(l:List UInt8):Prop:=w.ownsRow (b+1) 5 1 v l.length (du l)
theorem Bys.form{w:World}{b:Nat}{v:Value}{l:List UInt8}(h:Bys w b v l):∃a cap,v = .slice a l.length cap:=by
 rcases h.2 with⟨e,h0⟩|⟨g,cap,_,e,_⟩
 · exact⟨none,0,by rw[e,h0]⟩
 · exact⟨_,cap,e⟩
theorem Bys.set{w:World}{b o:Nat}{v:Value}{l:List UInt8}(h:Bys w b v l)(u:Value):Bys (w.setCell ⟨b,o,none⟩ u) b v l:=
 a19 h (a:=⟨b,o,none⟩) (a0j b) u
theorem Bys.drew{w:World}{b:Nat}{v:Value}{l:List UInt8}(h:Bys w b v l):Bys w.drew b v l:=h
def Out(w:World)(b V m:Nat):Prop:=
 V<p2 m/\∃v,Three w b v (.int .i64 (V/p2 (8*(m/8)):Nat)) (.int .i64 (m%8:Nat))/\Bys w b v (leS (m/8) V)
theorem wC(V m x:Nat)(hV:V<p2 m)(hx:x<=1)(hr:m%8<7) :
  V+x*p2 m<p2 (m+1)/\(V+x*p2 m)/p2 (8*((m+1)/8))=V/p2 (8*(m/8))+x*p2 (m%8)/\leS ((m+1)/8) (V+x*p2 m)=leS (m/8) V:=by
 refine⟨add_lt V x m hV hx,?_,?_⟩
 · rw[show(m+1)/8=m/8 by omega];have:=tS V x m (m/8) (by omega);rw[show m-8*(m/8)=m%8 by omega]at this;exact this
 · rw[show(m+1)/8=m/8 by omega];exact qd (m/8) V x m (by omega)
theorem wB(V m x:Nat)(hV:V<p2 m)(hx:x<=1)(hr:m%8=7) :
  V+x*p2 m<p2 (m+1)/\(V+x*p2 m)/p2 (8*((m+1)/8))=0/\(m+1)%8=0 /\
   leS ((m+1)/8) (V+x*p2 m)=leS (m/8) V++[UInt8.ofNat (V/p2 (8*(m/8))+x*p2 (m%8))]:=by
 have h1:=add_lt V x m hV hx;refine⟨h1,?_,by omega,?_⟩
 ·
  apply a2j;have:p2 (8*((m+1)/8))=2 ^ (m+1):=by unfold p2;rw[show 8*((m+1)/8)=m+1 by omega]
  rw[this];exact h1
 · rw[show(m+1)/8=m/8+1 by omega];have a:=qd (m/8) V x m (by omega);have d:=tS V x m (m/8) (by omega);rw[show m-8*(m/8)=m%8 by omega]at d;have hl:=ug (V+x*2 ^ m) (m+1) (m/8) h1 (by omega);rw[show m+1-8*(m/8)=8 by omega]at hl;show leS (m/8) (V+x*2 ^ m)++[UInt8.ofNat ((V+x*2 ^ m)/2 ^ (8*(m/8))%256)]=_;rw[a1e hl,a,d];rfl
theorem qb(V m:Nat)(hV:V<p2 m):V/p2 (8*(m/8))<p2 (m%8):=by
 have:=ug V m (m/8) hV (by omega);rw[show m-8*(m/8)=m%8 by omega]at this;exact this
theorem ng(k:Nat)(h:k<256):(UInt8.ofNat k).toNat=k:=by
 have:k%256=k:=a1e h;simp[this]
theorem rE{w W2 WA w':World}{b:Nat}{v v' v1 v2:Value}{l:List UInt8}{x:UInt8}(T2:Three W2 b v v1 v2)(Y2:Bys W2 b v l)(B2:Below b w W2)
  (hWA:Below (b+1) W2 WA) (hown:w'.ownsRow (b+1) 5 1 v' (l.length+1) (du l++[.int .u8 (x.toNat:Int)])) (hgrow:WA.grownBy w' v.ownBlock) :
  (∃g cap,v' = .slice (some ⟨g,0,none⟩) (l.length+1) cap)/\Three w' b v v1 v2/\Bys w' b v' (l++[x])/\Below b w w':=by
 have hlt:=T2.2.2.2.2.2.2;have hlt2:=a0f hlt hWA.size;have hblk:∀k,v.ownBlock=some k->b+1<=k:=fun k hk=>(Y2.lt k hk).1;have hb:Below (b+1) W2 w':=hWA.grown hgrow (by omega) hblk;refine⟨?_,T2.kept hb,?_,B2.trans (hb.mono (by omega))⟩
 ·
  rcases hown.2 with⟨_,h0⟩|⟨g,cap,_,e,_⟩
  · omega
  · exact⟨g,cap,e⟩
 · show w'.ownsRow (b+1) 5 1 v' (l++[x]).length (du (l++[x]));simpa[du]using hown
theorem EG(n k:Nat):n%p2 (k+1)=n%p2 k+n/p2 k%2*p2 k:=wk n k
theorem uD(V n k m:Nat):V+n%p2 (k+1)*p2 m=V+n%p2 k*p2 m+n/p2 k%2*p2 (m+k):=by
 rw[EG,a12,a15,show p2 k*p2 m=p2 (m+k) by unfold p2;rw[←a0X,Nat.add_comm]];omega
theorem vF(n k:Nat):n/p2 k/2=n/p2 (k+1):=nl n k
theorem nN(b V m:Nat)(num bits:Int)(w:World)(h:Out w b V m)(n0:0<=num)(n1:num<65536)(b0:0<=bits)(b1:bits<=16)(hm:m<=100000) :
  Calls Tryz.prog 125 #[.pointer (some ⟨b,0,none⟩),.int .i64 num,.int .i64 bits] w fun e w'=>e = .returned (.tuple #[]) /\
   Out w' b (V+num.toNat%p2 bits.toNat*p2 m) (m+bits.toNat)/\Below b w w':=by
 obtain⟨n,rfl⟩:=a0t n0;obtain⟨c,rfl⟩:=a0t b0;rw[a0y,a0y];obtain⟨i0,hi,hz0,hz1,hz2⟩:=a0x Tryz.infoU8;go_enter Tryz.func125,Tryz.ntmps125;go_wp2
 go_loopw [1,6] (fun x i wr=>∃k:Nat,k<=c/\i = .int .i64 k/\x = .int .i64 (n/p2 k:Nat)/\Out wr b (V+n%p2 k*p2 m) (m+k)/\Below b w wr) (fun _ i _=>c-(intOf i).toNat)
 case atStart=>exact⟨0,a0m _,rfl,by simp[p2],by simpa[p2,a1C]using h,a0c _ _⟩
 case round=>
  obtain⟨k,hk,rfl,rfl,hout,hbel⟩:=hrel;by_cases hlt:k<c
  ·
   have hval:=af (uD V n k m);have hhalf:=af (vF n k);have hnk:n/p2 k<=n:=a16 _ _;obtain⟨hV,v,htr,hby⟩:=hout;obtain⟨sa,scap,rfl⟩:=hby.form;have hlb:=qb (V+n%p2 k*p2 m) (m+k) hV;generalize V+n%p2 k*p2 m=V1 at *
   generalize hm1:m+k=m1 at *
   have hx:n/p2 k%2<=1:=by omega
   have hxI:((n/p2 k:Nat):Int)%2=((n/p2 k%2:Nat):Int):=by omega
   have hnkI:((n/p2 k:Nat):Int)<65536:=by omega
   have hp7:p2 (m1%8)<=128:=rB (m1%8) 7 (by omega);have hXle:n/p2 k%2*p2 (m1%8)<=1*p2 (m1%8):=a2i _ hx;have hmul:((n/p2 k%2:Nat):Int)*((p2 (m1%8):Nat):Int)=((n/p2 k%2*p2 (m1%8):Nat):Int):=by simp
   have hroom:=wC V1 m1 (n/p2 k%2) hV hx;have hfull:=wB V1 m1 (n/p2 k%2) hV hx;have hr8:m1%8<8:=a1k _ (by omega);have hm1le:m1<=100016:=by omega
   have hbl:(leS (m1/8) V1).length=m1/8:=aX _ _;generalize n/p2 k=nk at *
   generalize hxx:nk%2=x at *
   generalize hLL:V1/p2 (8*(m1/8))=L at *
   generalize hrr:m1%8=r at *
   generalize hPP:p2 r=P at *
   generalize hXX:x*P=X at *
   have HPP:=af hPP;have Hm1:=af hm1;have Hrr:=af hrr;have Hroom:=af hroom;have Hfull:=af hfull;have Hx:=af hxx;clear hm1 hLL hrr hPP hXX hV hroom hfull hxx hx hnk;obtain⟨k0,k1,k2,f0,f1,f2,hbw⟩:=htr;have htr:Hid (Three wr b _ _ _):=⟨k0,k1,k2,f0,f1,f2,hbw⟩;have hrI:(r:Int)<8:=by omega
   have hLI:(L:Int)<128:=by omega
   have hXI:(X:Int)<=128:=by omega
   have hkc:(k:Int)<(c:Int):=by omega
   have Hr8:=af hr8;have Hm1le:=af hm1le;have Hk:=af hk;have HLX:Hid (IntKind.i64.wrap ((L:Int)+IntKind.i64.wrap ((nk:Int).tmod 2*(P:Int)))=(L:Int)+(X:Int)):=by
    show IntKind.i64.wrap ((L:Int)+IntKind.i64.wrap ((nk:Int).tmod 2*(P:Int)))=(L:Int)+(X:Int);rw[a3c (by omega),hxI,hmul,df (X:Int) (by omega) (by omega),df ((L:Int)+(X:Int)) (by omega) (by omega)]
   clear hr8 hm1le hp7 hXle hlb hk hm;go_wp2_with fail;go_cut[]from 7 to 62 (fun wc=>wc=(wr.setCell ⟨b,1,none⟩ (.int .i64 ((L:Int)+(X:Int)))).drew)
   case first=>
    go_region_with (go_at_call 160;refine(oI _ _ (by omega)).mono ?_;rintro e w' ⟨rfl,rfl⟩;rw[a0y,ae HPP])
    all_goals
     go_wp2_with fail
     go_meet
     exact by rw[ae HLX]
   case rest=>
    have T1:=((ae htr).set1 (.int .i64 ((L:Int)+(X:Int)))).drew;have Y1:=(hby.set (o:=1) (.int .i64 ((L:Int)+(X:Int)))).drew;have B1:Below b w _:=(ag hbel (o:=1) (a0a _) (.int .i64 ((L:Int)+(X:Int)))).drew;rw[←hcut]at T1 Y1 B1;clear hcut hby hbel htr k0 k1 k2 f0 f1 f2 hbw hmul hxI;have T1':=af T1;obtain⟨k0,k1,k2,f0,f1,f2,hbw⟩:=T1;by_cases hr7:(r:Int)=7
    ·
     have hr7N:r=7:=by omega
     obtain⟨o1,o2,o3,o4⟩:=ae Hfull hr7N;have O1:=af o1;have O2:=af o2;have O3:=af o3;have O4:=af o4;have hLX:L+X<256:=by omega
     have hbv:=af (ng (L+X) hLX);have hbI:IntKind.u8.wrap ((L:Int)+(X:Int))=(L:Int)+(X:Int):=by
      rw[IntKind.wrap_u8'];omega
     subst hr7N;clear o1 o2 o3 o4 hr7 hLX;have T2:=(ae T1').set2 (.int .i64 8);have Y2:=Y1.set (o:=2) (.int .i64 8);have B2:Below b w _:=ag B1 (o:=2) (a0a _) (.int .i64 8);have hlen:=af hbl;clear hbl;go_wp2_with fail;generalize wc.setCell ⟨b,2,none⟩ (.int .i64 8)=W2 at *
     clear k0 k1 k2 f0 f1 f2 T1' Y1 B1;have T2':=af T2;obtain⟨k0,k1,k2,f0,f1,f2,hb2⟩:=T2;have hbv':Hid (((UInt8.ofNat (L+X)).toNat:Int)=(L:Int)+(X:Int)):=by
      show((UInt8.ofNat (L+X)).toNat:Int)=(L:Int)+(X:Int);rw[ae hbv];omega
     have hl2:(leS (m1/8) V1).length<=20000:=by have:=ae hlen;have:=ae Hm1le;omega
     have Hl2:=af hl2;clear hl2;go_cut[]from 7 to 62 (fun wc2=>∃v',Three wc2 b v' (.int .i64 ((L:Int)+(X:Int))) (.int .i64 8)/\Bys wc2 b v' (leS (m1/8) V1++[UInt8.ofNat (L+X)])/\Below b w wc2)
     case first=>
      go_region_law (refine bz rfl (.tmp 47) (.tmp 53) 33 rfl (b+1) 5 i0 (.int .u8 0) 1 1 a03 hi hz0 hz1 hz2 rfl (by decide) _ _ _ (by simp[Act.eval]) (Y2.alloc _) ⟨W2.heap.size,0,none⟩ 1 1 [.int .u8 ((L:Int)+(X:Int))] (by simp[Act.eval]) rfl (by intro j u hj;match j,hj with | 0,hj=>simp at hj;subst hj;simp[Addr.add]) (by intro u hu;simp at hu;subst hu;rfl) (by have:=ae Hl2;unfold maxLen;omega) (by have:=ae Hl2;omega) (by simp;omega) ?_;intro v' w' hown hgrow hnil;clear hnil;rw[←ae hbv']at hown;obtain⟨⟨g',cap',rfl⟩,T3,Y3,B3⟩:=rE (ae T2') Y2 B2 (by first|exact(a0c _ _).alloc (by omega) _|exact((a0c _ _).alloc (by omega) _).drew) hown hgrow;clear hown hgrow;have T3':=af T3;obtain⟨q0,q1,q2,e0,e1,e2,hb3⟩:=T3)
      all_goals
       go_wp2_with fail
       go_meet
       exact⟨_,(ae T3').set0 _,Y3.set _,ag B3 (a0a _) _⟩
     case rest=>
      obtain⟨v',T4,Y4,B4⟩:=hcut;clear k0 k1 k2 f0 f1 f2 T2' Y2 B2 hb2;obtain⟨va,vc,rfl⟩:=Y4.form;have T4':=af T4;obtain⟨k0,k1,k2,f0,f1,f2,hb4⟩:=T4;go_wp2;go_roundw
      case rel=>
       refine⟨k+1,by have:=ae Hk;omega,by go_num,by rw[←ae hhalf];go_num,?_,ag (ag B4 (a0a _) _) (a0a _) _⟩;rw[ae hval,show m+(k+1)=m1+1 by have:=ae Hm1;omega];refine⟨ae O1,.slice va (leS (m1/8) V1++[UInt8.ofNat (L+X)]).length vc,?_,?_⟩
       · rw[ae O2,ae O3];exact((ae T4').set1 _).set2 _
       · rw[ae O4];exact(Y4.set _).set _
      case measure=>simp[intOf];omega
    ·
     have hr8f:((r:Int)+1 == 8)=false:=by simp;omega
     have hlt7:r<7:=by omega
     obtain⟨o1,o2,o3⟩:=ae Hroom hlt7;have O1:=af o1;have O2:=af o2;have O3:=af o3;have hm18:Hid ((m1+1)%8=r+1):=by show(m1+1)%8=r+1;have:=ae Hrr;omega
     clear o1 o2 o3 hlt7 hr7;go_wp2;go_roundw
     case rel=>
      refine⟨k+1,by have:=ae Hk;omega,by go_num,by rw[←ae hhalf];go_num,?_,ag B1 (a0a _) _⟩;rw[ae hval,show m+(k+1)=m1+1 by have:=ae Hm1;omega];refine⟨ae O1,.slice sa (leS (m1/8) V1).length scap,?_,?_⟩
      · rw[ae O2,ae hm18];exact(ae T1').set2 _
      · rw[ae O3];exact Y1.set _
     case measure=>simp[intOf];omega
  ·
   have hkc:k=c:=by omega
   subst hkc;go_wp2
   go_end0
   exact⟨rfl,hout,hbel⟩
def mM(l:List (Int×Int)):List (Nat×Nat):=l.map (fun p=>(p.1.toNat,p.2.toNat))
def cG(l:List (Int×Int)):Nat×Nat:=gx (0,0) (mM l)
def fB(l:List (Int×Int)):List UInt8:=leS (((cG l).2+7)/8) (cG l).1
def oO(l:List (Int×Int)):List UInt8:=if lOk l=true then fB l else []
theorem fy{l:List (Int×Int)}(h:lOk l=true):oO l=fB l:=a0d h
theorem Gn{l:List (Int×Int)}(h:lOk l=false):oO l=[]:=a0e (by simp[h])
theorem Cq(l:List (Int×Int))(k:Nat)(h:k<l.length):cG (l.take (k+1)) =
  ((cG (l.take k)).1+(l.getD k (0,0)).1.toNat*p2 (cG (l.take k)).2,(cG (l.take k)).2+(l.getD k (0,0)).2.toNat):=by
 rw[a1a h,cG,mM,a0J,lf];simp only[a0K,a1N,gx];have e:l.getD k (0,0)=l[k]:=by simp[List.getD,h]
 rw[e];rfl
theorem Cp(l:List (Int×Int))(h:bw l=true):((cG l).2:Int)=bZ l:=by
 have key:∀(m:List (Int×Int)) (s:Nat×Nat),bw m=true->((gx s (mM m)).2:Int)=(s.2:Int)+bZ m:=by
  intro m;induction m with
  | nil=>intro s _;simp[mM,gx,bZ]
  | cons p m ih=>
   intro s hm;simp only[bw,a1E,a0w]at hm;have hp:=aV.1 hm.1;have:=ih (s.1+p.1.toNat*2 ^ s.2,s.2+p.2.toNat) hm.2;simp only[mM,a0K,gx]at this ⊢;rw[this];simp only[bZ,a0K,a0R];omega
 have:=key l (0,0) h;simpa[cG]using this
theorem GG(l:List (Int×Int))(h:bw l=true):(cG l).1<p2 (cG l).2:=by
 have key:∀(m:List (Int×Int)) (s:Nat×Nat),s.1<p2 s.2->bw m=true->(gx s (mM m)).1<p2 (gx s (mM m)).2:=by
  intro m;induction m with
  | nil=>intro s hs _;exact hs
  | cons p m ih=>
   intro s hs hm;simp only[bw,a1E,a0w]at hm;have hp:=aV.1 hm.1;have hn:p.1.toNat<p2 p.2.toNat:=by omega
   exact ih _ (Ey s.1 s.2 p.1.toNat p.2.toNat hs hn) hm.2
 exact key l (0,0) (by decide) h
theorem uA(w:World)(t:TypeId):Out (w.alloc (.cells #[.slice none 0 0,.int .i64 0,.int .i64 0] t)) w.heap.size 0 0:=by
 refine⟨by decide,.slice none 0 0,⟨by simp,by simp,by simp,by simp,by simp,by simp,by simp⟩,?_⟩;exact a0Y _ _ _ _
theorem zW{a b:List UInt8}(h:a=b):Ending.returned (.string ⟨a.toArray⟩) = .returned (.string ⟨b.toArray⟩):=by rw[h]
theorem jE{w:World}{b:Nat}{v:Value}{l:List UInt8}(h:Bys w b v l) :
  (convert 33 9 v).run Tryz.prog w = .ok (.string ⟨l.toArray⟩) w:=by
 rcases h.2 with⟨e,h0⟩|⟨g,cap,_,e,_⟩
 · subst e;have hl:l=[]:=a2q h0;subst hl;rw[run_convert_bytes_string w _ _ _ none 0 0 a03 a1Q a1R];rfl
 ·
  subst e;exact a3h w _ _ _ ⟨g,0,none⟩ cap l a03 a1Q a1R (fun j hj=>by
   have:=h.cells (g:=g) rfl j (.int .u8 (l[j].toNat:Int)) (by simp[du,hj]);exact this)
theorem mt.below{w w':World}{a:Option Addr}{l:List (Int×Int)}{B:Nat}(h:mt w a l)(hB:w.heap.size<=B)(hb:Below B w w'):mt w' a l:=h.later (hb.mono hB)
theorem Two.kept{w w':World}{b:Nat}{v0 v1:Value}(h:Two w b v0 v1)(hb:Below (b+1) w w'):Two w' b v0 v1:=by
 obtain⟨c0,c1,f0,f1,hlt⟩:=h;have hs:=a0j b;exact⟨(hb.cell (p:=⟨b,0,none⟩) hs).trans c0,(hb.cell (p:=⟨b,1,none⟩) hs).trans c1,(hb.frozen (p:=⟨b,0,none⟩) hs).trans f0,(hb.frozen (p:=⟨b,1,none⟩) hs).trans f1,a0f hlt hb.size⟩
def iZ(w:World)(b V m:Nat):Prop:=
 V<p2 m/\∃v,Two w b v (.int .i64 (m:Int))/\Bys w b v (leS ((m+7)/8) V)
theorem EA{w W2 WA w':World}{b:Nat}{v v' v1:Value}{l:List UInt8}{x:UInt8}(T2:Two W2 b v v1)(Y2:Bys W2 b v l)(B2:Below b w W2)
  (hWA:Below (b+1) W2 WA) (hown:w'.ownsRow (b+1) 5 1 v' (l.length+1) (du l++[.int .u8 (x.toNat:Int)])) (hgrow:WA.grownBy w' v.ownBlock) :
  (∃g cap,v' = .slice (some ⟨g,0,none⟩) (l.length+1) cap)/\Two w' b v v1/\Bys w' b v' (l++[x])/\Below b w w':=by
 have hlt:=T2.2.2.2.2;have hlt2:=a0f hlt hWA.size;have hblk:∀k,v.ownBlock=some k->b+1<=k:=fun k hk=>(Y2.lt k hk).1;have hb:Below (b+1) W2 w':=hWA.grown hgrow (by omega) hblk;refine⟨?_,T2.kept hb,?_,B2.trans (hb.mono (by omega))⟩
 ·
  rcases hown.2 with⟨_,h0⟩|⟨g,cap,_,e,_⟩
  · omega
  · exact⟨g,cap,e⟩
 · show w'.ownsRow (b+1) 5 1 v' (l++[x]).length (du (l++[x]));simpa[du]using hown
theorem Bys.at{w:World}{b g cap j:Nat}{l:List UInt8}(h:Bys w b (.slice (some ⟨g,0,none⟩) l.length cap) l)(hj:j<l.length) :
  w.cell? ⟨g,j,none⟩=some (.int .u8 ((l.getD j 0).toNat:Int))/\w.frozen? ⟨g,j,none⟩=false/\b<g:=by
 refine⟨?_,a2w h j,(a0G h g rfl).1⟩;rw[a02 h j (by omega)];simp[du,hj,List.getD]
theorem Bys.put{w:World}{b g cap j:Nat}{l:List UInt8}(h:Bys w b (.slice (some ⟨g,0,none⟩) l.length cap) l)(x:UInt8) :
  Bys (w.setCell ⟨g,j,none⟩ (.int .u8 (x.toNat:Int))) b (.slice (some ⟨g,0,none⟩) l.length cap) (l.set j x):=by
 have:=a1O h j (.int .u8 (x.toNat:Int));show World.ownsRow _ _ _ _ _ (l.set j x).length (du (l.set j x));rw[a18];have e:du (l.set j x)=(du l).set j (.int .u8 (x.toNat:Int)):=by simp[du,List.map_set]
 rw[e];exact this.1
theorem Iu(V m x:Nat)(hV:V<p2 m)(hx:x<=1) :
  V+x*p2 m<p2 (m+1)/\leS ((m+1+7)/8) (V+x*p2 m)=(leS (m/8+1) V).set (m/8) (UInt8.ofNat (V/p2 (8*(m/8))+x*p2 (m%8))):=by
 refine⟨add_lt V x m hV hx,?_⟩;rw[show(m+1+7)/8=m/8+1 by omega];exact F5 (m/8) V x m rfl hx hV
theorem It(V m:Nat)(hV:V<p2 m)(hr:m%8=0):leS ((m+7)/8) V++[0]=leS (m/8+1) V:=by
 rw[show(m+7)/8=m/8 by omega];exact(F4 (m/8) V (by rw[show 8*(m/8)=m by omega];exact hV)).symm
theorem Is(V m:Nat)(hr:m%8≠0):leS ((m+7)/8) V=leS (m/8+1) V:=by
 rw[show(m+7)/8=m/8+1 by omega]
theorem Iq(V m:Nat)(hV:V<p2 m):((leS (m/8+1) V).getD (m/8) 0).toNat=V/p2 (8*(m/8)):=by
 rw[zG _ _ _ (by omega)];have h1:=qb V m hV;have h2:=rB (m%8) 7 (by omega);have h3:p2 7=128:=rfl;have e:V/2 ^ (8*(m/8))%256=V/p2 (8*(m/8)):=a1e (by show V/p2 (8*(m/8))<256;omega);rw[e,ng _ (by omega)]
def Box(w:World)(P:Nat)(x y:Int):Prop:=w.heap[P]?=some (.cells #[.int .i64 x,.int .i64 y] 114)
theorem zm(w:World)(x y:Int):Box (w.alloc (.cells #[.int .i64 x,.int .i64 y] 114)) w.heap.size x y:=by
 show(w.heap.push _)[w.heap.size]?=_;simp
theorem Box.cells{w:World}{P:Nat}{x y:Int}(h:Box w P x y):w.cell? ⟨P,0,none⟩=some (.int .i64 x)/\w.cell? ⟨P,1,none⟩=some (.int .i64 y)/\P<w.heap.size:=by
 refine⟨by simp[World.cell?,show w.heap[P]?=_ from h],by simp[World.cell?,show w.heap[P]?=_ from h],?_⟩;have h':w.heap[P]?=some _:=h;exact(Array.getElem?_eq_some_iff.1 h').1
theorem Box.ne{w:World}{P b:Nat}{x y:Int}{v:Value}{l:List UInt8}(h:Box w P x y)(hy:Bys w b v l)(k:Nat)(hk:v.ownBlock=some k):k≠P:=by
 rintro rfl;rcases hy.2 with⟨e,_⟩|⟨g,cap,cur,e,_,hg,_⟩
 · subst e;simp[Value.ownBlock]at hk
 · subst e;simp only[Value.ownBlock,a0n]at hk;subst hk;have h':w.heap[g]?=some (.cells #[.int .i64 x,.int .i64 y] 114):=h;rw[h']at hg;simp at hg
theorem Box.set{w:World}{P b o:Nat}{x y:Int}(h:Box w P x y)(hb:b≠P)(u:Value):Box (w.setCell ⟨b,o,none⟩ u) P x y:=by
 show(w.setCell ⟨b,o,none⟩ u).heap[P]?=_;rw[a0u w ⟨b,o,none⟩ u P (fun e=>hb e.symm)];exact h
theorem Box.drew{w:World}{P:Nat}{x y:Int}(h:Box w P x y):Box w.drew P x y:=h
theorem Box.alloc{w:World}{P:Nat}{x y:Int}(h:Box w P x y)(o:Obj):Box (w.alloc o) P x y:=by
 show(w.alloc o).heap[P]?=_;rw[a1g w o P h.cells.2.2];exact h
theorem Box.grown{w w':World}{P b:Nat}{x y:Int}{v:Value}{l:List UInt8}(h:Box w P x y)(hy:Bys w b v l)(hg:w.grownBy w' v.ownBlock):Box w' P x y:=by
 show w'.heap[P]?=_;rw[hg.block P h.cells.2.2 (fun e=>h.ne hy P e.symm rfl)];exact h
def bS(b:Nat)(w w':World):Prop:=w.heap.size<=w'.heap.size/\∀k,k<w.heap.size->k≠b->(∀cur fr,w.heap[k]?≠some (.cells cur 5 fr))->w'.heap[k]?=w.heap[k]?
theorem bS.refl(b:Nat)(w:World):bS b w w:=⟨a0a _,fun _ _ _ _=>rfl⟩
theorem bS.trans{b:Nat}{w w1 w2:World}(h:bS b w w1)(k:bS b w1 w2):bS b w w2:=
 ⟨a0I h.1 k.1,fun j hj hb ht=>by
  have e:=h.2 j hj hb ht;rw[k.2 j (a0f hj h.1) hb (fun cur fr=>by rw[e];exact ht cur fr),e]⟩
theorem bS.drew{b:Nat}{w w':World}(h:bS b w w'):bS b w w'.drew:=h
theorem bS.alloc{b:Nat}{w w':World}(h:bS b w w')(o:Obj):bS b w (w'.alloc o):=
 h.trans ⟨by simp,fun j hj _ _=>a1g w' o j hj⟩
theorem bS.set{b o:Nat}{w w':World}(h:bS b w w')(u:Value):bS b w (w'.setCell ⟨b,o,none⟩ u):=
 h.trans ⟨by simp,fun j _ hb _=>a0u w' ⟨b,o,none⟩ u j hb⟩
theorem bS.setRow{b c g j cap:Nat}{w w':World}{l:List UInt8}(h:bS b w w')(hy:Bys w' c (.slice (some ⟨g,0,none⟩) l.length cap) l)(u:Value):bS b w (w'.setCell ⟨g,j,none⟩ u):=by
 refine h.trans ⟨by simp,fun k _ _ ht=>?_⟩;by_cases e:k=g
 ·
  subst e;rcases hy.2 with⟨e,_⟩|⟨g',cap',cur,e,_,hg,_⟩
  · simp at e
  · simp only[a0O,a0n,a0z,a0Q,true_and]at e;obtain⟨rfl,_⟩:=e;exact absurd hg (ht cur (0,0))
 · exact a0u w' ⟨g,j,none⟩ u k e
theorem bS.grown{b c:Nat}{w w' w'':World}{v:Value}{l:List UInt8}(h:bS b w w')(hy:Bys w' c v l)(hg:w'.grownBy w'' v.ownBlock):bS b w w'':=by
 refine h.trans ⟨hg.size,fun k hk _ ht=>?_⟩;refine hg.block k hk (fun e=>?_);rcases hy.2 with⟨e',_⟩|⟨g',cap',cur,e',_,hg',_⟩
 · subst e';simp[Value.ownBlock]at e
 · subst e';simp only[Value.ownBlock,a0n]at e;subst e;exact ht cur (0,0) hg'
theorem zj(B X r:Nat)(hB:B<p2 r)(hr:r<8)(hX:X=0∨X=p2 r):bits .or .u8 (B:Int) (X:Int)=((B+X:Nat):Int):=by
 have h7:=rB r 7 (by omega);have h3:p2 7=128:=rfl;rw[u8_or_nat B X (by omega) (by omega)]
 congr 1
 rw[Nat.or_comm];rcases hX with rfl|rfl
 · simp
 · rw[nat_join r (p2 r) B (by unfold p2;simp) hB];omega
theorem Two.other{w:World}{b g o:Nat}{v0 v1:Value}(h:Two w b v0 v1)(hg:g≠b)(u:Value):Two (w.setCell ⟨g,o,none⟩ u) b v0 v1:=by
 obtain⟨c0,c1,f0,f1,hb⟩:=h;refine⟨?_,?_,by simpa using f0,by simpa using f1,by simpa using hb⟩
 · rw[World.cell?_setCell_other _ _ _ _ (by simp only[ne_eq,a0z];omega)];exact c0
 · rw[World.cell?_setCell_other _ _ _ _ (by simp only[ne_eq,a0z];omega)];exact c1
theorem tI{w wr:World}{b g cap V1 m1 x L X:Nat}{P:Nat}{p q:Int}(htr:Two wr b (.slice (some ⟨g,0,none⟩) (leS (m1/8+1) V1).length cap) (.int .i64 (m1:Int)))
  (hput:Bys (wr.setCell ⟨g,m1/8,none⟩ (.int .u8 ((UInt8.ofNat (L+X)).toNat:Int))) b (.slice (some ⟨g,0,none⟩) (leS (m1/8+1) V1).length cap) ((leS (m1/8+1) V1).set (m1/8) (UInt8.ofNat (L+X))))
  (hw1:V1+x*p2 m1<p2 (m1+1)) (hw2:leS ((m1+1+7)/8) (V1+x*p2 m1)=(leS (m1/8+1) V1).set (m1/8) (UInt8.ofNat (L+X)))
  (hbv:(UInt8.ofNat (L+X)).toNat=L+X) (hgb:b<g) (hgP:g≠P) (hPb:P≠b) (hbox:Box wr P p q) (hbel:Below b w wr) (hby0:Bys wr b (.slice (some ⟨g,0,none⟩) (leS (m1/8+1) V1).length cap) (leS (m1/8+1) V1)) (hkp:bS b w wr) :
  iZ ((wr.setCell ⟨g,m1/8,none⟩ (.int .u8 ((L:Int)+(X:Int)))).setCell ⟨b,1,none⟩ (.int .i64 ((m1:Int)+1))).drew b (V1+x*p2 m1) (m1+1) /\
  Box ((wr.setCell ⟨g,m1/8,none⟩ (.int .u8 ((L:Int)+(X:Int)))).setCell ⟨b,1,none⟩ (.int .i64 ((m1:Int)+1))).drew P p q /\
  Below b w ((wr.setCell ⟨g,m1/8,none⟩ (.int .u8 ((L:Int)+(X:Int)))).setCell ⟨b,1,none⟩ (.int .i64 ((m1:Int)+1))).drew /\
  bS b w ((wr.setCell ⟨g,m1/8,none⟩ (.int .u8 ((L:Int)+(X:Int)))).setCell ⟨b,1,none⟩ (.int .i64 ((m1:Int)+1))).drew:=by
 have e:((UInt8.ofNat (L+X)).toNat:Int)=(L:Int)+(X:Int):=by rw[hbv];omega
 rw[e]at hput;refine⟨⟨hw1,.slice (some ⟨g,0,none⟩) (leS (m1/8+1) V1).length cap,?_,?_⟩,?_,?_,?_⟩
 · exact((htr.other (by omega) _).set1 _).drew
 · rw[hw2];exact(hput.set _).drew
 · exact((hbox.set (by omega) _).set (by omega) _).drew
 · exact(ag (ag hbel (by omega) _) (a0a _) _).drew
 · exact((hkp.setRow hby0 _).set _).drew
theorem Ew(b V m:Nat)(num bits:Int)(w:World)(h:iZ w b V m)(hp:pOk num bits=true)(hm:m<=100000) :
  Calls Tryz.prog 253 #[.pointer (some ⟨b,0,none⟩),.agg #[.int .i64 num,.int .i64 bits]] w fun e w'=>e = .returned (.int .i64 num) /\
   iZ w' b (V+num.toNat*p2 m) (m+bits.toNat)/\Below b w w'/\bS b w w':=by
 obtain⟨⟨b0,b1⟩,n0,n1⟩:=aV.1 hp;have hq:=(yP bits b1).2;obtain⟨n,rfl⟩:=a0t n0;obtain⟨c,rfl⟩:=a0t b0;rw[a0y,a0y];rw[a0y]at n1 hq;have hnmod:Hid (n%p2 c=n):=a1e (by omega);have hn2:(n:Int)<65536:=by omega
 obtain⟨i0,hi,hz0,hz1,hz2⟩:=a0x Tryz.infoU8;have hbw:b<w.heap.size:=by obtain⟨_,v,ht,_⟩:=h;exact ht.2.2.2.2
 have hbox0:=zm w (n:Int) (c:Int);have h0:iZ (w.alloc (.cells #[.int .i64 (n:Int),.int .i64 (c:Int)] 114)) b V m:=by
  obtain⟨hV,v,ht,hy⟩:=h;exact⟨hV,v,ht.kept ((a0c _ _).alloc (by omega) _),a0p hy _⟩
 have hbel0:Below b w (w.alloc (.cells #[.int .i64 (n:Int),.int .i64 (c:Int)] 114)):=(a0c _ _).alloc (by omega) _;clear n1 hq h hp;go_enter Tryz.func253,Tryz.ntmps253;go_wp2_with fail
 go_loopw [5,8] (fun _ i wr=>∃k:Nat,k<=c/\i = .int .i64 k/\iZ wr b (V+n%p2 k*p2 m) (m+k)/\Box wr w.heap.size n c/\Below b w wr/\bS b w wr) (fun _ i _=>c-(intOf i).toNat)
 case atStart=>exact⟨0,a0m _,rfl,by simpa[p2,a1C]using h0,hbox0,hbel0,(bS.refl _ _).alloc _⟩
 case round=>
  obtain⟨k,hk,rfl,hout,hbox,hbel,hkp⟩:=hrel;clear h0 hbox0 hbel0;obtain⟨bc0,bc1,bclt⟩:=hbox.cells;by_cases hlt:k<c
  ·
   have hval:=af (uD V n k m);have hnk:n/p2 k<=n:=a16 _ _;have Hsh:Hid ((n:Int)/2 ^ k=((n/p2 k:Nat):Int)):=(Int.natCast_ediv n (2 ^ k)).symm;obtain⟨hV,v,htr,hby⟩:=hout;obtain⟨sa,scap,rfl⟩:=hby.form;have hlb:=qb (V+n%p2 k*p2 m) (m+k) hV;generalize V+n%p2 k*p2 m=V1 at *
   generalize hm1:m+k=m1 at *
   have hx:n/p2 k%2<=1:=by omega
   have hnkI:((n/p2 k:Nat):Int)<65536:=by omega
   have hone:=kO ((n/p2 k:Nat):Int) (Int.natCast_nonneg _) (Int.lt_trans hnkI (by omega));have hxI:((n/p2 k:Nat):Int)%2=((n/p2 k%2:Nat):Int):=by omega
   rw[hxI]at hone;have hp7:p2 (m1%8)<=128:=rB (m1%8) 7 (by omega);have hXle:n/p2 k%2*p2 (m1%8)<=1*p2 (m1%8):=a2i _ hx;have hmul:((n/p2 k%2:Nat):Int)*(2:Int) ^ (m1%8)=((n/p2 k%2*p2 (m1%8):Nat):Int):=by rw[a2S,iT]
   have hX01:n/p2 k%2*p2 (m1%8)=0∨n/p2 k%2*p2 (m1%8)=p2 (m1%8):=by
    rcases (show n/p2 k%2=0∨n/p2 k%2=1 by omega)with e|e<;>rw[e]<;>simp
   obtain⟨hw1,hw2⟩:=Iu V1 m1 (n/p2 k%2) hV hx;have hwb:=Iq V1 m1 hV;have hor:=zj (V1/p2 (8*(m1/8))) (n/p2 k%2*p2 (m1%8)) (m1%8) hlb (by omega) hX01;have hpad:=af (It V1 m1 hV);have hsame:=af (Is V1 m1);have hlen:(leS (m1/8+1) V1).length=m1/8+1:=aX _ _;have hlen0:(leS ((m1+7)/8) V1).length=(m1+7)/8:=aX _ _;have hm1le:m1<=100016:=by omega
   have hb256:V1/p2 (8*(m1/8))+n/p2 k%2*p2 (m1%8)<256:=by omega
   have hbv:=ng _ hb256;have hkc:(k:Int)<(c:Int):=by omega
   have hk16:(k:Int)<=16:=by omega
   have hr0:m1%8=0<->((m1:Int)%8=0):=by omega
   have hr8:(m1:Int)%8<8:=by omega
   have hm1I:(m1:Int)<=100016:=by omega
   have hBI:((V1/p2 (8*(m1/8)):Nat):Int)<256:=by omega
   have hXI:((n/p2 k%2*p2 (m1%8):Nat):Int)<=128:=by omega
   have hx1I:((n/p2 k%2:Nat):Int)<=1:=by omega
   have Hm1:=af hm1;have HK:=af hk;have Hlen:=af hlen;have Hlen0:=af hlen0;have Hm1le:=af hm1le;have Hw1:=af hw1;have Hw2:=af hw2;have Hwb:=af hwb;have Hbv:=af hbv;have hsh:=ae Hsh;clear Hsh hxI hX01 hlb hp7 hXle hw1 hw2 hwb hlen hlen0 hm1le hb256 hbv hnk hx hm1 hk hV hlt;generalize n/p2 k=nk at *
   generalize nk%2=x at *
   generalize x*p2 (m1%8)=X at *
   generalize V1/p2 (8*(m1/8))=L at *
   have htr':=af htr;obtain⟨k0,k1,f0,f1,hbw'⟩:=htr;have hPb:w.heap.size≠b:=by omega
   by_cases hr:m1%8=0
   ·
    have hrI:((m1:Int)%8 == 0)=true:=by simp;omega
    have hpd:=af (ae hpad hr);clear hr0 hr hpad hsame hr8 hm;have hl0:(leS ((m1+7)/8) V1).length<=20000:=by have:=ae Hlen0;have:=ae Hm1le;omega
    have Hl0:=af hl0;clear hl0;go_wp2_with (at_builtin;refine a0A _ rfl _ _ 33 rfl (b+1) 5 i0 (.int .u8 0) 1 1 a03 hi hz0 hz1 hz2 rfl (by decide) _ _ _ rfl (a0p hby _) ⟨wr.heap.size,0,none⟩ 1 1 [.int .u8 0] rfl rfl (by intro j u hj;match j,hj with | 0,hj=>simp at hj;subst hj;simp[Addr.add]) (by intro u hu;simp at hu;subst hu;rfl) (by have:=ae Hl0;unfold maxLen;omega) (by have:=ae Hl0;omega) (by simp;omega) ?_;intro v' w' hown hgrow hnil;clear hnil;have hbox':=(hbox.alloc _).grown (a0p hby _) hgrow;have hkp':=(hkp.alloc (.cells #[.int .u8 0] 5)).grown (a0p hby _) hgrow;obtain⟨⟨g,cap,rfl⟩,T3,Y3,B3⟩:=EA (x:=0) (ae htr') hby hbel ((a0c _ _).alloc (by omega) _) hown hgrow;clear hown hgrow hby hbox hbel hkp htr' k0 k1 f0 f1;have T3':=af T3;obtain⟨k0,k1,f0,f1,hb3⟩:=T3);have hlenA:(leS ((m1+7)/8) V1).length+1=(leS (m1/8+1) V1).length:=by rw[←ae hpd,a0l];rfl
    rw[hlenA]at Y3 ⊢;have T4:=(ae T3').set0 (.slice (some ⟨g,0,none⟩) (leS (m1/8+1) V1).length cap);have hby:=Y3.set (o:=0) (.slice (some ⟨g,0,none⟩) (leS (m1/8+1) V1).length cap);rw[ae hpd]at hby;have hbox:=hbox'.set (b:=b) (o:=0) (by omega) (.slice (some ⟨g,0,none⟩) (leS (m1/8+1) V1).length cap);have hkp:=hkp'.set (o:=0) (.slice (some ⟨g,0,none⟩) (leS (m1/8+1) V1).length cap);have hbel:Below b w _:=ag B3 (o:=0) (a0a _) (.slice (some ⟨g,0,none⟩) (leS (m1/8+1) V1).length cap);clear Y3 B3 T3' k0 k1 f0 f1 hbox' hkp' bc0 bc1 bclt hlenA hb3;generalize w'.setCell ⟨b,0,none⟩ (.slice (some ⟨g,0,none⟩) (leS (m1/8+1) V1).length cap)=wA at *
    have htr':=af T4;obtain⟨k0,k1,f0,f1,hb3⟩:=T4;obtain⟨bc0,bc1,bclt⟩:=hbox.cells;obtain⟨gc,gf,gb⟩:=hby.at (j:=m1/8) (by have:=ae Hlen;omega);rw[ae Hwb]at gc;have hput:=af (hby.put (j:=m1/8) (UInt8.ofNat (L+X)));have hgP:g≠w.heap.size:=hbox.ne hby g rfl;have Hby:=af hby;have Hkp:=af hkp;clear hkp;have hlenN:=ae Hlen;rw[hlenN]at k0;generalize hN:m1/8+1=N at k0;have hNI:(N:Int)=(m1:Int)/8+1:=by omega
    have hidx:(m1:Int)/8<(N:Int):=by omega
    have hgb:g≠b:=by omega
    clear hN hNI hlenN hby
    go_region
    all_goals
     go_wp2;go_roundw
     case rel=>
      have hst:=tI (ae htr') (ae hput) (ae Hw1) (ae Hw2) (ae Hbv) gb hgP hPb hbox hbel (ae Hby) (ae Hkp);refine⟨k+1,by have:=ae HK;omega,by go_num,?_,hst.2.1,hst.2.2.1,hst.2.2.2⟩;rw[ae hval,show m+(k+1)=m1+1 by have:=ae Hm1;omega];exact hst.1
     case measure=>simp[intOf];omega
   ·
    have hrI:((m1:Int)%8 == 0)=false:=by simp;omega
    have hsm:=ae hsame hr;rw[hsm]at hby k0 htr';obtain⟨g,cap,hform⟩:∃g cap,Value.slice sa (leS (m1/8+1) V1).length scap = .slice (some ⟨g,0,none⟩) (leS (m1/8+1) V1).length cap:=by
     rcases hby.2 with⟨_,h0⟩|⟨g,cap,_,e,_⟩
     · have:=ae Hlen;omega
     · exact⟨g,cap,e⟩
    rw[hform]at hby k0 htr';obtain⟨gc,gf,gb⟩:=hby.at (j:=m1/8) (by have:=ae Hlen;omega);rw[ae Hwb]at gc;have hput:=af (hby.put (j:=m1/8) (UInt8.ofNat (L+X)));have hgP:g≠w.heap.size:=hbox.ne hby g rfl;have Hby:=af hby;have Hkp:=af hkp;clear hkp;have hlenN:=ae Hlen;rw[hlenN]at k0;generalize hN:m1/8+1=N at k0;have hNI:(N:Int)=(m1:Int)/8+1:=by omega
    have hidx:(m1:Int)/8<(N:Int):=by omega
    have HN:=af hN;have HNI:=af hNI;have hgb:g≠b:=by omega
    have Hf:=af hform;clear hN hNI hlenN hform hsm hr0 hr hpad hsame hby hm hr8;go_wp2_with fail
    go_region
    all_goals
     go_wp2;go_roundw
     case rel=>
      have hst:=tI (ae htr') (ae hput) (ae Hw1) (ae Hw2) (ae Hbv) gb hgP hPb hbox hbel (ae Hby) (ae Hkp);refine⟨k+1,by have:=ae HK;omega,by go_num,?_,hst.2.1,hst.2.2.1,hst.2.2.2⟩;rw[ae hval,show m+(k+1)=m1+1 by have:=ae Hm1;omega];exact hst.1
     case measure=>simp[intOf];omega
  ·
   have hkc:k=c:=by omega
   subst hkc;rw[ae hnmod]at hout;go_wp2;go_ret;exact⟨rfl,hout,hbel,hkp⟩
def Ints(w:World)(b:Nat)(v:Value)(xs:List Int):Prop:=w.ownsRow (b+1) 3 1 v xs.length (xs.map (Value.int .i64))
theorem Ints.keep{w w':World}{b:Nat}{v:Value}{xs:List Int}(h:Ints w b v xs)(hk:bS b w w'):Ints w' b v xs:=by
 refine⟨h.1,?_⟩;rcases h.2 with e|⟨g,cap,cur,e,hb,hg,hr⟩
 · exact .inl e
 · refine .inr ⟨g,cap,cur,e,hb,?_,hr⟩;rw[hk.2 g (Array.getElem?_eq_some_iff.1 hg).1 (by omega) (fun cur' fr=>by rw[hg];simp)];exact hg
theorem Bys.other{w w':World}{b c:Nat}{v o:Value}{l:List UInt8}{xs:List Int}(h:Bys w b v l)(ho:Ints w c o xs)(hg:w.grownBy w' o.ownBlock):Bys w' b v l:=by
 refine a1P h hg ?_;cases hv:v.ownBlock with
 | none=>exact .inl rfl
 | some k=>
  refine .inr (fun e=>?_);rcases h.2 with⟨e1,_⟩|⟨g,cap,cur,e1,_,hg1,_⟩
  · subst e1;simp[Value.ownBlock]at hv
  ·
   rcases ho.2 with⟨e2,_⟩|⟨g2,cap2,cur2,e2,_,hg2,_⟩
   · subst e2;simp[Value.ownBlock]at e
   · subst e1 e2;simp only[Value.ownBlock,a0n]at hv e;subst hv;subst e;rw[hg1]at hg2;simp at hg2
theorem iZ.alloc{w:World}{b V m:Nat}(h:iZ w b V m)(o:Obj):iZ (w.alloc o) b V m:=by
 obtain⟨hV,v,ht,hy⟩:=h;exact⟨hV,v,ht.kept ((a0c _ _).alloc (by have:=ht.2.2.2.2;omega) _),a0p hy _⟩
theorem iZ.other{w w':World}{b V m:Nat}{o:Value}{xs:List Int}(h:iZ w b V m)(ho:Ints w b o xs)(hg:w.grownBy w' o.ownBlock):iZ w' b V m:=by
 obtain⟨hV,v,ht,hy⟩:=h;exact⟨hV,v,ht.kept ((a0c _ _).grown hg (by have:=ht.2.2.2.2;omega) (fun k hk=>(a0G ho k hk).1)),hy.other ho hg⟩
theorem iZ.lt{w:World}{b V m:Nat}(h:iZ w b V m):b<w.heap.size:=by
 obtain⟨hV,v,ht,hy⟩:=h;exact ht.2.2.2.2
theorem BC(a:Addr)(w:World):(method 398 176 (.pointer (some a)) "loop.example/corbel/impl.pass").run Tryz.prog w = .ok (253,.pointer (some a)) w:=by kernel_rfl
theorem AE(b:Nat)(a:Option Addr)(cap:Nat)(l:List (Int×Int))(w0 w:World)(h:mt w0 a l)(h0:Below b w0 w)(hs:w0.heap.size<=b)(hok:lOk l=true)(hw:iZ w b 0 0) :
  Calls Tryz.prog 116 #[.slice a l.length cap,.func (.method "loop.example/corbel/impl.pass") #[.iface 176 (.pointer (some ⟨b,0,none⟩))] #[]] w fun e w'=>
   (∃v,e = .returned v)/\iZ w' b (cG l).1 (cG l).2/\Below b w w':=by
 simp only[lOk,a0w,a2n]at hok;obtain⟨hall,h4⟩:=hok;have hall':=af hall;have H4:=af h4;have h4':(l.length:Int)<=4000:=by omega
 clear hall h4;obtain⟨i0,hi,hz0,hz1,hz2⟩:=a0x Tryz.infoInt;have mp:=BC ⟨b,0,none⟩;go_enter Tryz.func116,Tryz.ntmps116;go_wp2_with fail
 go_loopw [5,7,10] (fun o _ i wr=>∃(k:Nat) (xs:List Int),k<=l.length/\i = .int .i64 k/\xs.length=k/\Ints wr b o xs/\iZ wr b (cG (l.take k)).1 (cG (l.take k)).2/\Below b w wr) (fun _ _ i _=>l.length-(intOf i).toNat)
 case atStart=>exact⟨0,[],a0m _,rfl,rfl,a0Y _ _ _ _,hw,a0c _ _⟩
 case round=>
  obtain⟨k,xs,hk,rfl,hxs,hints,hout,hbel⟩:=hrel;have hltb:=hout.lt;by_cases hlt:k<l.length
  ·
   obtain⟨g,o,rfl,hg,hc⟩:=(h.below hs (h0.trans hbel)) (by omega);obtain⟨c0,c1⟩:=hc k hlt;have hmb:=Cp (l.take k) (kf (ae hall') k);obtain⟨s0,s1⟩:=yY (kf (ae hall') k);have s2:((l.take k).length:Int)<=4000:=by simp;omega
   have hml:Hid ((cG (l.take k)).2<=64000):=by show(cG (l.take k)).2<=64000;omega
   have hpk:=af (Aj (ae hall') k hlt);have hstep:=af (Cq l k hlt);have HK:=af hk;have HX:=af hxs;clear hmb s0 s1 s2 hc hk hxs hw;generalize (l.getD k (0,0)).1=x at *
   generalize (l.getD k (0,0)).2=y at *
   generalize cG (l.take k)=S at *
   go_wp2_with fail;refine(Ew b S.1 S.2 x y _ (hout.alloc _) (ae hpk) (by have:=ae hml;omega)).mono ?_;rintro e w1 ⟨rfl,hout1,hbel1,hkp1⟩;have hints1:Ints w1 b u5 xs:=Ints.keep (a0p hints _) hkp1;have hbel2:=(hbel.alloc (a0k hltb) (.cells #[.int .i64 x,.int .i64 y] 114)).trans hbel1;have hlt1:=hout1.lt;clear hout hints hbel hbel1 hkp1;go_wp2_with (at_builtin;refine a0A _ rfl _ _ 84 rfl (b+1) 3 i0 (.int .i64 0) 1 8 a0h hi hz0 hz1 hz2 rfl (by decide) _ _ _ rfl (a0p hints1 _) ⟨w1.heap.size,0,none⟩ 1 1 [.int .i64 x] rfl rfl (by intro j u hj;match j,hj with | 0,hj=>simp at hj;subst hj;simp[Addr.add]) (by intro u hu;simp at hu;subst hu;rfl) (by have:=ae HX;have:=ae H4;unfold maxLen;omega) (by have:=ae HX;have:=ae H4;omega) (by simp;omega) ?_;intro v' w2 hown hgrow hnil;clear hnil);have hout2:iZ w2 b _ _:=(hout1.alloc (.cells #[.int .i64 x] 3)).other (a0p hints1 _) hgrow;have hints2:Ints w2 b v' (xs++[x]):=by
    show World.ownsRow _ _ _ _ _ (xs++[x]).length _;simpa using hown
   have hbel3:Below b w w2:=(hbel2.alloc (a0k hlt1) _).grown hgrow (by simp;omega) (fun j hj=>a0k (a0G hints1 j hj).1);clear hown hgrow hints1 hout1 hbel2;go_wp2;go_roundw
   case rel=>exact⟨k+1,xs++[x],by have:=ae HK;omega,by go_num,by have:=ae HX;simp;omega,hints2,by rw[ae hstep];exact hout2,hbel3⟩
   case measure=>simp[intOf];omega
  ·
   have hlk:Hid (l.take k=l):=a0C (by omega);clear h hw;obtain⟨va,vc,rfl⟩:∃va vc,u5 = .slice va xs.length vc:=by
    rcases hints.2 with⟨e,h0⟩|⟨g,cp,_,e,_⟩
    · exact⟨none,0,by rw[e,h0]⟩
    · exact⟨_,cp,e⟩
   go_wp2;go_ret;rw[ae hlk]at hout;exact⟨⟨_,rfl⟩,hout,hbel⟩
theorem Cs(b:Nat)(a:Option Addr)(cap:Nat)(l:List (Int×Int))(w0 w:World)(h:mt w0 a l)(h0:Below b w0 w)(hs:w0.heap.size<=b)(hok:lOk l=true)(hw:iZ w b 0 0) :
  Calls Tryz.prog 88 #[.iface 176 (.pointer (some ⟨b,0,none⟩)),.slice a l.length cap] w fun e w'=>
   (∃v,e = .returned v)/\iZ w' b (cG l).1 (cG l).2/\Below b w w':=by
 go_enter Tryz.func88,Tryz.ntmps88;go_wp2_with fail;refine(AE b a cap l w0 _ h h0 hs hok hw).mono ?_;rintro e w1 ⟨⟨v,rfl⟩,hout,hbel⟩;go_wp2;go_ret;exact⟨⟨_,rfl⟩,hout,hbel⟩
theorem FB(w:World)(t:TypeId):iZ (w.alloc (.cells #[.slice none 0 0,.int .i64 0] t)) w.heap.size 0 0:=
 ⟨by decide,.slice none 0 0,⟨by simp,by simp,by simp,by simp,by simp⟩,a0Y _ _ _ _⟩
theorem eT(a:Option Addr)(cap:Nat)(l:List (Int×Int))(w:World)(h:mt w a l)(hm:l.length<=1000000000) :
  Calls Tryz.prog 101 #[.slice a l.length cap] w fun e w'=>e = .returned (.string ⟨(oO l).toArray⟩)/\Below w.heap.size w w':=by
 cases hok:lOk l
 · have HI:=af (Gn hok);have HL:=rj hok;go_enter Tryz.func101,Tryz.ntmps101;go_wp2_with (go_at_call 87;refine(fL _ _ _ _ h hm).mono ?_;rintro e w1 ⟨rfl,hb1⟩;rw[HL]);go_ret;exact⟨zW (a:=[]) (ae HI).symm,hb1⟩
 ·
  have HI:=af (fy hok);have HL:=sW hok;have hall:bw l=true:=by simp only[lOk,a0w]at hok;exact hok.1
  obtain⟨s0,_⟩:=yY hall;generalize bZ l=sb at *
  clear hall;go_enter Tryz.func101,Tryz.ntmps101;go_wp2_with fail;refine(fL _ _ _ _ h hm).mono ?_;rintro e w1 ⟨rfl,hb1⟩;rw[HL];clear HL;have h1:=h.later hb1;go_wp2_with fail;refine(Cs w1.heap.size a cap l w1 _ h1 ((a0c _ _).alloc (a0a _) _) (a0a _) hok (FB w1 _)).mono ?_;rintro e w2 ⟨⟨v0,rfl⟩,⟨_,v,T,Y⟩,hb2⟩;have hconv:=jE Y;obtain⟨va,vc,rfl⟩:=Y.form;obtain⟨k0,k1,f0,f1,hb3⟩:=T;clear k1 Y;generalize hres:(leS (((cG l).2+7)/8) (cG l).1)=res at *
  have HR:Hid (res=oO l):=by have h:=ae HI;rw[h,←hres];exact rfl
  clear hres;go_wp2;go_ret;exact⟨zW (ae HR),al hb1 (((a0c _ _).alloc (a0a _) _).trans hb2)⟩
end Go.Proofs.YtbacpebljannfaaGreatDoor
namespace Go.Proofs.YtbacpebljannfaaGreatDoor
open Corb
theorem sR(q k V W:Nat)(hV:V<2 ^ (8*q)):leS (q+k) (V+W*2 ^ (8*q))=leS q V++leS k W:=by
 induction k with
 | zero=>simp[leS,qd q V W (8*q) (a0a _)]
 | succ k ih=>
  rw[show q+(k+1)=(q+k)+1 by omega];simp only[leS];rw[ih,a0W]
  congr 3
  have e:2 ^ (8*(q+k))=2 ^ (8*q)*2 ^ (8*k):=by rw[←a0X];congr 1;omega
  rw[e,←a2h,Nat.add_mul_div_right _ _ (a1A _),a2j hV,a0M]
theorem yQ(V m:Nat)(l:List (Nat×Nat)):gx (V,m) l=(V+(gx (0,0) l).1*2 ^ m,m+(gx (0,0) l).2):=by
 have key:∀(l:List (Nat×Nat)) (W k:Nat),gx (V+W*2 ^ m,m+k) l=(V+(gx (W,k) l).1*2 ^ m,m+(gx (W,k) l).2):=by
  intro l;induction l with
  | nil=>intro W k;rfl
  | cons p l ih=>
   intro W k;simp only[gx];have e:V+W*2 ^ m+p.1*2 ^ (m+k)=V+(W+p.1*2 ^ k)*2 ^ m:=by
    rw[a12,a0X,a15,a1j (2 ^ m)];omega
   rw[e,Nat.add_assoc m k p.2];exact ih _ _
 have:=key l 0 0;simpa using this
theorem pG(l m:List (Int×Int)):cG (l++m)=((cG l).1+(cG m).1*2 ^ (cG l).2,(cG l).2+(cG m).2):=by
 rw[cG,mM,a0J,lf];exact yQ _ _ _
theorem tJ(l m:List (Int×Int)):bw (l++m)=(bw l&&bw m):=by simp[bw]
theorem Ae(f b:List (Int×Int))(hf:lOk f=true)(hb:lOk b=true)(hl:f.length+b.length<=4000)(h8:(cG f).2%8=0):oO (f++b)=oO f++oO b:=by
 have hfa:bw f=true:=by simp only[lOk,a0w]at hf;exact hf.1
 have hba:bw b=true:=by simp only[lOk,a0w]at hb;exact hb.1
 have hok:lOk (f++b)=true:=by
  simp only[lOk,a0w,a2n,tJ];exact⟨⟨hfa,hba⟩,by simpa using hl⟩
 rw[fy hok,fy hf,fy hb,fB,fB,fB,pG];have hlt:=GG f hfa;generalize cG f=F at *
 generalize cG b=B at *
 obtain⟨V,m⟩:=F;obtain⟨W,k⟩:=B;have h8':m%8=0:=h8;have e:m=8*(m/8):=by omega
 show leS ((m+k+7)/8) (V+W*2 ^ m)=leS ((m+7)/8) V++leS ((k+7)/8) W;rw[show(m+k+7)/8=m/8+(k+7)/8 by omega,show(m+7)/8=m/8 by omega];have:=sR (m/8) ((k+7)/8) V W (by rw[←e];exact hlt);rw[←e]at this;exact this
end Go.Proofs.YtbacpebljannfaaGreatDoor
namespace Go.Proofs.YtbacpebljannfaaGreatDoor
open Go.RowKit Corb
set_option maxRecDepth 100000
theorem DO(V:Nat):leS 4 V=leS 2 (V%65536)++leS 2 (V/65536):=by
 have:=sR 2 2 (V%65536) (V/65536) (a1k _ (by decide));rw[←this]
 congr 1
 show V=V%65536+V/65536*2 ^ 16;omega
def dW(ws:List Nat):List (Int×Int):=ws.map fun(x:Nat)=>(((x:Nat):Int),(16:Int))
theorem xw{ws:List Nat}(h:∀x∈ws,x<65536)(hl:ws.length<=100):lOk (dW ws)=true:=by
 unfold lOk;simp only[a0w,a0F];refine⟨?_,by unfold dW;rw[a0P];omega⟩;unfold bw dW;rw[List.all_map,a1h];intro x hx;have h16:p2 (16:Int).toNat=65536:=by decide
 have:=h x hx;show pOk ((x:Nat):Int) 16=true;exact aV.2 ⟨by omega,by omega,by rw[h16];omega⟩
theorem Cu{ws:List Nat}(h:∀x∈ws,x<65536)(hl:ws.length<=100):oO (dW ws)=ws.flatMap (leS 2):=by
 induction ws with
 | nil=>decide
 | cons x ws ih=>
  have hx:x<65536:=h x (by simp);have h1:lOk (dW [x])=true:=xw (fun y hy=>by rw[a00.1 hy];exact hx) (by simp);have h2:lOk (dW ws)=true:=xw (fun y hy=>h y (by simp[hy])) (by simp at hl;omega);have e:dW (x :: ws)=dW [x]++dW ws:=rfl;have e1:cG (dW [x])=(x,16):=by simp[cG,mM,gx,dW]
  rw[e,Ae _ _ h1 h2 (by unfold dW;simp at hl ⊢;omega) (by rw[e1];exact(by decide:(16:Nat)%8=0)),ih (fun y hy=>h y (by simp[hy])) (by simp at hl;omega),fy h1,fB,e1,a07];show leS ((16+7)/8) x++_=_;rw[show(16+7)/8=2 by decide]
theorem dp(V many:Nat)(w:World)(hV:V<1099511627776)(hm:many<=4) :
  Calls Tryz.prog 40 #[.int .i64 (V:Int),.int .i64 (many:Int)] w fun e w'=>e = .returned (.string ⟨(leS many V).toArray⟩)/\Below w.heap.size w w':=by
 obtain⟨i0,hi,hz0,hz1,hz2⟩:=a0x Tryz.infoU8;have hmI:(many:Int)<=4:=by omega
 have hq0:Hid (cf (w.alloc (.cells #[] 5)) w.heap.size (.slice (some ⟨w.heap.size,0,none⟩) 0 0) (leS 0 V)):=cf.lit _ _ (a0a _);have hb0:Hid (Below w.heap.size w (w.alloc (.cells #[] 5))):=(a0c _ _).alloc (a0a _) _;go_enter Tryz.func40,Tryz.ntmps40;go_wp2_with fail
 go_loopw [0,5,6] (fun x v i wr=>∃k:Nat,k<=many/\i = .int .i64 k/\x = .int .i64 ((V/2 ^ (8*k):Nat):Int)/\cf wr w.heap.size v (leS k V)/\Below w.heap.size w wr) (fun _ _ i _=>many-(intOf i).toNat)
 case atStart=>exact⟨0,a0m _,rfl,by simp,ae hq0,ae hb0⟩
 case round=>
  obtain⟨k,hk,rfl,rfl,hq,hbel⟩:=hrel;have hlen:Hid ((leS k V).length=k):=aX k V;obtain⟨va,vc,rfl⟩:=hq.formN (ae hlen);clear hq0 hb0;by_cases hlt:k<many
  ·
   have hltI:(k:Int)<(many:Int):=by omega
   have hX:V/2 ^ (8*k)<=V:=a16 _ _;have hst:Hid (leS k V++[UInt8.ofNat (V/2 ^ (8*k)%256)]=leS (k+1) V):=rfl;have hdv:Hid (V/2 ^ (8*k)/256=V/2 ^ (8*(k+1))):=by show _=_;rw[a2h,show 8*(k+1)=8*k+8 by omega,a0X]
   generalize V/2 ^ (8*k)=x at *
   have hxI:(x:Int)<=1099511627776:=by omega
   obtain⟨y,hy⟩:∃y,x%256=y:=⟨_,rfl⟩;have hyI:(x:Int)%256=(y:Int):=by omega
   have hyt:Int.tmod (x:Int) 256=(y:Int):=by rw[a3c (by omega)];exact hyI
   have hu:IntKind.u8.wrap (y:Int)=(y:Int):=by simp only[IntKind.wrap,IntKind.bits,IntKind.signed];simp;omega
   have hyb:((UInt8.ofNat y).toNat:Int)=(y:Int):=by rw[UInt8.toNat_ofNat'];omega
   obtain⟨d,hd⟩:∃d,x/256=d:=⟨_,rfl⟩;have hdI:(x:Int)/256=(d:Int):=by omega
   rw[hy]at hst;rw[hd]at hdv;have bd:Hid (k+1<=maxLen/\(k+1)*1<=140737488355328):=by show _/\_;unfold maxLen;omega
   have hqo:=af (hq.own (ae hlen));have hbs:=hbel.size;have HBel:=af hbel;clear hq hbel hy hd;go_wp2_with (at_builtin;refine a0A _ rfl _ _ 33 rfl w.heap.size 5 i0 (.int .u8 0) 1 1 a03 hi hz0 hz1 hz2 rfl (by decide) _ _ _ rfl (a0p (ae hqo) _) ⟨wr.heap.size,0,none⟩ 1 1 [.int .u8 (y:Int)] rfl rfl (cO _ _ rfl _ _) (one_byte _) (ae bd).1 (ae bd).2 (ay hbs _) ?_;intro v' x2 hown hgrow hnil;clear hnil);have hb2:=aF (v:=.slice va k vc) hgrow (ae hqo) (a0a _) hbs (ae HBel);have hown':World.ownsRow x2 w.heap.size 5 1 v' (k+1) (du (leS k V)++[.int .u8 ((UInt8.ofNat y).toNat:Int)]):=by rw[hyb];exact hown
   have hq2:=je (b:=UInt8.ofNat y) (ae hlen) hown';rw[ae hst]at hq2;clear hown hown' hgrow;go_wp2;go_roundw
   case rel=>exact⟨k+1,by omega,by go_num,by rw[←ae hdv],hq2,hb2⟩
   case measure=>simp[intOf];omega
  ·
   obtain rfl:k=many:=by omega
   have hltI:¬ (k:Int)<(k:Int):=by omega
   have hcv:=hq.text;have HB:=af hbel;clear hq hbel;go_wp2;go_ret;exact⟨rfl,ae HB⟩
def dI(ws:List Nat):List Int:=ws.map fun(x:Nat)=>((x:Nat):Int)
theorem Ct(ws:List Nat)(k:Nat)(h:k<ws.length):(dI ws).getD k 0=((ws.getD k 0:Nat):Int):=by
 unfold dI;simp[List.getD,h]
theorem zk(ws:List Nat)(k:Nat)(h:k<ws.length):dW (ws.take (k+1))=dW (ws.take k)++[(((ws.getD k 0:Nat):Int),(16:Int))]:=by
 unfold dW;rw[a1a h,a0J];simp[List.getD,h]
theorem FA(x:Int)(w:World):Calls Tryz.prog 150 #[.int .i64 x] w fun e w'=>e = .returned (.agg #[.int .i64 x,.int .i64 16])/\Below w.heap.size w w':=by
 go_enter Tryz.func150,Tryz.ntmps150;go_wp2;refine a0v (v:=.agg #[.int .i64 x,.int .i64 16]) (by simp[results,Tryz.results150,go_sem]) rfl ⟨rfl,?_⟩;exact(a0c _ _).alloc (a0a _) _
theorem xS(a:Option Addr)(cap n:Nat)(ws:List Nat)(w:World)(hn:ws.length=n)(h:aZ w a (dI ws))(hm:n<=100) :
  Calls Tryz.prog 85 #[.slice a n cap,.func (.func 150) #[] #[]] w fun e w'=>∃v,e = .returned v/\Pcs w' w.heap.size v (dW ws)/\Below w.heap.size w w':=by
 have hmI:(n:Int)<=100:=by omega
 have Hn:=af hn;have Hm:=af hm;have Hl:Hid ((dI ws).length=n):=by show _=_;unfold dI;rw[a0P];exact hn
 clear hn hm;obtain⟨i0,hi,hz0,hz1,hz2⟩:=a0x Tryz.infoPiece;go_enter Tryz.func85,Tryz.ntmps85;go_wp2_with fail
 go_loopw [5,7,10] (fun o _ i wr=>∃k:Nat,k<=n/\i = .int .i64 k/\Pcs wr w.heap.size o (dW (ws.take k))/\Below w.heap.size w wr) (fun _ _ i _=>n-(intOf i).toNat)
 case atStart=>exact⟨0,a0m _,rfl,a0Y _ _ _ _,a0c _ _⟩
 case round=>
  obtain⟨k,hk,rfl,hq,hbel⟩:=hrel;have hbs:=hbel.size;by_cases hlt:k<n
  ·
   obtain⟨g,o,rfl,hg,hcc⟩:=(h.later hbel) (by rw[ae Hl];omega);have c0:=hcc k (by rw[ae Hl];exact hlt);rw[Ct ws k (by rw[ae Hn];exact hlt)]at c0;have hst:=af (zk ws k (by rw[ae Hn];exact hlt));have hlk:Hid ((dW (ws.take k)).length=k):=by show _=_;unfold dW;have:=ae Hn;simp;omega
   have Hk:=af hk;clear hcc hk h;generalize ((ws.getD k 0:Nat):Int)=y at *
   have HP:=af (FA y wr);go_wp2_with fail;refine(ae HP).mono ?_;rintro e x1 ⟨rfl,hb1⟩;have hq1:=Pcs.later hq hb1 (a0a _);have hbel1:=al hbel hb1;have hbs1:=hbel1.size;have hlen1:Hid ((dW (ws.take k)).length+1<=maxLen/\((dW (ws.take k)).length+1)*16<=140737488355328):=by
    show _/\_;rw[ae hlk];have:=ae Hm;unfold maxLen;omega
   clear hq hbel hb1 HP;go_wp2_with (at_builtin;refine a0A _ rfl _ _ 111 rfl w.heap.size 114 i0 (.agg #[.int .i64 0,.int .i64 0]) 2 16 a0T hi hz0 hz1 hz2 rfl (by decide) _ _ _ rfl (a0p hq1 _) ⟨x1.heap.size,0,none⟩ 1 1 [.int .i64 y,.int .i64 16] rfl rfl (qk x1 _ _ _) (qj _ _) (ae hlen1).1 (ae hlen1).2 (ay hbs1 _) ?_;intro v' x2 hown hgrow hnil;clear hnil);have hb2:=aF (v:=u5) hgrow hq1 (a0a _) hbs1 hbel1;have hq2:=lc hown;rw[←ae hst]at hq2;clear hown hgrow hq1;go_wp2;go_roundw
   case rel=>exact⟨k+1,by have:=ae Hk;omega,by go_num,hq2,hb2⟩
   case measure=>simp[intOf];omega
  · have hkn:ws.take k=ws:=a0C (by rw[ae Hn];omega);rw[hkn]at hq;have HQ:=af hq;have HB:=af hbel;clear hq hbel hkn;go_wp2;go_ret;exact⟨_,rfl,ae HQ,ae HB⟩
theorem j7(a:Option Addr)(cap n:Nat)(ws:List Nat)(w:World)(hn:ws.length=n)(h:aZ w a (dI ws))(hm:n<=100)(hw:∀x∈ws,x<65536) :
  Calls Tryz.prog 111 #[.slice a n cap] w fun e w'=>e = .returned (.string ⟨(ws.flatMap (leS 2)).toArray⟩)/\Below w.heap.size w w':=by
 have HE:=af (xS a cap n ws w hn h hm);have HW:=af (Cu hw (by omega));have hl:(dW ws).length=n:=by unfold dW;rw[a0P];exact hn
 have Hl:=af hl;have Hm:=af hm;clear hn h hm hw hl;go_enter Tryz.func111,Tryz.ntmps111;go_wp2_with fail;refine(ae HE).mono ?_;rintro e w1 ⟨v,rfl,hP,hb1⟩;obtain⟨a1,c1,rfl⟩:=hP.formN (ae Hl);have HC:=eT a1 c1 (dW ws) w1 (hP.rowN (ae Hl)) (by have:=ae Hl;have:=ae Hm;omega);rw[ae HW,ae Hl]at HC;have HC':=af HC;have HB:=af hb1;clear hP hb1 HC HE;go_wp2_with fail;refine(ae HC').mono ?_;rintro e w2 ⟨rfl,hb2⟩;have HB2:=af (al (ae HB) hb2);clear hb2;go_wp2;go_ret;exact⟨rfl,ae HB2⟩
theorem iE(V:Nat)(w:World)(hV:V<4294967296) :
  Calls Tryz.prog 112 #[.int .i64 (V:Int)] w fun e w'=>e = .returned (.string ⟨(leS 4 V).toArray⟩)/\Below w.heap.size w w':=by
 have hVI:(V:Int)<4294967296:=by omega
 have e1:bits .and .i64 (V:Int) 65535=((V%65536:Nat):Int):=by
  have:=vJ (V:Int) (by omega) (by omega);rw[this];omega
 have HF:Hid ([V%65536,V/65536].flatMap (leS 2)=leS 4 V):=by
  show _=_;rw[DO];simp
 have hq:V/65536<65536:=by omega
 have HR:Hid (aZ (w.alloc (.cells #[.int .i64 ((V%65536:Nat):Int),.int .i64 ((V/65536:Nat):Int)] 3)) (some ⟨w.heap.size,0,none⟩) (dI [V%65536,V/65536])):=by
  intro _;refine⟨w.heap.size,0,rfl,by simp,fun i hi=>?_⟩
  match i,hi with
  | 0,_=>simp[dI]
  | 1,_=>simp[dI]
 have HC:=af (j7 (some ⟨w.heap.size,0,none⟩) 2 2 [V%65536,V/65536] _ rfl (ae HR) (by omega) (fun x hx=>by
  simp only[a04,List.mem_nil_iff,a1F]at hx;rcases hx with rfl|rfl
  · exact a1k _ (by decide)
  · exact hq))
 rw[ae HF]at HC;have HA:Hid (Below w.heap.size w (w.alloc (.cells #[.int .i64 ((V%65536:Nat):Int),.int .i64 ((V/65536:Nat):Int)] 3))):=(a0c _ _).alloc (a0a _) _;generalize hx:V%65536=x at *
 generalize hy:V/65536=y at *
 have e2:(V:Int)/65536=(y:Int):=by omega
 clear HF HR hx;go_enter Tryz.func112,Tryz.ntmps112;go_wp2_with fail;refine(ae HC).mono ?_;rintro e w1 ⟨rfl,hb1⟩;have HB:=af (al (ae HA) hb1);clear hb1;go_wp2;go_ret;exact⟨rfl,ae HB⟩
def FF(W:World)(g:Nat)(how st crc pk lg:Nat)(nm:ByteArray):Prop:=W.cell? ⟨g,0,none⟩=some (.int .i64 (how:Nat))/\W.cell? ⟨g,1,none⟩=some (.int .i64 (st:Nat))/\W.cell? ⟨g,2,none⟩=some (.int .i64 (crc:Nat))/\W.cell? ⟨g,3,none⟩=some (.int .i64 (pk:Nat))/\W.cell? ⟨g,4,none⟩=some (.int .i64 (lg:Nat))/\W.cell? ⟨g,5,none⟩=some (.string nm)
def rW(w:World)(how st crc pk lg:Nat)(nm:ByteArray)(W:World):Prop:=Below w.heap.size w W/\w.heap.size<W.heap.size/\FF W w.heap.size how st crc pk lg nm
theorem rW.later{w W W':World}{how st crc pk lg:Nat}{nm:ByteArray}(h:rW w how st crc pk lg nm W)(hb:Below W.heap.size W W'):rW w how st crc pk lg nm W':=by
 have hc:∀j,W'.cell? ⟨w.heap.size,j,none⟩=W.cell? ⟨w.heap.size,j,none⟩:=fun j=>hb.cell (p:=⟨w.heap.size,j,none⟩) h.2.1;exact⟨h.1.trans (hb.mono (a0k h.2.1)),a0f h.2.1 hb.size,(hc 0).trans h.2.2.1,(hc 1).trans h.2.2.2.1,(hc 2).trans h.2.2.2.2.1,(hc 3).trans h.2.2.2.2.2.1,(hc 4).trans h.2.2.2.2.2.2.1,(hc 5).trans h.2.2.2.2.2.2.2⟩
theorem tB(W:World)(x y z:Nat):aZ (W.alloc (.cells #[.int .i64 ((x:Nat):Int),.int .i64 ((y:Nat):Int),.int .i64 ((z:Nat):Int)] 3)) (some ⟨W.heap.size,0,none⟩) (dI [x,y,z]):=by
 intro _;refine⟨W.heap.size,0,rfl,by simp,fun i hi=>?_⟩
 match i,hi with
 | 0,_=>simp[dI]
 | 1,_=>simp[dI]
 | 2,_=>simp[dI]
theorem jZ(W:World)(x y:Nat):aZ (W.alloc (.cells #[.int .i64 ((x:Nat):Int),.int .i64 ((y:Nat):Int)] 3)) (some ⟨W.heap.size,0,none⟩) (dI [x,y]):=by
 intro _;refine⟨W.heap.size,0,rfl,by simp,fun i hi=>?_⟩
 match i,hi with
 | 0,_=>simp[dI]
 | 1,_=>simp[dI]
def bR(l:List UInt8):ByteArray:=⟨l.toArray⟩
def iK(how st crc pk lg n:Nat):ByteArray:=bR ([20,0,how].flatMap (leS 2))++bR (leS 4 st)++bR (leS 4 crc)++bR (leS 4 pk)++bR (leS 4 lg)++bR ([n,0].flatMap (leS 2))
theorem Fo(how st crc pk lg:Nat)(nm:ByteArray)(w:World)(h0:how<65536)(h1:st<4294967296)(h2:crc<4294967296)(h3:pk<4294967296)(h4:lg<4294967296)(h5:nm.size<65536) :
  Calls Tryz.prog 78 #[.agg #[.int .i64 (how:Nat),.int .i64 (st:Nat),.int .i64 (crc:Nat),.int .i64 (pk:Nat),.int .i64 (lg:Nat),.string nm]] w fun e w'=>e = .returned (.string (iK how st crc pk lg nm.size))/\Below w.heap.size w w':=by
 have hmix:Tryz.prog.follows .mixedOrders=true:=by kernel_rfl
 have CW0:Hid (∀g W,aZ W (some ⟨g,0,none⟩) (dI [20,0,how])->Calls Tryz.prog 111 #[.slice (some ⟨g,0,none⟩) 3 3] W fun e w'=>e = .returned (.string (bR ([20,0,how].flatMap (leS 2))))/\Below W.heap.size W w'):=fun g W h=>j7 _ 3 3 [20,0,how] W rfl h (by omega) (fun x hx=>by simp at hx;omega);have CW1:Hid (∀g W,aZ W (some ⟨g,0,none⟩) (dI [nm.size,0])->Calls Tryz.prog 111 #[.slice (some ⟨g,0,none⟩) 2 2] W fun e w'=>e = .returned (.string (bR ([nm.size,0].flatMap (leS 2))))/\Below W.heap.size W w'):=fun g W h=>j7 _ 2 2 [nm.size,0] W rfl h (by omega) (fun x hx=>by simp at hx;omega);have CLA1:Hid (∀W,Calls Tryz.prog 112 #[.int .i64 (st:Int)] W fun e w'=>e = .returned (.string (bR (leS 4 st)))/\Below W.heap.size W w'):=fun W=>iE st W h1;have CLA2:Hid (∀W,Calls Tryz.prog 112 #[.int .i64 (crc:Int)] W fun e w'=>e = .returned (.string (bR (leS 4 crc)))/\Below W.heap.size W w'):=fun W=>iE crc W h2;have CLA3:Hid (∀W,Calls Tryz.prog 112 #[.int .i64 (pk:Int)] W fun e w'=>e = .returned (.string (bR (leS 4 pk)))/\Below W.heap.size W w'):=fun W=>iE pk W h3;have CLA4:Hid (∀W,Calls Tryz.prog 112 #[.int .i64 (lg:Int)] W fun e w'=>e = .returned (.string (bR (leS 4 lg)))/\Below W.heap.size W w'):=fun W=>iE lg W h4;have hz:∀l:List UInt8,(bR l).size=l.length:=fun l=>by simp[bR,ByteArray.size]
 have z0:((bR ([20,0,how].flatMap (leS 2))).size:Int)<=100:=by rw[hz];simp[aX]
 have z5:((bR ([nm.size,0].flatMap (leS 2))).size:Int)<=100:=by rw[hz];simp[aX]
 have z1:((bR (leS 4 st)).size:Int)<=100:=by rw[hz,aX];omega
 have z2:((bR (leS 4 crc)).size:Int)<=100:=by rw[hz,aX];omega
 have z3:((bR (leS 4 pk)).size:Int)<=100:=by rw[hz,aX];omega
 have z4:((bR (leS 4 lg)).size:Int)<=100:=by rw[hz,aX];omega
 unfold iK;generalize bR ([20,0,how].flatMap (leS 2))=A0 at *
 generalize bR ([nm.size,0].flatMap (leS 2))=A5 at *
 generalize bR (leS 4 st)=A1 at *
 generalize bR (leS 4 crc)=A2 at *
 generalize bR (leS 4 pk)=A3 at *
 generalize bR (leS 4 lg)=A4 at *
 have hnI:(nm.size:Int)<65536:=by omega
 have T0':Hid (rW w how st crc pk lg nm (w.alloc (.cells #[.int .i64 (how:Nat),.int .i64 (st:Nat),.int .i64 (crc:Nat),.int .i64 (pk:Nat),.int .i64 (lg:Nat),.string nm] 46))):=⟨(a0c _ _).alloc (a0a _) _,by simp,by simp,by simp,by simp,by simp,by simp,by simp⟩;clear h0 h1 h2 h3 h4 h5 hz;go_enter Tryz.func78,Tryz.ntmps78;go_wp2_with fail;obtain⟨W0,hW0⟩:∃x,w.alloc (.cells #[.int .i64 (how:Nat),.int .i64 (st:Nat),.int .i64 (crc:Nat),.int .i64 (pk:Nat),.int .i64 (lg:Nat),.string nm] 46)=x:=⟨_,rfl⟩;rw[hW0]at T0';rw[hW0];have T0:=T0';clear T0' hW0;refine wp_region_held_drew (S:=fun W=>FF W w.heap.size how st crc pk lg nm) hmix (ae T0).2.2 (fun hS=>?_);refine ah 0 (.pointer (some ⟨w.heap.size,0,none⟩)) rfl (by kernel_rfl) (fun _ _ _ h=>h) rfl (fun W hSw=>by obtain⟨s0,s1,s2,s3,s4,s5⟩:=hSw;go_simp) hS ?_;refine ah 1 (.int .i64 (how:Nat)) rfl (by kernel_rfl) (fun _ _ _ h=>h) rfl (fun W hSw=>by obtain⟨s0,s1,s2,s3,s4,s5⟩:=hSw;go_simp) hS ?_;refine ah 4 (.pointer (some ⟨w.heap.size,1,none⟩)) rfl (by kernel_rfl) (fun _ _ _ h=>h) rfl (fun W hSw=>by obtain⟨s0,s1,s2,s3,s4,s5⟩:=hSw;go_simp) hS ?_;refine ah 5 (.int .i64 (st:Nat)) rfl (by kernel_rfl) (fun _ _ _ h=>h) rfl (fun W hSw=>by obtain⟨s0,s1,s2,s3,s4,s5⟩:=hSw;go_simp) hS ?_;refine ah 8 (.pointer (some ⟨w.heap.size,2,none⟩)) rfl (by kernel_rfl) (fun _ _ _ h=>h) rfl (fun W hSw=>by obtain⟨s0,s1,s2,s3,s4,s5⟩:=hSw;go_simp) hS ?_;refine ah 9 (.int .i64 (crc:Nat)) rfl (by kernel_rfl) (fun _ _ _ h=>h) rfl (fun W hSw=>by obtain⟨s0,s1,s2,s3,s4,s5⟩:=hSw;go_simp) hS ?_;refine ah 12 (.pointer (some ⟨w.heap.size,3,none⟩)) rfl (by kernel_rfl) (fun _ _ _ h=>h) rfl (fun W hSw=>by obtain⟨s0,s1,s2,s3,s4,s5⟩:=hSw;go_simp) hS ?_;refine ah 13 (.int .i64 (pk:Nat)) rfl (by kernel_rfl) (fun _ _ _ h=>h) rfl (fun W hSw=>by obtain⟨s0,s1,s2,s3,s4,s5⟩:=hSw;go_simp) hS ?_;refine ah 16 (.pointer (some ⟨w.heap.size,4,none⟩)) rfl (by kernel_rfl) (fun _ _ _ h=>h) rfl (fun W hSw=>by obtain⟨s0,s1,s2,s3,s4,s5⟩:=hSw;go_simp) hS ?_;refine ah 17 (.int .i64 (lg:Nat)) rfl (by kernel_rfl) (fun _ _ _ h=>h) rfl (fun W hSw=>by obtain⟨s0,s1,s2,s3,s4,s5⟩:=hSw;go_simp) hS ?_;refine ah 20 (.pointer (some ⟨w.heap.size,5,none⟩)) rfl (by kernel_rfl) (fun _ _ _ h=>h) rfl (fun W hSw=>by obtain⟨s0,s1,s2,s3,s4,s5⟩:=hSw;go_simp) hS ?_;refine ah 21 (.string nm) rfl (by kernel_rfl) (fun _ _ _ h=>h) rfl (fun W hSw=>by obtain⟨s0,s1,s2,s3,s4,s5⟩:=hSw;go_simp) hS ?_;refine ah 22 (.int .i64 (nm.size:Nat)) rfl (by kernel_rfl) (fun _ _ _ h=>h) rfl (fun W hSw=>by obtain⟨s0,s1,s2,s3,s4,s5⟩:=hSw;go_simp) hS ?_;have T1:Hid (rW w how st crc pk lg nm W0.drew):=⟨(ae T0).1.drew,(ae T0).2.1,(ae T0).2.2⟩;generalize W0.drew=W1 at *
 refine wpAnyH_ready (rs:=[2,23]) (by kernel_rfl) (by simp) ?_;refine AllReadyH.cons rfl (fun K hK=>?_) (AllReadyH.cons rfl (fun K hK=>?_) (AllReadyH.nil))
 ·
  go_simp;have Bd:Below W1.heap.size W1 (W1.alloc (.cells #[.int .i64 20,.int .i64 0,.int .i64 ((how:Nat):Int)] 3)):=(a0c _ _).alloc (a0a _) _;have T2:=af ((ae T1).later Bd);have R02:Hid (aZ (W1.alloc (.cells #[.int .i64 20,.int .i64 0,.int .i64 ((how:Nat):Int)] 3)) (some ⟨W1.heap.size,0,none⟩) (dI [20,0,how])):=tB _ _ _ _;refine Shut.out hK _ _ (ae T2).2.2 (fun hS=>?_);clear hK K;obtain⟨R0g,hR0g⟩:∃x,W1.heap.size=x:=⟨_,rfl⟩;obtain⟨W2,hW2⟩:∃x,W1.alloc (.cells #[.int .i64 20,.int .i64 0,.int .i64 ((how:Nat):Int)] 3)=x:=⟨_,rfl⟩;rw[hW2]at T2 hS;rw[hR0g,hW2]at R02;rw[hR0g,hW2];clear Bd;refine wpAnyH_ready (rs:=[3,23]) (by kernel_rfl) (by simp) ?_;refine AllReadyH.cons rfl (fun K hK=>?_) (AllReadyH.cons rfl (fun K hK=>?_) (AllReadyH.nil))
  ·
   go_simp;go_at_call 111;refine(ae CW0 R0g W2 (ae R02)).mono ?_;rintro e W3 ⟨rfl,Bd⟩;have T3:=af ((ae T2).later Bd);refine Shut.out hK _ _ (ae T3).2.2 (fun hS=>?_);clear hK K;clear Bd;refine wpAnyH_ready (rs:=[6,23]) (by kernel_rfl) (by simp) ?_;refine AllReadyH.cons rfl (fun K hK=>?_) (AllReadyH.cons rfl (fun K hK=>?_) (AllReadyH.nil))
   ·
    go_simp;go_at_call 112;refine(ae CLA1 W3).mono ?_;rintro e W4 ⟨rfl,Bd⟩;have T4:=af ((ae T3).later Bd);refine Shut.out hK _ _ (ae T4).2.2 (fun hS=>?_);clear hK K;clear Bd;refine ah 7 (.string (A0++A1)) rfl (by kernel_rfl) (fun _ _ _ h=>h) rfl (fun W hSw=>by obtain⟨s0,s1,s2,s3,s4,s5⟩:=hSw;go_simp<;>omega) hS ?_;refine wpAnyH_ready (rs:=[10,23]) (by kernel_rfl) (by simp) ?_;refine AllReadyH.cons rfl (fun K hK=>?_) (AllReadyH.cons rfl (fun K hK=>?_) (AllReadyH.nil))
    ·
     go_simp;go_at_call 112;refine(ae CLA2 W4).mono ?_;rintro e W5 ⟨rfl,Bd⟩;have T5:=af ((ae T4).later Bd);refine Shut.out hK _ _ (ae T5).2.2 (fun hS=>?_);clear hK K;clear Bd;refine ah 11 (.string (A0++A1++A2)) rfl (by kernel_rfl) (fun _ _ _ h=>h) rfl (fun W hSw=>by obtain⟨s0,s1,s2,s3,s4,s5⟩:=hSw;go_simp<;>omega) hS ?_;refine wpAnyH_ready (rs:=[14,23]) (by kernel_rfl) (by simp) ?_;refine AllReadyH.cons rfl (fun K hK=>?_) (AllReadyH.cons rfl (fun K hK=>?_) (AllReadyH.nil))
     ·
      go_simp;go_at_call 112;refine(ae CLA3 W5).mono ?_;rintro e W6 ⟨rfl,Bd⟩;have T6:=af ((ae T5).later Bd);refine Shut.out hK _ _ (ae T6).2.2 (fun hS=>?_);clear hK K;clear Bd;refine ah 15 (.string (A0++A1++A2++A3)) rfl (by kernel_rfl) (fun _ _ _ h=>h) rfl (fun W hSw=>by obtain⟨s0,s1,s2,s3,s4,s5⟩:=hSw;go_simp<;>omega) hS ?_;refine wpAnyH_ready (rs:=[18,23]) (by kernel_rfl) (by simp) ?_;refine AllReadyH.cons rfl (fun K hK=>?_) (AllReadyH.cons rfl (fun K hK=>?_) (AllReadyH.nil))
      · go_simp;go_at_call 112;refine(ae CLA4 W6).mono ?_;rintro e W7 ⟨rfl,Bd⟩;have T7:=af ((ae T6).later Bd);refine Shut.out hK _ _ (ae T7).2.2 (fun hS=>?_);clear hK K;clear Bd;refine ah 19 (.string (A0++A1++A2++A3++A4)) rfl (by kernel_rfl) (fun _ _ _ h=>h) rfl (fun W hSw=>by obtain⟨s0,s1,s2,s3,s4,s5⟩:=hSw;go_simp<;>omega) hS ?_;refine ai 23 (by kernel_rfl) rfl fun K hK=>?_;go_simp;have Bd:Below W7.heap.size W7 (W7.alloc (.cells #[.int .i64 ((nm.size:Nat):Int),.int .i64 0] 3)):=(a0c _ _).alloc (a0a _) _;have T8:=af ((ae T7).later Bd);have R18:Hid (aZ (W7.alloc (.cells #[.int .i64 ((nm.size:Nat):Int),.int .i64 0] 3)) (some ⟨W7.heap.size,0,none⟩) (dI [nm.size,0])):=jZ _ _ _;refine Shut.out hK _ _ (ae T8).2.2 (fun hS=>?_);clear hK K;obtain⟨R1g,hR1g⟩:∃x,W7.heap.size=x:=⟨_,rfl⟩;obtain⟨W8,hW8⟩:∃x,W7.alloc (.cells #[.int .i64 ((nm.size:Nat):Int),.int .i64 0] 3)=x:=⟨_,rfl⟩;rw[hW8]at T8 hS;rw[hR1g,hW8]at R18;rw[hR1g,hW8];clear Bd;refine ai 24 (by kernel_rfl) rfl fun K hK=>?_;go_simp;go_at_call 111;refine(ae CW1 R1g W8 (ae R18)).mono ?_;rintro e W9 ⟨rfl,Bd⟩;have T9:=af ((ae T8).later Bd);refine Shut.out hK _ _ (ae T9).2.2 (fun hS=>?_);clear hK K;clear Bd;refine ah 25 (.string (A0++A1++A2++A3++A4++A5)) rfl (by kernel_rfl) (fun _ _ _ h=>h) rfl (fun W hSw=>by obtain⟨s0,s1,s2,s3,s4,s5⟩:=hSw;go_simp<;>omega) hS ?_;refine ai 26 (by kernel_rfl) rfl fun K hK=>?_;go_simp;refine Shut.out hK _ _ (ae T9).2.2 (fun hS=>?_);clear hK K;refine wpAnyH_done (by kernel_rfl) ?_ _;generalize hAA:A0++A1++A2++A3++A4++A5=AA;go_wp2;go_ret;exact⟨by subst hAA;rfl,(ae T9).1⟩
      · go_simp;have Bd:Below W6.heap.size W6 (W6.alloc (.cells #[.int .i64 ((nm.size:Nat):Int),.int .i64 0] 3)):=(a0c _ _).alloc (a0a _) _;have T7:=af ((ae T6).later Bd);have R17:Hid (aZ (W6.alloc (.cells #[.int .i64 ((nm.size:Nat):Int),.int .i64 0] 3)) (some ⟨W6.heap.size,0,none⟩) (dI [nm.size,0])):=jZ _ _ _;refine Shut.out hK _ _ (ae T7).2.2 (fun hS=>?_);clear hK K;obtain⟨R1g,hR1g⟩:∃x,W6.heap.size=x:=⟨_,rfl⟩;obtain⟨W7,hW7⟩:∃x,W6.alloc (.cells #[.int .i64 ((nm.size:Nat):Int),.int .i64 0] 3)=x:=⟨_,rfl⟩;rw[hW7]at T7 hS;rw[hR1g,hW7]at R17;rw[hR1g,hW7];clear Bd;refine ai 18 (by kernel_rfl) rfl fun K hK=>?_;go_simp;go_at_call 112;refine(ae CLA4 W7).mono ?_;rintro e W8 ⟨rfl,Bd⟩;have T8:=af ((ae T7).later Bd);have R18:=af ((ae R17).later Bd);refine Shut.out hK _ _ (ae T8).2.2 (fun hS=>?_);clear hK K;clear Bd;refine ah 19 (.string (A0++A1++A2++A3++A4)) rfl (by kernel_rfl) (fun _ _ _ h=>h) rfl (fun W hSw=>by obtain⟨s0,s1,s2,s3,s4,s5⟩:=hSw;go_simp<;>omega) hS ?_;refine ai 24 (by kernel_rfl) rfl fun K hK=>?_;go_simp;go_at_call 111;refine(ae CW1 R1g W8 (ae R18)).mono ?_;rintro e W9 ⟨rfl,Bd⟩;have T9:=af ((ae T8).later Bd);refine Shut.out hK _ _ (ae T9).2.2 (fun hS=>?_);clear hK K;clear Bd;refine ah 25 (.string (A0++A1++A2++A3++A4++A5)) rfl (by kernel_rfl) (fun _ _ _ h=>h) rfl (fun W hSw=>by obtain⟨s0,s1,s2,s3,s4,s5⟩:=hSw;go_simp<;>omega) hS ?_;refine ai 26 (by kernel_rfl) rfl fun K hK=>?_;go_simp;refine Shut.out hK _ _ (ae T9).2.2 (fun hS=>?_);clear hK K;refine wpAnyH_done (by kernel_rfl) ?_ _;generalize hAA:A0++A1++A2++A3++A4++A5=AA;go_wp2;go_ret;exact⟨by subst hAA;rfl,(ae T9).1⟩
     · go_simp;have Bd:Below W5.heap.size W5 (W5.alloc (.cells #[.int .i64 ((nm.size:Nat):Int),.int .i64 0] 3)):=(a0c _ _).alloc (a0a _) _;have T6:=af ((ae T5).later Bd);have R16:Hid (aZ (W5.alloc (.cells #[.int .i64 ((nm.size:Nat):Int),.int .i64 0] 3)) (some ⟨W5.heap.size,0,none⟩) (dI [nm.size,0])):=jZ _ _ _;refine Shut.out hK _ _ (ae T6).2.2 (fun hS=>?_);clear hK K;obtain⟨R1g,hR1g⟩:∃x,W5.heap.size=x:=⟨_,rfl⟩;obtain⟨W6,hW6⟩:∃x,W5.alloc (.cells #[.int .i64 ((nm.size:Nat):Int),.int .i64 0] 3)=x:=⟨_,rfl⟩;rw[hW6]at T6 hS;rw[hR1g,hW6]at R16;rw[hR1g,hW6];clear Bd;refine ai 14 (by kernel_rfl) rfl fun K hK=>?_;go_simp;go_at_call 112;refine(ae CLA3 W6).mono ?_;rintro e W7 ⟨rfl,Bd⟩;have T7:=af ((ae T6).later Bd);have R17:=af ((ae R16).later Bd);refine Shut.out hK _ _ (ae T7).2.2 (fun hS=>?_);clear hK K;clear Bd;refine ah 15 (.string (A0++A1++A2++A3)) rfl (by kernel_rfl) (fun _ _ _ h=>h) rfl (fun W hSw=>by obtain⟨s0,s1,s2,s3,s4,s5⟩:=hSw;go_simp<;>omega) hS ?_;refine ai 18 (by kernel_rfl) rfl fun K hK=>?_;go_simp;go_at_call 112;refine(ae CLA4 W7).mono ?_;rintro e W8 ⟨rfl,Bd⟩;have T8:=af ((ae T7).later Bd);have R18:=af ((ae R17).later Bd);refine Shut.out hK _ _ (ae T8).2.2 (fun hS=>?_);clear hK K;clear Bd;refine ah 19 (.string (A0++A1++A2++A3++A4)) rfl (by kernel_rfl) (fun _ _ _ h=>h) rfl (fun W hSw=>by obtain⟨s0,s1,s2,s3,s4,s5⟩:=hSw;go_simp<;>omega) hS ?_;refine ai 24 (by kernel_rfl) rfl fun K hK=>?_;go_simp;go_at_call 111;refine(ae CW1 R1g W8 (ae R18)).mono ?_;rintro e W9 ⟨rfl,Bd⟩;have T9:=af ((ae T8).later Bd);refine Shut.out hK _ _ (ae T9).2.2 (fun hS=>?_);clear hK K;clear Bd;refine ah 25 (.string (A0++A1++A2++A3++A4++A5)) rfl (by kernel_rfl) (fun _ _ _ h=>h) rfl (fun W hSw=>by obtain⟨s0,s1,s2,s3,s4,s5⟩:=hSw;go_simp<;>omega) hS ?_;refine ai 26 (by kernel_rfl) rfl fun K hK=>?_;go_simp;refine Shut.out hK _ _ (ae T9).2.2 (fun hS=>?_);clear hK K;refine wpAnyH_done (by kernel_rfl) ?_ _;generalize hAA:A0++A1++A2++A3++A4++A5=AA;go_wp2;go_ret;exact⟨by subst hAA;rfl,(ae T9).1⟩
    · go_simp;have Bd:Below W4.heap.size W4 (W4.alloc (.cells #[.int .i64 ((nm.size:Nat):Int),.int .i64 0] 3)):=(a0c _ _).alloc (a0a _) _;have T5:=af ((ae T4).later Bd);have R15:Hid (aZ (W4.alloc (.cells #[.int .i64 ((nm.size:Nat):Int),.int .i64 0] 3)) (some ⟨W4.heap.size,0,none⟩) (dI [nm.size,0])):=jZ _ _ _;refine Shut.out hK _ _ (ae T5).2.2 (fun hS=>?_);clear hK K;obtain⟨R1g,hR1g⟩:∃x,W4.heap.size=x:=⟨_,rfl⟩;obtain⟨W5,hW5⟩:∃x,W4.alloc (.cells #[.int .i64 ((nm.size:Nat):Int),.int .i64 0] 3)=x:=⟨_,rfl⟩;rw[hW5]at T5 hS;rw[hR1g,hW5]at R15;rw[hR1g,hW5];clear Bd;refine ai 10 (by kernel_rfl) rfl fun K hK=>?_;go_simp;go_at_call 112;refine(ae CLA2 W5).mono ?_;rintro e W6 ⟨rfl,Bd⟩;have T6:=af ((ae T5).later Bd);have R16:=af ((ae R15).later Bd);refine Shut.out hK _ _ (ae T6).2.2 (fun hS=>?_);clear hK K;clear Bd;refine ah 11 (.string (A0++A1++A2)) rfl (by kernel_rfl) (fun _ _ _ h=>h) rfl (fun W hSw=>by obtain⟨s0,s1,s2,s3,s4,s5⟩:=hSw;go_simp<;>omega) hS ?_;refine ai 14 (by kernel_rfl) rfl fun K hK=>?_;go_simp;go_at_call 112;refine(ae CLA3 W6).mono ?_;rintro e W7 ⟨rfl,Bd⟩;have T7:=af ((ae T6).later Bd);have R17:=af ((ae R16).later Bd);refine Shut.out hK _ _ (ae T7).2.2 (fun hS=>?_);clear hK K;clear Bd;refine ah 15 (.string (A0++A1++A2++A3)) rfl (by kernel_rfl) (fun _ _ _ h=>h) rfl (fun W hSw=>by obtain⟨s0,s1,s2,s3,s4,s5⟩:=hSw;go_simp<;>omega) hS ?_;refine ai 18 (by kernel_rfl) rfl fun K hK=>?_;go_simp;go_at_call 112;refine(ae CLA4 W7).mono ?_;rintro e W8 ⟨rfl,Bd⟩;have T8:=af ((ae T7).later Bd);have R18:=af ((ae R17).later Bd);refine Shut.out hK _ _ (ae T8).2.2 (fun hS=>?_);clear hK K;clear Bd;refine ah 19 (.string (A0++A1++A2++A3++A4)) rfl (by kernel_rfl) (fun _ _ _ h=>h) rfl (fun W hSw=>by obtain⟨s0,s1,s2,s3,s4,s5⟩:=hSw;go_simp<;>omega) hS ?_;refine ai 24 (by kernel_rfl) rfl fun K hK=>?_;go_simp;go_at_call 111;refine(ae CW1 R1g W8 (ae R18)).mono ?_;rintro e W9 ⟨rfl,Bd⟩;have T9:=af ((ae T8).later Bd);refine Shut.out hK _ _ (ae T9).2.2 (fun hS=>?_);clear hK K;clear Bd;refine ah 25 (.string (A0++A1++A2++A3++A4++A5)) rfl (by kernel_rfl) (fun _ _ _ h=>h) rfl (fun W hSw=>by obtain⟨s0,s1,s2,s3,s4,s5⟩:=hSw;go_simp<;>omega) hS ?_;refine ai 26 (by kernel_rfl) rfl fun K hK=>?_;go_simp;refine Shut.out hK _ _ (ae T9).2.2 (fun hS=>?_);clear hK K;refine wpAnyH_done (by kernel_rfl) ?_ _;generalize hAA:A0++A1++A2++A3++A4++A5=AA;go_wp2;go_ret;exact⟨by subst hAA;rfl,(ae T9).1⟩
   · go_simp;have Bd:Below W3.heap.size W3 (W3.alloc (.cells #[.int .i64 ((nm.size:Nat):Int),.int .i64 0] 3)):=(a0c _ _).alloc (a0a _) _;have T4:=af ((ae T3).later Bd);have R14:Hid (aZ (W3.alloc (.cells #[.int .i64 ((nm.size:Nat):Int),.int .i64 0] 3)) (some ⟨W3.heap.size,0,none⟩) (dI [nm.size,0])):=jZ _ _ _;refine Shut.out hK _ _ (ae T4).2.2 (fun hS=>?_);clear hK K;obtain⟨R1g,hR1g⟩:∃x,W3.heap.size=x:=⟨_,rfl⟩;obtain⟨W4,hW4⟩:∃x,W3.alloc (.cells #[.int .i64 ((nm.size:Nat):Int),.int .i64 0] 3)=x:=⟨_,rfl⟩;rw[hW4]at T4 hS;rw[hR1g,hW4]at R14;rw[hR1g,hW4];clear Bd;refine ai 6 (by kernel_rfl) rfl fun K hK=>?_;go_simp;go_at_call 112;refine(ae CLA1 W4).mono ?_;rintro e W5 ⟨rfl,Bd⟩;have T5:=af ((ae T4).later Bd);have R15:=af ((ae R14).later Bd);refine Shut.out hK _ _ (ae T5).2.2 (fun hS=>?_);clear hK K;clear Bd;refine ah 7 (.string (A0++A1)) rfl (by kernel_rfl) (fun _ _ _ h=>h) rfl (fun W hSw=>by obtain⟨s0,s1,s2,s3,s4,s5⟩:=hSw;go_simp<;>omega) hS ?_;refine ai 10 (by kernel_rfl) rfl fun K hK=>?_;go_simp;go_at_call 112;refine(ae CLA2 W5).mono ?_;rintro e W6 ⟨rfl,Bd⟩;have T6:=af ((ae T5).later Bd);have R16:=af ((ae R15).later Bd);refine Shut.out hK _ _ (ae T6).2.2 (fun hS=>?_);clear hK K;clear Bd;refine ah 11 (.string (A0++A1++A2)) rfl (by kernel_rfl) (fun _ _ _ h=>h) rfl (fun W hSw=>by obtain⟨s0,s1,s2,s3,s4,s5⟩:=hSw;go_simp<;>omega) hS ?_;refine ai 14 (by kernel_rfl) rfl fun K hK=>?_;go_simp;go_at_call 112;refine(ae CLA3 W6).mono ?_;rintro e W7 ⟨rfl,Bd⟩;have T7:=af ((ae T6).later Bd);have R17:=af ((ae R16).later Bd);refine Shut.out hK _ _ (ae T7).2.2 (fun hS=>?_);clear hK K;clear Bd;refine ah 15 (.string (A0++A1++A2++A3)) rfl (by kernel_rfl) (fun _ _ _ h=>h) rfl (fun W hSw=>by obtain⟨s0,s1,s2,s3,s4,s5⟩:=hSw;go_simp<;>omega) hS ?_;refine ai 18 (by kernel_rfl) rfl fun K hK=>?_;go_simp;go_at_call 112;refine(ae CLA4 W7).mono ?_;rintro e W8 ⟨rfl,Bd⟩;have T8:=af ((ae T7).later Bd);have R18:=af ((ae R17).later Bd);refine Shut.out hK _ _ (ae T8).2.2 (fun hS=>?_);clear hK K;clear Bd;refine ah 19 (.string (A0++A1++A2++A3++A4)) rfl (by kernel_rfl) (fun _ _ _ h=>h) rfl (fun W hSw=>by obtain⟨s0,s1,s2,s3,s4,s5⟩:=hSw;go_simp<;>omega) hS ?_;refine ai 24 (by kernel_rfl) rfl fun K hK=>?_;go_simp;go_at_call 111;refine(ae CW1 R1g W8 (ae R18)).mono ?_;rintro e W9 ⟨rfl,Bd⟩;have T9:=af ((ae T8).later Bd);refine Shut.out hK _ _ (ae T9).2.2 (fun hS=>?_);clear hK K;clear Bd;refine ah 25 (.string (A0++A1++A2++A3++A4++A5)) rfl (by kernel_rfl) (fun _ _ _ h=>h) rfl (fun W hSw=>by obtain⟨s0,s1,s2,s3,s4,s5⟩:=hSw;go_simp<;>omega) hS ?_;refine ai 26 (by kernel_rfl) rfl fun K hK=>?_;go_simp;refine Shut.out hK _ _ (ae T9).2.2 (fun hS=>?_);clear hK K;refine wpAnyH_done (by kernel_rfl) ?_ _;generalize hAA:A0++A1++A2++A3++A4++A5=AA;go_wp2;go_ret;exact⟨by subst hAA;rfl,(ae T9).1⟩
  · go_simp;have Bd:Below W2.heap.size W2 (W2.alloc (.cells #[.int .i64 ((nm.size:Nat):Int),.int .i64 0] 3)):=(a0c _ _).alloc (a0a _) _;have T3:=af ((ae T2).later Bd);have R03:=af ((ae R02).later Bd);have R13:Hid (aZ (W2.alloc (.cells #[.int .i64 ((nm.size:Nat):Int),.int .i64 0] 3)) (some ⟨W2.heap.size,0,none⟩) (dI [nm.size,0])):=jZ _ _ _;refine Shut.out hK _ _ (ae T3).2.2 (fun hS=>?_);clear hK K;obtain⟨R1g,hR1g⟩:∃x,W2.heap.size=x:=⟨_,rfl⟩;obtain⟨W3,hW3⟩:∃x,W2.alloc (.cells #[.int .i64 ((nm.size:Nat):Int),.int .i64 0] 3)=x:=⟨_,rfl⟩;rw[hW3]at T3 hS;rw[hR1g,hW3]at R13;rw[hW3]at R03;rw[hR1g,hW3];clear Bd;refine ai 3 (by kernel_rfl) rfl fun K hK=>?_;go_simp;go_at_call 111;refine(ae CW0 R0g W3 (ae R03)).mono ?_;rintro e W4 ⟨rfl,Bd⟩;have T4:=af ((ae T3).later Bd);have R14:=af ((ae R13).later Bd);refine Shut.out hK _ _ (ae T4).2.2 (fun hS=>?_);clear hK K;clear Bd;refine ai 6 (by kernel_rfl) rfl fun K hK=>?_;go_simp;go_at_call 112;refine(ae CLA1 W4).mono ?_;rintro e W5 ⟨rfl,Bd⟩;have T5:=af ((ae T4).later Bd);have R15:=af ((ae R14).later Bd);refine Shut.out hK _ _ (ae T5).2.2 (fun hS=>?_);clear hK K;clear Bd;refine ah 7 (.string (A0++A1)) rfl (by kernel_rfl) (fun _ _ _ h=>h) rfl (fun W hSw=>by obtain⟨s0,s1,s2,s3,s4,s5⟩:=hSw;go_simp<;>omega) hS ?_;refine ai 10 (by kernel_rfl) rfl fun K hK=>?_;go_simp;go_at_call 112;refine(ae CLA2 W5).mono ?_;rintro e W6 ⟨rfl,Bd⟩;have T6:=af ((ae T5).later Bd);have R16:=af ((ae R15).later Bd);refine Shut.out hK _ _ (ae T6).2.2 (fun hS=>?_);clear hK K;clear Bd;refine ah 11 (.string (A0++A1++A2)) rfl (by kernel_rfl) (fun _ _ _ h=>h) rfl (fun W hSw=>by obtain⟨s0,s1,s2,s3,s4,s5⟩:=hSw;go_simp<;>omega) hS ?_;refine ai 14 (by kernel_rfl) rfl fun K hK=>?_;go_simp;go_at_call 112;refine(ae CLA3 W6).mono ?_;rintro e W7 ⟨rfl,Bd⟩;have T7:=af ((ae T6).later Bd);have R17:=af ((ae R16).later Bd);refine Shut.out hK _ _ (ae T7).2.2 (fun hS=>?_);clear hK K;clear Bd;refine ah 15 (.string (A0++A1++A2++A3)) rfl (by kernel_rfl) (fun _ _ _ h=>h) rfl (fun W hSw=>by obtain⟨s0,s1,s2,s3,s4,s5⟩:=hSw;go_simp<;>omega) hS ?_;refine ai 18 (by kernel_rfl) rfl fun K hK=>?_;go_simp;go_at_call 112;refine(ae CLA4 W7).mono ?_;rintro e W8 ⟨rfl,Bd⟩;have T8:=af ((ae T7).later Bd);have R18:=af ((ae R17).later Bd);refine Shut.out hK _ _ (ae T8).2.2 (fun hS=>?_);clear hK K;clear Bd;refine ah 19 (.string (A0++A1++A2++A3++A4)) rfl (by kernel_rfl) (fun _ _ _ h=>h) rfl (fun W hSw=>by obtain⟨s0,s1,s2,s3,s4,s5⟩:=hSw;go_simp<;>omega) hS ?_;refine ai 24 (by kernel_rfl) rfl fun K hK=>?_;go_simp;go_at_call 111;refine(ae CW1 R1g W8 (ae R18)).mono ?_;rintro e W9 ⟨rfl,Bd⟩;have T9:=af ((ae T8).later Bd);refine Shut.out hK _ _ (ae T9).2.2 (fun hS=>?_);clear hK K;clear Bd;refine ah 25 (.string (A0++A1++A2++A3++A4++A5)) rfl (by kernel_rfl) (fun _ _ _ h=>h) rfl (fun W hSw=>by obtain⟨s0,s1,s2,s3,s4,s5⟩:=hSw;go_simp<;>omega) hS ?_;refine ai 26 (by kernel_rfl) rfl fun K hK=>?_;go_simp;refine Shut.out hK _ _ (ae T9).2.2 (fun hS=>?_);clear hK K;refine wpAnyH_done (by kernel_rfl) ?_ _;generalize hAA:A0++A1++A2++A3++A4++A5=AA;go_wp2;go_ret;exact⟨by subst hAA;rfl,(ae T9).1⟩
 · go_simp;have Bd:Below W1.heap.size W1 (W1.alloc (.cells #[.int .i64 ((nm.size:Nat):Int),.int .i64 0] 3)):=(a0c _ _).alloc (a0a _) _;have T2:=af ((ae T1).later Bd);have R12:Hid (aZ (W1.alloc (.cells #[.int .i64 ((nm.size:Nat):Int),.int .i64 0] 3)) (some ⟨W1.heap.size,0,none⟩) (dI [nm.size,0])):=jZ _ _ _;refine Shut.out hK _ _ (ae T2).2.2 (fun hS=>?_);clear hK K;obtain⟨R1g,hR1g⟩:∃x,W1.heap.size=x:=⟨_,rfl⟩;obtain⟨W2,hW2⟩:∃x,W1.alloc (.cells #[.int .i64 ((nm.size:Nat):Int),.int .i64 0] 3)=x:=⟨_,rfl⟩;rw[hW2]at T2 hS;rw[hR1g,hW2]at R12;rw[hR1g,hW2];clear Bd;refine ai 2 (by kernel_rfl) rfl fun K hK=>?_;go_simp;have Bd:Below W2.heap.size W2 (W2.alloc (.cells #[.int .i64 20,.int .i64 0,.int .i64 ((how:Nat):Int)] 3)):=(a0c _ _).alloc (a0a _) _;have T3:=af ((ae T2).later Bd);have R13:=af ((ae R12).later Bd);have R03:Hid (aZ (W2.alloc (.cells #[.int .i64 20,.int .i64 0,.int .i64 ((how:Nat):Int)] 3)) (some ⟨W2.heap.size,0,none⟩) (dI [20,0,how])):=tB _ _ _ _;refine Shut.out hK _ _ (ae T3).2.2 (fun hS=>?_);clear hK K;obtain⟨R0g,hR0g⟩:∃x,W2.heap.size=x:=⟨_,rfl⟩;obtain⟨W3,hW3⟩:∃x,W2.alloc (.cells #[.int .i64 20,.int .i64 0,.int .i64 ((how:Nat):Int)] 3)=x:=⟨_,rfl⟩;rw[hW3]at T3 hS;rw[hR0g,hW3]at R03;rw[hW3]at R13;rw[hR0g,hW3];clear Bd;refine ai 3 (by kernel_rfl) rfl fun K hK=>?_;go_simp;go_at_call 111;refine(ae CW0 R0g W3 (ae R03)).mono ?_;rintro e W4 ⟨rfl,Bd⟩;have T4:=af ((ae T3).later Bd);have R14:=af ((ae R13).later Bd);refine Shut.out hK _ _ (ae T4).2.2 (fun hS=>?_);clear hK K;clear Bd;refine ai 6 (by kernel_rfl) rfl fun K hK=>?_;go_simp;go_at_call 112;refine(ae CLA1 W4).mono ?_;rintro e W5 ⟨rfl,Bd⟩;have T5:=af ((ae T4).later Bd);have R15:=af ((ae R14).later Bd);refine Shut.out hK _ _ (ae T5).2.2 (fun hS=>?_);clear hK K;clear Bd;refine ah 7 (.string (A0++A1)) rfl (by kernel_rfl) (fun _ _ _ h=>h) rfl (fun W hSw=>by obtain⟨s0,s1,s2,s3,s4,s5⟩:=hSw;go_simp<;>omega) hS ?_;refine ai 10 (by kernel_rfl) rfl fun K hK=>?_;go_simp;go_at_call 112;refine(ae CLA2 W5).mono ?_;rintro e W6 ⟨rfl,Bd⟩;have T6:=af ((ae T5).later Bd);have R16:=af ((ae R15).later Bd);refine Shut.out hK _ _ (ae T6).2.2 (fun hS=>?_);clear hK K;clear Bd;refine ah 11 (.string (A0++A1++A2)) rfl (by kernel_rfl) (fun _ _ _ h=>h) rfl (fun W hSw=>by obtain⟨s0,s1,s2,s3,s4,s5⟩:=hSw;go_simp<;>omega) hS ?_;refine ai 14 (by kernel_rfl) rfl fun K hK=>?_;go_simp;go_at_call 112;refine(ae CLA3 W6).mono ?_;rintro e W7 ⟨rfl,Bd⟩;have T7:=af ((ae T6).later Bd);have R17:=af ((ae R16).later Bd);refine Shut.out hK _ _ (ae T7).2.2 (fun hS=>?_);clear hK K;clear Bd;refine ah 15 (.string (A0++A1++A2++A3)) rfl (by kernel_rfl) (fun _ _ _ h=>h) rfl (fun W hSw=>by obtain⟨s0,s1,s2,s3,s4,s5⟩:=hSw;go_simp<;>omega) hS ?_;refine ai 18 (by kernel_rfl) rfl fun K hK=>?_;go_simp;go_at_call 112;refine(ae CLA4 W7).mono ?_;rintro e W8 ⟨rfl,Bd⟩;have T8:=af ((ae T7).later Bd);have R18:=af ((ae R17).later Bd);refine Shut.out hK _ _ (ae T8).2.2 (fun hS=>?_);clear hK K;clear Bd;refine ah 19 (.string (A0++A1++A2++A3++A4)) rfl (by kernel_rfl) (fun _ _ _ h=>h) rfl (fun W hSw=>by obtain⟨s0,s1,s2,s3,s4,s5⟩:=hSw;go_simp<;>omega) hS ?_;refine ai 24 (by kernel_rfl) rfl fun K hK=>?_;go_simp;go_at_call 111;refine(ae CW1 R1g W8 (ae R18)).mono ?_;rintro e W9 ⟨rfl,Bd⟩;have T9:=af ((ae T8).later Bd);refine Shut.out hK _ _ (ae T9).2.2 (fun hS=>?_);clear hK K;clear Bd;refine ah 25 (.string (A0++A1++A2++A3++A4++A5)) rfl (by kernel_rfl) (fun _ _ _ h=>h) rfl (fun W hSw=>by obtain⟨s0,s1,s2,s3,s4,s5⟩:=hSw;go_simp<;>omega) hS ?_;refine ai 26 (by kernel_rfl) rfl fun K hK=>?_;go_simp;refine Shut.out hK _ _ (ae T9).2.2 (fun hS=>?_);clear hK K;refine wpAnyH_done (by kernel_rfl) ?_ _;generalize hAA:A0++A1++A2++A3++A4++A5=AA;go_wp2;go_ret;exact⟨by subst hAA;rfl,(ae T9).1⟩
theorem oX(l:List UInt8):(bR l).size=l.length:=by simp[bR,ByteArray.size]
theorem ir(how st crc pk lg n:Nat):(iK how st crc pk lg n).size=26:=by
 unfold iK;rw[a0V,a0V,a0V,a0V,a0V];simp only[oX,a07,a2E,a0l,aX,a01]
def cx(how st crc pk lg:Nat)(nm:ByteArray):ByteArray:=(⟨#[80,75,3,4]⟩:ByteArray)++iK how st crc pk lg nm.size++nm
theorem vI(how st crc pk lg:Nat)(nm bd:ByteArray)(w:World)(h0:how<65536)(h1:st<4294967296)(h2:crc<4294967296)(h3:pk<4294967296)(h4:lg<4294967296)(h5:nm.size<65536) :
  Calls Tryz.prog 44 #[.agg #[.int .i64 (how:Nat),.int .i64 (st:Nat),.int .i64 (crc:Nat),.int .i64 (pk:Nat),.int .i64 (lg:Nat),.string nm,.string bd]] w fun e w'=>e = .returned (.string (cx how st crc pk lg nm))/\Below w.heap.size w w':=by
 have HC:=af (fun W=>Fo how st crc pk lg nm W h0 h1 h2 h3 h4 h5);have hmix:Tryz.prog.follows .mixedOrders=true:=by kernel_rfl
 obtain⟨A,hA⟩:∃A,iK how st crc pk lg nm.size=A:=⟨_,rfl⟩;have hAz:(A.size:Int)<=1000:=by
  rw[←hA,ir];omega
 have hnI:(nm.size:Int)<65536:=by omega
 have hB:cx how st crc pk lg nm=(⟨#[80,75,3,4]⟩:ByteArray)++A++nm:=by unfold cx;rw[hA]
 rw[hA]at HC;rw[hB];have T0':Hid (rW w how st crc pk lg nm (w.alloc (.cells #[.int .i64 (how:Nat),.int .i64 (st:Nat),.int .i64 (crc:Nat),.int .i64 (pk:Nat),.int .i64 (lg:Nat),.string nm,.string bd] 48))):=⟨(a0c _ _).alloc (a0a _) _,by simp,by simp,by simp,by simp,by simp,by simp,by simp⟩;clear h0 h1 h2 h3 h4 h5 hA hB;go_enter Tryz.func44,Tryz.ntmps44;go_wp2_with fail;obtain⟨W0,hW0⟩:∃x,w.alloc (.cells #[.int .i64 (how:Nat),.int .i64 (st:Nat),.int .i64 (crc:Nat),.int .i64 (pk:Nat),.int .i64 (lg:Nat),.string nm,.string bd] 48)=x:=⟨_,rfl⟩;rw[hW0]at T0';rw[hW0];have T0:=T0';clear T0' hW0;refine wp_region_held_drew (S:=fun W=>FF W w.heap.size how st crc pk lg nm) hmix (ae T0).2.2 (fun hS=>?_);refine ah 0 (.pointer (some ⟨w.heap.size,0,none⟩)) rfl (by kernel_rfl) (fun _ _ _ h=>h) rfl (fun W hSw=>by obtain⟨s0,s1,s2,s3,s4,s5⟩:=hSw;go_simp) hS ?_;refine ah 1 (.agg #[.int .i64 (how:Nat),.int .i64 (st:Nat),.int .i64 (crc:Nat),.int .i64 (pk:Nat),.int .i64 (lg:Nat),.string nm]) rfl (by kernel_rfl) (fun _ _ _ h=>h) rfl (fun W hSw=>by obtain⟨s0,s1,s2,s3,s4,s5⟩:=hSw;go_simp) hS ?_;refine ah 4 (.pointer (some ⟨w.heap.size,0,none⟩)) rfl (by kernel_rfl) (fun _ _ _ h=>h) rfl (fun W hSw=>by obtain⟨s0,s1,s2,s3,s4,s5⟩:=hSw;go_simp) hS ?_;refine ah 5 (.pointer (some ⟨w.heap.size,5,none⟩)) rfl (by kernel_rfl) (fun _ _ _ h=>h) rfl (fun W hSw=>by obtain⟨s0,s1,s2,s3,s4,s5⟩:=hSw;go_simp) hS ?_;refine ah 6 (.string nm) rfl (by kernel_rfl) (fun _ _ _ h=>h) rfl (fun W hSw=>by obtain⟨s0,s1,s2,s3,s4,s5⟩:=hSw;go_simp) hS ?_;have T1:Hid (rW w how st crc pk lg nm W0.drew):=⟨(ae T0).1.drew,(ae T0).2.1,(ae T0).2.2⟩;generalize W0.drew=W1 at *
 refine ai 2 (by kernel_rfl) rfl fun K hK=>?_;go_simp;go_at_call 78;refine(ae HC W1).mono ?_;rintro e W2 ⟨rfl,Bd⟩;have T2:=af ((ae T1).later Bd);refine Shut.out hK _ _ (ae T2).2.2 (fun hS=>?_);clear hK K Bd;refine ah 3 (.string ((⟨#[80,75,3,4]⟩:ByteArray)++A)) rfl (by kernel_rfl) (fun _ _ _ h=>h) rfl (fun W hSw=>by obtain⟨s0,s1,s2,s3,s4,s5⟩:=hSw;go_simp<;>omega) hS ?_;refine ah 7 (.string ((⟨#[80,75,3,4]⟩:ByteArray)++A++nm)) rfl (by kernel_rfl) (fun _ _ _ h=>h) rfl (fun W hSw=>by obtain⟨s0,s1,s2,s3,s4,s5⟩:=hSw;go_simp<;>omega) hS ?_;refine ai 8 (by kernel_rfl) rfl fun K hK=>?_;go_simp;refine Shut.out hK _ _ (ae T2).2.2 (fun hS=>?_);clear hK K;refine wpAnyH_done (by kernel_rfl) ?_ _;generalize hAA:(⟨#[80,75,3,4]⟩:ByteArray)++A++nm=AA;go_wp2;go_ret;exact⟨by subst hAA;rfl,(ae T2).1⟩
theorem xY(how st crc pk lg:Nat)(nm:ByteArray):(cx how st crc pk lg nm).size=30+nm.size:=by
 unfold cx;rw[a0V,a0V,ir];have:(⟨#[80,75,3,4]⟩:ByteArray).size=4:=rfl;omega
theorem pm(how st crc pk lg:Nat)(nm bd:ByteArray)(w:World)(h0:how<65536)(h1:st<4294967296)(h2:crc<4294967296)(h3:pk<4294967296)(h4:lg<4294967296)(h5:nm.size<65536)(h6:bd.size<=100000) :
  Calls Tryz.prog 25 #[.agg #[.int .i64 (how:Nat),.int .i64 (st:Nat),.int .i64 (crc:Nat),.int .i64 (pk:Nat),.int .i64 (lg:Nat),.string nm,.string bd]] w fun e w'=>e = .returned (.string (cx how st crc pk lg nm++bd))/\Below w.heap.size w w':=by
 have hmix:Tryz.prog.follows .mixedOrders=true:=by kernel_rfl
 have HC:=af (fun W=>vI how st crc pk lg nm bd W h0 h1 h2 h3 h4 h5);have hAz:((cx how st crc pk lg nm).size:Int)<=70000:=by rw[xY];omega
 have hbI:(bd.size:Int)<=100000:=by omega
 generalize cx how st crc pk lg nm=A at *
 have T0':Hid (rW w how st crc pk lg nm (w.alloc (.cells #[.int .i64 (how:Nat),.int .i64 (st:Nat),.int .i64 (crc:Nat),.int .i64 (pk:Nat),.int .i64 (lg:Nat),.string nm,.string bd] 48))/\(w.alloc (.cells #[.int .i64 (how:Nat),.int .i64 (st:Nat),.int .i64 (crc:Nat),.int .i64 (pk:Nat),.int .i64 (lg:Nat),.string nm,.string bd] 48)).cell? ⟨w.heap.size,6,none⟩=some (.string bd)):=⟨⟨(a0c _ _).alloc (a0a _) _,by simp,by simp,by simp,by simp,by simp,by simp,by simp⟩,by simp⟩;clear h0 h1 h2 h3 h4 h5 h6;go_enter Tryz.func25,Tryz.ntmps25;go_wp2_with fail;obtain⟨W0,hW0⟩:∃x,w.alloc (.cells #[.int .i64 (how:Nat),.int .i64 (st:Nat),.int .i64 (crc:Nat),.int .i64 (pk:Nat),.int .i64 (lg:Nat),.string nm,.string bd] 48)=x:=⟨_,rfl⟩;rw[hW0]at T0';rw[hW0];have T0:=T0';clear T0' hW0;refine wp_region_held_drew (S:=fun W=>FF W w.heap.size how st crc pk lg nm/\W.cell? ⟨w.heap.size,6,none⟩=some (.string bd)) hmix ⟨(ae T0).1.2.2,(ae T0).2⟩ (fun hS=>?_);refine ah 0 (.agg #[.int .i64 (how:Nat),.int .i64 (st:Nat),.int .i64 (crc:Nat),.int .i64 (pk:Nat),.int .i64 (lg:Nat),.string nm,.string bd]) rfl (by kernel_rfl) (fun _ _ _ h=>h) rfl (fun W hSw=>by obtain⟨⟨s0,s1,s2,s3,s4,s5⟩,s6⟩:=hSw;go_simp) hS ?_;refine ah 2 (.pointer (some ⟨w.heap.size,6,none⟩)) rfl (by kernel_rfl) (fun _ _ _ h=>h) rfl (fun W hSw=>by obtain⟨⟨s0,s1,s2,s3,s4,s5⟩,s6⟩:=hSw;go_simp) hS ?_;refine ah 3 (.string bd) rfl (by kernel_rfl) (fun _ _ _ h=>h) rfl (fun W hSw=>by obtain⟨⟨s0,s1,s2,s3,s4,s5⟩,s6⟩:=hSw;go_simp) hS ?_;have T1:Hid (rW w how st crc pk lg nm W0.drew/\W0.drew.cell? ⟨w.heap.size,6,none⟩=some (.string bd)):=⟨⟨(ae T0).1.1.drew,(ae T0).1.2.1,(ae T0).1.2.2⟩,(ae T0).2⟩;generalize W0.drew=W1 at *
 refine ai 1 (by kernel_rfl) rfl fun K hK=>?_;go_simp;go_at_call 44;refine(ae HC W1).mono ?_;rintro e W2 ⟨rfl,Bd⟩;have T2:Hid (rW w how st crc pk lg nm W2/\W2.cell? ⟨w.heap.size,6,none⟩=some (.string bd)):=⟨(ae T1).1.later Bd,by rw[Bd.cell (p:=⟨w.heap.size,6,none⟩) (ae T1).1.2.1];exact(ae T1).2⟩;refine Shut.out hK _ _ ⟨(ae T2).1.2.2,(ae T2).2⟩ (fun hS=>?_);clear hK K Bd;refine ah 4 (.string (A++bd)) rfl (by kernel_rfl) (fun _ _ _ h=>h) rfl (fun W hSw=>by obtain⟨⟨s0,s1,s2,s3,s4,s5⟩,s6⟩:=hSw;go_simp<;>omega) hS ?_;refine ai 5 (by kernel_rfl) rfl fun K hK=>?_;go_simp;refine Shut.out hK _ _ ⟨(ae T2).1.2.2,(ae T2).2⟩ (fun hS=>?_);clear hK K;refine wpAnyH_done (by kernel_rfl) ?_ _;generalize hAA:A++bd=AA;go_wp2;go_ret;exact⟨by subst hAA;rfl,(ae T2).1.1⟩
end Go.Proofs.YtbacpebljannfaaGreatDoor
namespace Go.Proofs.YtbacpebljannfaaGreatDoor
open Corb
theorem vY(l:List UInt8):leS l.length (cP l)=l:=by
 apply a2x
 · rw[aX]
 · intro j h1 h2;have h:=zG l.length (cP l) j h2;rw[xr]at h;rw[List.getD_eq_getElem?_getD,List.getElem?_eq_getElem h1,List.getD_eq_getElem?_getD,List.getElem?_eq_getElem h2]at h;simpa using h
theorem xt(k V:Nat):cP (leS k V)=V%2 ^ (8*k):=by
 induction k with
 | zero=>simp[leS,cP,a1C]
 | succ k ih=>
  simp only[leS];rw[gp,ih,aX];have e:2 ^ (8*(k+1))=2 ^ (8*k)*256:=by rw[a14,a0X]
  rw[e,Nat.mod_mul]
  congr 2
  simp[cP]
theorem ww(V p k:Nat):V/2 ^ p%2 ^ (k+1)=V/2 ^ p%2 ^ k+V/2 ^ (p+k)%2*2 ^ k:=by
 rw[wk,a2h,←a0X]
def fq(l:List Int):Nat:=(l.map Int.toNat).sum
theorem wV(a b:List Int):fq (a++b)=fq a+fq b:=by simp[fq]
theorem oY(x:Int)(b:List Int):fq (x :: b)=x.toNat+fq b:=by simp[fq]
def fm(V:Nat):Nat->List Int->List Int
 | _,[]=>[]
 | p,b :: bs=>((V/2 ^ p%2 ^ b.toNat:Nat):Int) :: fm V (p+b.toNat) bs
theorem tg(V p:Nat)(l:List Int):(fm V p l).length=l.length:=by
 induction l generalizing p with
 | nil=>rfl
 | cons b l ih=>simp[fm,ih]
theorem uG(V p:Nat)(a b:List Int):fm V p (a++b)=fm V p a++fm V (p+fq a) b:=by
 induction a generalizing p with
 | nil=>simp[fm,fq]
 | cons x a ih=>simp[fm,ih,oY,Nat.add_assoc]
def dU(l:List Int):Bool:=l.all (fun b=>decide (0<=b)&&decide (b<=16))
def iB(s:List UInt8)(l:List Int):Bool:=dU l&&decide (l.length<=4000)&&decide (s.length=(fq l+7)/8)&&decide (cP s<2 ^ fq l)
def vC(s:List UInt8)(l:List Int):List Int:=if iB s l=true then fm (cP s) 0 l else []
theorem xE{l:List Int}(h:dU l=true)(k:Nat)(hk:k<l.length):0<=l.getD k 0/\l.getD k 0<=16:=by
 have:=a1h.1 h (l.getD k 0) (by simp[List.getD,hk]);simpa using this
theorem GC{l:List Int}(h:dU l=true):fq l<=16*l.length:=by
 induction l with
 | nil=>simp[fq]
 | cons b l ih=>
  have h':(0<=b/\b<=16)/\dU l=true:=by simpa[dU]using h
  have:=ih h'.2;rw[oY,a0E];omega
theorem yR(s:List UInt8)(m:Nat)(h:s.length=(m+7)/8):(cP s/2 ^ m%2 ^ ((8-m%8)%8)=0)<->cP s<2 ^ m:=by
 have hlt:=nY s;have e:8*s.length=m+(8-m%8)%8:=by omega
 rw[e,a0X]at hlt;have h2:cP s/2 ^ m<2 ^ ((8-m%8)%8):=Nat.div_lt_of_lt_mul hlt;rw[a1e h2];constructor
 ·
  intro h0;rcases Nat.div_eq_zero_iff.1 h0 with h|h
  · have:=a1A m;omega
  · exact h
 · exact a2j
def wd(l:List UInt8)(i k:Nat):Nat:=cP ((l.drop i).take k)
theorem Fz(l:List UInt8)(i k:Nat):wd l i k<2 ^ (8*k):=by
 unfold wd;refine a0f (nY _) (a0S (by decide) ?_);rw[a0L];omega
theorem na(l:List UInt8)(i:Nat):wd l i 2<65536:=Fz l i 2
theorem iL(l:List UInt8)(i:Nat):wd l i 4<4294967296:=Fz l i 4
theorem fx{l:List UInt8}{i k:Nat}(h:i+k<=l.length):((l.drop i).take k).length=k:=by
 rw[a0L,a1c];omega
theorem m8{l:List UInt8}{i k:Nat}(h:i+k<=l.length):leS k (wd l i k)=(l.drop i).take k:=by
 have:=vY ((l.drop i).take k);rw[fx h]at this;exact this
theorem H9{l:List UInt8}{i j:Nat}(k:Nat)(h:i+j<=l.length):wd l i (j+k)=wd l i j+2 ^ (8*j)*wd l (i+j) k:=by
 unfold wd;rw[List.take_add,gp,fx h,List.drop_drop]
theorem Ir{l:List UInt8}{i:Nat}(h:i+2<=l.length):wd l i 4=wd l i 2+65536*wd l (i+2) 2:=H9 (j:=2) 2 h
theorem Ah{l:List UInt8}{i k v:Nat}(h:i+k<=l.length)(hv:v<2 ^ (8*k)):wd l i k=v<->(l.drop i).take k=leS k v:=by
 constructor
 · intro e;rw[←e,m8 h]
 · intro e;unfold wd;rw[e,xt,a1e hv]
theorem Co{l:List UInt8}{i k:Nat}(h:i+k<=l.length):cP l/2 ^ (8*i)%2 ^ (8*k)=wd l i k:=by
 have e1:cP l=cP (l.take i)+2 ^ (8*i)*cP (l.drop i):=by
  have h1:=gp (l.take i) (l.drop i);rw[a2b,a0L,a2t (by omega)]at h1;exact h1
 have l1:cP (l.take i)<2 ^ (8*i):=by
  have:=nY (l.take i);rw[a0L,a2t (by omega)]at this;exact this
 have e2:cP (l.drop i)=wd l i k+2 ^ (8*k)*cP ((l.drop i).drop k):=by
  have h1:=gp ((l.drop i).take k) ((l.drop i).drop k);rw[a2b,fx h]at h1;exact h1
 rw[e1,Nat.add_mul_div_left _ _ (a1A _),a2j l1,a0M,e2,Nat.add_mul_mod_self_left,a1e (Fz l i k)]
theorem rH(V b:Nat):∀(n p j:Nat),j<n->(fm V p (List.replicate n ((b:Nat):Int))).getD j 0=((V/2 ^ (p+b*j)%2 ^ b:Nat):Int)
 | 0,_,_,h=>by omega
 | n+1,p,0,_=>by simp[List.replicate_succ,fm]
 | n+1,p,j+1,h=>by
  rw[List.replicate_succ];simp only[fm,a2k];rw[rH V b n _ j (by omega),a0y,show p+b+b*j=p+b*(j+1) by rw[a14];omega]
theorem ud{l:List UInt8}(h:30<=l.length):iB (l.take 30) (List.replicate 15 16)=true:=by
 have e1:fq (List.replicate 15 16)=240:=by decide
 have e2:(l.take 30).length=30:=by rw[a0L];omega
 have e3:dU (List.replicate 15 16)=true:=by decide
 have e4:=nY (l.take 30);rw[e2]at e4;unfold iB;rw[e1,e2,e3];simpa using e4
theorem xZ{l:List UInt8}(h:30<=l.length)(j:Nat)(hj:j<15):(vC (l.take 30) (List.replicate 15 16)).getD j 0=((wd l (2*j) 2:Nat):Int):=by
 unfold vC;rw[a0d (ud h)];have h1:=rH (cP (l.take 30)) 16 15 0 j hj;rw[show((16:Nat):Int)=16 from rfl]at h1;rw[h1];have e2:(l.take 30).length=30:=by rw[a0L];omega
 have h2:=Co (l:=l.take 30) (i:=2*j) (k:=2) (by omega);rw[show 0+16*j=8*(2*j) by omega,show(16:Nat)=8*2 from rfl,h2]
 congr 1
 unfold wd;rw[List.drop_take,List.take_take,a2t (by omega)]
theorem Du{l:List UInt8}(h:30<=l.length):(vC (l.take 30) (List.replicate 15 16)).length=15:=by
 unfold vC;rw[a0d (ud h),tg,a0B]
def qx(l:List UInt8):Bool:=decide (wd l 0 4=67324752)&&(decide (wd l 4 2=20)&&(decide (wd l 6 2=0)&&decide (wd l 28 2=0)))
theorem yM(l:List UInt8)(n:Nat):l.take (30+n)=(l.drop 0).take 4++((l.drop 4).take 2++((l.drop 6).take 2++((l.drop 8).take 2++((l.drop 10).take 4++((l.drop 14).take 4++((l.drop 18).take 4++((l.drop 22).take 4++((l.drop 26).take 2++((l.drop 28).take 2++(l.drop 30).take n))))))))):=by
 have st:∀i k m,(l.drop i).take (k+m)=(l.drop i).take k++(l.drop (i+k)).take m:=fun i k m=>by rw[List.take_add,List.drop_drop]
 rw[←st 28 2 n,←st 26 2 _,←st 22 4 _,←st 18 4 _,←st 14 4 _,←st 10 4 _,←st 8 2 _,←st 6 2 _,←st 4 2 _,←st 0 4 _,a2e]
 congr 1
 omega
theorem mB(how st crc pk lg:Nat)(nm:ByteArray):(cx how st crc pk lg nm).data.toList=leS 4 67324752++(leS 2 20++(leS 2 0++(leS 2 how++(leS 4 st++(leS 4 crc++(leS 4 pk++(leS 4 lg++(leS 2 nm.size++(leS 2 0++nm.data.toList))))))))):=by
 have e:leS 4 67324752=[80,75,3,4]:=by decide +kernel
 rw[e];unfold cx iK bR;simp
theorem Dv{l:List UInt8}{nm:ByteArray}(h:30+wd l 26 2<=l.length)(hn:nm.data.toList=(l.drop 30).take (wd l 26 2)) :
  (cx (wd l 8 2) (wd l 10 4) (wd l 14 4) (wd l 18 4) (wd l 22 4) nm).data.toList.isPrefixOf l=qx l:=by
 have hs:nm.size=wd l 26 2:=by
  have:=congrArg List.length hn;rw[fx h]at this;simpa using this
 have hlen:(cx (wd l 8 2) (wd l 10 4) (wd l 14 4) (wd l 18 4) (wd l 22 4) nm).data.toList.length=30+wd l 26 2:=by
  rw[mB,hn];simp only[a0l,aX,fx h];omega
 rw[a2P,List.isPrefixOf_iff_prefix,List.prefix_iff_eq_take,hlen,yM,mB,hs,hn,
  m8 (i:=8) (k:=2) (by omega),m8 (i:=10) (k:=4) (by omega),m8 (i:=14) (k:=4) (by omega),m8 (i:=18) (k:=4) (by omega),m8 (i:=22) (k:=4) (by omega),m8 (i:=26) (k:=2) (by omega)]
 simp only[qx,a0w,a0F];rw[Ah (i:=0) (k:=4) (by omega) (by decide),Ah (i:=4) (k:=2) (by omega) (by decide),Ah (i:=6) (k:=2) (by omega) (by decide),Ah (i:=28) (k:=2) (by omega) (by decide)];constructor
 · intro e;obtain⟨e1,e⟩:=a2F e (by rw[aX,fx (by omega)]);obtain⟨e2,e⟩:=a2F e (by rw[aX,fx (by omega)]);obtain⟨e3,e⟩:=a2F e (by rw[aX,fx (by omega)]);have e:=a2G (a2G (a2G (a2G (a2G (a2G e)))));obtain⟨e4,_⟩:=a2F e (by rw[aX,fx (by omega)]);exact⟨e1.symm,e2.symm,e3.symm,e4.symm⟩
 · rintro⟨e1,e2,e3,e4⟩;rw[e1,e2,e3,e4]
theorem Fy{a b:List UInt8}{i m:Nat}(k:Nat)(h:a.length=m):wd (a++b) (m+i) k=wd b i k:=by
 unfold wd;rw[←h,a2d,a2f (by omega),a1d,a1X]
theorem fZ{k V:Nat}(b:List UInt8)(h:V<2 ^ (8*k)):wd (leS k V++b) 0 k=V:=by
 unfold wd;rw[a2e,List.take_append_of_le_length (by rw[aX];exact a0a _),a0C (by rw[aX];exact a0a _),xt,a1e h]
theorem qA{how st crc pk lg:Nat}{nm:ByteArray}(r:List UInt8)(h0:how<65536)(h1:st<4294967296)(h2:crc<4294967296)(h3:pk<4294967296)(h4:lg<4294967296)(h5:nm.size<65536) :
  qx ((cx how st crc pk lg nm).data.toList++r)=true/\wd ((cx how st crc pk lg nm).data.toList++r) 8 2=how/\wd ((cx how st crc pk lg nm).data.toList++r) 10 4=st/\wd ((cx how st crc pk lg nm).data.toList++r) 14 4=crc/\wd ((cx how st crc pk lg nm).data.toList++r) 18 4=pk/\wd ((cx how st crc pk lg nm).data.toList++r) 22 4=lg/\wd ((cx how st crc pk lg nm).data.toList++r) 26 2=nm.size/\(((cx how st crc pk lg nm).data.toList++r).drop 30).take nm.size=nm.data.toList/\((cx how st crc pk lg nm).data.toList++r).drop (30+nm.size)=r:=by
 rw[mB];simp only[a0W];have g4:∀(V:Nat) (b:List UInt8) (i k:Nat),wd (leS 4 V++b) (4+i) k=wd b i k:=fun V b i k=>Fy k (aX 4 V);have g2:∀(V:Nat) (b:List UInt8) (i k:Nat),wd (leS 2 V++b) (2+i) k=wd b i k:=fun V b i k=>Fy k (aX 2 V);have d4:∀(V:Nat) (b:List UInt8) (i:Nat),(leS 4 V++b).drop (4+i)=b.drop i:=fun V b i=>by rw[a2d,a2f (by rw[aX];omega),a1d,aX,a1X]
 have d2:∀(V:Nat) (b:List UInt8) (i:Nat),(leS 2 V++b).drop (2+i)=b.drop i:=fun V b i=>by rw[a2d,a2f (by rw[aX];omega),a1d,aX,a1X]
 have e30:∀j,30+j=4+(2+(2+(2+(4+(4+(4+(4+(2+(2+j))))))))):=fun j=>by omega
 have hl:nm.data.toList.length=nm.size:=by simp
 refine⟨?_,?_,?_,?_,?_,?_,?_,?_,?_⟩
 · unfold qx;rw[fZ _ (by decide),show(4:Nat)=4+0 from rfl,g4,fZ _ (by decide),show(6:Nat)=4+(2+0)from rfl,g4,g2,fZ _ (by decide),show(28:Nat)=4+(2+(2+(2+(4+(4+(4+(4+(2+0))))))))from rfl,g4,g2,g2,g2,g4,g4,g4,g4,g2,fZ _ (by decide)];rfl
 · rw[show(8:Nat)=4+(2+(2+0))from rfl,g4,g2,g2,fZ _ h0]
 · rw[show(10:Nat)=4+(2+(2+(2+0)))from rfl,g4,g2,g2,g2,fZ _ h1]
 · rw[show(14:Nat)=4+(2+(2+(2+(4+0))))from rfl,g4,g2,g2,g2,g4,fZ _ h2]
 · rw[show(18:Nat)=4+(2+(2+(2+(4+(4+0)))))from rfl,g4,g2,g2,g2,g4,g4,fZ _ h3]
 · rw[show(22:Nat)=4+(2+(2+(2+(4+(4+(4+0))))))from rfl,g4,g2,g2,g2,g4,g4,g4,fZ _ h4]
 · rw[show(26:Nat)=4+(2+(2+(2+(4+(4+(4+(4+0)))))))from rfl,g4,g2,g2,g2,g4,g4,g4,g4,fZ _ h5]
 · rw[show(30:Nat)=4+(2+(2+(2+(4+(4+(4+(4+(2+(2+0)))))))))from rfl,d4,d2,d2,d2,d4,d4,d4,d4,d2,d2,a2e,List.take_append_of_le_length (by omega),a0C (by omega)]
 · rw[e30,d4,d2,d2,d2,d4,d4,d4,d4,d2,d2,a2d,a2f (by omega),a1d,hl,a3r,a2e]
end Go.Proofs.YtbacpebljannfaaGreatDoor
namespace Go.Proofs.YtbacpebljannfaaGreatDoor
open Go.RowKit Corb
attribute [local go_sem ↓] Go.wp_at_zero Go.wp_at_succ
theorem Hg(V p k:Nat)(h:k<=16):V/2 ^ p%2 ^ k<65536:=by
 have h1:V/2 ^ p%2 ^ k<2 ^ k:=a1k _ (a1A k);have h2:2 ^ k<=2 ^ 16:=a0S (by omega) h;have h3:(2:Nat) ^ 16=65536:=by decide
 omega
theorem zV(k:Nat)(h:k<=16):p2 k<=65536:=by
 have h2:2 ^ k<=2 ^ 16:=a0S (by omega) h;have h3:(2:Nat) ^ 16=65536:=by decide
 have h4:p2 k=2 ^ k:=rfl;omega
theorem rest_step(V p j:Nat):(V/2 ^ p%2 ^ (j+1)=0)<->(V/2 ^ p%2 ^ j=0/\V/2 ^ (p+j)%2=0):=by
 rw[ww];have:=a1A j;constructor
 ·
  intro h;have h1:=Nat.eq_zero_of_add_eq_zero_right h;have h2:=Nat.eq_zero_of_add_eq_zero_left h;rcases Nat.mul_eq_zero.1 h2 with h3|h3
  · exact⟨h1,h3⟩
  · omega
 · rintro⟨h1,h2⟩;rw[h1,h2];simp
end Go.Proofs.YtbacpebljannfaaGreatDoor
namespace Go.Proofs.YtbacpebljannfaaGreatDoor
open Go.RowKit Corb
theorem Box.keep1{w w':World}{P b:Nat}{x y:Int}(h:Box w P x y)(hk:aB b w w')(hb:P≠b):Box w' P x y:=by
 unfold Box at *
 rw[hk.2 P (Array.getElem?_eq_some_iff.1 h).1 hb];exact h
theorem Gh(n x k M:Nat)(hn:n<p2 k)(hx:x<=1)(hk:k<=16)(hM:x*p2 k=M):bits .or .i64 (n:Int) (M:Int)=((n+M:Nat):Int):=by
 have h1:=zV k hk;have hM2:M<=65536:=by
  rcases (show x=0∨x=1 by omega)with e|e<;>subst e<;>omega
 rw[jK n M (by omega) (by omega)]
 congr 1
 rw[Nat.or_comm];rw[nat_join k M n (by rw[←hM];exact Nat.mul_mod_left _ _) hn];omega
theorem rG(b p c:Nat)(num:Int)(s:ByteArray)(w:World)(h:Rdr w b s p)(hs:s.size<=2000000)(hc:c<=16) :
  Calls Tryz.prog 217 #[.pointer (some ⟨b,0,none⟩),.agg #[.int .i64 num,.int .i64 (c:Int)]] w fun e w'=>e = .returned (.int .i64 (ap s/2 ^ p%2 ^ c:Nat))/\Rdr w' b s (p+c)/\aB b w w':=by
 have Hs:=af hs;have hc':(c:Int)<=16:=by omega
 have Hc:=af hc;have hlt:=h.lt;have hbox0:=zm w num (c:Int);have h0:=h.alloc (.cells #[.int .i64 num,.int .i64 (c:Int)] 114);have hk0:aB b w (w.alloc (.cells #[.int .i64 num,.int .i64 (c:Int)] 114)):=(aB.refl _ _).alloc (by omega) _;clear hs hc h;go_enter Tryz.func217,Tryz.ntmps217;go_wp2_with fail
 go_loopw [5,6,9] (fun n _ i wr=>∃k:Nat,k<=c/\i = .int .i64 k/\n = .int .i64 (ap s/2 ^ p%2 ^ k:Nat)/\Rdr wr b s (p+k)/\aB b w wr) (fun _ _ i _=>c-(intOf i).toNat)
 case atStart=>exact⟨0,a0m _,rfl,by simp[a1C],h0,hk0⟩
 case round=>
  obtain⟨k,hk,rfl,rfl,hr,hbel⟩:=hrel;clear h0 hk0 hbox0;have Hk:=af hk;by_cases hlt:k<c
  ·
   have hkc:(k:Int)<(c:Int):=by omega
   have hk16:k<=16:=by have:=ae Hc;omega
   have hst:Hid (ap s/2 ^ p%2 ^ (k+1)=ap s/2 ^ p%2 ^ k+ap s/2 ^ (p+k)%2*p2 k):=ww (ap s) p k;have hn0:ap s/2 ^ p%2 ^ k<p2 k:=a1k _ (a1A k);have hn1:=Hg (ap s) p k hk16;have hx:ap s/2 ^ (p+k)%2<=1:=by omega
   have hpw:=zV k hk16;have hbit:=af (jt b (p+k) s wr hr (ae Hs));have hp2i:=iT k;generalize ap s/2 ^ p%2 ^ k=n at *
   generalize ap s/2 ^ (p+k)%2=x at *
   have hor:=Gh n x k (x*p2 k) hn0 hx hk16 rfl;have hmul:x*p2 k<=65536:=by rcases (show x=0∨x=1 by omega)with e|e<;>rw[e]<;>omega
   have e1':(x:Int)*2 ^ k=((x*p2 k:Nat):Int):=by rw[a2S,hp2i]
   have e1:IntKind.i64.wrap ((x:Int)*2 ^ k)=((x*p2 k:Nat):Int):=by rw[e1'];exact df _ (by omega) (by omega)
   generalize x*p2 k=M at *
   have e2:IntKind.i64.wrap (M:Int)=(M:Int):=df _ (by omega) (by omega);have k0:(0:Int)<=(k:Int):=by omega
   have k16:(k:Int)<=16:=by omega
   clear hk16 hx hpw hn1 hmul hk hr hn0 hp2i;go_wp2_with fail;refine(ae hbit).mono ?_;rintro e x1 ⟨rfl,hr1,hb1⟩;go_wp2;go_roundw
   case rel=>exact⟨k+1,by omega,by go_num,by rw[ae hst];go_num,hr1,hbel.trans hb1⟩
   case measure=>simp[intOf];omega
  ·
   obtain rfl:k=c:=by have:=ae Hk;omega
   go_wp2;go_ret;exact⟨rfl,hr,hbel⟩
theorem Gg(m x:Nat)(hm:m<=1)(hx:x<=1):∃y:Nat,bits .or .i64 (m:Int) (x:Int)=(y:Int)/\y<=1/\(y=0<->m=0/\x=0):=by
 refine⟨m ||| x,jK m x (by omega) (by omega),?_,?_⟩
 · rcases (show m=0∨m=1 by omega)with e|e<;>rcases (show x=0∨x=1 by omega)with f|f<;>subst e<;>subst f<;>decide
 · rcases (show m=0∨m=1 by omega)with e|e<;>rcases (show x=0∨x=1 by omega)with f|f<;>subst e<;>subst f<;>decide
theorem py(b p:Nat)(s:ByteArray)(w:World)(h:Rdr w b s p)(hs:s.size<=2000000)(hp:p<=8*s.size) :
  Calls Tryz.prog 89 #[.pointer (some ⟨b,0,none⟩)] w fun e w'=>e = .returned (.bool (decide (ap s/2 ^ p%2 ^ ((8-p%8)%8)=0)))/\Rdr w' b s (p+(8-p%8)%8)/\aB b w w':=by
 have Hs:=af hs;have hp7:(8-p%8)%8<=7:=by omega
 have hpm:(p+(8-p%8)%8)%8=0:=by omega
 have hpl:p+(8-p%8)%8<=8*s.size:=by omega
 have hmin:∀j,j<(8-p%8)%8->(p+j)%8≠0:=by omega
 have hsI:(s.size:Int)<=2000000:=by omega
 generalize (8-p%8)%8=c at *
 have Hp:=af hpl;clear hs hp hpl;go_enter Tryz.func89,Tryz.ntmps89;go_wp2_with fail
 go_loopw [3] (fun n wr=>∃k m:Nat,k<=c/\n = .int .i64 (m:Nat)/\m<=1/\(m=0<->ap s/2 ^ p%2 ^ k=0)/\Rdr wr b s (p+k)/\aB b w wr) (fun _ wr=>c+p-(match wr.cell? ⟨b,1,none⟩with|some (.int _ i)=>i.toNat|_=>0))
 case atStart=>exact⟨0,0,a0m _,rfl,by omega,by simp[a1C],h,aB.refl _ _⟩
 case round=>
  obtain⟨k,m,hk,rfl,hmk,hm0,hr,hbel⟩:=hrel;clear h;have h3:=hr.at (by have:=ae Hp;omega);obtain⟨c0,c1,c2,f0,f1,f2,hb3⟩:=h3;have Hk:=af hk;have Hm0:=af hm0;have hpk:((p+k:Nat):Int)<=16000000:=by have:=ae Hp;omega
  clear hm0;by_cases hlt:k<c
  ·
   have hne:¬ ((p+k:Nat):Int)%8=0:=by have:=hmin k hlt;omega
   have hst:=af (rest_step (ap s) p k);have hx:ap s/2 ^ (p+k)%2<=1:=by omega
   have hbit:=af (jt b (p+k) s wr hr (ae Hs));generalize ap s/2 ^ (p+k)%2=x at *
   obtain⟨y,hor,hy1,hy0⟩:=Gg m x hmk hx;have HY:=af hy0;have HY1:=af hy1;have Hlt:=af hlt;have Hpk:=af (show p+k<8*s.size by have:=ae Hp;omega);clear hmin hx hk hmk hlt hr hpm hp7 hy0 hy1;generalize hPK:p+k=pk at *
   have HPK:=af hPK;clear hPK;go_wp2_with fail;refine(ae hbit).mono ?_;rintro e x1 ⟨rfl,hr1,hb1⟩;go_wp2;go_roundw
   case rel=>exact⟨k+1,y,ae Hlt,rfl,ae HY1,by rw[ae hst,←ae Hm0];exact ae HY,by rw[←ae HPK]at hr1;exact hr1,hbel.trans hb1⟩
   case measure=>
    have h1:=(hr1.at (by have:=ae Hpk;omega)).2.1;rw[h1,c1];have:=ae HPK;have:=ae Hlt;simp;omega
  ·
   obtain rfl:k=c:=by have:=ae Hk;omega
   have he:((p+k:Nat):Int)%8=0:=by omega
   generalize hPK:p+k=pk at *
   go_wp2;go_ret;refine⟨au ?_,by rw[hPK];exact hr,hbel⟩;rw[show decide (ap s/2 ^ p%2 ^ k=0)=decide (m=0)from decide_eq_decide.2 (ae Hm0).symm];rcases a3q m with h0|h0
   · subst h0;rfl
   · rw[a0r (by omega)];first|(exact a0r (by omega))|(exact beq_false_of_ne (by omega))|(exact(by omega:False).elim)
def dw(m:List UInt8):List (Int×Int):=m.map fun b=>((b.toNat:Int),8)
theorem mx(m:List UInt8):(dw m).length=m.length:=by simp[dw]
theorem As(m:List UInt8):bw (dw m)=true:=by
 simp only[bw,dw,List.all_map,a1h];intro b _;have:=a2a b;have h8:p2 (8:Int).toNat=256:=by decide
 have h9:pOk (b.toNat:Int) 8=true:=aV.2 ⟨by omega,by omega,by rw[h8];omega⟩;exact h9
theorem xJ(m:List UInt8):cG (dw m)=(cP m,8*m.length):=by
 induction m with
 | nil=>rfl
 | cons b m ih=>
  have e0:dw (b :: m)=[((b.toNat:Int),(8:Int))]++dw m:=rfl;have e:cG [((b.toNat:Int),(8:Int))]=(b.toNat,8):=by simp[cG,mM,gx]
  have e2:cP (b :: m)=cP [b]+2 ^ (8*1)*cP m:=gp [b] m;have e3:cP [b]=b.toNat:=by simp[cP]
  rw[e0,pG,ih,e,e2,e3];refine Prod.ext ?_ ?_
  · show b.toNat+cP m*2 ^ 8=b.toNat+2 ^ (8*1)*cP m;rw[a1j]
  · show 8+8*m.length=8*(b :: m).length;rw[a0E];omega
theorem qq(m:List UInt8)(h:m.length<=4000):lOk (dw m)=true:=by
 simp only[lOk,a0w,a2n];exact⟨As m,by rw[mx];exact h⟩
theorem xI(m:List UInt8)(h:m.length<=4000):oO (dw m)=m:=by
 rw[fy (qq m h),fB,xJ];show leS ((8*m.length+7)/8) (cP m)=m;rw[show(8*m.length+7)/8=m.length by omega];exact vY m
def fw(n:Nat):List (Int×Int):=[(1,1),(0,2),(0,5),((n:Int),16),(((65535-n:Nat):Int),16)]
def fC(n:Nat):Nat:=1+n*256+(65535-n)*16777216
theorem vG(n:Nat)(h:n<=65535):lOk (fw n)=true:=by
 have h16:p2 (16:Int).toNat=65536:=by decide
 have h1:p2 (1:Int).toNat=2:=by decide
 have h2:p2 (2:Int).toNat=4:=by decide
 have h5:p2 (5:Int).toNat=32:=by decide
 have a1:pOk 1 1=true:=by decide
 have a2:pOk 0 2=true:=by decide
 have a3:pOk 0 5=true:=by decide
 have a4:pOk (n:Int) 16=true:=aV.2 ⟨by omega,by omega,by rw[h16];omega⟩;have a5:pOk ((65535-n:Nat):Int) 16=true:=aV.2 ⟨by omega,by omega,by rw[h16];omega⟩;simp only[lOk,bw,fw,a1E,a2H,a1,a2,a3,a4,a5];simp
theorem sJ(n:Nat):cG (fw n)=(fC n,40):=by
 simp[cG,mM,fw,gx,fC]
theorem AW(n:Nat)(h:n<=65535):oO (fw n)=leS 5 (fC n):=by
 rw[fy (vG n h),fB,sJ];simp only[Nat.reduceAdd,Nat.reduceDiv]
theorem vH(n:Nat):(cG (fw n)).2%8=0:=by rw[sJ];simp only[Nat.reduceMod]
theorem Ca(L:List UInt8)(h:L.length<=300):oO (fw L.length++dw L)=leS 5 (fC L.length)++L:=by
 rw[Ae (fw L.length) (dw L) (vG _ (by omega)) (qq L (by omega)) (by rw[mx];simp[fw];omega) (vH _),AW _ (by omega),xI L (by omega)]
def ik(L:List UInt8):List UInt8:=if L.length<=300 then leS 5 (fC L.length)++L else []
theorem FD(n:Nat)(h:n<=300):n ^^^ 65535=65535-n:=by
 apply Nat.eq_of_testBit_eq;intro i;have e1:(65535:Nat)=2 ^ 16-1:=rfl;have e2:65535-n=2 ^ 16-(n+1):=by omega
 rw[e2,Nat.testBit_two_pow_sub_succ (by omega),Nat.testBit_xor,e1,Nat.testBit_two_pow_sub_one];by_cases hi:i<16
 · simp[hi]
 · have:n.testBit i=false:=Nat.testBit_lt_two_pow (a0f (show n<2 ^ 16 by omega) (a0S (by omega) (by omega)));simp[hi,this]
def KB(b:Nat)(w w':World):Prop:=Below b w w'/\bS b w w'
theorem KB.refl(b:Nat)(w:World):KB b w w:=⟨a0c _ _,bS.refl _ _⟩
theorem KB.trans{b:Nat}{w w1 w2:World}(h:KB b w w1)(k:KB b w1 w2):KB b w w2:=⟨h.1.trans k.1,h.2.trans k.2⟩
theorem KB.drew{b:Nat}{w w':World}(h:KB b w w'):KB b w w'.drew:=⟨h.1.drew,h.2.drew⟩
theorem KB.set{b:Nat}{w w':World}(h:KB b w w')(o:Nat)(u:Value):KB b w (w'.setCell ⟨b,o,none⟩ u):=⟨ag h.1 (a0a _) u,h.2.set u⟩
theorem KB.below{b:Nat}{w w' w'':World}(h:KB b w w')(hb:Below w'.heap.size w' w'')(hl:b<=w'.heap.size):KB b w w'':=
 ⟨h.1.trans (hb.mono hl),h.2.trans ⟨hb.size,fun k hk _ _=>hb.block k hk⟩⟩
theorem wL{w W2 WA w':World}{b:Nat}{v v' v1 v2:Value}{l:List UInt8}{x:UInt8}(T2:Three W2 b v v1 v2)(Y2:Bys W2 b v l)(B2:KB b w W2)
  (hWA:Below (b+1) W2 WA) (hKA:bS b W2 WA) (hYA:Bys WA b v l) (hown:w'.ownsRow (b+1) 5 1 v' (l.length+1) (du l++[.int .u8 (x.toNat:Int)])) (hgrow:WA.grownBy w' v.ownBlock) :
  (∃g cap,v' = .slice (some ⟨g,0,none⟩) (l.length+1) cap)/\Three w' b v v1 v2/\Bys w' b v' (l++[x])/\KB b w w':=by
 obtain⟨h1,h2,h3,h4⟩:=rE T2 Y2 B2.1 hWA hown hgrow;exact⟨h1,h2,h3,h4,B2.2.trans (hKA.grown hYA hgrow)⟩
theorem EF(b V m:Nat)(num bits:Int)(w:World)(h:Out w b V m)(n0:0<=num)(n1:num<65536)(b0:0<=bits)(b1:bits<=16)(hm:m<=100000) :
  Calls Tryz.prog 125 #[.pointer (some ⟨b,0,none⟩),.int .i64 num,.int .i64 bits] w fun e w'=>e = .returned (.tuple #[]) /\
   Out w' b (V+num.toNat%p2 bits.toNat*p2 m) (m+bits.toNat)/\KB b w w':=by
 obtain⟨n,rfl⟩:=a0t n0;obtain⟨c,rfl⟩:=a0t b0;rw[a0y,a0y];obtain⟨i0,hi,hz0,hz1,hz2⟩:=a0x Tryz.infoU8;go_enter Tryz.func125,Tryz.ntmps125;go_wp2
 go_loopw [1,6] (fun x i wr=>∃k:Nat,k<=c/\i = .int .i64 k/\x = .int .i64 (n/p2 k:Nat)/\Out wr b (V+n%p2 k*p2 m) (m+k)/\KB b w wr) (fun _ i _=>c-(intOf i).toNat)
 case atStart=>exact⟨0,a0m _,rfl,by simp[p2],by simpa[p2,a1C]using h,KB.refl _ _⟩
 case round=>
  obtain⟨k,hk,rfl,rfl,hout,hbel⟩:=hrel;by_cases hlt:k<c
  ·
   have hval:=af (uD V n k m);have hhalf:=af (vF n k);have hnk:n/p2 k<=n:=a16 _ _;obtain⟨hV,v,htr,hby⟩:=hout;obtain⟨sa,scap,rfl⟩:=hby.form;have hlb:=qb (V+n%p2 k*p2 m) (m+k) hV;generalize V+n%p2 k*p2 m=V1 at *
   generalize hm1:m+k=m1 at *
   have hx:n/p2 k%2<=1:=by omega
   have hxI:((n/p2 k:Nat):Int)%2=((n/p2 k%2:Nat):Int):=by omega
   have hnkI:((n/p2 k:Nat):Int)<65536:=by omega
   have hp7:p2 (m1%8)<=128:=rB (m1%8) 7 (by omega);have hXle:n/p2 k%2*p2 (m1%8)<=1*p2 (m1%8):=a2i _ hx;have hmul:((n/p2 k%2:Nat):Int)*((p2 (m1%8):Nat):Int)=((n/p2 k%2*p2 (m1%8):Nat):Int):=by simp
   have hroom:=wC V1 m1 (n/p2 k%2) hV hx;have hfull:=wB V1 m1 (n/p2 k%2) hV hx;have hr8:m1%8<8:=a1k _ (by omega);have hm1le:m1<=100016:=by omega
   have hbl:(leS (m1/8) V1).length=m1/8:=aX _ _;generalize n/p2 k=nk at *
   generalize hxx:nk%2=x at *
   generalize hLL:V1/p2 (8*(m1/8))=L at *
   generalize hrr:m1%8=r at *
   generalize hPP:p2 r=P at *
   generalize hXX:x*P=X at *
   have HPP:=af hPP;have Hm1:=af hm1;have Hrr:=af hrr;have Hroom:=af hroom;have Hfull:=af hfull;have Hx:=af hxx;clear hm1 hLL hrr hPP hXX hV hroom hfull hxx hx hnk;obtain⟨k0,k1,k2,f0,f1,f2,hbw⟩:=htr;have htr:Hid (Three wr b _ _ _):=⟨k0,k1,k2,f0,f1,f2,hbw⟩;have hrI:(r:Int)<8:=by omega
   have hLI:(L:Int)<128:=by omega
   have hXI:(X:Int)<=128:=by omega
   have hkc:(k:Int)<(c:Int):=by omega
   have Hr8:=af hr8;have Hm1le:=af hm1le;have Hk:=af hk;have HLX:Hid (IntKind.i64.wrap ((L:Int)+IntKind.i64.wrap ((nk:Int).tmod 2*(P:Int)))=(L:Int)+(X:Int)):=by
    show IntKind.i64.wrap ((L:Int)+IntKind.i64.wrap ((nk:Int).tmod 2*(P:Int)))=(L:Int)+(X:Int);rw[a3c (by omega),hxI,hmul,df (X:Int) (by omega) (by omega),df ((L:Int)+(X:Int)) (by omega) (by omega)]
   clear hr8 hm1le hp7 hXle hlb hk hm;go_wp2_with fail;go_cut[]from 7 to 62 (fun wc=>wc=(wr.setCell ⟨b,1,none⟩ (.int .i64 ((L:Int)+(X:Int)))).drew)
   case first=>
    go_region_with (go_at_call 160;refine(oI _ _ (by omega)).mono ?_;rintro e w' ⟨rfl,rfl⟩;rw[a0y,ae HPP])
    all_goals
     go_wp2_with fail
     go_meet
     exact by rw[ae HLX]
   case rest=>
    have T1:=((ae htr).set1 (.int .i64 ((L:Int)+(X:Int)))).drew;have Y1:=(hby.set (o:=1) (.int .i64 ((L:Int)+(X:Int)))).drew;have B1:KB b w _:=(hbel.set 1 (.int .i64 ((L:Int)+(X:Int)))).drew;rw[←hcut]at T1 Y1 B1;clear hcut hby hbel htr k0 k1 k2 f0 f1 f2 hbw hmul hxI;have T1':=af T1;obtain⟨k0,k1,k2,f0,f1,f2,hbw⟩:=T1;by_cases hr7:(r:Int)=7
    ·
     have hr7N:r=7:=by omega
     obtain⟨o1,o2,o3,o4⟩:=ae Hfull hr7N;have O1:=af o1;have O2:=af o2;have O3:=af o3;have O4:=af o4;have hLX:L+X<256:=by omega
     have hbv:=af (ng (L+X) hLX);have hbI:IntKind.u8.wrap ((L:Int)+(X:Int))=(L:Int)+(X:Int):=by
      rw[IntKind.wrap_u8'];omega
     subst hr7N;clear o1 o2 o3 o4 hr7 hLX;have T2:=(ae T1').set2 (.int .i64 8);have Y2:=Y1.set (o:=2) (.int .i64 8);have B2:KB b w _:=B1.set 2 (.int .i64 8);have hlen:=af hbl;clear hbl;go_wp2_with fail;generalize wc.setCell ⟨b,2,none⟩ (.int .i64 8)=W2 at *
     clear k0 k1 k2 f0 f1 f2 T1' Y1 B1;have T2':=af T2;obtain⟨k0,k1,k2,f0,f1,f2,hb2⟩:=T2;have hbv':Hid (((UInt8.ofNat (L+X)).toNat:Int)=(L:Int)+(X:Int)):=by
      show((UInt8.ofNat (L+X)).toNat:Int)=(L:Int)+(X:Int);rw[ae hbv];omega
     have hl2:(leS (m1/8) V1).length<=20000:=by have:=ae hlen;have:=ae Hm1le;omega
     have Hl2:=af hl2;clear hl2;go_cut[]from 7 to 62 (fun wc2=>∃v',Three wc2 b v' (.int .i64 ((L:Int)+(X:Int))) (.int .i64 8)/\Bys wc2 b v' (leS (m1/8) V1++[UInt8.ofNat (L+X)])/\KB b w wc2)
     case first=>
      go_region_law (refine bz rfl (.tmp 47) (.tmp 53) 33 rfl (b+1) 5 i0 (.int .u8 0) 1 1 a03 hi hz0 hz1 hz2 rfl (by decide) _ _ _ (by simp[Act.eval]) (Y2.alloc _) ⟨W2.heap.size,0,none⟩ 1 1 [.int .u8 ((L:Int)+(X:Int))] (by simp[Act.eval]) rfl (by intro j u hj;match j,hj with | 0,hj=>simp at hj;subst hj;simp[Addr.add]) (by intro u hu;simp at hu;subst hu;rfl) (by have:=ae Hl2;unfold maxLen;omega) (by have:=ae Hl2;omega) (by simp;omega) ?_;intro v' w' hown hgrow hnil;clear hnil;rw[←ae hbv']at hown;obtain⟨⟨g',cap',rfl⟩,T3,Y3,B3⟩:=wL (ae T2') Y2 B2 (by first|exact(a0c _ _).alloc (by omega) _|exact((a0c _ _).alloc (by omega) _).drew) (by first|exact(bS.refl _ _).alloc _|exact((bS.refl _ _).alloc _).drew) (by first|exact Y2.alloc _|exact(Y2.alloc _).drew) hown hgrow;clear hown hgrow;have T3':=af T3;obtain⟨q0,q1,q2,e0,e1,e2,hb3⟩:=T3)
      all_goals
       go_wp2_with fail
       go_meet
       exact⟨_,(ae T3').set0 _,Y3.set _,B3.set _ _⟩
     case rest=>
      obtain⟨v',T4,Y4,B4⟩:=hcut;clear k0 k1 k2 f0 f1 f2 T2' Y2 B2 hb2;obtain⟨va,vc,rfl⟩:=Y4.form;have T4':=af T4;obtain⟨k0,k1,k2,f0,f1,f2,hb4⟩:=T4;go_wp2;go_roundw
      case rel=>
       refine⟨k+1,by have:=ae Hk;omega,by go_num,by rw[←ae hhalf];go_num,?_,(B4.set _ _).set _ _⟩;rw[ae hval,show m+(k+1)=m1+1 by have:=ae Hm1;omega];refine⟨ae O1,.slice va (leS (m1/8) V1++[UInt8.ofNat (L+X)]).length vc,?_,?_⟩
       · rw[ae O2,ae O3];exact((ae T4').set1 _).set2 _
       · rw[ae O4];exact(Y4.set _).set _
      case measure=>simp[intOf];omega
    ·
     have hr8f:((r:Int)+1 == 8)=false:=by simp;omega
     have hlt7:r<7:=by omega
     obtain⟨o1,o2,o3⟩:=ae Hroom hlt7;have O1:=af o1;have O2:=af o2;have O3:=af o3;have hm18:Hid ((m1+1)%8=r+1):=by show(m1+1)%8=r+1;have:=ae Hrr;omega
     clear o1 o2 o3 hlt7 hr7;go_wp2;go_roundw
     case rel=>
      refine⟨k+1,by have:=ae Hk;omega,by go_num,by rw[←ae hhalf];go_num,?_,B1.set _ _⟩;rw[ae hval,show m+(k+1)=m1+1 by have:=ae Hm1;omega];refine⟨ae O1,.slice sa (leS (m1/8) V1).length scap,?_,?_⟩
      · rw[ae O2,ae hm18];exact(ae T1').set2 _
      · rw[ae O3];exact Y1.set _
     case measure=>simp[intOf];omega
  ·
   have hkc:k=c:=by omega
   subst hkc;go_wp2
   go_end0
   exact⟨rfl,hout,hbel⟩
theorem j6(b V m:Nat)(w:World)(h:Out w b V m)(hm:m<=90000) :
  Calls Tryz.prog 126 #[.pointer (some ⟨b,0,none⟩)] w fun e w'=>e = .returned (.tuple #[])/\Out w' b V (8*((m+7)/8))/\Below b w w':=by
 have h':=af h;obtain⟨hV,v,ht,hy⟩:=h;obtain⟨k0,k1,k2,f0,f1,f2,hbw⟩:=ht;by_cases hr:m%8=0
 ·
  have hr0:((m%8:Nat):Int)=0:=by omega
  have he:Hid (8*((m+7)/8)=m):=by show _=_;omega
  clear hr hV hy k0 k1 hm;go_enter Tryz.func126,Tryz.ntmps126;go_wp2
  go_end0
  exact⟨rfl,by rw[ae he];exact ae h',a0c _ _⟩
 ·
  have hr0:(0:Int)<((m%8:Nat):Int):=by omega
  have hr1:((m%8:Nat):Int)<8:=by omega
  have hfin:Hid (m+(8-m%8)=8*((m+7)/8)):=by show _=_;omega
  have htn:Hid ((8-((m%8:Nat):Int)).toNat=8-m%8):=by show(8-((m%8:Nat):Int)).toNat=8-m%8;omega
  have hm':=af hm;clear hr hV hy k0 k1 hm;generalize ((m%8:Nat):Int)=r at *
  go_enter Tryz.func126,Tryz.ntmps126;go_wp2_with fail;refine(nN b V m 0 (8-r) _ (ae h') (by omega) (by omega) (by omega) (by omega) (by have:=ae hm';omega)).mono ?_;rintro e w1 ⟨rfl,ho,hb⟩;rw[ae htn]at ho;simp only[Int.toNat_zero,Nat.zero_mod,Nat.zero_mul,a2r]at ho;rw[ae hfin]at ho;have HO:=af ho;clear ho;go_wp2
  go_end0
  exact⟨rfl,ae HO,hb⟩
theorem jw(s:ByteArray):s.data.toList.length=s.size:=by simp
theorem FH(l:List UInt8)(s:ByteArray):(⟨l.toArray⟩:ByteArray)++s=⟨(l++s.data.toList).toArray⟩:=by
 apply ByteArray.ext;rw[ByteArray.data_append];apply Array.ext';simp
theorem vV(s:ByteArray)(w:World)(hs:s.size<=300) :
  Calls Tryz.prog 97 #[.string s] w fun e w'=>e = .returned (.string ⟨(leS 5 (fC s.size)++s.data.toList).toArray⟩)/\Below w.heap.size w w':=by
 have hsI:(s.size:Int)<=300:=by omega
 have h0:=af (uA w 168);have hB0:Hid (Below w.heap.size w (w.alloc (.cells #[.slice none 0 0,.int .i64 0,.int .i64 0] 168))):=(a0c _ _).alloc (a0a _) _;have HS:=af hs;clear hs;go_enter Tryz.func97,Tryz.ntmps97;go_wp2_with fail;refine(nN _ 0 0 1 1 _ (ae h0) (by omega) (by omega) (by omega) (by omega) (by omega)).mono ?_;rintro e x1 ⟨rfl,h1,hb1⟩;go_wp2_with fail;refine(nN _ _ _ 0 2 _ h1 (by omega) (by omega) (by omega) (by omega) (by omega)).mono ?_;rintro e x2 ⟨rfl,h2,hb2⟩;have h2':Out x2 w.heap.size 1 3:=h2;clear h1 h2;go_wp2_with fail;refine(j6 _ _ _ _ h2' (by omega)).mono ?_;rintro e x3 ⟨rfl,h3,hb3⟩;have h3':Out x3 w.heap.size 1 8:=h3;have hB3:=af (((ae hB0).trans hb1).trans (hb2.trans hb3));clear h2' h3 hb1 hb2 hb3;go_wp2_with fail;refine(nN _ _ _ (s.size:Int) 16 _ h3' (by omega) (by omega) (by omega) (by omega) (by omega)).mono ?_;rintro e x4 ⟨rfl,h4,hb4⟩;clear h3';go_wp2_with fail;refine(nN _ _ _ (65535-(s.size:Int)) 16 _ h4 (by omega) (by omega) (by omega) (by omega) (by omega)).mono ?_;rintro e x5 ⟨rfl,h5,hb5⟩;have hV:1+((s.size:Int).toNat%p2 (16:Int).toNat*p2 8)+((65535-(s.size:Int)).toNat%p2 (16:Int).toNat*p2 (8+(16:Int).toNat))=fC s.size:=by
  have e16:p2 (16:Int).toNat=65536:=by decide
  have e8:p2 8=256:=by decide
  have e24:p2 (8+(16:Int).toNat)=16777216:=by decide
  rw[e16,e8,e24];unfold fC;have:=ae HS;rw[a0y,show(65535-(s.size:Int)).toNat=65535-s.size by omega,a1e (by omega),a1e (by omega)]
 have h5':Out x5 w.heap.size (fC s.size) 40:=by rw[←hV];exact h5
 obtain⟨_,v,T,Y⟩:=h5';have hcv:=jE Y;have hB5:=af ((ae hB3).trans (hb4.trans hb5));obtain⟨k0,k1,k2,f0,f1,f2,hbw⟩:=T;have hle:leS (40/8) (fC s.size)=leS 5 (fC s.size):=rfl;rw[hle]at hcv;have HC:=af (FH (leS 5 (fC s.size)) s);clear h4 h5 hV hb4 hb5 Y k1 k2 hle;have hPl:=aX 5 (fC s.size);generalize hP:leS 5 (fC s.size)=P at hcv HC hPl;have HP:=af hP;have hPs:¬ 9223372036854775807<P.length+s.size:=by have:=ae HS;omega
 clear hP hPl;go_wp2;go_ret;exact⟨by rw[ae HP,←ae HC];rfl,ae hB5⟩
theorem iP(k:Int)(w:World) :
  Calls Tryz.prog 100 #[.int .i64 k] w fun e w'=>e = .returned (.slice (some ⟨w.heap.size,0,none⟩) 2 2)/\w'=w.alloc (.cells #[.int .i64 1,.int .i64 1,.int .i64 k,.int .i64 2] 114):=by
 go_enter Tryz.func100,Tryz.ntmps100;go_wp2;go_ret;exact⟨rfl,rfl⟩
theorem Gw(w:World)(a b c d e f:Value)(t:TypeId)(g:Nat)(hg:w.heap.size=g):∀(j:Nat) (u:Value),[a,b,c,d,e,f][j]?=some u->(w.alloc (.cells #[a,b,c,d,e,f] t)).cell? ((⟨g,0,none⟩:Addr).add j)=some u:=by
 subst hg;intro j u hj
 match j,hj with
 | 0,hj=>simp at hj;subst hj;simp[Addr.add]
 | 1,hj=>simp at hj;subst hj;simp[Addr.add]
 | 2,hj=>simp at hj;subst hj;simp[Addr.add]
 | 3,hj=>simp at hj;subst hj;simp[Addr.add]
 | 4,hj=>simp at hj;subst hj;simp[Addr.add]
 | 5,hj=>simp at hj;subst hj;simp[Addr.add]
theorem Gv(a b c d e f:Int):∀u∈[Value.int .i64 a,.int .i64 b,.int .i64 c,.int .i64 d,.int .i64 e,.int .i64 f],u.oneCell'=true:=by
 intro u hu;simp at hu;rcases hu with rfl|rfl|rfl|rfl|rfl|rfl<;>rfl
theorem Fa(s:ByteArray)(i:Nat)(h:i<s.size):s.data.toList.take (i+1)=s.data.toList.take i++[s[i]]:=by
 have hl:=jw s;rw[List.take_add_one,List.getElem?_eq_getElem (by omega)];simp;rfl
theorem uX(m:List UInt8)(b:UInt8):dw m++[((b.toNat:Int),(8:Int))]=dw (m++[b]):=by simp[dw]
theorem Aw(s:ByteArray)(w:World):∃(c:Nat) (x:World) (cs:Array Value) (f:Nat×Nat),(convert 9 33 (.string s)).run Tryz.prog w = .ok (.slice (some ⟨w.heap.size,0,none⟩) s.size c) x/\Below w.heap.size w x/\x.heap[w.heap.size]?=some (.cells cs 5 f)/\∀i (h:i<s.size),cs[i]?=some (.int .u8 (s[i].toNat:Int)):=by
 refine⟨_,_,bytesRow s (grownCap w s.size 0 5),((bytesRow s (grownCap w s.size 0 5)).size,(bytesRow s (grownCap w s.size 0 5)).size+1),run_bytes_of_string w _ _ _ s a1R a03 a1Q,?_,?_,?_⟩
 · exact((a0c _ w).drew).alloc (by simp) _
 · exact Array.getElem?_push_size
 · intro i h;exact bytesRow_at s (grownCap w s.size 0 5) i h
theorem EL{w:World}{b i:Nat}{cs:Array Value}{t:TypeId}{f:Nat×Nat}{v:Value}(h:w.heap[b]?=some (.cells cs t f))(hc:cs[i]?=some v):w.cell? ⟨b,i,none⟩=some v:=by
 unfold World.cell?;rw[h];exact hc
theorem sd(s:ByteArray)(w:World)(hs:s.size<=300) :
  Calls Tryz.prog 75 #[.string s] w fun e w'=>e = .returned (.string ⟨(leS 5 (fC s.size)++s.data.toList).toArray⟩)/\Below w.heap.size w w':=by
 obtain⟨i0,hi,hz0,hz1,hz2⟩:=a0x Tryz.infoPiece;have hsI:(s.size:Int)<=300:=by omega
 have hI:¬ (300:Int)<(s.size:Int):=by omega
 obtain⟨N,hN⟩:∃N:Nat,65535-s.size=N:=⟨_,rfl⟩;have hx:bits .xor .i64 (s.size:Int) 65535=(N:Int):=by
  have:=kP s.size 65535 (by omega) (by omega);rw[FD s.size hs,hN]at this;exact this
 have HH:Hid (fw s.size=[(1,1),(0,2)]++[(0,5),((s.size:Int),16),((N:Int),16)]):=by show _=_;unfold fw;rw[hN];rfl
 have hP0:Hid ((w.alloc (.cells #[.int .i64 1,.int .i64 1,.int .i64 0,.int .i64 2] 114)).ownsRow w.heap.size 114 2 (.slice (some ⟨w.heap.size,0,none⟩) 2 2) 2 [.int .i64 1,.int .i64 1,.int .i64 0,.int .i64 2]):=a06 w #[.int .i64 1,.int .i64 1,.int .i64 0,.int .i64 2] 2 (a0a _) (by unfold maxLen;omega) rfl;have hB0:Hid (Below w.heap.size w (w.alloc (.cells #[.int .i64 1,.int .i64 1,.int .i64 0,.int .i64 2] 114))):=(a0c _ _).alloc (a0a _) _;have hput:=af (Ca s.data.toList (by rw[jw];exact hs));have hL:=af (jw s);have HS:=af hs;have bd:Hid (2+3<=maxLen/\(2+3)*16<=140737488355328):=by show _/\_;unfold maxLen;omega
 clear hs hN;go_enter Tryz.func75,Tryz.ntmps75;go_wp2_with fail;refine(iP 0 w).mono ?_;rintro e x1 ⟨rfl,hx1⟩;have h1P:=af (show x1.ownsRow w.heap.size 114 2 (.slice (some ⟨w.heap.size,0,none⟩) 2 2) 2 [.int .i64 1,.int .i64 1,.int .i64 0,.int .i64 2] by rw[hx1];exact ae hP0);have h1B:=af (show Below w.heap.size w x1 by rw[hx1];exact ae hB0);have hbs1:=(ae h1B).size;clear hx1;go_wp2_with (at_builtin;refine a0A _ rfl _ _ 111 rfl w.heap.size 114 i0 (.agg #[.int .i64 0,.int .i64 0]) 2 16 a0T hi hz0 hz1 hz2 rfl (by decide) (.slice (some ⟨w.heap.size,0,none⟩) 2 2) _ _ rfl (a0p (ae h1P) _) ⟨x1.heap.size,0,none⟩ 3 3 [.int .i64 0,.int .i64 5,.int .i64 (s.size:Nat),.int .i64 16,.int .i64 (N:Nat),.int .i64 16] rfl rfl (Gw _ _ _ _ _ _ _ _ _ rfl) (Gv _ _ _ _ _ _) (ae bd).1 (ae bd).2 (ay hbs1 _) ?_;intro v' x2 hown hgrow hnil;clear hnil;obtain⟨c3,x3,cs,fz,hcv,hb3,hh3,hc3⟩:=Aw s x2);have hb2:Below w.heap.size w x2:=aF (v:=.slice (some ⟨w.heap.size,0,none⟩) 2 2) hgrow (ae h1P) (a0a _) hbs1 (ae h1B);have hq2:Pcs x2 w.heap.size v' (fw s.size):=by rw[ae HH];exact hown
 have hq3:=af (hq2.later hb3 (a0a _));have hB3:=af (al hb2 hb3);have hC3:Hid (∀W,bq 5 x3 W->∀i (hi:i<s.size),W.cell? ⟨x2.heap.size,i,none⟩=some (.int .u8 (s[i].toNat:Int))):=fun W h i hi=>EL (h _ _ _ hh3) (hc3 i hi);generalize x2.heap.size=G at *
 obtain⟨va,vc,rfl⟩:=(ae hq3).form;have hhl:Hid ((fw s.size).length=5):=rfl;clear hown hgrow hb2 hq2 hcv hb3 hc3 hh3
 go_loopw [4,6,23] (fun v _ i wr=>∃k:Nat,k<=s.size/\i = .int .i64 k/\Pcs wr w.heap.size v (fw s.size++dw (s.data.toList.take k))/\bq 5 x3 wr/\Below w.heap.size w wr) (fun _ _ i _=>s.size-(intOf i).toNat)
 case atStart=>exact⟨0,a0m _,rfl,by simpa[dw]using ae hq3,bq.refl _ _,ae hB3⟩
 case round=>
  obtain⟨k,hk,rfl,hq,hkt,hbel⟩:=hrel;have hlen:Hid ((fw s.size++dw (s.data.toList.take k)).length=5+k):=by
   show _=_;rw[a0l,ae hhl,mx,a0L,ae hL];omega
  obtain⟨ra,rc,rfl⟩:=hq.formN (ae hlen);by_cases hlt:k<s.size
  ·
   have hltI:(k:Int)<(s.size:Int):=by omega
   have hcell:=ae hC3 wr hkt k hlt;have hx256:(s[k].toNat:Int)<256:=by have:=a2a s[k];omega
   have hst:Hid (fw s.size++dw (s.data.toList.take k)++[((s[k].toNat:Int),(8:Int))]=fw s.size++dw (s.data.toList.take (k+1))):=by show _=_;rw[a0W,uX,Fa s k hlt]
   have bdk:Hid (5+k+1<=maxLen/\(5+k+1)*16<=140737488355328):=by show _/\_;unfold maxLen;omega
   have hqo:=af (hq.own (ae hlen));have hbs:=hbel.size;have HBel:=af (a0b hbel hkt);clear hq hbel hkt;go_wp2_with (at_builtin;refine a0A _ rfl _ _ 111 rfl w.heap.size 114 i0 (.agg #[.int .i64 0,.int .i64 0]) 2 16 a0T hi hz0 hz1 hz2 rfl (by decide) (.slice ra (5+k) rc) _ _ rfl (a0p (ae hqo) _) ⟨wr.heap.size,0,none⟩ 1 1 [.int .i64 (s[k].toNat:Int),.int .i64 8] rfl rfl (qk _ _ _ _) (qj _ _) (ae bdk).1 (ae bdk).2 (ay hbs _) ?_;intro v' y2 hown hgrow hnil;clear hnil);have hb2:=aF (v:=.slice ra (5+k) rc) hgrow (ae hqo) (a0a _) hbs (ae HBel).1;have hq2:=BW (ae hlen) hown;rw[ae hst]at hq2;have hkt2:=((ae HBel).2.alloc (.cells #[.int .i64 (s[k].toNat:Int),.int .i64 8] 114)).grown (a0p (ae hqo) _) (by decide) hgrow;clear hown hgrow;go_wp2;go_roundw
   case rel=>exact⟨k+1,by omega,by go_num,hq2,hkt2,hb2⟩
   case measure=>simp[intOf];omega
  ·
   obtain rfl:k=s.size:=by omega
   have hall:Hid (s.data.toList.take s.size=s.data.toList):=a0C (by rw[ae hL];exact a0a _);rw[ae hall]at hq hlen;have hp2:Hid (oO (fw s.size++dw s.data.toList)=leS 5 (fC s.size)++s.data.toList):=by have:=ae hput;rw[ae hL]at this;exact this
   have HP:=af (eT ra rc (fw s.size++dw s.data.toList) wr (hq.rowN (ae hlen)) (by rw[ae hlen];omega));rw[ae hlen,ae hp2]at HP;clear hq hk hlt hkt;go_wp2_with fail;refine(ae HP).mono ?_;rintro e y1 ⟨rfl,hy⟩;go_wp2;go_ret;exact⟨rfl,al hbel hy⟩
theorem oC(s:ByteArray)(w:World)(hs:s.size<=1048576) :
  Calls Tryz.prog 75 #[.string s] w fun e w'=>e = .returned (.string ⟨(ik s.data.toList).toArray⟩)/\Below w.heap.size w w':=by
 have hsI:(s.size:Int)<=1048576:=by omega
 by_cases h3:s.size<=300
 ·
  have e:ik s.data.toList=leS 5 (fC s.size)++s.data.toList:=by unfold ik;rw[jw,a0d h3]
  rw[e];exact sd s w h3
 ·
  have hI:(300:Int)<(s.size:Int):=by omega
  have e:ik s.data.toList=[]:=by unfold ik;rw[jw,a0e h3]
  rw[e];clear hs h3 e;go_enter Tryz.func75,Tryz.ntmps75;go_wp2;go_ret;exact⟨rfl,a0c _ _⟩
attribute [local go_sem ↓] Go.wp_at_zero Go.wp_at_succ
end Go.Proofs.YtbacpebljannfaaGreatDoor
namespace Go.Proofs.YtbacpebljannfaaGreatDoor
open Corb
def bitsOf(l:List (Int×Int)):List Int:=l.map (·.2)
end Go.Proofs.YtbacpebljannfaaGreatDoor
namespace Go.Proofs.YtbacpebljannfaaGreatDoor
open Go.RowKit Corb
theorem qB(a:Option Addr)(cap n:Nat)(l:List (Int×Int))(w:World)(hn:l.length=n)(h:mt w a l)(hm:n<=1000000000) :
  Calls Tryz.prog 87 #[.slice a n cap] w fun e w'=>e = .returned (.int .i64 (nG l))/\Below w.heap.size w w':=by
 subst hn;exact fL a cap l w h hm
theorem Rdr.over{w:World}{b p:Nat}{s:ByteArray}(h:Rdr w b s p)(hp:8*s.size<p):Three w b (.string s) (.int .i64 (8*(s.size:Int))) (.bool true):=by
 unfold Rdr at h;rw[Nat.min_eq_right (by omega),a0s (by omega)]at h;exact h
theorem vD{s:List UInt8}{l:List Int}(h:dU l=false∨4000<l.length):iB s l=false/\vC s l=[]:=by
 have hk:iB s l=false:=by
  unfold iB;rcases h with h|h
  · simp[h]
  · simp;omega
 exact⟨hk,a0e (by simp[hk])⟩
theorem Dq{s:List UInt8}{l:List Int}(h:dU l=true)(h4:l.length<=4000):iB s l=(decide (s.length=(fq l+7)/8)&&decide (cP s<2 ^ fq l)):=by
 simp[iB,h,h4]
theorem FU{s:List UInt8}{l:List Int}(h:iB s l=false):vC s l=[]:=a0e (by simp[h])
theorem Dp{s:List UInt8}{l:List Int}(h:iB s l=true):vC s l=fm (cP s) 0 l:=a0d h
theorem nO{v:Value}{a b:Bool}(h:a=b):Ending.returned (.tuple #[v,.bool a]) = .returned (.tuple #[v,.bool b]):=by rw[h]
def blank(l:List Int):List (Int×Int):=l.map fun b=>(0,b)
theorem ly(l:List Int):(blank l).length=l.length:=by simp[blank]
theorem BO(b:Int):pOk 0 b=inB b 0 16:=by
 rw[a2P,aV,aG];have:=oM b.toNat
 constructor
 · exact fun h=>h.1
 · exact fun h=>⟨h,by omega,by omega⟩
theorem CZ(l:List Int):bw (blank l)=dU l:=by
 simp only[bw,dU,blank,List.all_map]
 congr 1
 funext b
 exact BO b
theorem Am(l:List Int)(h:dU l=true):bZ (blank l)=(fq l:Int):=by
 induction l with
 | nil=>rfl
 | cons b l ih=>
  have h':(0<=b/\b<=16)/\dU l=true:=by simpa[dU]using h
  have:=ih h'.2;simp only[bZ,blank,a0K,a0R]at this ⊢;rw[oY,this];omega
theorem xF(l:List Int)(h4:l.length<=4000):nG (blank l)=if dU l=true then(fq l:Int)else -1:=by
 unfold nG lOk;rw[CZ,ly];rcases hb:dU l with _|_
 · simp
 · simp[h4,Am l hb]
theorem xG(l:List Int)(b:Int):blank (l++[b])=blank l++[(0,b)]:=by simp[blank]
theorem Al(l:List Int)(k:Nat)(h:k<l.length):(blank l).getD k (0,0)=(0,l.getD k 0):=by
 simp[blank,List.getD,h]
theorem uT(b:Int)(w:World) :
  Calls Tryz.prog 86 #[.int .i64 b] w fun e w'=>e = .returned (.agg #[.int .i64 0,.int .i64 b])/\Below w.heap.size w w':=by
 go_enter Tryz.func86,Tryz.ntmps86;go_wp2;exact a0v (v:=.agg #[.int .i64 0,.int .i64 b]) (by simp[results,Tryz.results86,go_sem]) rfl ⟨rfl,(a0c _ _).alloc (a0a _) _⟩
theorem Az(a:Option Addr)(cap:Nat)(l:List Int)(w:World)(h:aZ w a l)(h4:l.length<=4000) :
  Calls Tryz.prog 85 #[.slice a l.length cap,.func (.func 86) #[] #[]] w fun e w'=>∃v,e = .returned v/\Pcs w' w.heap.size v (blank l)/\Below w.heap.size w w':=by
 have H4:=af h4;have h4':(l.length:Int)<=4000:=by omega
 clear h4;obtain⟨i0,hi,hz0,hz1,hz2⟩:=a0x Tryz.infoPiece;go_enter Tryz.func85,Tryz.ntmps85;go_wp2_with fail
 go_loopw [5,7,10] (fun o _ i wr=>∃k:Nat,k<=l.length/\i = .int .i64 k/\Pcs wr w.heap.size o (blank (l.take k))/\Below w.heap.size w wr) (fun _ _ i _=>l.length-(intOf i).toNat)
 case atStart=>exact⟨0,a0m _,rfl,a0Y _ _ _ _,a0c _ _⟩
 case round=>
  obtain⟨k,hk,rfl,hq,hbel⟩:=hrel;have hbs:=hbel.size;by_cases hlt:k<l.length
  ·
   obtain⟨g,o,rfl,hg,hc⟩:=(h.later hbel) (by omega);have c0:=hc k hlt;have htk:=af (bX l k hlt);have hlk:Hid ((blank (l.take k)).length=k):=by show(blank (l.take k)).length=k;rw[ly];simp;omega
   have HK:=af hk;clear hc hk h;generalize l.getD k 0=y at *
   go_wp2_with fail;refine(uT y _).mono ?_;rintro e x1 ⟨rfl,hb1⟩;have hq1:=Pcs.later hq hb1 (a0a _);have hbel1:=al hbel hb1;have hbs1:=hbel1.size;clear hq hbel hb1;go_wp2_with (at_builtin;refine a0A _ rfl _ _ 111 rfl w.heap.size 114 i0 (.agg #[.int .i64 0,.int .i64 0]) 2 16 a0T hi hz0 hz1 hz2 rfl (by decide) _ _ _ rfl (a0p hq1 _) ⟨x1.heap.size,0,none⟩ 1 1 [.int .i64 0,.int .i64 y] rfl rfl (by intro j u hj;match j,hj with | 0,hj=>simp at hj;subst hj;simp[Addr.add] | 1,hj=>simp at hj;subst hj;simp[Addr.add]) (by intro u hu;simp at hu;rcases hu with rfl|rfl<;>rfl) (by have:=ae hlk;have:=ae H4;unfold maxLen;omega) (by have:=ae hlk;have:=ae H4;omega) (by simp;omega) ?_;intro v' x2 hown hgrow hnil;clear hnil);have hb2:=aF (v:=u5) hgrow hq1 (a0a _) hbs1 hbel1;have hq2:=lc hown;rw[←xG,←ae htk]at hq2;clear hown hgrow hq1;go_wp2;go_roundw
   case rel=>exact⟨k+1,by have:=ae HK;omega,by go_num,hq2,hb2⟩
   case measure=>simp[intOf];omega
  · have hlk2:l.take k=l:=a0C (by omega);rw[hlk2]at hq;obtain⟨va,vc,rfl⟩:=hq.form;clear hlk2 h;go_wp2;go_ret;exact⟨_,rfl,hq,hbel⟩
theorem BB(a:Addr)(w:World):(method 398 117 (.pointer (some a)) "loop.example/corbel/impl.pass").run Tryz.prog w = .ok (217,.pointer (some a)) w:=by kernel_rfl
theorem AD(b:Nat)(s:ByteArray)(a:Option Addr)(cap:Nat)(l:List Int)(w:World)(h:mt w a (blank l))(hbo:dU l=true)(h4:l.length<=4000)(hs:s.size<=2000000)(hr:Rdr w b s 0)(hb:∀g o,a=some ⟨g,o,none⟩->0<l.length->g<b) :
  Calls Tryz.prog 116 #[.slice a l.length cap,.func (.method "loop.example/corbel/impl.pass") #[.iface 117 (.pointer (some ⟨b,0,none⟩))] #[]] w fun e w'=>
   ∃v,e = .returned v/\ak w' (b+1) v (fm (ap s) 0 l)/\Rdr w' b s (fq l)/\Below b w w':=by
 have Hbo:=af hbo;have H4:=af h4;have Hs:=af hs;have h4':(l.length:Int)<=4000:=by omega
 have hbl:=ly l;clear hbo h4 hs;obtain⟨i0,hi,hz0,hz1,hz2⟩:=a0x Tryz.infoInt;have mp:=BB ⟨b,0,none⟩;have Hb:=af hb;clear hb;go_enter Tryz.func116,Tryz.ntmps116;go_wp2_with fail
 go_loopw [5,7,10] (fun o _ i wr=>∃k:Nat,k<=l.length/\i = .int .i64 k/\ak wr (b+1) o (fm (ap s) 0 (l.take k))/\Rdr wr b s (fq (l.take k))/\Below b w wr) (fun _ _ i _=>l.length-(intOf i).toNat)
 case atStart=>exact⟨0,a0m _,rfl,ak.nil _ _,hr,a0c _ _⟩
 case round=>
  obtain⟨k,hk,rfl,hown,hrr,hbel⟩:=hrel;have hrl:=hrr.lt;by_cases hlt:k<l.length
  ·
   obtain⟨g,o,rfl,hg,hc⟩:=h (by omega);have hgb:=ae Hb g o rfl (by omega);have hck:=hc k (by omega);rw[Al l k hlt]at hck;have c0:=(hbel.cell (p:=⟨g,o+k*2,none⟩) hgb).trans hck.1;have c1:=(hbel.cell (p:=⟨g,o+k*2+1,none⟩) hgb).trans hck.2;have htk:=af (bX l k hlt);have hrd:=af (uG (ap s) 0 (l.take k) [l.getD k 0]);have hsu:=af (wV (l.take k) [l.getD k 0]);have hlk:Hid ((fm (ap s) 0 (l.take k)).length=k):=by show(fm (ap s) 0 (l.take k)).length=k;rw[tg];simp;omega
   obtain⟨y0,y1⟩:=xE (ae Hbo) k hlt;have HK:=af hk;clear hc hk h hr hck hbl;generalize l.getD k 0=y at *
   obtain⟨c,rfl⟩:=a0t y0;go_wp2_with fail;refine(rG b (fq (l.take k)) c 0 s _ (hrr.alloc _) (ae Hs) (by omega)).mono ?_;rintro e x1 ⟨rfl,hr1,hk1⟩;have hown1:ak x1 (b+1) u5 (fm (ap s) 0 (l.take k)):=hk1.own (a0p hown _) (a0j _);have hbel1:=(hbel.alloc (a0k hrl) (.cells #[.int .i64 0,.int .i64 (c:Int)] 114)).trans hk1.1;have hr1l:=hr1.lt;generalize hX:ap s/2 ^ fq (l.take k)%2 ^ c=X at *
   have HX:=af hX;clear hX hown hrr hbel hk1;go_wp2_with (at_builtin;refine a0A _ rfl _ _ 84 rfl (b+1) 3 i0 (.int .i64 0) 1 8 a0h hi hz0 hz1 hz2 rfl (by decide) _ _ _ rfl (a0p hown1 _) ⟨x1.heap.size,0,none⟩ 1 1 [.int .i64 (X:Int)] rfl rfl (by intro j u hj;match j,hj with | 0,hj=>simp at hj;subst hj;simp[Addr.add]) (by intro u hu;simp at hu;subst hu;rfl) (by have:=ae hlk;have:=ae H4;unfold maxLen;omega) (by have:=ae hlk;have:=ae H4;omega) (by simp;omega) ?_;intro v' x3 hown hgrow hnil;clear hnil);have hr3:Rdr x3 b s (fq (l.take k)+c):=hr1.kept (aF (v:=u5) hgrow hown1 (a0a _) (by omega) (a0c _ _));have hbel3:Below b w x3:=aF (v:=u5) hgrow hown1 (a0H _) (by omega) hbel1;have hown3:=lJ hown;clear hown hgrow hown1 hr1 hbel1;go_wp2;go_roundw
   case rel=>
    refine⟨k+1,by have:=ae HK;omega,by go_num,?_,?_,hbel3⟩
    · rw[ae htk,ae hrd];simp only[fm,a0M,a0y];rw[ae HX];exact hown3
    · rw[ae htk,ae hsu];simp only[fq,a0K,a1N,a0R,a3n,a0y,a2r];exact hr3
   case measure=>simp[intOf];omega
  · have hlk2:l.take k=l:=a0C (by omega);rw[hlk2]at hown hrr;obtain⟨va,vc,rfl⟩:=hown.form;clear hlk2 h hr;go_wp2;go_ret;exact⟨_,rfl,hown,hrr,hbel⟩
theorem Cr(b:Nat)(s:ByteArray)(a:Option Addr)(cap:Nat)(l:List Int)(w:World)(h:mt w a (blank l))(hbo:dU l=true)(h4:l.length<=4000)(hs:s.size<=2000000)(hr:Rdr w b s 0)(hb:∀g o,a=some ⟨g,o,none⟩->0<l.length->g<b) :
  Calls Tryz.prog 88 #[.iface 117 (.pointer (some ⟨b,0,none⟩)),.slice a l.length cap] w fun e w'=>
   ∃v,e = .returned v/\ak w' (b+1) v (fm (ap s) 0 l)/\Rdr w' b s (fq l)/\Below b w w':=by
 go_enter Tryz.func88,Tryz.ntmps88;go_wp2_with fail;refine(AD b s a cap l _ h hbo h4 hs hr hb).mono ?_;rintro e w1 ⟨v,rfl,hown,hrr,hbel⟩;obtain⟨va,vc,rfl⟩:=hown.form;go_wp2;go_ret;exact⟨_,rfl,hown,hrr,hbel⟩
theorem pL(s:ByteArray)(a:Option Addr)(cap:Nat)(l:List Int)(w:World)(h:aZ w a l)(hs:s.size<=2000000)(hl:l.length<=2000000) :
  Calls Tryz.prog 56 #[.string s,.slice a l.length cap] w fun e w'=>∃v,e = .returned (.tuple #[v,.bool (iB s.data.toList l)])/\ak w' w.heap.size v (vC s.data.toList l)/\Below w.heap.size w w':=by
 have hsI:(s.size:Int)<=2000000:=by omega
 have hlI:(l.length:Int)<=2000000:=by omega
 have Hs:=af hs;clear hs hl;by_cases h4:l.length<=4000
 ·
  have h4I:(l.length:Int)<=4000:=by omega
  have H4:=af h4;have hlong:=af (xF l h4);have hbl:=af (ly l);go_enter Tryz.func56,Tryz.ntmps56;go_wp2_with fail;refine(Az a cap l _ h (ae H4)).mono ?_;rintro e x1 ⟨v,rfl,hq,hb1⟩;obtain⟨va,vc,rfl⟩:=hq.formN (ae hbl);have hrow:=hq.rowN (ae hbl);clear h h4;go_wp2_with fail;refine(qB va vc l.length (blank l) _ (ae hbl) hrow (by have:=ae H4;omega)).mono ?_;rintro e x2 ⟨rfl,hb2⟩;rw[ae hlong];have hq2:=hq.later hb2 (a0a _);have hrow2:=hq2.rowN (ae hbl);have hbel2:=al hb1 hb2;have hws:=af hbel2.size;clear hrow hb1 hb2 hq;rcases hbo:dU l with _|_
  ·
   have hno:=af (vD (s:=s.data.toList) (a0o hbo));rw[a0e (by simp)];go_wp2
   go_ret2
   refine⟨_,nO (ae hno).1.symm,?_,hbel2⟩;rw[(ae hno).2];exact ak.nil _ _
  ·
   have Hbo:=af hbo;have hge:=af (Dq (s:=s.data.toList) hbo (ae H4));have hsd:s.data.toList.length=s.size:=by simp
   have hsb:=GC hbo;have hS:(fq l:Int)<=64000:=by have:=ae H4;omega
   have hS0:(0:Int)<=(fq l:Int):=by omega
   have hcl:=af (yR s.data.toList (fq l));rw[hsd]at hge hcl;rw[a0d rfl];have hyes:=af (Dp (s:=s.data.toList) (l:=l));have hnot:=af (FU (s:=s.data.toList) (l:=l));have hV:cP s.data.toList=ap s:=rfl;rw[hV]at hge hcl hyes;clear hbo hsb hsd hV;generalize hm:fq l=m at *
   have Hm:=af hm;clear hm;by_cases he:(s.size:Int)=((m:Int)+7)/8
   ·
    have he':s.size=(m+7)/8:=by omega
    have hR0:=Gq x2 s 119;have hB0:Below x2.heap.size x2 (x2.alloc (.cells #[.string s,.int .i64 0,.bool false] 119)):=(a0c _ _).alloc (a0a _) _;have hrow3:=hrow2.later hB0;have hgb:∀g o,va=some ⟨g,o,none⟩->0<l.length->g<x2.heap.size:=by
     intro g o e h0;obtain⟨g',o',e',hg',_⟩:=hrow2 (by rw[ae hbl];exact h0);rw[e]at e';simp only[a0n,a0z,a0Q]at e';omega
    have HE:=af he';have HG:=af hgb;clear he' hgb hrow2;go_wp2_with fail;refine(Cr x2.heap.size s va vc l _ hrow3 (ae Hbo) (ae H4) (ae Hs) hR0 (ae HG)).mono ?_;rintro e x3 ⟨v,rfl,hown,hrr,hb3⟩;have hbel3:=al hbel2 (hB0.trans hb3);rw[ae Hm]at hrr;clear hR0 hB0 hrow3 hb3 hbel2 hq2;obtain⟨va',vc',rfl⟩:=hown.form;go_wp2_with fail;refine(py x2.heap.size m s _ hrr (ae Hs) (by have:=ae HE;omega)).mono ?_;rintro e x4 ⟨rfl,hr4,hk4⟩;have hown4:=hk4.own hown (a0j _);have hbel4:=hbel3.trans (hk4.1.mono (ae hws));clear hown hrr hr4 hk4 hbel3;by_cases hC:ap s/2 ^ m%2 ^ ((8-m%8)%8)=0
    ·
     rw[a0s hC];have hok:iB s.data.toList l=true:=by
      rw[ae hge,a0s (ae HE),a0s ((ae hcl (ae HE)).1 hC)];rfl
     have HOK:=af hok;clear hok hC;go_wp2
     go_ret2
     refine⟨_,nO (ae HOK).symm,?_,hbel4⟩;rw[ae hyes (ae HOK)];exact ak.mono hown4 (Nat.le_succ_of_le (ae hws))
    ·
     rw[a0r hC];have hno:iB s.data.toList l=false:=by
      rw[ae hge,a0r (fun h=>hC ((ae hcl (ae HE)).2 h))];simp
     have HNO:=af hno;have HL:=af (ae hnot hno);clear hno hC;go_wp2
     go_ret2
     refine⟨_,nO (ae HNO).symm,?_,hbel4⟩;rw[ae HL];exact ak.nil _ _
   ·
    have hno:iB s.data.toList l=false:=by
     rw[ae hge,a0r (by omega)];rfl
    have hne:((s.size:Int) != ((m:Int)+7)/8)=true:=by simpa using he
    have HNO:=af hno;have HL:=af (ae hnot hno);clear hno;go_wp2
    go_ret2
    refine⟨_,nO (ae HNO).symm,?_,hbel2⟩;rw[ae HL];exact ak.nil _ _
 ·
  have hno:=af (vD (s:=s.data.toList) (l:=l) (Or.inr (by omega)));have h4I:4000<(l.length:Int):=by omega
  clear h4;go_enter Tryz.func56,Tryz.ntmps56;go_wp2
  go_ret2
  refine⟨_,nO (ae hno).1.symm,?_,a0c _ _⟩;rw[(ae hno).2];exact ak.nil _ _
end Go.Proofs.YtbacpebljannfaaGreatDoor
