/- Texts. -/
import Derived.Test.YtemopnjckikkaaaGreatDoorEd5
import Derived.Test.YtemopnjckikkaaaGreatDoorM43
set_option linter.all false
set_option maxRecDepth 100000
set_option maxHeartbeats 3200000
namespace Go.Proofs.YtemopnjckikkaaaGreatDoor
open Go.Proofs.Tryz
open Go.RowKit Corb
def nF{α:Type}{T:TypeId}{c:Nat}{f:α->List Value}{w w':World}{base b:Nat}{v:Value}{l:List α}(h:cq T c f w base v l)(j:Kn b w w')(hb:b<base):cq T c f w' base v l:=by
 refine⟨h.1,?_⟩;rcases h.2 with k|⟨g,cap,d,rfl,e,a,rest⟩
 . exact .inl k
 . have i:=(Array.getElem?_eq_some_iff.1 a).1;refine .inr ⟨g,cap,d,rfl,e,?_,rest⟩;rw[j.2.1 g i (by omega)];exact a
def re{b:Nat}{w w':World}(h:Below w.heap.size w w')(hb:b<w.heap.size):Kn b w w':=⟨h.mono (a0r hb),fun k a _=>h.block k a,h.size⟩
def NK{l:List En}(h:dO l=true)(i:Nat)(a:i<l.length):(l.getD i default).n.size<=43/\(l.getD i default).t.size<=300:=by
 have:=cR (n:=(l.getD i default).n) (t:=(l.getD i default).t) ((jz h).1 i a);exact⟨this.1,this.2.1⟩
def fN(j:Nat):ByteArray:=(⟨#[102]⟩:ByteArray)++⟨(Lib.decDigits j).toArray⟩
def fM(j:Nat):ByteArray:=⟨#[102,UInt8.ofNat (48+j)]⟩
def Re{j:Nat}(h:j<6):fN j=fM j:=by
 unfold fN fM;rw[Lib.decDigits,dif_pos (by omega)];rfl
def Qq:∀j,j<6->lj (fM j).data.toList=true/\(∀v∈iL,cw v.data.toList (fM j).data.toList=false)/\∀i,i<j->cw (fM i).data.toList (fM j).data.toList=false:=by decide +kernel
def JV(l:List En):Prop:=dO l=true/\∀e∈l,e.n∈iL
def DD(l:List En):Prop:=dO l=true/\∀e∈l,e.n∈iL∨∃j,j<l.length/\e.n=fM j
def QE:JV []:=⟨rfl,fun e a=>by cases a⟩
def OV{l:List En}{e:En}(h:JV l)(c:bU l e=0)(b:e.n∈iL):JV (l++[e]):=
 ⟨(nV h.1 e).2 c,fun f a=>by
  rcases a0X.1 a with a|a
  . exact h.2 f a
  . rw[a02.1 a];exact b⟩
def P3{l:List En}(h:JV l):DD l:=⟨h.1,fun e a=>.inl (h.2 e a)⟩
def Ow{l:List En}{n:Nat}(m:l.length=n)(h:DD l)(f:n<6){y mo d c mi s:Int}(o:cV y mo d c mi s=true):DD (l++[⟨fN n,y,mo,d,c,mi,s,⟨#[]⟩⟩]):=by
 subst m;obtain⟨f1,f2,f3⟩:=Qq l.length f;rw[Re f];refine⟨(nV h.1 _).2 ?_,fun e b=>?_⟩
 .
  have k:jb ⟨fM l.length,y,mo,d,c,mi,s,⟨#[]⟩⟩=true:=by
   show(lj (fM l.length).data.toList&&(cV y mo d c mi s&&decide ((⟨#[]⟩:ByteArray).size<=300)))=true;rw[f1,o];rfl
  have i:lx l (fM l.length)=false:=(Qc _ _).2 fun e b=>by
   rcases h.2 e b with a|⟨j,g,a⟩
   . exact f2 _ a
   . rw[a];exact f3 j g
  unfold bU;rw[a0c k];show(if lx l (fM l.length)=true then(3:Int)else _)=0;rw[i,a0d (by decide),a0d (by omega)]
 .
  rw[a0i];rcases a0X.1 b with b|b
  .
   rcases h.2 e b with a|⟨j,g,a⟩
   . exact .inl a
   . exact .inr ⟨j,by omega,a⟩
  . rw[a02.1 b];exact .inr ⟨l.length,by simp,rfl⟩
def AX(B b m:Nat)(w:World)(h:Rd w B b m)(hm:m<=60000) :
  Calls prog 29 #[.pointer b] w fun e w'=>(∃v l,e = .returned v/\i6 w' w.heap.size v l/\DD l)/\Rd w' B b (m+300)/\Kn b w w':=by
 obtain⟨i0,hi,be,bk,bl⟩:=a0p Tryz.infoEnt;have c:=h.lt;have R0:Hid (Rd (w.alloc (.cells #[] 49)) B b m):=h.alloc _;have O0:Hid (i6 (w.alloc (.cells #[] 49)) w.heap.size (.slice w.heap.size 0 0) []):=a0R w #[] 0 (a0a _) (by unfold maxLen;omega) rfl;have K0:Hid (Kn b w (w.alloc (.cells #[] 49))):=iS w _ c;have ac:Hid (∀x,x<=40->x<=maxLen/\x*80<=140737488355328):=fun x hx=>by unfold maxLen;omega
 clear h;go_enter func29,ntmps29;go_wp2_with fail;refine(cB B b m _ _ R0 (by omega) (by omega) (by omega)).mono ?_;rintro e w1⟨r,rfl,r0,r1,T,D⟩;obtain⟨n0,rfl⟩:=a0o r0;have O1:=af (nF O0 D.kn c);have K1:=af (K0.trans D.kn);have R1:=af T;have a2:n0<=4:=by omega
 clear R0 O0 K0 T D r0 r1;go_wp2_with fail
 go_loopw [3,4] (fun v i wr=>∃(l:List En) (k:Nat),i = .int .i64 k/\k<=4/\l.length+k<=4/\i6 wr w.heap.size v l/\JV l/\Rd wr B b (m+1+(4-k)*60)/\Kn b w wr) (fun _ i _=>(intOf i).toNat)
 case atStart=>exact⟨[],n0,rfl,a2,by simpa using a2,O1,QE,R1.mono (by omega),K1⟩
 case round=>
  obtain⟨l,k,rfl,hk,a0,ho,hT,q,z⟩:=hrel;clear O1 K1 R1;obtain⟨n,Z⟩:∃n,l.length=n:=⟨_,rfl⟩;obtain⟨g,cap,rfl,O,_⟩:=cq.formN Z ho;have bb:(k:Int)<=4:=by omega
  have a:=af (a0b ho (a0b hT (a0b q (a0b z (a0b Z a0)))));have C:=q.lt;clear ho hT q z Z a0;by_cases hp:0<k
  .
   have bd:(0:Int)<(k:Int):=by omega
   go_wp2_with fail;refine(wi B b _ _ a.2.2.1 (by omega)).mono ?_;rintro e w2⟨nm,y,mo,d,h,mi,s,t,rfl,⟨aa,ht⟩,F,A⟩;have j:=af (a0b (nF a.1 A c) (a0b F (a.2.2.2.1.trans A)));have Q:=F.lt;have an:=af aa;have HC:=af (Iy _ l ⟨nm,y,mo,d,h,mi,s,t⟩ _ w2 j.1 (by have:=ae a;omega) (fun i hi=>by have:=NK a.2.1.1 i hi;omega) (by have:=Pd (a0X.2 (.inr aa));show nm.size<=_;omega) (by show(t.size:Int)<=_;omega));clear F A aa ht;generalize hE:(⟨nm,y,mo,d,h,mi,s,t⟩:En)=en at HC;go_wp2_with fail;have ao:Value.agg #[nm,y,mo,d,h,mi,s,t] = .agg en:=by rw[←hE]
   rw[ao];have V:Hid (en.n∈iL):=by show _∈_;rw[←hE];exact an
   clear hE ao an;refine HC.mono ?_;rintro f w3⟨⟨v3,rfl,ab,H⟩,M⟩;have k3:=re M Q;have L:=af (a0b (j.2.1.kept (M.mono Q)) (j.2.2.trans k3));by_cases S:bU l en=0
   .
    have W:=af (cq.mono (ab S) j.2.2.2.2);have a6:=af (OV a.2.1 S V);have I:Hid ((l++[en]).length+(k-1)<=4):=by show _<=_;have:=ae a;simp;omega
    clear ab H M k3 HC j V S;go_wp2_with fail;go_roundw
    case rel=>exact⟨l++[en],k-1,by go_num,by omega,I,W,a6,L.1.mono (by omega),L.2⟩
    case measure=>simp[intOf];omega
   .
    have W:=af (nF j.1 k3 c);have hv:=H S;clear ab H M k3 HC j V S;rw[hv];clear hv;go_wp2_with fail;go_roundw
    case rel=>exact⟨l,k-1,by go_num,by omega,by have:=ae a;omega,W,a.2.1,L.1.mono (by omega),L.2⟩
    case measure=>simp[intOf];omega
  .
   have bd:¬ (0:Int)<(k:Int):=by omega
   go_wp2_with fail;refine(cB B b _ 24 _ a.2.2.1 (by omega) (by omega) (by omega)).mono ?_;rintro e w4⟨r,rfl,r0,r1,U,E⟩;have o:=af (a0b (nF a.1 E.kn c) (a0b U (a.2.2.2.1.trans E.kn)));have bc:(n:Int)<=4:=by have:=ae a;omega
   have J:=af (a0b (ae a).2.1 (ae a).2.2.2.2.1);clear U E a;by_cases S:r=0
   .
    subst S;go_wp2_with fail
    go_loopw [3,5] (fun v i wr=>∃(l:List En) (n:Nat),l.length=n/\i = .int .i64 n/\n<=6/\i6 wr w.heap.size v l/\DD l/\Rd wr B b (m+242+n*6)/\Kn b w wr) (fun _ i _=>6-(intOf i).toNat)
    case atStart=>exact⟨l,n,J.2,rfl,by omega,o.1,P3 J.1,o.2.1.mono (by omega),o.2.2⟩
    case round=>
     clear o J bc bb O;obtain⟨l,n,Z,rfl,h6,ho,hF,q,z⟩:=hrel;obtain⟨g,cap,rfl,O,_⟩:=cq.formN Z ho;have a:=af (a0b ho (a0b hF (a0b q (a0b z Z))));have C:=q.lt;clear ho hF q z Z;by_cases h5:n<6
     .
      have a9:(n:Int)<6:=by omega
      have HD:=af (Ip n (by omega) wr);go_wp2_with fail;refine HD.mono ?_;rintro e w5⟨rfl,Y⟩;have k5:=re Y C;have u:=af (a0b (nF a.1 k5 c) (a0b (a.2.2.1.kept (Y.mono C)) (a.2.2.2.1.trans k5)));have N:¬ (9223372036854775807:Nat)<(⟨#[102]⟩:ByteArray).size+(⟨(Lib.decDigits n).toArray⟩:ByteArray).size:=by
       rw[Lib.decDigits,dif_pos (by omega)];show ¬ (9223372036854775807:Nat)<1+1;decide
      have ba:(⟨#[102]⟩:ByteArray)++⟨(Lib.decDigits n).toArray⟩=fN n:=rfl;have ad:=af N;clear Y k5 HD N;generalize (⟨(Lib.decDigits n).toArray⟩:ByteArray)=dg at *
      have N:=ae ad;clear ad;go_wp2_with fail;refine(oj B b _ _ u.2.1 (by omega)).mono ?_;rintro e w6⟨y,mo,d,h,mi,s,rfl,⟨_,a4⟩,G,P⟩;have k6:=ux P;have O6:=nF u.1 k6 c;have a1:=G.lt;have a5:=af (Ow a.2.2.2.2 a.2.1 h5 a4);generalize fN n=nm at *
      have K:=af (a0m (cq.own a.2.2.2.2 O6) (.cells #[nm,y,mo,d,h,mi,s,.string ⟨#[]⟩] 49));have al:=af (pp (aP w6 #[nm,y,mo,d,h,mi,s,.string ⟨#[]⟩] 49));have X:=af (a0b (G.alloc (.cells #[nm,y,mo,d,h,mi,s,.string ⟨#[]⟩] 49)) ((u.2.2.trans k6).trans (iS w6 (.cells #[nm,y,mo,d,h,mi,s,.string ⟨#[]⟩] 49) a1)));have I:Hid (l.length=n):=a.2.2.2.2;have a8:Hid (w.heap.size<=w6.heap.size):=(u.2.2.trans k6).2.2;clear O6 k6 P G a4 u a ba N;go_wp2_with (at_builtin;refine a0u _ rfl _ _ 24 rfl w.heap.size 49 i0 (.agg ()) 8 80 underlying24 hi be bk bl rfl (by decide) _ n (l.flatMap kH) rfl K ⟨w6.heap.size,0,none⟩ 1 1 (kH ⟨nm,y,mo,d,h,mi,s,⟨#[]⟩⟩) rfl rfl al (jJ _) (ac _ (by omega)).1 (ac _ (by omega)).2 (av a8 _) ?_;intro v7 w7 R p a3);have O7:Hid (i6 w7 w.heap.size v7 (l++[⟨nm,y,mo,d,h,mi,s,⟨#[]⟩⟩])):=cq.snoc I R;have R7:=af (X.1.grown p (fun k e=>a0h c (a0y K k e).1));have K7:Hid (Kn b w w7):=AW X.2 p (fun k e=>(a0y K k e).1) c;have a7:Hid ((l++[(⟨nm,y,mo,d,h,mi,s,⟨#[]⟩⟩:En)]).length=n+1):=by show _=_;rw[a0i,ae I];rfl
      clear R p a3 K al X;go_wp2_with fail;go_roundw
      case rel=>exact⟨_,n+1,a7,by go_num,by omega,O7,a5,R7.mono (by omega),K7⟩
      case measure=>simp[intOf];omega
     .
      have a9:¬ (n:Int)<6:=by omega
      go_wp2;go_ret;exact⟨⟨_,rfl,_,a.1,a.2.1⟩,a.2.2.1.mono (by omega),a.2.2.2.1⟩
   .
    have bs:(r == 0)=false:=by simpa using S
    go_wp2;go_ret;exact⟨⟨_,_,rfl,o.1,P3 J.1⟩,o.2.1.mono (by omega),o.2.2⟩
def Et(B b m:Nat)(w:World)(h:Rd w B b m)(z:m<=50000) :
  Calls prog 12 #[.pointer b] w fun e w'=>(∃l,DD l/\e = .returned (.string (jy l)))/\Rd w' B b (m+300)/\Kn b w w':=by
 have r:=af (AX B b m w h (by omega));clear h;go_enter func12,ntmps12;go_wp2_with fail;refine r.mono ?_;rintro e w1⟨⟨v,l,rfl,q,p⟩,a,c⟩;obtain⟨n,hn⟩:∃n,l.length=n:=⟨_,rfl⟩;obtain⟨g,cap,rfl,s,_⟩:=cq.formN hn q;have o:=p.1;have u:=(jz o).2;have k:=af (Iw g cap n l w1 hn (ep hn q) (by omega) (fun i y=>KZ o (by omega)));rw[←PU o hn]at k;have f:=af (a0b a (a0b c (a0b p a.lt)));clear q p o u hn a c r;obtain⟨S,hS⟩:∃x,jy l=x:=⟨_,rfl⟩;rw[hS]at k;have t:=af hS;clear hS;go_wp2_with fail;refine k.mono ?_;rintro e w2⟨rfl,j⟩;have d:=af j;clear j k;go_wp2;go_ret;exact⟨⟨l,f.2.2.1,by rw[ae t];rfl⟩,f.1.kept (d.mono f.2.2.2),f.2.1.trans (re d f.2.2.2)⟩
def tU(a:Option Addr)(len cap:Nat)(z:Nat->Int)(w:World)(h:Src w a len z)(u:len<=cap)(v:len<=maxLen) :
  Calls prog 4 #[.slice a len cap] w fun e w'=>(∃(l:List En) (s:ByteArray),e = .returned (.string s)/\s.size<=9100/\DD l/\qs (jy l) s)/\Below w.heap.size w w':=by
 go_enter func4,ntmps4;go_wp2_with fail;refine(Eu a len cap z _ h u v).mono ?_;rintro e w1⟨rfl,n,d,y⟩;go_wp2_with fail;refine(Et _ _ 0 _ n (by omega)).mono ?_;rintro e w2⟨⟨l,p,rfl⟩,g,c⟩;have r:=vS l;have i:=af (d.trans c.1);have q:=af p;obtain⟨S,hSe⟩:∃x,jy l=x:=⟨_,rfl⟩;have m:=af hSe;rw[hSe]at r;rw[hSe];clear c p hSe;go_wp2_with fail;refine(yP _ _ _ S _ g (by omega) (by omega)).mono ?_;rintro e w3⟨⟨t,rfl,A,f⟩,o,b⟩;have k:=af f;clear f;have j:=af (i.trans b);clear b;go_wp2;go_ret;exact⟨⟨l,t,rfl,A,q,by rw[ae m];exact k⟩,j⟩
