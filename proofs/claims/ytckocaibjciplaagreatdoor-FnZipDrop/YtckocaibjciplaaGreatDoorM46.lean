/- Texts. -/
import Derived.Test.YtckocaibjciplaaGreatDoorM43
import Derived.Test.YtckocaibjciplaaGreatDoorM45
set_option linter.all false
set_option maxRecDepth 100000
set_option maxHeartbeats 3200000
namespace Go.Proofs.YtckocaibjciplaaGreatDoor
open Go.Proofs.Tryz
open Go.RowKit Corb
variable {b:Nat}{w w':World}
def ow{α:Type}{T:TypeId}{c:Nat}{f:α->List Value}{base:Nat}{v:Value}{l:List α}(h:bU T c f w base v l)(j:Kn b w w')(hb:b<base):bU T c f w' base v l:=by
 refine⟨h.1,?_⟩;rcases h.2 with k|⟨g,cap,d,rfl,e,a,rest⟩
 . exact .inl k
 . have i:=(Array.getElem?_eq_some_iff.1 a).1;refine .inr ⟨g,cap,d,rfl,e,?_,rest⟩;rw[j.2.1 g i (by omega)];exact a
def si(h:Below w.heap.size w w')(hb:b<w.heap.size):Kn b w w':=⟨h.mono (a0r hb),fun k a _=>h.block k a,h.size⟩
def PN{l:List En}(h:bF l=true)(i:Nat)(a:i<l.length):(l.getD i default).n.size<=43/\(l.getD i default).t.size<=300:=by
 have:=cU (n:=(l.getD i default).n) (t:=(l.getD i default).t) ((dS h).1 i a);exact⟨this.1,this.2.1⟩
def fN(j:Nat):ByteArray:=(⟨#[102]⟩:ByteArray)++⟨(Lib.decDigits j).toArray⟩
def fM(j:Nat):ByteArray:=⟨#[102,UInt8.ofNat (48+j)]⟩
def Tl{j:Nat}(h:j<6):fN j=fM j:=by
 unfold fN fM;rw[Lib.decDigits,dif_pos (by omega)];rfl
def Ss:∀j,j<6->lG (fM j).data.toList=true/\(∀v∈eG,bW v.data.toList (fM j).data.toList=false)/\∀i,i<j->bW (fM i).data.toList (fM j).data.toList=false:=by decide +kernel
def LH(l:List En):Prop:=bF l=true/\∀e∈l,e.n∈eG
def I2(l:List En):Prop:=bF l=true/\∀e∈l,e.n∈eG∨∃j,j<l.length/\e.n=fM j
def SG:LH []:=⟨rfl,fun e a=>by cases a⟩
def QP{l:List En}{e:En}(h:LH l)(c:aH l e=0)(b:e.n∈eG):LH (l++[e]):=
 ⟨(dp h.1 e).2 c,fun f a=>by
  rcases a02.1 a with a|a
  . exact h.2 f a
  . rw[a09.1 a];exact b⟩
def RO{l:List En}(h:LH l):I2 l:=⟨h.1,fun e a=>.inl (h.2 e a)⟩
def Qs{l:List En}{n:Nat}(m:l.length=n)(h:I2 l)(f:n<6){y mo d c mi s:Int}(o:cX y mo d c mi s=true):I2 (l++[⟨fN n,y,mo,d,c,mi,s,⟨#[]⟩⟩]):=by
 subst m;obtain⟨f1,f2,f3⟩:=Ss l.length f;rw[Tl f];refine⟨(dp h.1 _).2 ?_,fun e b=>?_⟩
 .
  have k:je ⟨fM l.length,y,mo,d,c,mi,s,⟨#[]⟩⟩=true:=by
   show(lG (fM l.length).data.toList&&(cX y mo d c mi s&&decide ((⟨#[]⟩:ByteArray).size<=300)))=true;rw[f1,o];rfl
  have i:iG l (fM l.length)=false:=(rB _ _).2 fun e b=>by
   rcases h.2 e b with a|⟨j,g,a⟩
   . exact f2 _ a
   . rw[a];exact f3 j g
  unfold aH;rw[a0d k];show(if iG l (fM l.length)=true then(3:Int)else _)=0;rw[i,a0e (by decide),a0e (by omega)]
 .
  rw[a0j];rcases a02.1 b with b|b
  .
   rcases h.2 e b with a|⟨j,g,a⟩
   . exact .inl a
   . exact .inr ⟨j,by omega,a⟩
  . rw[a09.1 b];exact .inr ⟨l.length,by simp,rfl⟩
def Db(B b m:Nat)(w:World)(h:Rd w B b m)(hm:m<=60000) :
  Calls prog 39 #[.pointer b] w fun e w'=>(∃v l,e = .returned v/\dF w' w.heap.size v l/\I2 l)/\Rd w' B b (m+300)/\Kn b w w':=by
 obtain⟨i0,hi,bk,bl,bs⟩:=a0s Tryz.infoEnt;have c:=h.lt;have R0:Hid (Rd (w.alloc (.cells #[] 34)) B b m):=h.alloc _;have O0:Hid (dF (w.alloc (.cells #[] 34)) w.heap.size (.slice w.heap.size 0 0) []):=a0S w #[] 0 (a0a _) (by unfold maxLen;omega) rfl;have K0:Hid (Kn b w (w.alloc (.cells #[] 34))):=gw w _ c;have ac:Hid (∀x,x<=40->x<=maxLen/\x*80<=140737488355328):=fun x hx=>by unfold maxLen;omega
 clear h;go_enter func39,ntmps39;go_wp2_with fail;refine(bR B b m _ _ R0 (by omega) (by omega) (by omega)).mono ?_;rintro e w1⟨r,rfl,r0,r1,T,D⟩;obtain⟨n0,rfl⟩:=a0p r0;have O1:=af (ow O0 D.kn c);have K1:=af (K0.trans D.kn);have R1:=af T;have a3:n0<=4:=by omega
 clear R0 O0 K0 T D r0 r1;go_wp2_with fail
 go_loopw [3,4] (fun v i wr=>∃(l:List En) (k:Nat),i = .int .i64 k/\k<=4/\l.length+k<=4/\dF wr w.heap.size v l/\LH l/\Rd wr B b (m+1+(4-k)*60)/\Kn b w wr) (fun _ i _=>(intOf i).toNat)
 case atStart=>exact⟨[],n0,rfl,a3,by simpa using a3,O1,SG,R1.mono (by omega),K1⟩
 case round=>
  obtain⟨l,k,rfl,hk,a1,ho,hT,q,z⟩:=hrel;clear O1 K1 R1;obtain⟨n,Z⟩:∃n,l.length=n:=⟨_,rfl⟩;obtain⟨g,cap,rfl,O,_⟩:=bU.formN Z ho;have bc:(k:Int)<=4:=by omega
  have a:=af (a0b ho (a0b hT (a0b q (a0b z (a0b Z a1)))));have C:=q.lt;clear ho hT q z Z a1;by_cases hp:0<k
  .
   have be:(0:Int)<(k:Int):=(by omega);go_wp2_with fail;refine(oW B b _ _ a.2.2.1 (by omega)).mono ?_;rintro e w2⟨nm,y,mo,d,h,mi,s,t,rfl,⟨aa,ht⟩,F,A⟩;have j:=af (a0b (ow a.1 A c) (a0b F (a.2.2.2.1.trans A)));have Q:=F.lt;have ao:=af aa;have HC:=af (yD _ l ⟨nm,y,mo,d,h,mi,s,t⟩ _ w2 j.1 (by have:=ae a;omega) (fun i hi=>by have:=PN a.2.1.1 i hi;omega) (by have:=Ay (a02.2 (.inr aa));show nm.size<=_;omega) (by show(t.size:Int)<=_;omega));clear F A aa ht;generalize hE:(⟨nm,y,mo,d,h,mi,s,t⟩:En)=en at HC;go_wp2_with fail;have a0:Value.agg #[nm,y,mo,d,h,mi,s,t] = .agg en:=(by rw[←hE]);rw[a0];have V:Hid (en.n∈eG):=by show _∈_;rw[←hE];exact ao
   clear hE a0 ao;refine HC.mono ?_;rintro f w3⟨⟨v3,rfl,ab,H⟩,M⟩;have k3:=si M Q;have L:=af (a0b (j.2.1.kept (M.mono Q)) (j.2.2.trans k3));by_cases S:aH l en=0
   .
    have W:=af (bU.mono (ab S) j.2.2.2.2);have a7:=af (QP a.2.1 S V);have I:Hid ((l++[en]).length+(k-1)<=4):=by show _<=_;have:=ae a;simp;omega
    clear ab H M k3 HC j V S;go_wp2_with fail;go_roundw
    case rel=>exact⟨l++[en],k-1,by go_num,by omega,I,W,a7,L.1.mono (by omega),L.2⟩
    case measure=>simp[intOf];omega
   .
    have W:=af (ow j.1 k3 c);have hv:=H S;clear ab H M k3 HC j V S;rw[hv];clear hv;go_wp2_with fail;go_roundw
    case rel=>exact⟨l,k-1,by go_num,by omega,by have:=ae a;omega,W,a.2.1,L.1.mono (by omega),L.2⟩
    case measure=>simp[intOf];omega
  .
   have be:¬ (0:Int)<(k:Int):=(by omega);go_wp2_with fail;refine(bR B b _ 24 _ a.2.2.1 (by omega) (by omega) (by omega)).mono ?_;rintro e w4⟨r,rfl,r0,r1,U,E⟩;have o:=af (a0b (ow a.1 E.kn c) (a0b U (a.2.2.2.1.trans E.kn)));have bd:(n:Int)<=4:=by have:=ae a;omega
   have J:=af (a0b (ae a).2.1 (ae a).2.2.2.2.1);clear U E a;by_cases S:r=0
   .
    subst S;go_wp2_with fail
    go_loopw [3,5] (fun v i wr=>∃(l:List En) (n:Nat),l.length=n/\i = .int .i64 n/\n<=6/\dF wr w.heap.size v l/\I2 l/\Rd wr B b (m+242+n*6)/\Kn b w wr) (fun _ i _=>6-(intOf i).toNat)
    case atStart=>exact⟨l,n,J.2,rfl,by omega,o.1,RO J.1,o.2.1.mono (by omega),o.2.2⟩
    case round=>
     clear o J bd bc O;obtain⟨l,n,Z,rfl,h6,ho,hF,q,z⟩:=hrel;obtain⟨g,cap,rfl,O,_⟩:=bU.formN Z ho;have a:=af (a0b ho (a0b hF (a0b q (a0b z Z))));have C:=q.lt;clear ho hF q z Z;by_cases h5:n<6
     .
      have ba:(n:Int)<6:=(by omega);have HD:=af (JY n (by omega) wr);go_wp2_with fail;refine HD.mono ?_;rintro e w5⟨rfl,Y⟩;have k5:=si Y C;have u:=af (a0b (ow a.1 k5 c) (a0b (a.2.2.1.kept (Y.mono C)) (a.2.2.2.1.trans k5)));have N:¬ (9223372036854775807:Nat)<(⟨#[102]⟩:ByteArray).size+(⟨(Lib.decDigits n).toArray⟩:ByteArray).size:=by
       rw[Lib.decDigits,dif_pos (by omega)];show ¬ (9223372036854775807:Nat)<1+1;decide
      have bb:(⟨#[102]⟩:ByteArray)++⟨(Lib.decDigits n).toArray⟩=fN n:=rfl;have ad:=af N;clear Y k5 HD N;generalize (⟨(Lib.decDigits n).toArray⟩:ByteArray)=dg at *;have N:=ae ad;clear ad;go_wp2_with fail;refine(oX B b _ _ u.2.1 (by omega)).mono ?_;rintro e w6⟨y,mo,d,h,mi,s,rfl,⟨_,a5⟩,G,P⟩;have k6:=qC P;have O6:=ow u.1 k6 c;have a2:=G.lt;have a6:=af (Qs a.2.2.2.2 a.2.1 h5 a5);generalize fN n=nm at *;have K:=af (a0n (bU.own a.2.2.2.2 O6) (.cells #[nm,y,mo,d,h,mi,s,.string ⟨#[]⟩] 34));have al:=af (qh (aG w6 #[nm,y,mo,d,h,mi,s,.string ⟨#[]⟩] 34));have X:=af (a0b (G.alloc (.cells #[nm,y,mo,d,h,mi,s,.string ⟨#[]⟩] 34)) ((u.2.2.trans k6).trans (gw w6 (.cells #[nm,y,mo,d,h,mi,s,.string ⟨#[]⟩] 34) a2)));have I:Hid (l.length=n):=a.2.2.2.2;have a9:Hid (w.heap.size<=w6.heap.size):=(u.2.2.trans k6).2.2;clear O6 k6 P G a5 u a bb N;go_wp2_with (at_builtin;refine a0w _ rfl _ _ 27 rfl w.heap.size 34 i0 (.agg ()) 8 80 a1m hi bk bl bs rfl (by decide) _ n (l.flatMap bY) rfl K ⟨w6.heap.size,0,none⟩ 1 1 (bY ⟨nm,y,mo,d,h,mi,s,⟨#[]⟩⟩) rfl rfl al (ie _) (ac _ (by omega)).1 (ac _ (by omega)).2 (au a9 _) ?_;intro v7 w7 R p a4);have O7:Hid (dF w7 w.heap.size v7 (l++[⟨nm,y,mo,d,h,mi,s,⟨#[]⟩⟩])):=bU.snoc I R;have R7:=af (X.1.grown p (fun k e=>a0h c (a0z K k e).1));have K7:Hid (Kn b w w7):=CY X.2 p (fun k e=>(a0z K k e).1) c;have a8:Hid ((l++[(⟨nm,y,mo,d,h,mi,s,⟨#[]⟩⟩:En)]).length=n+1):=by show _=_;rw[a0j,ae I];rfl
      clear R p a4 K al X;go_wp2_with fail;go_roundw
      case rel=>exact⟨_,n+1,a8,by go_num,by omega,O7,a6,R7.mono (by omega),K7⟩
      case measure=>simp[intOf];omega
     .
      have ba:¬ (n:Int)<6:=(by omega);go_wp2;go_ret;exact⟨⟨_,rfl,_,a.1,a.2.1⟩,a.2.2.1.mono (by omega),a.2.2.2.1⟩
   .
    have b0:(r == 0)=false:=by simpa using S
    go_wp2;go_ret;exact⟨⟨_,_,rfl,o.1,RO J.1⟩,o.2.1.mono (by omega),o.2.2⟩
def vG(B b m:Nat)(w:World)(h:Rd w B b m)(z:m<=50000) :
  Calls prog 21 #[.pointer b] w fun e w'=>(∃l,I2 l/\e = .returned (.string (dD l)))/\Rd w' B b (m+300)/\Kn b w w':=by
 have r:=af (Db B b m w h (by omega));clear h;go_enter func21,ntmps21;go_wp2_with fail;refine r.mono ?_;rintro e w1⟨⟨v,l,rfl,q,p⟩,a,c⟩;obtain⟨n,hn⟩:∃n,l.length=n:=⟨_,rfl⟩;obtain⟨g,cap,rfl,s,_⟩:=bU.formN hn q;have o:=p.1;have u:=(dS o).2;have k:=af (su g cap n l w1 hn (eO hn q) (by omega) (fun i y=>zQ o (by omega)));rw[←Ba o hn]at k;have f:=af (a0b a (a0b c (a0b p a.lt)));clear q p o u hn a c r;obtain⟨S,hS⟩:∃x,dD l=x:=⟨_,rfl⟩;rw[hS]at k;have t:=af hS;clear hS;go_wp2_with fail;refine k.mono ?_;rintro e w2⟨rfl,j⟩;have d:=af j;clear j k;go_wp2;go_ret;exact⟨⟨l,f.2.2.1,by rw[ae t];rfl⟩,f.1.kept (d.mono f.2.2.2),f.2.1.trans (si d f.2.2.2)⟩
