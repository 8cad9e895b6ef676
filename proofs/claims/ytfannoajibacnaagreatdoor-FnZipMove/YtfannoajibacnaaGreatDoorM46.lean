/- Texts. -/
import Derived.Test.YtfannoajibacnaaGreatDoorM43
import Derived.Test.YtfannoajibacnaaGreatDoorM45
set_option linter.all false
set_option maxRecDepth 100000
set_option maxHeartbeats 3200000
namespace Go.Proofs.YtfannoajibacnaaGreatDoor
open Go.Proofs.Tryz
open Go.RowKit Corb
variable {b:Nat}{w w':World}
def oX{α:Type}{T:TypeId}{c:Nat}{f:α->List Value}{base:Nat}{v:Value}{l:List α}(h:bj T c f w base v l)(j:Kn b w w')(hb:b<base):bj T c f w' base v l:=by
 refine⟨h.1,?_⟩;rcases h.2 with k|⟨g,cap,d,rfl,e,a,rest⟩
 . exact .inl k
 . have i:=(Array.getElem?_eq_some_iff.1 a).1;refine .inr ⟨g,cap,d,rfl,e,?_,rest⟩;rw[j.2.1 g i (by omega)];exact a
def tc(h:Below w.heap.size w w')(hb:b<w.heap.size):Kn b w w':=⟨h.mono (a0s hb),fun k a _=>h.block k a,h.size⟩
def QU{l:List En}(h:bi l=true)(i:Nat)(a:i<l.length):(l.getD i default).n.size<=43/\(l.getD i default).t.size<=300:=by
 have:=dk (n:=(l.getD i default).n) (t:=(l.getD i default).t) ((ct h).1 i a);exact⟨this.1,this.2.1⟩
def fN(j:Nat):ByteArray:=(⟨#[102]⟩:ByteArray)++⟨(Lib.decDigits j).toArray⟩
def fM(j:Nat):ByteArray:=⟨#[102,UInt8.ofNat (48+j)]⟩
def UL{j:Nat}(h:j<6):fN j=fM j:=by
 unfold fN fM;rw[Lib.decDigits,dif_pos (by omega)];rfl
def TT:∀j,j<6->fC (fM j).data.toList=true/\(∀v∈gn,cb v.data.toList (fM j).data.toList=false)/\∀i,i<j->cb (fM i).data.toList (fM j).data.toList=false:=by decide +kernel
def MJ(l:List En):Prop:=bi l=true/\∀e∈l,e.n∈gn
def JS(l:List En):Prop:=bi l=true/\∀e∈l,e.n∈gn∨∃j,j<l.length/\e.n=fM j
def Ui:MJ []:=⟨rfl,fun e a=>by cases a⟩
def Sn{l:List En}{e:En}(h:MJ l)(c:aK l e=0)(b:e.n∈gn):MJ (l++[e]):=
 ⟨(iv h.1 e).2 c,fun f a=>by
  rcases a03.1 a with a|a
  . exact h.2 f a
  . rw[a09.1 a];exact b⟩
def Tp{l:List En}(h:MJ l):JS l:=⟨h.1,fun e a=>.inl (h.2 e a)⟩
def RI{l:List En}{n:Nat}(m:l.length=n)(h:JS l)(f:n<6){y mo d c mi s:Int}(o:du y mo d c mi s=true):JS (l++[⟨fN n,y,mo,d,c,mi,s,⟨#[]⟩⟩]):=by
 subst m;obtain⟨f1,f2,f3⟩:=TT l.length f;rw[UL f];refine⟨(iv h.1 _).2 ?_,fun e b=>?_⟩
 .
  have k:fi ⟨fM l.length,y,mo,d,c,mi,s,⟨#[]⟩⟩=true:=by
   show(fC (fM l.length).data.toList&&(du y mo d c mi s&&decide ((⟨#[]⟩:ByteArray).size<=300)))=true;rw[f1,o];rfl
  have i:fI l (fM l.length)=false:=(Gb _ _).2 fun e b=>by
   rcases h.2 e b with a|⟨j,g,a⟩
   . exact f2 _ a
   . rw[a];exact f3 j g
  unfold aK;rw[a0d k];show(if fI l (fM l.length)=true then(3:Int)else _)=0;rw[i,a0e (by decide),a0e (by omega)]
 .
  rw[a0i];rcases a03.1 b with b|b
  .
   rcases h.2 e b with a|⟨j,g,a⟩
   . exact .inl a
   . exact .inr ⟨j,by omega,a⟩
  . rw[a09.1 b];exact .inr ⟨l.length,by simp,rfl⟩
def D5(B b m:Nat)(w:World)(h:Rd w B b m)(hm:m<=60000) :
  Calls prog 76 #[.pointer b] w fun e w'=>(∃v l,e = .returned v/\cO w' w.heap.size v l/\JS l)/\Rd w' B b (m+300)/\Kn b w w':=by
 obtain⟨i0,hi,bk,bl,bn⟩:=a0p Tryz.infoEnt;have c:=h.lt;have R0:Hid (Rd (w.alloc (.cells #[] 26)) B b m):=h.alloc _;have O0:Hid (cO (w.alloc (.cells #[] 26)) w.heap.size (.slice w.heap.size 0 0) []):=a0S w #[] 0 (a0a _) (by unfold maxLen;omega) rfl;have K0:Hid (Kn b w (w.alloc (.cells #[] 26))):=gV w _ c;have ac:Hid (∀x,x<=40->x<=maxLen/\x*80<=140737488355328):=fun x hx=>by unfold maxLen;omega
 clear h;go_enter func76,ntmps76;go_wp2_with fail;refine(bY B b m _ _ R0 (by omega) (by omega) (by omega)).mono ?_;rintro e w1⟨r,rfl,r0,r1,T,D⟩;obtain⟨n0,rfl⟩:=a0r r0;have O1:=af (oX O0 D.kn c);have K1:=af (K0.trans D.kn);have R1:=af T;have a3:n0<=4:=by omega
 clear R0 O0 K0 T D r0 r1;go_wp2_with fail
 go_loopw [3,4] (fun v i wr=>∃(l:List En) (k:Nat),i = .int .i64 k/\k<=4/\l.length+k<=4/\cO wr w.heap.size v l/\MJ l/\Rd wr B b (m+1+(4-k)*60)/\Kn b w wr) (fun _ i _=>(intOf i).toNat)
 case atStart=>exact⟨[],n0,rfl,a3,by simpa using a3,O1,Ui,R1.mono (by omega),K1⟩
 case round=>
  obtain⟨l,k,rfl,hk,a1,ho,hT,q,z⟩:=hrel;clear O1 K1 R1;obtain⟨n,Z⟩:∃n,l.length=n:=⟨_,rfl⟩;obtain⟨g,cap,rfl,O,_⟩:=bj.formN Z ho;have bc:(k:Int)<=4:=by omega
  have a:=af (a0b ho (a0b hT (a0b q (a0b z (a0b Z a1)))));have C:=q.lt;clear ho hT q z Z a1;by_cases hp:0<k
  .
   have be:(0:Int)<(k:Int):=(by omega);go_wp2_with fail;refine(pH B b _ _ a.2.2.1 (by omega)).mono ?_;rintro e w2⟨nm,y,mo,d,h,mi,s,t,rfl,⟨aa,ht⟩,F,A⟩;have j:=af (a0b (oX a.1 A c) (a0b F (a.2.2.2.1.trans A)));have Q:=F.lt;have ao:=af aa;have HC:=af (zu _ l ⟨nm,y,mo,d,h,mi,s,t⟩ _ w2 j.1 (by have:=ae a;omega) (fun i hi=>by have:=QU a.2.1.1 i hi;omega) (by have:=vn (a03.2 (.inr aa));show nm.size<=_;omega) (by show(t.size:Int)<=_;omega));clear F A aa ht;generalize hE:(⟨nm,y,mo,d,h,mi,s,t⟩:En)=en at HC;go_wp2_with fail;have a0:Value.agg #[nm,y,mo,d,h,mi,s,t] = .agg en:=(by rw[←hE]);rw[a0];have V:Hid (en.n∈gn):=by show _∈_;rw[←hE];exact ao
   clear hE a0 ao;refine HC.mono ?_;rintro f w3⟨⟨v3,rfl,ab,H⟩,M⟩;have k3:=tc M Q;have L:=af (a0b (j.2.1.kept (M.mono Q)) (j.2.2.trans k3));by_cases S:aK l en=0
   .
    have W:=af (bj.mono (ab S) j.2.2.2.2);have a7:=af (Sn a.2.1 S V);have I:Hid ((l++[en]).length+(k-1)<=4):=by show _<=_;have:=ae a;simp;omega
    clear ab H M k3 HC j V S;go_wp2_with fail;go_roundw
    case rel=>exact⟨l++[en],k-1,by go_num,by omega,I,W,a7,L.1.mono (by omega),L.2⟩
    case measure=>simp[intOf];omega
   .
    have W:=af (oX j.1 k3 c);have hv:=H S;clear ab H M k3 HC j V S;rw[hv];clear hv;go_wp2_with fail;go_roundw
    case rel=>exact⟨l,k-1,by go_num,by omega,by have:=ae a;omega,W,a.2.1,L.1.mono (by omega),L.2⟩
    case measure=>simp[intOf];omega
  .
   have be:¬ (0:Int)<(k:Int):=(by omega);go_wp2_with fail;refine(bY B b _ 24 _ a.2.2.1 (by omega) (by omega) (by omega)).mono ?_;rintro e w4⟨r,rfl,r0,r1,U,E⟩;have o:=af (a0b (oX a.1 E.kn c) (a0b U (a.2.2.2.1.trans E.kn)));have bd:(n:Int)<=4:=by have:=ae a;omega
   have J:=af (a0b (ae a).2.1 (ae a).2.2.2.2.1);clear U E a;by_cases S:r=0
   .
    subst S;go_wp2_with fail
    go_loopw [3,5] (fun v i wr=>∃(l:List En) (n:Nat),l.length=n/\i = .int .i64 n/\n<=6/\cO wr w.heap.size v l/\JS l/\Rd wr B b (m+242+n*6)/\Kn b w wr) (fun _ i _=>6-(intOf i).toNat)
    case atStart=>exact⟨l,n,J.2,rfl,by omega,o.1,Tp J.1,o.2.1.mono (by omega),o.2.2⟩
    case round=>
     clear o J bd bc O;obtain⟨l,n,Z,rfl,h6,ho,hF,q,z⟩:=hrel;obtain⟨g,cap,rfl,O,_⟩:=bj.formN Z ho;have a:=af (a0b ho (a0b hF (a0b q (a0b z Z))));have C:=q.lt;clear ho hF q z Z;by_cases h5:n<6
     .
      have ba:(n:Int)<6:=(by omega);have HD:=af (KX n (by omega) wr);go_wp2_with fail;refine HD.mono ?_;rintro e w5⟨rfl,Y⟩;have k5:=tc Y C;have u:=af (a0b (oX a.1 k5 c) (a0b (a.2.2.1.kept (Y.mono C)) (a.2.2.2.1.trans k5)));have N:¬ (9223372036854775807:Nat)<(⟨#[102]⟩:ByteArray).size+(⟨(Lib.decDigits n).toArray⟩:ByteArray).size:=by
       rw[Lib.decDigits,dif_pos (by omega)];show ¬ (9223372036854775807:Nat)<1+1;decide
      have bb:(⟨#[102]⟩:ByteArray)++⟨(Lib.decDigits n).toArray⟩=fN n:=rfl;have ad:=af N;clear Y k5 HD N;generalize (⟨(Lib.decDigits n).toArray⟩:ByteArray)=dg at *;have N:=ae ad;clear ad;go_wp2_with fail;refine(pI B b _ _ u.2.1 (by omega)).mono ?_;rintro e w6⟨y,mo,d,h,mi,s,rfl,⟨_,a5⟩,G,P⟩;have k6:=rn P;have O6:=oX u.1 k6 c;have a2:=G.lt;have a6:=af (RI a.2.2.2.2 a.2.1 h5 a5);generalize fN n=nm at *;have K:=af (a0o (bj.own a.2.2.2.2 O6) (.cells #[nm,y,mo,d,h,mi,s,.string ⟨#[]⟩] 26));have al:=af (qQ (ay w6 #[nm,y,mo,d,h,mi,s,.string ⟨#[]⟩] 26));have X:=af (a0b (G.alloc (.cells #[nm,y,mo,d,h,mi,s,.string ⟨#[]⟩] 26)) ((u.2.2.trans k6).trans (gV w6 (.cells #[nm,y,mo,d,h,mi,s,.string ⟨#[]⟩] 26) a2)));have I:Hid (l.length=n):=a.2.2.2.2;have a9:Hid (w.heap.size<=w6.heap.size):=(u.2.2.trans k6).2.2;clear O6 k6 P G a5 u a bb N;go_wp2_with (at_builtin;refine a0w _ rfl _ _ 31 rfl w.heap.size 26 i0 (.agg ()) 8 80 a1h hi bk bl bn rfl (by decide) _ n (l.flatMap bu) rfl K ⟨w6.heap.size,0,none⟩ 1 1 (bu ⟨nm,y,mo,d,h,mi,s,⟨#[]⟩⟩) rfl rfl al (gP _) (ac _ (by omega)).1 (ac _ (by omega)).2 (ar a9 _) ?_;intro v7 w7 R p a4);have O7:Hid (cO w7 w.heap.size v7 (l++[⟨nm,y,mo,d,h,mi,s,⟨#[]⟩⟩])):=bj.snoc I R;have R7:=af (X.1.grown p (fun k e=>a0h c (a0z K k e).1));have K7:Hid (Kn b w w7):=D4 X.2 p (fun k e=>(a0z K k e).1) c;have a8:Hid ((l++[(⟨nm,y,mo,d,h,mi,s,⟨#[]⟩⟩:En)]).length=n+1):=by show _=_;rw[a0i,ae I];rfl
      clear R p a4 K al X;go_wp2_with fail;go_roundw
      case rel=>exact⟨_,n+1,a8,by go_num,by omega,O7,a6,R7.mono (by omega),K7⟩
      case measure=>simp[intOf];omega
     .
      have ba:¬ (n:Int)<6:=(by omega);go_wp2;go_ret;exact⟨⟨_,rfl,_,a.1,a.2.1⟩,a.2.2.1.mono (by omega),a.2.2.2.1⟩
   .
    have bs:(r == 0)=false:=by simpa using S
    go_wp2;go_ret;exact⟨⟨_,_,rfl,o.1,Tp J.1⟩,o.2.1.mono (by omega),o.2.2⟩
def wD(B b m:Nat)(w:World)(h:Rd w B b m)(z:m<=50000) :
  Calls prog 36 #[.pointer b] w fun e w'=>(∃l,JS l/\e = .returned (.string (dC l)))/\Rd w' B b (m+300)/\Kn b w w':=by
 have r:=af (D5 B b m w h (by omega));clear h;go_enter func36,ntmps36;go_wp2_with fail;refine r.mono ?_;rintro e w1⟨⟨v,l,rfl,q,p⟩,a,c⟩;obtain⟨n,hn⟩:∃n,l.length=n:=⟨_,rfl⟩;obtain⟨g,cap,rfl,s,_⟩:=bj.formN hn q;have o:=p.1;have u:=(ct o).2;have k:=af (pd g cap n l w1 hn (bv hn q) (by omega) (fun i y=>lI o (by omega)));rw[←vw o hn]at k;have f:=af (a0b a (a0b c (a0b p a.lt)));clear q p o u hn a c r;obtain⟨S,hS⟩:∃x,dC l=x:=⟨_,rfl⟩;rw[hS]at k;have t:=af hS;clear hS;go_wp2_with fail;refine k.mono ?_;rintro e w2⟨rfl,j⟩;have d:=af j;clear j k;go_wp2;go_ret;exact⟨⟨l,f.2.2.1,by rw[ae t];rfl⟩,f.1.kept (d.mono f.2.2.2),f.2.1.trans (tc d f.2.2.2)⟩
