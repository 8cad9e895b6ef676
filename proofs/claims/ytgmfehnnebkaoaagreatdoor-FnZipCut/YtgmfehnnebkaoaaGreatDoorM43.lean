/- Of what the proof is made: 2 texts, one behind the other. -/
import Derived.Test.YtgmfehnnebkaoaaGreatDoorM42
import Derived.Test.YtgmfehnnebkaoaaGreatDoorM41
import Derived.Test.YtgmfehnnebkaoaaGreatDoorM30
set_option maxRecDepth 100000
set_option linter.unusedSimpArgs false
set_option linter.unusedVariables false
set_option maxHeartbeats 3200000
namespace Go.Proofs.YtgmfehnnebkaoaaGreatDoor
open Go.Proofs.Tryz
open Go.RowKit Corb
theorem jv{α:Type}{T:TypeId}{c:Nat}{f:α->List Value}{w w':World}{base b:Nat}{v:Value}{l:List α}(h:bu T c f w base v l)(j:Kn b w w')(hb:b<base):bu T c f w' base v l:=by
 refine⟨h.1,?_⟩;rcases h.2 with k|⟨g,cap,d,rfl,e,a,rest⟩
 . exact .inl k
 . have i:=(Array.getElem?_eq_some_iff.1 a).1;refine .inr ⟨g,cap,d,rfl,e,?_,rest⟩;rw[j.2.1 g i (by omega)];exact a
theorem wi{b:Nat}{w w':World}(h:Below w.heap.size w w')(hb:b<w.heap.size):Kn b w w':=⟨h.mono (a0w hb),fun k a _=>h.block k a,h.size⟩
theorem vh{l:List En}(h:ci l=true)(i:Nat)(a:i<l.length):(l.getD i default).n.size<=43/\(l.getD i default).t.size<=300:=by
 have:=ct (n:=(l.getD i default).n) (t:=(l.getD i default).t) ((dp h).1 i a);exact⟨this.1,this.2.1⟩
def fN(j:Nat):ByteArray:=(⟨#[102]⟩:ByteArray)++⟨(Lib.decDigits j).toArray⟩
def fM(j:Nat):ByteArray:=⟨#[102,UInt8.ofNat (48+j)]⟩
theorem PI{j:Nat}(h:j<6):fN j=fM j:=by
 unfold fN fM;rw[Lib.decDigits,dif_pos (by omega)];rfl
theorem OQ:∀j,j<6->kE (fM j).data.toList=true/\(∀v∈dU,ce v.data.toList (fM j).data.toList=false)/\∀i,i<j->ce (fM i).data.toList (fM j).data.toList=false:=by decide +kernel
def IU(l:List En):Prop:=ci l=true/\∀e∈l,e.n∈dU
def FB(l:List En):Prop:=ci l=true/\∀e∈l,e.n∈dU∨∃j,j<l.length/\e.n=fM j
theorem Pd:IU []:=⟨rfl,fun e a=>by cases a⟩
theorem Nw{l:List En}{e:En}(h:IU l)(c:bH l e=0)(b:e.n∈dU):IU (l++[e]):=
 ⟨(nz h.1 e).2 c,fun f a=>by
  rcases a0V.1 a with a|a
  . exact h.2 f a
  . rw[a01.1 a];exact b⟩
theorem Oq{l:List En}(h:IU l):FB l:=⟨h.1,fun e a=>.inl (h.2 e a)⟩
theorem M9{l:List En}{n:Nat}(m:l.length=n)(h:FB l)(f:n<6){y mo d c mi s:Int}(o:cG y mo d c mi s=true):FB (l++[⟨fN n,y,mo,d,c,mi,s,⟨#[]⟩⟩]):=by
 subst m;obtain⟨f1,f2,f3⟩:=OQ l.length f;rw[PI f];refine⟨(nz h.1 _).2 ?_,fun e b=>?_⟩
 .
  have k:ik ⟨fM l.length,y,mo,d,c,mi,s,⟨#[]⟩⟩=true:=by
   show(kE (fM l.length).data.toList&&(cG y mo d c mi s&&decide ((⟨#[]⟩:ByteArray).size<=300)))=true;rw[f1,o];rfl
  have i:kQ l (fM l.length)=false:=(OB _ _).2 fun e b=>by
   rcases h.2 e b with a|⟨j,g,a⟩
   . exact f2 _ a
   . rw[a];exact f3 j g
  unfold bH;rw[a0d k];show(if kQ l (fM l.length)=true then(3:Int)else _)=0;rw[i,a0e (by decide),a0e (by omega)]
 .
  rw[a0i];rcases a0V.1 b with b|b
  .
   rcases h.2 e b with a|⟨j,g,a⟩
   . exact .inl a
   . exact .inr ⟨j,by omega,a⟩
  . rw[a01.1 b];exact .inr ⟨l.length,by simp,rfl⟩
theorem zZ(B b m:Nat)(w:World)(h:Rd w B b m)(hm:m<=60000) :
  Calls prog 43 #[.pointer (some ⟨b,0,none⟩)] w fun e w'=>(∃v l,e = .returned v/\lL w' w.heap.size v l/\FB l)/\Rd w' B b (m+300)/\Kn b w w':=by
 obtain⟨i0,hi,bk,bl,bs⟩:=a0r Tryz.infoEnt;have c:=h.lt;have R0:Hid (Rd (w.alloc (.cells #[] 33)) B b m):=h.alloc _;have O0:Hid (lL (w.alloc (.cells #[] 33)) w.heap.size (.slice (some ⟨w.heap.size,0,none⟩) 0 0) []):=a0Y w #[] 0 (a0a _) (by unfold maxLen;omega) rfl;have K0:Hid (Kn b w (w.alloc (.cells #[] 33))):=fE w _ c;have ac:Hid (∀x,x<=40->x<=maxLen/\x*80<=140737488355328):=fun x hx=>by unfold maxLen;omega
 clear h;go_enter func43,ntmps43;go_wp2_with fail;refine(bJ B b m _ _ (ae R0) (by omega) (by omega) (by omega)).mono ?_;rintro e w1 ⟨r,rfl,r0,r1,T,D⟩;obtain⟨n0,rfl⟩:=a0n r0;have O1:=af (jv (ae O0) D.kn c);have K1:=af ((ae K0).trans D.kn);have R1:=af T;have a3:n0<=4:=by omega
 clear R0 O0 K0 T D r0 r1;go_wp2_with fail
 go_loopw [3,4] (fun v i wr=>∃(l:List En) (k:Nat),i = .int .i64 k/\k<=4/\l.length+k<=4/\lL wr w.heap.size v l/\IU l/\Rd wr B b (m+1+(4-k)*60)/\Kn b w wr) (fun _ i _=>(intOf i).toNat)
 case atStart=>exact⟨[],n0,rfl,a3,by simpa using a3,ae O1,Pd,(ae R1).mono (by omega),ae K1⟩
 case round=>
  obtain⟨l,k,rfl,hk,a1,ho,hT,q,z⟩:=hrel;clear O1 K1 R1;obtain⟨n,Z⟩:∃n,l.length=n:=⟨_,rfl⟩;obtain⟨g,cap,rfl,O,_⟩:=bu.formN Z ho;have bc:(k:Int)<=4:=by omega
  have a:=af (a0b ho (a0b hT (a0b q (a0b z (a0b Z a1)))));have C:=q.lt;clear ho hT q z Z a1;by_cases hp:0<k
  .
   have be:(0:Int)<(k:Int):=by omega
   go_wp2_with fail;refine(nK B b _ _ (ae a).2.2.1 (by omega)).mono ?_;rintro e w2 ⟨nm,y,mo,d,h,mi,s,t,rfl,⟨aa,ht⟩,F,A⟩;have j:=af (a0b (jv (ae a).1 A c) (a0b F ((ae a).2.2.2.1.trans A)));have Q:=F.lt;have ao:=af aa;have HC:=af (GB _ l ⟨nm,y,mo,d,h,mi,s,t⟩ _ w2 (ae j).1 (by have:=ae a;omega) (fun i hi=>by have:=vh (ae a).2.1.1 i hi;omega) (by have:=Fb (a0V.2 (.inr aa));show nm.size<=_;omega) (by show(t.size:Int)<=_;omega));clear F A aa ht;generalize hE:(⟨nm,y,mo,d,h,mi,s,t⟩:En)=en at HC;go_wp2_with fail;have a0:Value.agg #[.string nm,.int .i64 y,.int .i64 mo,.int .i64 d,.int .i64 h,.int .i64 mi,.int .i64 s,.string t] = .agg #[.string en.n,.int .i64 en.y,.int .i64 en.mo,.int .i64 en.d,.int .i64 en.h,.int .i64 en.mi,.int .i64 en.s,.string en.t]:=by rw[←hE]
   rw[a0];have V:Hid (en.n∈dU):=by show _∈_;rw[←hE];exact ae ao
   clear hE a0 ao;refine(ae HC).mono ?_;rintro f w3 ⟨⟨v3,rfl,ab,H⟩,M⟩;have k3:=wi M Q;have L:=af (a0b ((ae j).2.1.kept (M.mono Q)) ((ae j).2.2.trans k3));by_cases S:bH l en=0
   .
    have W:=af (bu.mono (ab S) (ae j).2.2.2.2);have a7:=af (Nw (ae a).2.1 S (ae V));have I:Hid ((l++[en]).length+(k-1)<=4):=by show _<=_;have:=ae a;simp;omega
    clear ab H M k3 HC j V S;go_wp2_with fail;go_roundw
    case rel=>exact⟨l++[en],k-1,by go_num,by omega,ae I,ae W,ae a7,(ae L).1.mono (by omega),(ae L).2⟩
    case measure=>simp[intOf];omega
   .
    have W:=af (jv (ae j).1 k3 c);have hv:=H S;clear ab H M k3 HC j V S;rw[hv];clear hv;go_wp2_with fail;go_roundw
    case rel=>exact⟨l,k-1,by go_num,by omega,by have:=ae a;omega,ae W,(ae a).2.1,(ae L).1.mono (by omega),(ae L).2⟩
    case measure=>simp[intOf];omega
  .
   have be:¬ (0:Int)<(k:Int):=by omega
   go_wp2_with fail;refine(bJ B b _ 24 _ (ae a).2.2.1 (by omega) (by omega) (by omega)).mono ?_;rintro e w4 ⟨r,rfl,r0,r1,U,E⟩;have o:=af (a0b (jv (ae a).1 E.kn c) (a0b U ((ae a).2.2.2.1.trans E.kn)));have bd:(n:Int)<=4:=by have:=ae a;omega
   have J:=af (a0b (ae a).2.1 (ae a).2.2.2.2.1);clear U E a;by_cases S:r=0
   .
    subst S;go_wp2_with fail
    go_loopw [3,5] (fun v i wr=>∃(l:List En) (n:Nat),l.length=n/\i = .int .i64 n/\n<=6/\lL wr w.heap.size v l/\FB l/\Rd wr B b (m+242+n*6)/\Kn b w wr) (fun _ i _=>6-(intOf i).toNat)
    case atStart=>exact⟨l,n,(ae J).2,rfl,by omega,(ae o).1,Oq (ae J).1,(ae o).2.1.mono (by omega),(ae o).2.2⟩
    case round=>
     clear o J bd bc O;obtain⟨l,n,Z,rfl,h6,ho,hF,q,z⟩:=hrel;obtain⟨g,cap,rfl,O,_⟩:=bu.formN Z ho;have a:=af (a0b ho (a0b hF (a0b q (a0b z Z))));have C:=q.lt;clear ho hF q z Z;by_cases h5:n<6
     .
      have ba:(n:Int)<6:=by omega
      have HD:=af (Gw n (by omega) wr);go_wp2_with fail;refine(ae HD).mono ?_;rintro e w5 ⟨rfl,Y⟩;have k5:=wi Y C;have u:=af (a0b (jv (ae a).1 k5 c) (a0b ((ae a).2.2.1.kept (Y.mono C)) ((ae a).2.2.2.1.trans k5)));have N:¬ (9223372036854775807:Nat)<(⟨#[102]⟩:ByteArray).size+(⟨(Lib.decDigits n).toArray⟩:ByteArray).size:=by
       rw[Lib.decDigits,dif_pos (by omega)];show ¬ (9223372036854775807:Nat)<1+1;decide
      have bb:(⟨#[102]⟩:ByteArray)++⟨(Lib.decDigits n).toArray⟩=fN n:=rfl;have ad:=af N;clear Y k5 HD N;generalize (⟨(Lib.decDigits n).toArray⟩:ByteArray)=dg at *
      have N:=ae ad;clear ad;go_wp2_with fail;refine(nM B b _ _ (ae u).2.1 (by omega)).mono ?_;rintro e w6 ⟨y,mo,d,h,mi,s,rfl,⟨_,a5⟩,G,P⟩;have k6:=oZ P;have O6:=jv (ae u).1 k6 c;have a2:=G.lt;have a6:=af (M9 (ae a).2.2.2.2 (ae a).2.1 h5 a5);generalize fN n=nm at *
      have K:=af (a0m (bu.own (ae a).2.2.2.2 O6) (.cells #[.string nm,.int .i64 y,.int .i64 mo,.int .i64 d,.int .i64 h,.int .i64 mi,.int .i64 s,.string ⟨#[]⟩] 33));have an:=af (lU (aC w6 #[.string nm,.int .i64 y,.int .i64 mo,.int .i64 d,.int .i64 h,.int .i64 mi,.int .i64 s,.string ⟨#[]⟩] 33));have X:=af (a0b (G.alloc (.cells #[.string nm,.int .i64 y,.int .i64 mo,.int .i64 d,.int .i64 h,.int .i64 mi,.int .i64 s,.string ⟨#[]⟩] 33)) (((ae u).2.2.trans k6).trans (fE w6 (.cells #[.string nm,.int .i64 y,.int .i64 mo,.int .i64 d,.int .i64 h,.int .i64 mi,.int .i64 s,.string ⟨#[]⟩] 33) a2)));have I:Hid (l.length=n):=(ae a).2.2.2.2;have a9:Hid (w.heap.size<=w6.heap.size):=((ae u).2.2.trans k6).2.2;clear O6 k6 P G a5 u a bb N;go_wp2_with (at_builtin;refine a0B _ rfl _ _ 23 rfl w.heap.size 33 i0 (.agg #[.string ⟨#[]⟩,.int .i64 0,.int .i64 0,.int .i64 0,.int .i64 0,.int .i64 0,.int .i64 0,.string ⟨#[]⟩]) 8 80 a16 hi bk bl bs rfl (by decide) _ n (l.flatMap jr) rfl (ae K) ⟨w6.heap.size,0,none⟩ 1 1 (jr ⟨nm,y,mo,d,h,mi,s,⟨#[]⟩⟩) rfl rfl (ae an) (iZ _) (ae ac _ (by omega)).1 (ae ac _ (by omega)).2 (au (ae a9) _) ?_;intro v7 w7 R p a4);have O7:Hid (lL w7 w.heap.size v7 (l++[⟨nm,y,mo,d,h,mi,s,⟨#[]⟩⟩])):=bu.snoc (ae I) R;have R7:=af ((ae X).1.grown p (fun k e=>a0h c (a0E (ae K) k e).1));have K7:Hid (Kn b w w7):=zY (ae X).2 p (fun k e=>(a0E (ae K) k e).1) c;have a8:Hid ((l++[(⟨nm,y,mo,d,h,mi,s,⟨#[]⟩⟩:En)]).length=n+1):=by show _=_;rw[a0i,ae I];rfl
      clear R p a4 K an X;go_wp2_with fail;go_roundw
      case rel=>exact⟨_,n+1,ae a8,by go_num,by omega,ae O7,ae a6,(ae R7).mono (by omega),ae K7⟩
      case measure=>simp[intOf];omega
     .
      have ba:¬ (n:Int)<6:=by omega
      go_wp2;go_ret;exact⟨⟨_,rfl,_,(ae a).1,(ae a).2.1⟩,(ae a).2.2.1.mono (by omega),(ae a).2.2.2.1⟩
   .
    have b0:(r == 0)=false:=by simpa using S
    go_wp2;go_ret;exact⟨⟨_,_,rfl,(ae o).1,Oq (ae J).1⟩,(ae o).2.1.mono (by omega),(ae o).2.2⟩
def NmE(l:List En):Prop:=∀e∈l,e.n∈jA++dU∨∃j,j<6/\e.n=fM j
theorem NB{l:List En}{e:En}(h:NmE l)(b:e.n∈jA++dU):NmE (l++[e]):=fun f a=>by
 rcases a0V.1 a with a|a
 . exact h f a
 . rw[a01.1 a];exact .inl b
theorem PN{l:List En}(h:FB l):NmE l:=fun e b=>by
 rcases h.2 e b with a|⟨j,c,a⟩
 . exact .inl (a0V.2 (.inr a))
 . exact .inr ⟨j,by have:=(dp h.1).2;omega,a⟩
def sK(l:List En):Prop:=∀i,i<l.length->(l.getD i default).n.size<=100/\(l.getD i default).t.size<=400
theorem pL{l:List En}{n:Nat}(b:l.length=n)(h:sK l):∀i,i<n->(l.getD i default).n.size<=1048576/\((l.getD i default).t.size:Int)<=9223372036854775807:=fun i a=>by
 have:=h i (by omega);omega
theorem Ir{l:List En}{e:En}(h:sK l)(b:e.n.size<=100)(h2:e.t.size<=400):sK (l++[e]):=fun i c=>by
 by_cases a:i<l.length
 . rw[show(l++[e]).getD i default=l.getD i default by simp[List.getD,List.getElem?_append_left a]];exact h i a
 .
  have:i=l.length:=by simp at c;omega
  subst this;rw[show(l++[e]).getD l.length default=e by simp[List.getD]];exact⟨b,h2⟩
theorem IL{l:List En}(h:ci l=true):sK l:=fun i a=>by have:=vh h i a;omega
theorem mr(B b m:Nat)(w:World)(h:Rd w B b m)(hm:m<=50000) :
  Calls prog 23 #[.pointer (some ⟨b,0,none⟩)] w fun e w'=>(∃v l,e = .returned v/\lL w' w.heap.size v l/\l.length<=7/\sK l/\NmE l)/\Below b w w':=by
 obtain⟨i0,X,Q,R,S⟩:=a0r Tryz.infoEnt;have A:=h.lt;have E:Hid (∀x,x<=40->x<=maxLen/\x*80<=140737488355328):=fun x hx=>by unfold maxLen;omega
 have T:=af (zZ B b m w h (by omega));clear h;go_enter func23,ntmps23;go_wp2_with fail;refine(ae T).mono ?_;rintro e w1 ⟨⟨v,l,rfl,P,L⟩,p,j⟩;obtain⟨n,hn⟩:∃n,l.length=n:=⟨_,rfl⟩;obtain⟨g,cap,rfl,U,_⟩:=bu.formN hn P;have Y:n<=6:=by have:=(dp L.1).2;omega
 have H:=af (a0b P (a0b p (a0b j (a0b hn (a0b (IL L.1) (PN L))))));clear P p j hn L T;go_wp2_with fail;refine(bJ B b _ 8 _ (ae H).2.1 (by omega) (by omega) (by omega)).mono ?_;rintro e w2 ⟨r,rfl,r0,r1,q,i⟩;have a:=af (a0b (jv (ae H).1 i.kn A) (a0b q ((ae H).2.2.1.trans i.kn)));have u:=af (ae H).2.2.2;clear q i H;by_cases V:r=0
 . subst V;go_wp2_with fail;refine(qw B b _ _ (ae a).2.1 (by omega)).mono ?_;rintro e w3 ⟨nm,y,mo,d,h,mi,s,t,rfl,⟨C,W⟩,J,f⟩;have O3:=jv (ae a).1 f A;have K:=(ae a).2.2.trans f;have z:=af (a0m (bu.own (ae u).1 O3) (.cells #[.string nm,.int .i64 y,.int .i64 mo,.int .i64 d,.int .i64 h,.int .i64 mi,.int .i64 s,.string t] 33));have F:=af (lU (aC w3 #[.string nm,.int .i64 y,.int .i64 mo,.int .i64 d,.int .i64 h,.int .i64 mi,.int .i64 s,.string t] 33));have D:=af (K.1.alloc (a0L (a0w A) K.2.2) (.cells #[.string nm,.int .i64 y,.int .i64 mo,.int .i64 d,.int .i64 h,.int .i64 mi,.int .i64 s,.string t] 33));have G:=af K.2.2;have O:=af (Ir (e:=⟨nm,y,mo,d,h,mi,s,t⟩) (ae u).2.1 (Fb C) W);have N:=af (NB (e:=⟨nm,y,mo,d,h,mi,s,t⟩) (ae u).2.2 C);clear O3 K f J a C W;go_wp2_with (at_builtin;refine a0B _ rfl _ _ 23 rfl w.heap.size 33 i0 (.agg #[.string ⟨#[]⟩,.int .i64 0,.int .i64 0,.int .i64 0,.int .i64 0,.int .i64 0,.int .i64 0,.string ⟨#[]⟩]) 8 80 a16 X Q R S rfl (by decide) _ n (l.flatMap jr) rfl (ae z) ⟨w3.heap.size,0,none⟩ 1 1 (jr ⟨nm,y,mo,d,h,mi,s,t⟩) rfl rfl (ae F) (iZ _) (ae E _ (by omega)).1 (ae E _ (by omega)).2 (au (ae G) _) ?_;intro v7 w7 o c I);have O7:Hid (lL w7 w.heap.size v7 (l++[⟨nm,y,mo,d,h,mi,s,t⟩])):=bu.snoc (ae u).1 o;have M:=af ((ae D).grown c (by have:=ae G;simp;omega) (fun k e=>by have:=(a0E (ae z) k e).1;omega));clear o c I z F D;go_wp2;go_ret;exact⟨⟨_,_,rfl,ae O7,by rw[a0i,(ae u).1];simp;omega,ae O,ae N⟩,ae M⟩
 .
  have Z:(r == 0)=false:=by simpa using V
  go_wp2;go_ret;exact⟨⟨_,_,rfl,(ae a).1,by have:=(ae u).1;omega,(ae u).2⟩,(ae a).2.2.1⟩
theorem gi(a:Option Addr)(len cap:Nat)(z:Nat->Int)(w:World)(h:Src w a len z)(j:len<=cap)(k:len<=maxLen) :
  Calls prog 8 #[.slice a len cap] w fun e w'=>(∃v l,e = .returned v/\lL w' w.heap.size v l/\l.length<=7/\sK l/\NmE l)/\Below w.heap.size w w':=by
 go_enter func8,ntmps8;go_wp2_with fail;refine(tT a len cap z _ h j k).mono ?_;rintro e w1 ⟨rfl,d,b,n⟩;go_wp2_with fail;refine(mr _ _ 0 _ d (by omega)).mono ?_;rintro e w2 ⟨⟨v,l,rfl,m,f,i,g⟩,c⟩;go_wp2;go_ret;exact⟨⟨v,l,rfl,bu.mono m b.size,f,i,g⟩,b.trans c⟩
theorem rQ(a:Option Addr)(len cap:Nat)(z:Nat->Int)(w:World)(h:Src w a len z)(j:len<=cap)(k:len<=maxLen) :
  Calls prog 16 #[.slice a len cap] w fun e w'=>(∃v l,e = .returned v/\lL w' w.heap.size v l/\l.length<=7/\sK l/\NmE l)/\Below w.heap.size w w':=by
 go_enter func16,ntmps16;go_wp2_with fail;refine(tT a len cap z _ h j k).mono ?_;rintro e w1 ⟨rfl,d,b,n⟩;go_wp2_with fail;refine(mr _ _ 0 _ d (by omega)).mono ?_;rintro e w2 ⟨⟨v,l,rfl,m,f,i,g⟩,c⟩;go_wp2;go_ret;exact⟨⟨v,l,rfl,bu.mono m b.size,f,i,g⟩,b.trans c⟩
end Go.Proofs.YtgmfehnnebkaoaaGreatDoor
