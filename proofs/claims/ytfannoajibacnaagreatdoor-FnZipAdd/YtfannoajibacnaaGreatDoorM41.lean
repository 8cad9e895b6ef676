/- Texts. -/
import Derived.Test.YtfannoajibacnaaGreatDoorM38
set_option linter.all false
set_option maxRecDepth 100000
set_option maxHeartbeats 6400000
namespace Go.Proofs.YtfannoajibacnaaGreatDoor
open Go.Proofs.Tryz
open Go.RowKit Corb
variable {vs:List Value}{w:World}
def li(how st crc pk lg:Nat)(nm:ByteArray)(pl:Nat):ByteArray:=(⟨#[80,75,1,2]⟩:ByteArray)++ax (leS 2 20)++fp how st crc pk lg nm.size++(⟨#[0,0,0,0,0,0,0,0,0,0]⟩:ByteArray)++ax (leS 4 pl)++nm
def iX(how st crc pk lg:Nat)(nm:ByteArray)(pl:Nat):(li how st crc pk lg nm pl).size=46+nm.size:=by
 simp only[li,a0H,fV,bF,aB];have a:(⟨#[80,75,1,2]⟩:ByteArray).size=4:=rfl;have h2:(⟨#[0,0,0,0,0,0,0,0,0,0]⟩:ByteArray).size=10:=rfl;omega
def dT(many long pl:Nat):ByteArray:=(⟨#[80,75,5,6]⟩:ByteArray)++ax ([0,0,many,many].flatMap (leS 2))++ax (leS 4 long)++ax (leS 4 pl)++ax ([0].flatMap (leS 2))
def oQ(many long pl:Nat):(dT many long pl).size=22:=by
 simp only[dT,a0H,bF,aB,a0W,a2o,a0i,a0U];have a:(⟨#[80,75,5,6]⟩:ByteArray).size=4:=rfl;omega
def eN(e:En):Nat:=(stN e.y e.mo e.d e.h e.mi e.s).toNat
def loE(e:En):ByteArray:=da e.n e.t (eN e)
def heE(e:En)(p:Nat):ByteArray:=li (dh e.t) (eN e) (aE 0 e.t.data.toList) (aO e.t).size e.t.size e.n p
def Tg(s:ByteArray×ByteArray)(e:En):ByteArray×ByteArray:=(s.1++loE e,s.2++heE e s.1.size)
def aG(l:List En):ByteArray×ByteArray:=l.foldl Tg (⟨#[]⟩,⟨#[]⟩)
def QQ:aG []=(⟨#[]⟩,⟨#[]⟩):=rfl
def iz(l:List En)(k:Nat)(h:k<l.length):aG (l.take (k+1))=Tg (aG (l.take k)) (l.getD k default):=by
 rw[qA l default k h,aG,List.foldl_append];rfl
def wY{e:En}(k:fi e=true):30<=(loE e).size/\(loE e).size<=400:=by
 obtain⟨f1,f2,f3⟩:=dk (n:=e.n) (t:=e.t) k;have a:=iG e.t;have hb:(aO e.t).size<=300:=by unfold aO;split<;>omega
 have:(loE e).size=30+e.n.size+(aO e.t).size:=by simp only[loE,da,a0H,wa]
 omega
def vZ(e:En)(p:Nat):(heE e p).size=46+e.n.size:=iX _ _ _ _ _ _ _
theorem mx(l:List En)(h:∀i,i<l.length->fi (l.getD i default)=true):∀k,k<=l.length->(aG (l.take k)).1.size<=400*k/\(aG (l.take k)).2.size<=100*k
 | 0,_=>by rw[a35,QQ];exact⟨a0g _,a0g _⟩
 | k+1,hk=>by
  have ih:=mx l h k (by omega);rw[iz l k (by omega)];have a:=wY (h k (by omega));have h2:=(dk (n:=(l.getD k default).n) (t:=(l.getD k default).t) (h k (by omega))).1;have b:=vZ (l.getD k default) (aG (l.take k)).1.size;simp only[Tg,a0H];omega
def ct{l:List En}(h:bi l=true):(∀i,i<l.length->fi (l.getD i default)=true)/\l.length<=6:=by
 simp only[bi,a0k,a0v,a1c]at h;exact⟨fun i a=>((mn l i).mp (h.1 i (List.mem_range.mpr a))).1,h.2⟩
def dC(l:List En):ByteArray:=if bi l then(aG l).1++(aG l).2++dT l.length (aG l).2.size (aG l).1.size else⟨#[]⟩
def Nw:ax (leS 4 33639248)=(⟨#[80,75,1,2]⟩:ByteArray):=by decide +kernel
def NN:ax (leS 4 101010256)=(⟨#[80,75,5,6]⟩:ByteArray):=by decide +kernel
def Nl:ax (leS 2 0)++ax (leS 2 0)++ax (leS 2 0)++ax (leS 4 0)=(⟨#[0,0,0,0,0,0,0,0,0,0]⟩:ByteArray):=by decide +kernel
def yZ(e:En):List Value:=[.int .i64 (dh e.t:Nat),.int .i64 (eN e:Nat),.int .i64 (aE 0 e.t.data.toList:Nat),.int .i64 ((aO e.t).size:Nat),.int .i64 (e.t.size:Nat),.string e.n,.string (aO e.t)]
def qY(q:En×Nat):List Value:=[.int .i64 (dh q.1.t:Nat),.int .i64 (eN q.1:Nat),.int .i64 (aE 0 q.1.t.data.toList:Nat),.int .i64 ((aO q.1.t).size:Nat),.int .i64 (q.1.t.size:Nat),.string q.1.n,.int .i64 (q.2:Nat)]
def Kw(e:En):(yZ e).length=7:=rfl
def Ku(e:En×Nat):(qY e).length=7:=rfl
def Kx(e:En):∀u∈yZ e,u.oneCell'=true:=by
 intro u a;simp only[yZ,a02,a1D,a1v]at a;rcases a with rfl|rfl|rfl|rfl|rfl|rfl|rfl<;>rfl
def Kv(e:En×Nat):∀u∈qY e,u.oneCell'=true:=by
 intro u a;simp only[qY,a02,a1D,a1v]at a;rcases a with rfl|rfl|rfl|rfl|rfl|rfl|rfl<;>rfl
def jd(w:World)(a:Array Value)(t:TypeId):∀(j:Nat) (u:Value),a.toList[j]?=some u->(w.alloc (.cells a t)).cell? ((⟨w.heap.size,0,none⟩:Addr).add j)=some u:=by
 intro j u h;have:=(ay w a t).cell j u h;have e:((⟨w.heap.size,0,none⟩:Addr).add j)=⟨w.heap.size,j,none⟩:=by
  unfold Addr.add
  split
  . rename_i h0;rw[h0]
  . simp
 rw[e];exact this
def Us{e:En}(k:fi e=true):stI e.y e.mo e.d e.h e.mi e.s=((eN e:Nat):Int):=by
 obtain⟨_,_,f3⟩:=dk (n:=e.n) (t:=e.t) k;obtain⟨_,_,_,g4⟩:=oC f3;rw[g4];rfl
def Tryz.infoLh:(prog.info? 64).map (fun i=>(i.zero,i.size,i.bytes))=some (some (.agg #[.int .i64 0,.int .i64 0,.int .i64 0,.int .i64 0,.int .i64 0,.string ⟨#[]⟩,.string ⟨#[]⟩]),7,72):=by kernel_rfl
abbrev Tu:=bj (α:=En) 64 7 yZ
def Gz(a:Option Addr)(cap n:Nat)(l:List En)(w:World)(U:l.length=n)(h:iA w a l)(T:n<=6)(V:∀i,i<n->fi (l.getD i default)=true)(R:dp w) :
  Calls prog 32 #[.slice a n cap,.func (.func 33) #[] #[]] w fun e w'=>∃v,e = .returned v/\Tu w' w.heap.size v l/\Below w.heap.size w w':=by
 have aa:(n:Int)<=6:=by omega
 have u:=af U;have Hm:=af T;have HS:=af V;have Z:=af h;have Y:=af R;clear U T V h R;obtain⟨i0,hi,N,O,P⟩:=a0p Tryz.infoLh;go_enter func32,ntmps32;go_wp2_with fail
 go_loopw [5,7,10] (fun o _ i wr=>∃k:Nat,k<=n/\i = .int .i64 k/\Tu wr w.heap.size o (l.take k)/\Below w.heap.size w wr) (fun _ _ i _=>n-(intOf i).toNat)
 case atStart=>exact⟨0,a0g _,rfl,bj.nil _ _,a0c _ _⟩
 case round=>
  obtain⟨k,S,rfl,hq,b⟩:=hrel;by_cases K:k<n
  .
   obtain⟨g,o,rfl,hg,z⟩:=Z.later b (by have:=ae u;omega);obtain⟨c0,c1,c2,c3,c4,c5,c6,c7⟩:=z k (by have:=ae u;omega);have L:=af (qA l default k (by have:=ae u;omega));have B:Hid ((l.take k).length=k):=by show _=_;have:=ae u;simp;omega
   have Hk:=af S;have H:=ae HS k K;have E:=Us H;have M:=(dk (n:=(l.getD k default).n) (t:=(l.getD k default).t) H).2.1;clear z S H;generalize l.getD k default=en at *
   have HP:=af (fun W (hb:Below w.heap.size w W)=>uS en.n en.t en.y en.mo en.d en.h en.mi en.s W (by omega) (Y.later hb));rw[E]at HP;clear E M;have Q:Below wr.heap.size wr (wr.alloc (.cells en 26)):=cC;have G:=af Q;have F:=af hq;have c:=af b;clear Q hq b;go_wp2_with fail;refine(HP _ (aj c G)).mono ?_;rintro e x1⟨rfl,x⟩;have I:=aj G x;have r:=bj.own B (F.later I (a0a _));have f:=aj c I;have p:=f.size;have m:Hid (k+1<=maxLen/\(k+1)*72<=140737488355328):=by
    show _/\_;have:=ae Hm;unfold maxLen;omega
   clear F c G x I HP;go_wp2_with (at_builtin;refine a0w _ rfl _ _ 59 rfl w.heap.size 64 i0 (.agg #[.int .i64 0,.int .i64 0,.int .i64 0,.int .i64 0,.int .i64 0,.string ⟨#[]⟩,.string ⟨#[]⟩]) 7 72 underlying59 hi N O P rfl (by decide) _ _ _ rfl (a0o r _) ⟨x1.heap.size,0,none⟩ 1 1 (yZ en) rfl rfl (jd x1 _ _) (Kx en) m.1 m.2 (ar p _) ?_;intro v' x2 q j C;clear C);have J:=aH (v:=u5) j r (a0a _) p f;have D:Tu x2 w.heap.size v' _:=bj.snoc B q;rw[←ae L]at D;clear q j r;go_wp2;go_roundw
   case rel=>exact⟨k+1,by have:=ae Hk;omega,by go_num,D,J⟩
   case measure=>simp[intOf];omega
  . have A:l.take k=l:=a0t (by rw[ae u];omega);rw[A]at hq;have F:=af hq;have X:=af b;clear hq b A;go_wp2;go_ret;exact⟨_,rfl,F,X⟩
def BlS(w:World)(vs:List Value)(W:World):Prop:=Below w.heap.size w W/\Blk W w.heap.size vs
def BlS.later{W W':World}(k:BlS w vs W)(hb:Below W.heap.size W W'):BlS w vs W':=⟨aj k.1 hb,k.2.later hb k.2.1⟩
def BlS.drew{W:World}(k:BlS w vs W):BlS w vs W.drew:=⟨k.1.drew,k.2.drew⟩
def BG(W:World)(x:Nat):bE (W.alloc (.cells #[.int .i64 ((x:Nat):Int)] 3)) (some ⟨W.heap.size,0,none⟩) (dB [x]):=by
 intro _;refine⟨W.heap.size,0,rfl,by simp,fun i a=>?_⟩
 match i,a with
 | 0,_=>simp[dB]
def DI(W:World)(x y z u:Nat):bE (W.alloc (.cells #[.int .i64 ((x:Nat):Int),.int .i64 ((y:Nat):Int),.int .i64 ((z:Nat):Int),.int .i64 ((u:Nat):Int)] 3)) (some ⟨W.heap.size,0,none⟩) (dB [x,y,z,u]):=by
 intro _;refine⟨W.heap.size,0,rfl,by simp,fun i a=>?_⟩
 match i,a with
 | 0,_=>simp[dB]
 | 1,_=>simp[dB]
 | 2,_=>simp[dB]
 | 3,_=>simp[dB]
def ui(how st crc pk lg pl:Nat)(nm:ByteArray)(w:World)(k:how<65536)(l:st<4294967296)(h2:crc<4294967296)(m:pk<4294967296)(n:lg<4294967296)(o:nm.size<65536)(p:pl<4294967296) :
  Ds 109 #[.agg #[how,st,crc,pk,lg,nm,pl]] w (.string (li how st crc pk lg nm pl)):=by
 have f:=cE
 have r:Hid (∀g W,bE W (some ⟨g,0,none⟩) (dB [20])->Ds 110 #[.slice (some ⟨g,0,none⟩) 1 1] W (.string (ax (leS 2 20)))):=fun g W h=>by
  have:=ef (some ⟨g,0,none⟩) 1 1 [20] W rfl h (by decide) (by decide);rw[show([20]:List Nat).flatMap (leS 2)=leS 2 20 by simp]at this;exact this
 have CT:Hid (∀W,Ds 139 #[.agg #[how,st,crc,pk,lg,nm]] W (.string (fp how st crc pk lg nm.size))):=fun W=>FH how st crc pk lg nm W k l h2 m n o;have q:Hid (∀W,Ds 111 #[.int .i64 (pl:Int)] W (.string (ax (leS 4 pl)))):=fun W=>ec pl W p;have z0:((ax (leS 2 20)).size:Int)<=100:=by rw[bF,aB];omega
 have z1:((fp how st crc pk lg nm.size).size:Int)<=100:=by rw[fV];omega
 have z2:((ax (leS 4 pl)).size:Int)<=100:=by rw[bF,aB];omega
 have s:(nm.size:Int)<65536:=by omega
 unfold li;generalize ax (leS 2 20)=A0 at *
 generalize fp how st crc pk lg nm.size=A1 at *
 generalize ax (leS 4 pl)=A2 at *
 have T0':Hid (BlS w [.int .i64 (how:Nat),.int .i64 (st:Nat),.int .i64 (crc:Nat),.int .i64 (pk:Nat),.int .i64 (lg:Nat),.string nm,.int .i64 (pl:Nat)] (w.alloc (.cells #[how,st,crc,pk,lg,nm,pl] 105))):=⟨cC,ay w _ _⟩;clear k l h2 m n o p;go_enter func109,ntmps109;go_wp2_with fail;obtain⟨W0,hW0⟩:∃x,w.alloc (.cells #[how,st,crc,pk,lg,nm,pl] 105)=x:=⟨_,rfl⟩;rw[hW0]at T0';rw[hW0];have T0:=T0';clear T0' hW0;refine wp_region_held_drew (S:=BlS w [.int .i64 (how:Nat),.int .i64 (st:Nat),.int .i64 (crc:Nat),.int .i64 (pk:Nat),.int .i64 (lg:Nat),.string nm,.int .i64 (pl:Nat)]) f T0.drew (fun b=>?_);refine ag 3 (.pointer w.heap.size) rfl (fun W a=>by go_simp) b ?_;refine ag 4 (.agg #[how,st,crc,pk,lg,nm]) rfl (fun W a=>by have s0:=a.2.cell 0 _ rfl;have s1:=a.2.cell 1 _ rfl;have s2:=a.2.cell 2 _ rfl;have s3:=a.2.cell 3 _ rfl;have s4:=a.2.cell 4 _ rfl;have s5:=a.2.cell 5 _ rfl;go_simp) b ?_;refine ag 8 (.pointer (some ⟨w.heap.size,6,none⟩)) rfl (fun W a=>by go_simp) b ?_;refine ag 9 (.int .i64 (pl:Nat)) rfl (fun W a=>by have s6:=a.2.cell 6 _ rfl;go_simp) b ?_;refine ag 12 (.pointer w.heap.size) rfl (fun W a=>by go_simp) b ?_;refine ag 13 (.pointer (some ⟨w.heap.size,5,none⟩)) rfl (fun W a=>by go_simp) b ?_;refine ag 14 (.string nm) rfl (fun W a=>by have s5:=a.2.cell 5 _ rfl;go_simp) b ?_;have T1:=af (T0.drew);generalize W0.drew=W1 at *
 refine ah 0 fun K c=>?_;go_simp;have d:Below W1.heap.size W1 (W1.alloc (.cells #[.int .i64 20] 3)):=cC;have T2:=af (T1.later d);have j:Hid (bE (W1.alloc (.cells #[.int .i64 20] 3)) (some ⟨W1.heap.size,0,none⟩) (dB [20])):=BG _ _;refine Shut.out c _ _ T2 (fun b=>?_);clear c K d T1;obtain⟨g,hg⟩:∃x,W1.heap.size=x:=⟨_,rfl⟩;obtain⟨W2,hW2⟩:∃x,W1.alloc (.cells #[.int .i64 20] 3)=x:=⟨_,rfl⟩;rw[hW2]at T2 b;rw[hg,hW2]at j;rw[hg,hW2];refine ah 1 fun K c=>?_;go_simp;go_at_call 110;refine(r g W2 (ae j)).mono ?_;rintro e W3⟨rfl,d⟩;have T3:=af (T2.later d);refine Shut.out c _ _ T3 (fun b=>?_);clear c K d T2;refine ag 2 (.string ((⟨#[80,75,1,2]⟩:ByteArray)++A0)) rfl (fun W a=>by go_simp<;>omega) b ?_;refine ah 5 fun K c=>?_;go_simp;go_at_call 139;refine(CT W3).mono ?_;rintro e W4⟨rfl,d⟩;have T4:=af (T3.later d);refine Shut.out c _ _ T4 (fun b=>?_);clear c K d T3;refine ag 6 (.string ((⟨#[80,75,1,2]⟩:ByteArray)++A0++A1)) rfl (fun W a=>by go_simp<;>omega) b ?_;refine ag 7 (.string ((⟨#[80,75,1,2]⟩:ByteArray)++A0++A1++(⟨#[0,0,0,0,0,0,0,0,0,0]⟩:ByteArray))) rfl (fun W a=>by go_simp<;>omega) b ?_;refine ah 10 fun K c=>?_;go_simp;go_at_call 111;refine(q W4).mono ?_;rintro e W5⟨rfl,d⟩;have T5:=af (T4.later d);refine Shut.out c _ _ T5 (fun b=>?_);clear c K d T4;refine ag 11 (.string ((⟨#[80,75,1,2]⟩:ByteArray)++A0++A1++(⟨#[0,0,0,0,0,0,0,0,0,0]⟩:ByteArray)++A2)) rfl (fun W a=>by go_simp<;>omega) b ?_;refine ag 15 (.string ((⟨#[80,75,1,2]⟩:ByteArray)++A0++A1++(⟨#[0,0,0,0,0,0,0,0,0,0]⟩:ByteArray)++A2++nm)) rfl (fun W a=>by go_simp<;>omega) b ?_;refine ah 16 fun K c=>?_;go_simp;refine Shut.out c _ _ T5 (fun b=>?_);clear c K;refine wpAnyH_done (by kernel_rfl) ?_ _;clear b;generalize i:(⟨#[80,75,1,2]⟩:ByteArray)++A0++A1++(⟨#[0,0,0,0,0,0,0,0,0,0]⟩:ByteArray)++A2++nm=AA;go_wp2;go_ret;exact⟨by rw[←i];rfl,T5.1⟩
def yi(w:World)(a:Option Addr)(n:Nat)(f:Nat->List Value):Prop:=0<n->∃g,a=some ⟨g,0,none⟩/\g<w.heap.size/\∀i,i<n->∀j u,(f i)[j]?=some u->w.cell? ⟨g,i*7+j,none⟩=some u
def yi.later{w':World}{a:Option Addr}{n:Nat}{f:Nat->List Value}(h:yi w a n f)(hb:Below w.heap.size w w'):yi w' a n f:=by
 intro c;obtain⟨g,e,b,d⟩:=h c;exact⟨g,e,a0h b hb.size,fun i k j u l=>(hb.cell (p:=⟨g,i*7+j,none⟩) b).trans (d i k j u l)⟩
def xD{α:Type}{T:TypeId}{f:α->List Value}(b:∀x,(f x).length=7){base cap n:Nat}{a:Option Addr}{l:List α}(d:α)(m:l.length=n)(h:bj T 7 f w base (.slice a n cap) l):yi w a n fun i=>f (l.getD i d):=by
 intro o;obtain⟨g,rfl⟩:=h.somes (by omega);refine⟨g,rfl,h.below.2,fun i e j u c=>?_⟩;have k:j<7:=by
  rw[←b (l.getD i d)];exact(List.getElem?_eq_some_iff.mp c).1
 rw[(bj.at b d m h i j e k).1];exact c
def yu(l:List En)(k:Nat):En×Nat:=(l.getD k default,(aG (l.take k)).1.size)
def hdL(l:List En)(n:Nat):List (En×Nat):=(List.range n).map (yu l)
def rk(l:List En)(n:Nat):(hdL l n).length=n:=by simp[hdL]
def Ol(l:List En)(n:Nat):hdL l (n+1)=hdL l n++[yu l n]:=by simp[hdL,a3T]
def RP(l:List En)(n i:Nat)(d:En×Nat)(h:i<n):(hdL l n).getD i d=yu l i:=by simp[hdL,List.getD,h]
def NT(L:ByteArray)(many long pl:Nat):L++(⟨#[80,75,5,6]⟩:ByteArray)++ax ([0,0,many,many].flatMap (leS 2))++ax (leS 4 long)++ax (leS 4 pl)++ax ([0].flatMap (leS 2))=L++dT many long pl:=by
 unfold dT;simp only[a2D]
def IX(a:Option Addr)(cap n:Nat)(l:List En)(w:World)(hn:l.length=n)(h:yi w a n fun i=>qY (yu l i))(hm:n<=6)(R:∀i,i<n->fi (l.getD i default)=true) :
  Ds 68 #[.slice a n cap,.int .i64 ((aG l).1.size:Nat)] w (.string ((aG l).2++dT n (aG l).2.size (aG l).1.size)):=by
 have Y:=af (mx l (fun i hi=>R i (by omega)));have hz:=ae Y n (by omega);rw[a0t (by omega)]at hz;have N:(aG l).1.size<4294967296:=by omega
 have L:(aG l).2.size<4294967296:=by omega
 have M:((aG l).2.size:Int)<=600:=by omega
 have K:=af hn;have HS:=af R;have HR:=af h;have H:Hid (∀g W,bE W (some ⟨g,0,none⟩) (dB [0,0,n,n])->Ds 110 #[.slice (some ⟨g,0,none⟩) 4 4] W (.string (ax ([0,0,n,n].flatMap (leS 2))))):=fun g W h=>ef (some ⟨g,0,none⟩) 4 4 [0,0,n,n] W rfl h (by decide) (by intro x hx;simp at hx;omega);have G:Hid (∀g W,bE W (some ⟨g,0,none⟩) (dB [0])->Ds 110 #[.slice (some ⟨g,0,none⟩) 1 1] W (.string (ax ([0].flatMap (leS 2))))):=fun g W h=>ef (some ⟨g,0,none⟩) 1 1 [0] W rfl h (by decide) (by decide);have p:Hid (∀W,Ds 111 #[.int .i64 ((aG l).2.size:Int)] W (.string (ax (leS 4 (aG l).2.size)))):=fun W=>ec _ W L;have q:Hid (∀W,Ds 111 #[.int .i64 ((aG l).1.size:Int)] W (.string (ax (leS 4 (aG l).1.size)))):=fun W=>ec _ W N;have z1:((ax ([0,0,n,n].flatMap (leS 2))).size:Int)<=100:=by rw[bF];simp[aB]
 have z2:((ax ([0].flatMap (leS 2))).size:Int)<=100:=by rw[bF];simp[aB]
 have z3:((ax (leS 4 (aG l).2.size)).size:Int)<=100:=by rw[bF,aB];omega
 have z4:((ax (leS 4 (aG l).1.size)).size:Int)<=100:=by rw[bF,aB];omega
 have V:=af (NT (aG l).2 n (aG l).2.size (aG l).1.size);generalize (aG l).2++dT n (aG l).2.size (aG l).1.size=RES at *
 generalize ax ([0,0,n,n].flatMap (leS 2))=A1 at *
 generalize ax ([0].flatMap (leS 2))=A2 at *
 generalize ax (leS 4 (aG l).2.size)=A3 at *
 generalize ax (leS 4 (aG l).1.size)=A4 at *
 obtain⟨PL,hPL⟩:∃x,(aG l).1.size=x:=⟨_,rfl⟩;obtain⟨LI,hLI'⟩:∃x,(aG l).2=x:=⟨_,rfl⟩;rw[hPL]at q N;rw[hLI']at p V M L;have J:=af hLI';rw[hPL];clear hn h R hz N L hPL hLI';go_enter func68,ntmps68;go_wp2_with fail
 go_loopw [5,7,10] (fun o _ i wr=>∃k:Nat,k<=n/\i = .int .i64 k/\o = .string (aG (l.take k)).2/\Below w.heap.size w wr) (fun _ _ i _=>n-(intOf i).toNat)
 case atStart=>exact⟨0,a0g _,rfl,rfl,a0c _ _⟩
 case round=>
  obtain⟨k,hk,rfl,rfl,b⟩:=hrel;by_cases d:k<n
  .
   obtain⟨g,rfl,hg,c⟩:=HR.later b (by omega);have c0:=c k d 0 _ rfl;have c1:=c k d 1 _ rfl;have c2:=c k d 2 _ rfl;have c3:=c k d 3 _ rfl;have c4:=c k d 4 _ rfl;have c5:=c k d 5 _ rfl;have c6:=c k d 6 _ rfl;simp only[yu]at c0 c1 c2 c3 c4 c5 c6;rw[a1d]at c0;have S:Hid ((aG (l.take (k+1))).2=(aG (l.take k)).2++heE (l.getD k default) (aG (l.take k)).1.size):=by show _=_;rw[iz l k (by have:=ae K;omega)];rfl
   have T:=ae Y k (by have:=ae K;omega);have aa:((aG (l.take k)).2.size:Int)<=600:=by omega
   have m:(aG (l.take k)).1.size<4294967296:=by omega
   have v:=ae HS k d;obtain⟨f1,f2,f3⟩:=dk (n:=(l.getD k default).n) (t:=(l.getD k default).t) v;have hN:=(oC f3).2.2;have Q:=vZ (l.getD k default) (aG (l.take k)).1.size;have Z:((heE (l.getD k default) (aG (l.take k)).1.size).size:Int)<=100:=by omega
   have E:aE 0 (l.getD k default).t.data.toList<4294967296:=ig _ _ (by omega);have P:=iG (l.getD k default).t;have O:(aO (l.getD k default).t).size<=100000:=by unfold aO;split<;>omega
   have U:dh (l.getD k default).t<=8:=by unfold dh;split<;>omega
   have A:eN (l.getD k default)<4294967296:=by unfold eN;omega
   have HP:=af (fun W=>ui (dh (l.getD k default).t) (eN (l.getD k default)) (aE 0 (l.getD k default).t.data.toList) (aO (l.getD k default).t).size (l.getD k default).t.size (aG (l.take k)).1.size (l.getD k default).n W (by omega) A E (by omega) (by omega) (by omega) m);have X:Hid (li (dh (l.getD k default).t) (eN (l.getD k default)) (aE 0 (l.getD k default).t.data.toList) (aO (l.getD k default).t).size (l.getD k default).t.size (l.getD k default).n (aG (l.take k)).1.size=heE (l.getD k default) (aG (l.take k)).1.size):=rfl;rw[ae X]at HP;have r:=af (a0b b hk);clear c v f1 f2 f3 hN Q T m E P O U A b hk X;generalize dh (l.getD k default).t=v0 at *
   generalize eN (l.getD k default)=v1 at *
   generalize aE 0 (l.getD k default).t.data.toList=v2 at *
   generalize (aO (l.getD k default).t).size=v3 at *
   generalize (l.getD k default).t.size=v4 at *
   generalize (l.getD k default).n=v5 at *
   generalize heE (l.getD k default) (aG (l.take k)).1.size=HE1 at *
   generalize (aG (l.take k)).2=L1 at *
   generalize (aG (l.take k)).1.size=P1 at *
   have y:Hid (Below wr.heap.size wr (wr.alloc (.cells #[v0,v1,v2,v3,v4,v5,P1] 105))):=cC;go_wp2_with fail;refine(HP _).mono ?_;rintro e x1⟨rfl,f⟩;have j:=af (aj r.1 (aj y f));clear f y;go_wp2;go_roundw
   case rel=>exact⟨k+1,by have:=r.2;omega,by go_num,by rw[ae S],j⟩
   case measure=>simp[intOf];omega
  . have F:l.take k=l:=a0t (by rw[ae K];omega);rw[F,ae J];have r:=af b;clear b F;have y:Hid (Below wr.heap.size wr (wr.alloc (.cells #[.int .i64 0,.int .i64 0,n,n] 3))):=cC;go_wp2_with fail;refine(H _ _ (DI wr 0 0 n n)).mono ?_;rintro e x1⟨rfl,f⟩;have s:=af (aj r (aj y f));clear f y r;go_wp2_with fail;refine(p _).mono ?_;rintro e x2⟨rfl,B⟩;have j:=af (aj s B);clear B s;go_wp2_with fail;refine(q _).mono ?_;rintro e x3⟨rfl,C⟩;have u:=af (aj j C);clear C j;have z:Hid (Below x3.heap.size x3 (x3.alloc (.cells #[.int .i64 0] 3))):=cC;go_wp2_with fail;refine(G _ _ (BG x3 0)).mono ?_;rintro e x4⟨rfl,D⟩;have I:=af (aj u (aj z D));clear D z u;go_wp2;go_ret;exact⟨by rw[←ae V];rfl,I⟩
structure Hq where
 how:Nat
 st:Nat
 crc:Nat
 pk:Nat
 lg:Nat
 nm:ByteArray
 pl:Nat
def Dp(q:Hq):List Value:=[.int .i64 (q.how:Nat),.int .i64 (q.st:Nat),.int .i64 (q.crc:Nat),.int .i64 (q.pk:Nat),.int .i64 (q.lg:Nat),.string q.nm,.int .i64 (q.pl:Nat)]
def NP(e:Hq):(Dp e).length=7:=rfl
def NQ(e:Hq):∀u∈Dp e,u.oneCell'=true:=by
 intro u a;simp only[Dp,a02,a1D,a1v]at a;rcases a with rfl|rfl|rfl|rfl|rfl|rfl|rfl<;>rfl
def cQ(q:Hq):ByteArray:=li q.how q.st q.crc q.pk q.lg q.nm q.pl
def okQ(q:Hq):Prop:=q.how<65536/\q.st<4294967296/\q.crc<4294967296/\q.pk<4294967296/\q.lg<4294967296/\q.nm.size<=54/\q.pl<4294967296
def fK(f:Nat->Hq):Nat->ByteArray
 | 0=>⟨#[]⟩
 | k+1=>fK f k++cQ (f k)
theorem wU(f:Nat->Hq):∀k,(∀i,i<k->okQ (f i))->(fK f k).size<=100*k
 | 0,_=>a0g _
 | k+1,h=>by
  have ih:=wU f k (fun i b=>h i (by omega));have a:=(h k (by omega)).2.2.2.2.2.1;have h2:(cQ (f k)).size=46+(f k).nm.size:=iX _ _ _ _ _ _ _;rw[fK,a0H];omega
def FW(a:Option Addr)(cap n P:Nat)(f:Nat->Hq)(w:World)(h:yi w a n fun i=>Dp (f i))(hm:n<=6)(J:∀i,i<n->okQ (f i))(Q:P<4294967296) :
  Ds 68 #[.slice a n cap,P] w (.string (fK f n++dT n (fK f n).size P)):=by
 have V:(n:Int)<=6:=by omega
 have O:=af (fun k (H:k<=n)=>wU f k (fun i hi=>J i (by omega)));have Y:=ae O n (by omega);have E:(fK f n).size<4294967296:=by omega
 have F:((fK f n).size:Int)<=600:=by omega
 have U:=af J;have T:=af h;have B:Hid (∀g W,bE W (some ⟨g,0,none⟩) (dB [0,0,n,n])->Ds 110 #[.slice (some ⟨g,0,none⟩) 4 4] W (.string (ax ([0,0,n,n].flatMap (leS 2))))):=fun g W h=>ef (some ⟨g,0,none⟩) 4 4 [0,0,n,n] W rfl h (by decide) (by intro x X;simp at X;omega);have A:Hid (∀g W,bE W (some ⟨g,0,none⟩) (dB [0])->Ds 110 #[.slice (some ⟨g,0,none⟩) 1 1] W (.string (ax ([0].flatMap (leS 2))))):=fun g W h=>ef (some ⟨g,0,none⟩) 1 1 [0] W rfl h (by decide) (by decide);have m:Hid (∀W,Ds 111 #[.int .i64 ((fK f n).size:Int)] W (.string (ax (leS 4 (fK f n).size)))):=fun W=>ec _ W E;have z:Hid (∀W,Ds 111 #[.int .i64 (P:Int)] W (.string (ax (leS 4 P)))):=fun W=>ec _ W Q;have z1:((ax ([0,0,n,n].flatMap (leS 2))).size:Int)<=100:=by rw[bF];simp[aB]
 have z2:((ax ([0].flatMap (leS 2))).size:Int)<=100:=by rw[bF];simp[aB]
 have z3:((ax (leS 4 (fK f n).size)).size:Int)<=100:=by rw[bF,aB];omega
 have z4:((ax (leS 4 P)).size:Int)<=100:=by rw[bF,aB];omega
 have M:=af (NT (fK f n) n (fK f n).size P);generalize (fK f n)++dT n (fK f n).size P=RES at *
 generalize ax ([0,0,n,n].flatMap (leS 2))=A1 at *
 generalize ax ([0].flatMap (leS 2))=A2 at *
 generalize ax (leS 4 (fK f n).size)=A3 at *
 generalize ax (leS 4 P)=A4 at *
 obtain⟨LI,hLI'⟩:∃x,(fK f n)=x:=⟨_,rfl⟩;rw[hLI']at m M F E;have D:=af hLI';clear h J Y Q E hLI';go_enter func68,ntmps68;go_wp2_with fail
 go_loopw [5,7,10] (fun o _ i wr=>∃k:Nat,k<=n/\i = .int .i64 k/\o = .string (fK f k)/\Below w.heap.size w wr) (fun _ _ i _=>n-(intOf i).toNat)
 case atStart=>exact⟨0,a0g _,rfl,rfl,a0c _ _⟩
 case round=>
  obtain⟨k,H,rfl,rfl,b⟩:=hrel;by_cases d:k<n
  .
   obtain⟨g,rfl,hg,c⟩:=T.later b (by omega);have c0:=c k d 0 _ rfl;have c1:=c k d 1 _ rfl;have c2:=c k d 2 _ rfl;have c3:=c k d 3 _ rfl;have c4:=c k d 4 _ rfl;have Z:=c k d 5 _ rfl;have c6:=c k d 6 _ rfl;rw[a1d]at c0;have K:Hid (fK f (k+1)=fK f k++cQ (f k)):=rfl;have L:=ae O k (by omega);have S:((fK f k).size:Int)<=600:=by omega
   obtain⟨o0,o1,o2,o3,o4,o5,o6⟩:=ae U k d;have G:(cQ (f k)).size=46+(f k).nm.size:=iX _ _ _ _ _ _ _;have R:((cQ (f k)).size:Int)<=100:=by omega
   have HP:=af (fun W=>ui (f k).how (f k).st (f k).crc (f k).pk (f k).lg (f k).pl (f k).nm W o0 o1 o2 o3 o4 (by omega) o6);have N:Hid (li (f k).how (f k).st (f k).crc (f k).pk (f k).lg (f k).nm (f k).pl=cQ (f k)):=rfl;rw[ae N]at HP;have p:=af (a0b b H);clear c o0 o1 o2 o3 o4 o5 o6 G L b H N;generalize cQ (f k)=HE1 at *
   generalize (f k).how=v0 at *
   generalize (f k).st=v1 at *
   generalize (f k).crc=v2 at *
   generalize (f k).pk=v3 at *
   generalize (f k).lg=v4 at *
   generalize (f k).nm=v5 at *
   generalize (f k).pl=P1 at *
   generalize fK f k=L1 at *
   have s:Hid (Below wr.heap.size wr (wr.alloc (.cells #[v0,v1,v2,v3,v4,v5,P1] 105))):=cC;go_wp2_with fail;refine(HP _).mono ?_;rintro e x1⟨rfl,j⟩;have l:=af (aj p.1 (aj s j));clear j s;go_wp2;go_roundw
   case rel=>exact⟨k+1,by have:=p.2;omega,by go_num,by rw[ae K],l⟩
   case measure=>simp[intOf];omega
  .
   have I:k=n:=by omega
   subst I;rw[ae D];have p:=af b;clear b;have s:Hid (Below wr.heap.size wr (wr.alloc (.cells #[.int .i64 0,.int .i64 0,k,k] 3))):=cC;go_wp2_with fail;refine(B _ _ (DI wr 0 0 k k)).mono ?_;rintro e x1⟨rfl,j⟩;have q:=af (aj p (aj s j));clear j s p;go_wp2_with fail;refine(m _).mono ?_;rintro e x2⟨rfl,u⟩;have l:=af (aj q u);clear u q;go_wp2_with fail;refine(z _).mono ?_;rintro e x3⟨rfl,v⟩;have r:=af (aj l v);clear v l;have t:Hid (Below x3.heap.size x3 (x3.alloc (.cells #[.int .i64 0] 3))):=cC;go_wp2_with fail;refine(A _ _ (BG x3 0)).mono ?_;rintro e x4⟨rfl,y⟩;have C:=af (aj r (aj t y));clear y t r;go_wp2;go_ret;exact⟨by rw[←ae M];rfl,C⟩
def OJ(many long pl:Nat):ax (leS 4 101010256)++ax (leS 2 0)++ax (leS 2 0)++ax (leS 2 many)++ax (leS 2 many)++ax (leS 4 long)++ax (leS 4 pl)++ax (leS 2 0)=dT many long pl:=by
 unfold dT;rw[NN];apply ck;simp[ax,a0W]
def Le(n T A4:ByteArray):ax (leS 4 33639248)++ax (leS 2 20)++T++ax (leS 2 0)++ax (leS 2 0)++ax (leS 2 0)++ax (leS 4 0)++A4++n=(⟨#[80,75,1,2]⟩:ByteArray)++ax (leS 2 20)++T++(⟨#[0,0,0,0,0,0,0,0,0,0]⟩:ByteArray)++A4++n:=by
 rw[Nw,←Nl];simp only[a2D]
def zt(many long pl:Nat)(w:World)(x:many<65536)(y:long<4294967296)(h2:pl<4294967296) :
  Ds 59 #[many,long,pl] w (.string (dT many long pl)):=by
 have s:Hid (∀W,Ds 92 #[.int .i64 101010256,.int .i64 4] W (.string (ax (leS 4 101010256)))):=fun W=>aP 101010256 4 W (by omega) (by omega);have a:Hid (∀W,Ds 92 #[.int .i64 0,.int .i64 2] W (.string (ax (leS 2 0)))):=fun W=>aP 0 2 W (by omega) (by omega);have j:Hid (∀W,Ds 92 #[.int .i64 (many:Nat),.int .i64 2] W (.string (ax (leS 2 many)))):=fun W=>aP many 2 W (by omega) (by omega);have t:Hid (∀W,Ds 92 #[long,.int .i64 4] W (.string (ax (leS 4 long)))):=fun W=>aP long 4 W (by omega) (by omega);have u:Hid (∀W,Ds 92 #[pl,.int .i64 4] W (.string (ax (leS 4 pl)))):=fun W=>aP pl 4 W (by omega) (by omega);have v:=af (OJ many long pl);have zz:∀many V,many<=4->((ax (leS many V)).size:Int)<=4:=fun many V z=>by rw[bF,aB];omega
 have z1:=zz 4 101010256 (by omega);have z2:=zz 2 0 (by omega);have z3:=zz 2 many (by omega);have z4:=zz 4 long (by omega);have z5:=zz 4 pl (by omega);generalize ax (leS 4 101010256)=A1 at *
 generalize ax (leS 2 0)=A2 at *
 generalize ax (leS 2 many)=A3 at *
 generalize ax (leS 4 long)=A4 at *
 generalize ax (leS 4 pl)=A5 at *
 generalize dT many long pl=RES at *
 clear x y h2 zz;go_enter func59,ntmps59;go_wp2_with fail;refine(s _).mono ?_;rintro e x1⟨rfl,b⟩;go_wp2_with fail;refine(a _).mono ?_;rintro e x2⟨rfl,k⟩;have c:=aj b k;clear b k;go_wp2_with fail;refine(a _).mono ?_;rintro e x3⟨rfl,l⟩;have d:=aj c l;clear c l;go_wp2_with fail;refine(j _).mono ?_;rintro e x4⟨rfl,m⟩;have f:=aj d m;clear d m;go_wp2_with fail;refine(j _).mono ?_;rintro e x5⟨rfl,n⟩;have g:=aj f n;clear f n;go_wp2_with fail;refine(t _).mono ?_;rintro e x6⟨rfl,o⟩;have h:=aj g o;clear g o;go_wp2_with fail;refine(u _).mono ?_;rintro e x7⟨rfl,p⟩;have i:=aj h p;clear h p;go_wp2_with fail;refine(a _).mono ?_;rintro e x8⟨rfl,q⟩;have r:=aj i q;clear i q;go_wp2;go_ret;exact⟨by rw[←ae v];rfl,r⟩
def yD(n t:ByteArray)(y mo d h mi s:Int)(N pl:Nat)(w:World)(k:(0<=y/\y<=100000)/\(0<=mo/\mo<=100)/\(0<=d/\d<=100)/\(0<=h/\h<=100)/\(0<=mi/\mi<=100) /\ -100<=s/\s<=100)
  (m:(((((y-1980)*16+mo)*32+d)*32+h)*64+mi)*32+Int.tdiv s 2=(N:Int)) (a:N<4294967296) (o:n.size<65536) (p:t.size<=1048576) (J:pl<4294967296) :
  Ds 61 #[.agg #[n,y,mo,d,h,mi,s,t],pl] w (.string (li (dh t) N (aE 0 t.data.toList) (aO t).size t.size n pl)):=by
 have b:=cE
 have C:=af (fun W=>ru n t y mo d h mi s N W k m a o p);have D:Hid (∀W,Ds 92 #[.int .i64 33639248,.int .i64 4] W (.string (ax (leS 4 33639248)))):=fun W=>aP 33639248 4 W (by omega) (by omega);have F:Hid (∀W,Ds 92 #[.int .i64 20,.int .i64 2] W (.string (ax (leS 2 20)))):=fun W=>aP 20 2 W (by omega) (by omega);have A:Hid (∀W,Ds 92 #[.int .i64 0,.int .i64 2] W (.string (ax (leS 2 0)))):=fun W=>aP 0 2 W (by omega) (by omega);have B:Hid (∀W,Ds 92 #[.int .i64 0,.int .i64 4] W (.string (ax (leS 4 0)))):=fun W=>aP 0 4 W (by omega) (by omega);have E:Hid (∀W,Ds 92 #[pl,.int .i64 4] W (.string (ax (leS 4 pl)))):=fun W=>aP pl 4 W (by omega) (by omega);have I:(n.size:Int)<65536:=by omega
 have G:=af (Le n (fp (dh t) N (aE 0 t.data.toList) (aO t).size t.size n.size) (ax (leS 4 pl)));unfold li;have zz:∀many V,many<=4->((ax (leS many V)).size:Int)<=4:=fun many V S=>by rw[bF,aB];omega
 have z1:=zz 4 33639248 (by omega);have z2:=zz 2 20 (by omega);have z3:((fp (dh t) N (aE 0 t.data.toList) (aO t).size t.size n.size).size:Int)<=26:=by rw[fV];omega
 have z4:=zz 2 0 (by omega);have z5:=zz 4 0 (by omega);have z6:=zz 4 pl (by omega);generalize (⟨#[80,75,1,2]⟩:ByteArray)++ax (leS 2 20)++fp (dh t) N (aE 0 t.data.toList) (aO t).size t.size n.size++(⟨#[0,0,0,0,0,0,0,0,0,0]⟩:ByteArray)++ax (leS 4 pl)++n=RES at *
 generalize ax (leS 4 33639248)=A1 at *
 generalize ax (leS 2 20)=A2 at *
 generalize fp (dh t) N (aE 0 t.data.toList) (aO t).size t.size n.size=A3 at *
 generalize ax (leS 2 0)=A4 at *
 generalize ax (leS 4 0)=A5 at *
 generalize ax (leS 4 pl)=A6 at *
 have T0':Hid (nv w n y mo d h mi s t (w.alloc (.cells #[n,y,mo,d,h,mi,s,t] 26))):=⟨cC,by simp,by simp,by simp,by simp,by simp,by simp,by simp,by simp,by simp⟩;clear k m a o p J zz;go_enter func61,ntmps61;go_wp2_with fail;obtain⟨W1,hW1⟩:∃x,w.alloc (.cells #[n,y,mo,d,h,mi,s,t] 26)=x:=⟨_,rfl⟩;rw[hW1]at T0';rw[hW1];have T1:=T0';clear T0' hW1;obtain⟨c0,c1,c2,c3,c4,i,j,l⟩:=T1.2.2;have k0:=cell_regrown c0;have K:=cell_regrown c1;have L:=cell_regrown c2;have M:=cell_regrown c3;have O:=cell_regrown c4;have P:=cell_regrown i;have Q:=cell_regrown j;have R:=cell_regrown l;have q:=fun d os=>Calls.regrown_of (w:=W1) (d:=d) (os:=os) (D _);have r:=fun d os=>Calls.regrown_of (w:=W1) (d:=d) (os:=os) (F _);have u:=fun d os=>Calls.regrown_of (w:=W1) (d:=d) (os:=os) (C _);have e:=fun d os=>Calls.regrown_of (w:=W1) (d:=d) (os:=os) (A _);have v:=fun d os=>Calls.regrown_of (w:=W1) (d:=d) (os:=os) (B _);have z:=fun d os=>Calls.regrown_of (w:=W1) (d:=d) (os:=os) (E _);have n1:¬ 9223372036854775807<A1.size+A2.size:=by omega
 have n2:¬ 9223372036854775807<A1.size+A2.size+A3.size:=by omega
 have n3:¬ 9223372036854775807<A1.size+A2.size+A3.size+A4.size:=by omega
 have n4:¬ 9223372036854775807<A1.size+A2.size+A3.size+A4.size+A4.size:=by omega
 have n5:¬ 9223372036854775807<A1.size+A2.size+A3.size+A4.size+A4.size+A4.size:=by omega
 have n6:¬ 9223372036854775807<A1.size+A2.size+A3.size+A4.size+A4.size+A4.size+A5.size:=by omega
 have n7:¬ 9223372036854775807<A1.size+A2.size+A3.size+A4.size+A4.size+A4.size+A5.size+A6.size:=by omega
 have n8:¬ 9223372036854775807<A1.size+A2.size+A3.size+A4.size+A4.size+A4.size+A5.size+A6.size+n.size:=by omega
 refine wp_region_quiet_below b (by kernel_rfl) ?_
 quiet_step (exact q _ _)
 quiet_step (exact r _ _)
 quiet_step (fail)
 quiet_step (fail)
 quiet_step (exact u _ _)
 quiet_step (fail)
 quiet_step (exact e _ _)
 quiet_step (fail)
 quiet_step (exact e _ _)
 quiet_step (fail)
 quiet_step (exact e _ _)
 quiet_step (fail)
 quiet_step (exact v _ _)
 quiet_step (fail)
 quiet_step (fail)
 quiet_step (exact z _ _)
 quiet_step (fail)
 quiet_step (fail)
 quiet_step (fail)
 quiet_step (fail)
 quiet_step (fail)
 refine a1w ?_;intro zw g;obtain⟨⟨H,osq⟩,c⟩:=g;have f:=below_regrown W1 H osq;rw[←c]at f;have T9:=af (aj T1.1 f);clear n1 n2 n3 n4 n5 n6 n7 n8 c f k0 K L M O P Q R q r u e v z c0 c1 c2 c3 c4 i j l;go_wp2;go_ret;exact⟨by rw[←ae G];rfl,T9⟩
def pd(a:Option Addr)(cap n:Nat)(l:List En)(w:World)(U:l.length=n)(h:iA w a l)(hm:n<=6)(O:∀i,i<n->fi (l.getD i default)=true) :
  Ds 27 #[.slice a n cap] w (.string ((aG l).1++(aG l).2++dT n (aG l).2.size (aG l).1.size)):=by
 have aa:(n:Int)<=6:=by omega
 have Q:=af (mx l (fun i hi=>O i (by omega)));have u:=af U;have Z:=af O;have Y:=af h;have V:=ae Q n (by omega);rw[a0t (by omega)]at V;have X:=af (fun W=>zt n (aG l).2.size (aG l).1.size W (by omega) (by omega) (by omega));have ad:((aG l).1.size:Int)<=2400:=by omega
 have al:((aG l).2.size:Int)<=600:=by omega
 have ao:((dT n (aG l).2.size (aG l).1.size).size:Int)<=22:=by rw[oQ];omega
 clear U h O hm V;go_enter func27,ntmps27;go_wp2_with fail
 go_loopw [3,4,5] (fun o q i wr=>∃k:Nat,k<=n/\i = .int .i64 k/\o = .string (aG (l.take k)).1/\q = .string (aG (l.take k)).2/\Below w.heap.size w wr) (fun _ _ i _=>n-(intOf i).toNat)
 case atStart=>exact⟨0,a0g _,rfl,rfl,rfl,a0c _ _⟩
 case round=>
  obtain⟨k,S,rfl,rfl,rfl,c⟩:=hrel;by_cases N:k<n
  .
   obtain⟨g,o,rfl,j,D⟩:=Y.later c (by have:=ae u;omega);obtain⟨c0,c1,c2,c3,c4,c5,c6,c7⟩:=D k (by have:=ae u;omega);have E:Hid ((aG (l.take (k+1))).1=(aG (l.take k)).1++loE (l.getD k default)):=by show _=_;rw[iz l k (by have:=ae u;omega)];rfl
   have F:Hid ((aG (l.take (k+1))).2=(aG (l.take k)).2++heE (l.getD k default) (aG (l.take k)).1.size):=by show _=_;rw[iz l k (by have:=ae u;omega)];rfl
   have P:=ae Q k (by have:=ae u;omega);have ab:((aG (l.take k)).1.size:Int)<=2400:=by omega
   have ac:((aG (l.take k)).2.size:Int)<=600:=by omega
   have r:=ae Z k N;obtain⟨f1,f2,f3⟩:=dk (n:=(l.getD k default).n) (t:=(l.getD k default).t) r;obtain⟨g1,g2,g3,_⟩:=oC f3;have M:=(wY r).2;have T:((loE (l.getD k default)).size:Int)<=400:=by omega
   have K:=vZ (l.getD k default) (aG (l.take k)).1.size;have R:((heE (l.getD k default) (aG (l.take k)).1.size).size:Int)<=100:=by omega
   have H:=af (fun W=>yD (l.getD k default).n (l.getD k default).t (l.getD k default).y (l.getD k default).mo (l.getD k default).d (l.getD k default).h (l.getD k default).mi (l.getD k default).s (eN (l.getD k default)) (aG (l.take k)).1.size W g1 g2 g3 (by omega) (by omega) (by omega));have I:=af (fun W=>Ea (l.getD k default).n (l.getD k default).t (l.getD k default).y (l.getD k default).mo (l.getD k default).d (l.getD k default).h (l.getD k default).mi (l.getD k default).s (eN (l.getD k default)) W g1 g2 g3 (by omega) (by omega));have v:Hid (li (dh (l.getD k default).t) (eN (l.getD k default)) (aE 0 (l.getD k default).t.data.toList) (aO (l.getD k default).t).size (l.getD k default).t.size (l.getD k default).n (aG (l.take k)).1.size=heE (l.getD k default) (aG (l.take k)).1.size):=rfl;have x:Hid (da (l.getD k default).n (l.getD k default).t (eN (l.getD k default))=loE (l.getD k default)):=rfl;rw[ae v]at H;rw[ae x]at I;have G:=af (a0b c S);clear D r f1 f2 f3 g1 g2 g3 P M K c S v x;generalize loE (l.getD k default)=LO at *
   generalize heE (l.getD k default) (aG (l.take k)).1.size=HE at *
   generalize (aG (l.take k)).1=F1 at *
   generalize (aG (l.take k)).2=F2 at *
   generalize l.getD k default=en at *
   go_wp2_with fail;refine(H _).mono ?_;rintro e x1⟨rfl,b⟩;have f:=af (aj G.1 b);have d0:=(b.cell (p:=⟨g,o+k*8,none⟩) j).trans c0;have d1:=(b.cell (p:=⟨g,o+k*8+1,none⟩) j).trans c1;have d2:=(b.cell (p:=⟨g,o+k*8+2,none⟩) j).trans c2;have d3:=(b.cell (p:=⟨g,o+k*8+3,none⟩) j).trans c3;have d4:=(b.cell (p:=⟨g,o+k*8+4,none⟩) j).trans c4;have d5:=(b.cell (p:=⟨g,o+k*8+5,none⟩) j).trans c5;have d6:=(b.cell (p:=⟨g,o+k*8+6,none⟩) j).trans c6;have d7:=(b.cell (p:=⟨g,o+k*8+7,none⟩) j).trans c7;clear b H;go_wp2_with fail;refine(I _).mono ?_;rintro e x2⟨rfl,C⟩;have J:=af (aj f C);clear C f I;go_wp2;go_roundw
   case rel=>exact⟨k+1,by have:=G.2;omega,by go_num,by rw[ae E],by rw[ae F],J⟩
   case measure=>simp[intOf];omega
  .
   have L:k=n:=by omega
   subst L;rw[a0t (by rw[ae u];omega)];have G:=af c;clear c;generalize z:dT k (aG l).2.size (aG l).1.size=EB at *
   generalize A:(aG l).1=F1 at *
   generalize B:(aG l).2=F2 at *
   have m:=af (a0b z (a0b A B));clear z A B;go_wp2_with fail;refine(X _).mono ?_;rintro e x1⟨rfl,b⟩;have f:=af (aj G b);clear b;go_wp2;go_ret;exact⟨by rw[m.2.1,m.2.2,m.1];rfl,f⟩
def Tryz.infoHd:(prog.info? 105).map (fun i=>(i.zero,i.size,i.bytes))=some (some (.agg #[.int .i64 0,.int .i64 0,.int .i64 0,.int .i64 0,.int .i64 0,.string ⟨#[]⟩,.int .i64 0]),7,64):=by kernel_rfl
abbrev Aj:=bj (α:=En×Nat) 105 7 qY
def Blk.grown{w':World}{b:Nat}{row:Option Nat}(h:Blk w b vs)(a:w.grownBy w' row)(c:some b≠row):Blk w' b vs:=
 ⟨a0h h.1 a.size,fun i v e=>⟨(World.cell?_of_block (a.block b h.1 c)).trans (h.2 i v e).1,(World.frozen?_of_block (a.block b h.1 c)).trans (h.2 i v e).2⟩⟩
def F3(a:Option Addr)(cap n:Nat)(l:List En)(w:World)(hn:l.length=n)(h:yi w a n fun i=>yZ (l.getD i default))(hm:n<=6)(Y:∀i,i<n->fi (l.getD i default)=true) :
  Ds 31 #[.slice a n cap] w (.string ((aG l).1++(aG l).2++dT n (aG l).2.size (aG l).1.size)):=by
 have bd:(n:Int)<=6:=by omega
 have HZ:=af (mx l (fun i U=>Y i (by omega)));have Hn:=af hn;have Hm:=af hm;have HS:=af Y;have HR:=af h;have J:=af (fun W b c (h:yi W b n fun i=>qY (yu l i))=>IX b c n l W hn h hm Y);have hz:=ae HZ n (by omega);rw[a0t (by omega)]at hz;have M:Hid (((aG l).2++dT n (aG l).2.size (aG l).1.size).size<=1000):=by
  show _<=_;rw[a0H,oQ];omega
 have bk:((aG l).1.size:Int)<=2400:=by omega
 have K:Hid ((aG l).1++(aG l).2++dT n (aG l).2.size (aG l).1.size=(aG l).1++((aG l).2++dT n (aG l).2.size (aG l).1.size)):=a2D;rw[ae K];clear hn h Y hm hz K;obtain⟨i0,U,a6,a7,a8⟩:=a0p Tryz.infoHd;go_enter func31,ntmps31;go_wp2_with fail
 go_loopw [3,4,6,9] (fun o q _ i wr=>∃k:Nat,k<=n/\i = .int .i64 k/\o = .string (aG (l.take k)).1/\Aj wr w.heap.size q (hdL l k)/\Below w.heap.size w wr) (fun _ _ _ i _=>n-(intOf i).toNat)
 case atStart=>exact⟨0,a0g _,rfl,rfl,bj.nil _ _,a0c _ _⟩
 case round=>
  obtain⟨k,hk,rfl,rfl,hq,m⟩:=hrel;by_cases r:k<n
  .
   obtain⟨g,rfl,hg,p⟩:=HR.later m (by omega);have c0:=p k r 0 _ rfl;have c1:=p k r 1 _ rfl;have c2:=p k r 2 _ rfl;have c3:=p k r 3 _ rfl;have c4:=p k r 4 _ rfl;have c5:=p k r 5 _ rfl;have c6:=p k r 6 _ rfl;rw[a1d]at c0;have a3:Hid ((aG (l.take (k+1))).1=(aG (l.take k)).1++loE (l.getD k default)):=by show _=_;rw[iz l k (by have:=ae Hn;omega)];rfl
   have a2:=af (Ol l k);have a4:=ae HZ k (by have:=ae Hn;omega);have bb:((aG (l.take k)).1.size:Int)<=2400:=by omega
   have G:=ae HS k r;obtain⟨f1,f2,f3⟩:=dk (n:=(l.getD k default).n) (t:=(l.getD k default).t) G;have hN:=(oC f3).2.2;have a1:=(wY G).2;have ba:((loE (l.getD k default)).size:Int)<=400:=by omega
   have T:aE 0 (l.getD k default).t.data.toList<4294967296:=ig _ _ (by omega);have ao:=iG (l.getD k default).t;have S:(aO (l.getD k default).t).size<=100000:=by unfold aO;split<;>omega
   have a5:dh (l.getD k default).t<=8:=by unfold dh;split<;>omega
   have P:eN (l.getD k default)<4294967296:=by unfold eN;omega
   have HP:=af (fun W=>tY (dh (l.getD k default).t) (eN (l.getD k default)) (aE 0 (l.getD k default).t.data.toList) (aO (l.getD k default).t).size (l.getD k default).t.size (l.getD k default).n (aO (l.getD k default).t) W (by omega) P T (by omega) (by omega) (by omega) S);have HX:Hid (df (dh (l.getD k default).t) (eN (l.getD k default)) (aE 0 (l.getD k default).t.data.toList) (aO (l.getD k default).t).size (l.getD k default).t.size (l.getD k default).n++aO (l.getD k default).t=loE (l.getD k default)):=rfl;rw[ae HX]at HP;have HK:=af hk;have HQ:=af hq;have C:=af m;clear p G f1 f2 f3 hN a4 a1 T ao S a5 P hk HX hq m;have D:Hid (qY (yu l k)=[.int .i64 (dh (l.getD k default).t:Nat),.int .i64 (eN (l.getD k default):Nat),.int .i64 (aE 0 (l.getD k default).t.data.toList:Nat),.int .i64 ((aO (l.getD k default).t).size:Nat),.int .i64 ((l.getD k default).t.size:Nat),.string (l.getD k default).n,.int .i64 ((aG (l.take k)).1.size:Nat)]):=rfl;have E:=af (Kv (yu l k));generalize be:dh (l.getD k default).t=v0 at *
   generalize eN (l.getD k default)=v1 at *
   generalize aE 0 (l.getD k default).t.data.toList=v2 at *
   generalize (aO (l.getD k default).t).size=v3 at *
   generalize (l.getD k default).t.size=v4 at *
   generalize (l.getD k default).n=v5 at *
   generalize aO (l.getD k default).t=v6 at *
   generalize loE (l.getD k default)=LO at *
   generalize (aG (l.take k)).1=F1 at *
   rw[ae D]at E;have X:Hid (Below wr.heap.size wr (wr.alloc (.cells #[v0,v1,v2,v3,v4,v5,v6] 64))):=cC;have z:Hid (k+1<=maxLen/\(k+1)*64<=140737488355328):=by
    show _/\_;have:=ae Hm;unfold maxLen;omega
   have B:=bj.own (rk l k) (HQ.later X (a0a _));have d:=aj C X;have y:=d.size;have ab:=af (bj.own (rk l k) HQ);have A:=af (ay wr #[v0,v1,v2,v3,v4,v5,v6] 64);clear HQ C;obtain⟨W1,hW1⟩:∃x,wr.alloc (.cells #[v0,v1,v2,v3,v4,v5,v6] 64)=x:=⟨_,rfl⟩;rw[hW1]at X B d y A;have al:Hid (∀j,Value.ownBlock u4=some j->j<wr.heap.size):=fun j hj=>(a0z ab j hj).2;have p0:=A.cell 0 _ rfl;have p1:=A.cell 1 _ rfl;have p2:=A.cell 2 _ rfl;have p3:=A.cell 3 _ rfl;have p4:=A.cell 4 _ rfl;have p5:=A.cell 5 _ rfl;go_wp2_with (at_builtin;refine a0w _ rfl _ _ 97 rfl w.heap.size 105 i0 (.agg #[.int .i64 0,.int .i64 0,.int .i64 0,.int .i64 0,.int .i64 0,.string ⟨#[]⟩,.int .i64 0]) 7 64 underlying97 U a6 a7 a8 rfl (by decide) _ _ _ rfl (a0o B _) ⟨W1.heap.size,0,none⟩ 1 1 [.int .i64 (v0:Nat),.int .i64 (v1:Nat),.int .i64 (v2:Nat),.int .i64 (v3:Nat),.int .i64 (v4:Nat),.string v5,.int .i64 (F1.size:Nat)] rfl rfl (jd W1 _ _) E z.1 z.2 (ar y _) ?_;intro v' x2 F s V;clear V;have f:=af (Blk.grown (Blk.later A cC A.1) s (fun e=>absurd (ae al _ e.symm) (a2W _)));have r0:=f.cell 0 _ rfl;have r1:=f.cell 1 _ rfl;have r2:=f.cell 2 _ rfl;have r3:=f.cell 3 _ rfl;have r4:=f.cell 4 _ rfl;have r5:=f.cell 5 _ rfl;have r6:=f.cell 6 _ rfl);refine(HP _).mono ?_;rintro e x3⟨rfl,H⟩;have R:=aH (v:=u4) s B (a0a _) y d;have I:Aj x2 w.heap.size v' (hdL l k++[yu l k]):=bj.snoc (rk l k) (by rw[ae D];exact F);rw[←ae a2]at I;have ac:=af (I.later H (a0a _));have aa:=af (aj R H);clear F s B I R H f r0 r1 r2 r3 r4 r5 r6 p0 p1 p2 p3 p4 p5 d y A X hW1;go_wp2;go_roundw
   case rel=>exact⟨k+1,by have:=ae HK;omega,by go_num,by rw[ae a3],ac,aa⟩
   case measure=>simp[intOf];omega
  .
   have a0:k=n:=by omega
   subst a0;rw[a0t (by rw[ae Hn];omega)];obtain⟨b,c,rfl,a9,_⟩:=hq.formN (rk l k);have HW:=af (xD Ku (default,0) (rk l k) hq);have HB:=af m;clear hq m;have ad:Hid (yi wr b k fun i=>qY (yu l i)):=by
    intro h0;obtain⟨g,e,hg,hc⟩:=ae HW h0;exact⟨g,e,hg,fun i U j u hu=>hc i U j u (by show(qY ((hdL l k).getD i _))[j]?=_;rw[RP l k i _ U];exact hu)⟩
   have hE:=ae M;have bc:(((aG l).2++dT k (aG l).2.size (aG l).1.size).size:Int)<=1000:=by omega
   clear HW hE M HZ HS HR;generalize N:(aG l).2++dT k (aG l).2.size (aG l).1.size=EN at *
   generalize O:(aG l).1=F1 at *
   have L:=af (a0b N O);clear N O;go_wp2_with fail;refine(J _ _ _ (ae ad)).mono ?_;rintro e x1⟨rfl,Q⟩;have Z:=af (aj HB Q);clear Q;go_wp2;go_ret;exact⟨by rw[←L.1,←L.2];rfl,Z⟩
def dM(a:Option Addr)(cap:Nat)(l:List En)(n:Nat)(x:l.length=n)(m:Int)(w:World)(h:iA w a l)(I:(n:Int)<=1048576)(r:(n:Int)<=(cap:Int))
  (C:∀i,i<n->(l.getD i default).n.size<=1048576/\((l.getD i default).t.size:Int)<=9223372036854775807) (B:w.cell? ⟨2,0,none⟩=some (.int .i64 m)) (A:j9 w) (z:dp w) :
  Ds 10 #[.slice a n cap] w (.string (dC l)):=by
 have g:=af (yz a cap l n x m w h I r C B A);cases s:bi l
 .
  have HP:Hid (dC l=⟨#[]⟩):=by simp[Hid,dC,s]
  rw[s]at g;clear h C B A z;go_enter func10,ntmps10;go_wp2_with fail;refine g.mono ?_;rintro e x1⟨rfl,f⟩;have d:=af f;clear f;go_wp2;go_ret;exact⟨by rw[ae HP];rfl,d⟩
 .
  obtain⟨o,H⟩:=ct s;have HP:Hid (dC l=(aG l).1++(aG l).2++dT n (aG l).2.size (aG l).1.size):=by
   show _=_;rw[dC,a0d s,x]
  have j:Hid (∀i,i<n->fi (l.getD i default)=true):=fun i J=>o i (by omega);have u:=af x;have D:Hid (n<=6):=by show _<=_;omega
  have G:=af h;have F:=af z;rw[s]at g;clear h C B A z o H x;go_enter func10,ntmps10;go_wp2_with fail;refine g.mono ?_;rintro e x1⟨rfl,f⟩;have d:=af f;clear f g;go_wp2_with fail;refine(Gz a cap n l _ u (G.later d) D j (F.later d)).mono ?_;rintro e x2⟨v,rfl,hq,p⟩;obtain⟨b,c,rfl,_,_⟩:=hq.formN u;have k:=af (aj d p);have E:=af (xD Kw default u hq);clear hq p d;go_wp2_with fail;refine(F3 b c n l _ u E D j).mono ?_;rintro e x3⟨rfl,q⟩;have y:=af (aj k q);rw[←ae HP];clear q k E;go_wp2;go_ret;exact⟨rfl,y⟩
