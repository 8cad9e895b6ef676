/- Of what the proof is made: 10 texts, one behind the other. -/
import Derived.Test.YtgmfehnnebkaoaaGreatDoorM37
import Derived.Test.YtgmfehnnebkaoaaGreatDoorM30
import Derived.Test.YtgmfehnnebkaoaaGreatDoorM34
import Derived.Test.YtgmfehnnebkaoaaGreatDoorM3
import Derived.Lib.QuietBelow
set_option maxRecDepth 100000
set_option linter.unusedSimpArgs false
set_option linter.unusedVariables false
set_option maxHeartbeats 6400000
namespace Go.Proofs.YtgmfehnnebkaoaaGreatDoor
open Go.Proofs.Tryz
open Go.RowKit Corb
variable {vs:List Value}{w:World}
def ko(how st crc pk lg:Nat)(nm:ByteArray)(pl:Nat):ByteArray:=(⟨#[80,75,1,2]⟩:ByteArray)++az (leS 2 20)++fj how st crc pk lg nm.size++(⟨#[0,0,0,0,0,0,0,0,0,0]⟩:ByteArray)++az (leS 4 pl)++nm
theorem kW(how st crc pk lg:Nat)(nm:ByteArray)(pl:Nat):(ko how st crc pk lg nm pl).size=46+nm.size:=by
 simp only[ko,a0t,dW,bL,aF];have a:(⟨#[80,75,1,2]⟩:ByteArray).size=4:=rfl;have h2:(⟨#[0,0,0,0,0,0,0,0,0,0]⟩:ByteArray).size=10:=rfl;omega
def dK(many long pl:Nat):ByteArray:=(⟨#[80,75,5,6]⟩:ByteArray)++az ([0,0,many,many].flatMap (leS 2))++az (leS 4 long)++az (leS 4 pl)++az ([0].flatMap (leS 2))
theorem kv(many long pl:Nat):(dK many long pl).size=22:=by
 simp only[dK,a0t,bL,aF,a0S,a2f,a0i,a0R];have a:(⟨#[80,75,5,6]⟩:ByteArray).size=4:=rfl;omega
def eN(e:En):Nat:=(stN e.y e.mo e.d e.h e.mi e.s).toNat
def loE(e:En):ByteArray:=bF e.n e.t (eN e)
def heE(e:En)(p:Nat):ByteArray:=ko (cn e.t) (eN e) (ay 0 e.t.data.toList) (aK e.t).size e.t.size e.n p
def yK(s:ByteArray×ByteArray)(e:En):ByteArray×ByteArray:=(s.1++loE e,s.2++heE e s.1.size)
def ar(l:List En):ByteArray×ByteArray:=l.foldl yK (⟨#[]⟩,⟨#[]⟩)
theorem Mv:ar []=(⟨#[]⟩,⟨#[]⟩):=rfl
theorem dP(l:List En)(k:Nat)(h:k<l.length):ar (l.take (k+1))=yK (ar (l.take k)) (l.getD k default):=by
 rw[jk l default k h,ar,List.foldl_append];rfl
theorem kA{e:En}(k:ik e=true):30<=(loE e).size/\(loE e).size<=400:=by
 obtain⟨f1,f2,f3⟩:=ct (n:=e.n) (t:=e.t) k;have a:=gm e.t;have hb:(aK e.t).size<=300:=by unfold aK;split<;>omega
 have:(loE e).size=30+e.n.size+(aK e.t).size:=by simp only[loE,bF,a0t,tr]
 omega
theorem oW(e:En)(p:Nat):(heE e p).size=46+e.n.size:=kW _ _ _ _ _ _ _
theorem kN(l:List En)(h:∀i,i<l.length->ik (l.getD i default)=true):∀k,k<=l.length->(ar (l.take k)).1.size<=400*k/\(ar (l.take k)).2.size<=100*k
 | 0,_=>by rw[a3G,Mv];exact⟨a0g _,a0g _⟩
 | k+1,hk=>by
  have ih:=kN l h k (by omega);rw[dP l k (by omega)];have a:=kA (h k (by omega));have h2:=(ct (n:=(l.getD k default).n) (t:=(l.getD k default).t) (h k (by omega))).1;have b:=oW (l.getD k default) (ar (l.take k)).1.size;simp only[yK,a0t];omega
theorem dp{l:List En}(h:ci l=true):(∀i,i<l.length->ik (l.getD i default)=true)/\l.length<=6:=by
 simp only[ci,a0j,a0p,a03]at h;exact⟨fun i a=>((nl l i).mp (h.1 i (List.mem_range.mpr a))).1,h.2⟩
def cj(l:List En):ByteArray:=if ci l then(ar l).1++(ar l).2++dK l.length (ar l).2.size (ar l).1.size else⟨#[]⟩
theorem Jn:az (leS 4 33639248)=(⟨#[80,75,1,2]⟩:ByteArray):=by decide +kernel
theorem Jy:az (leS 4 101010256)=(⟨#[80,75,5,6]⟩:ByteArray):=by decide +kernel
theorem Ji:az (leS 2 0)++az (leS 2 0)++az (leS 2 0)++az (leS 4 0)=(⟨#[0,0,0,0,0,0,0,0,0,0]⟩:ByteArray):=by decide +kernel
def vO(e:En):List Value:=[.int .i64 (cn e.t:Nat),.int .i64 (eN e:Nat),.int .i64 (ay 0 e.t.data.toList:Nat),.int .i64 ((aK e.t).size:Nat),.int .i64 (e.t.size:Nat),.string e.n,.string (aK e.t)]
def oQ(q:En×Nat):List Value:=[.int .i64 (cn q.1.t:Nat),.int .i64 (eN q.1:Nat),.int .i64 (ay 0 q.1.t.data.toList:Nat),.int .i64 ((aK q.1.t).size:Nat),.int .i64 (q.1.t.size:Nat),.string q.1.n,.int .i64 (q.2:Nat)]
theorem Ga(e:En):(vO e).length=7:=rfl
theorem F8(e:En×Nat):(oQ e).length=7:=rfl
theorem Gb(e:En):∀u∈vO e,u.oneCell'=true:=by
 intro u a;simp only[vO,a0U,a1r,a1n]at a;rcases a with rfl|rfl|rfl|rfl|rfl|rfl|rfl<;>rfl
theorem F9(e:En×Nat):∀u∈oQ e,u.oneCell'=true:=by
 intro u a;simp only[oQ,a0U,a1r,a1n]at a;rcases a with rfl|rfl|rfl|rfl|rfl|rfl|rfl<;>rfl
theorem nj(w:World)(a:Array Value)(t:TypeId):∀(j:Nat) (u:Value),a.toList[j]?=some u->(w.alloc (.cells a t)).cell? ((⟨w.heap.size,0,none⟩:Addr).add j)=some u:=by
 intro j u h;have:=(aC w a t).cell j u h;have e:((⟨w.heap.size,0,none⟩:Addr).add j)=⟨w.heap.size,j,none⟩:=by
  unfold Addr.add
  split
  . rename_i h0;rw[h0]
  . simp
 rw[e];exact this
theorem Pm{e:En}(k:ik e=true):stI e.y e.mo e.d e.h e.mi e.s=((eN e:Nat):Int):=by
 obtain⟨_,_,f3⟩:=ct (n:=e.n) (t:=e.t) k;obtain⟨_,_,_,g4⟩:=je f3;rw[g4];rfl
theorem Tryz.infoLh:(prog.info? 55).map (fun i=>(i.zero,i.size,i.bytes))=some (some (.agg #[.int .i64 0,.int .i64 0,.int .i64 0,.int .i64 0,.int .i64 0,.string ⟨#[]⟩,.string ⟨#[]⟩]),7,72):=by kernel_rfl
abbrev Ox:=bu (α:=En) 55 7 vO
theorem C6(a:Option Addr)(cap n:Nat)(l:List En)(w:World)(U:l.length=n)(h:iV w a l)(T:n<=6)(V:∀i,i<n->ik (l.getD i default)=true)(R:cJ w) :
  Calls prog 26 #[.slice a n cap,.func (.func 27) #[] #[]] w fun e w'=>∃v,e = .returned v/\Ox w' w.heap.size v l/\Below w.heap.size w w':=by
 have aa:(n:Int)<=6:=by omega
 have u:=af U;have Hm:=af T;have HS:=af V;have Z:=af h;have Y:=af R;clear U T V h R;obtain⟨i0,hi,N,O,P⟩:=a0r Tryz.infoLh;go_enter func26,ntmps26;go_wp2_with fail
 go_loopw [5,7,10] (fun o _ i wr=>∃k:Nat,k<=n/\i = .int .i64 k/\Ox wr w.heap.size o (l.take k)/\Below w.heap.size w wr) (fun _ _ i _=>n-(intOf i).toNat)
 case atStart=>exact⟨0,a0g _,rfl,bu.nil _ _,a0c _ _⟩
 case round=>
  obtain⟨k,S,rfl,hq,b⟩:=hrel;by_cases K:k<n
  .
   obtain⟨g,o,rfl,hg,z⟩:=(ae Z).later b (by have:=ae u;omega);obtain⟨c0,c1,c2,c3,c4,c5,c6,c7⟩:=z k (by have:=ae u;omega);have L:=af (jk l default k (by have:=ae u;omega));have B:Hid ((l.take k).length=k):=by show _=_;have:=ae u;simp;omega
   have Hk:=af S;have H:=ae HS k K;have E:=Pm H;have M:=(ct (n:=(l.getD k default).n) (t:=(l.getD k default).t) H).2.1;clear z S H;generalize l.getD k default=en at *
   have HP:=af (fun W (hb:Below w.heap.size w W)=>lF en.n en.t en.y en.mo en.d en.h en.mi en.s W (by omega) ((ae Y).later hb));rw[E]at HP;clear E M;have Q:Below wr.heap.size wr (wr.alloc (.cells #[.string en.n,.int .i64 en.y,.int .i64 en.mo,.int .i64 en.d,.int .i64 en.h,.int .i64 en.mi,.int .i64 en.s,.string en.t] 33)):=(a0c _ _).alloc (a0a _) _;have G:=af Q;have F:=af hq;have c:=af b;clear Q hq b;go_wp2_with fail;refine(ae HP _ (ah (ae c) (ae G))).mono ?_;rintro e x1 ⟨rfl,x⟩;have I:=ah (ae G) x;have r:=bu.own (ae B) ((ae F).later I (a0a _));have f:=ah (ae c) I;have p:=f.size;have m:Hid (k+1<=maxLen/\(k+1)*72<=140737488355328):=by
    show _/\_;have:=ae Hm;unfold maxLen;omega
   clear F c G x I HP;go_wp2_with (at_builtin;refine a0B _ rfl _ _ 50 rfl w.heap.size 55 i0 (.agg #[.int .i64 0,.int .i64 0,.int .i64 0,.int .i64 0,.int .i64 0,.string ⟨#[]⟩,.string ⟨#[]⟩]) 7 72 underlying50 hi N O P rfl (by decide) _ _ _ rfl (a0m r _) ⟨x1.heap.size,0,none⟩ 1 1 (vO en) rfl rfl (nj x1 _ _) (Gb en) (ae m).1 (ae m).2 (au p _) ?_;intro v' x2 q j C;clear C);have J:=aH (v:=u5) j r (a0a _) p f;have D:Ox x2 w.heap.size v' _:=bu.snoc (ae B) q;rw[←ae L]at D;clear q j r;go_wp2;go_roundw
   case rel=>exact⟨k+1,by have:=ae Hk;omega,by go_num,D,J⟩
   case measure=>simp[intOf];omega
  . have A:l.take k=l:=a0o (by rw[ae u];omega);rw[A]at hq;have F:=af hq;have X:=af b;clear hq b A;go_wp2;go_ret;exact⟨_,rfl,ae F,ae X⟩
def BlS(w:World)(vs:List Value)(W:World):Prop:=Below w.heap.size w W/\Blk W w.heap.size vs
theorem BlS.later{W W':World}(k:BlS w vs W)(hb:Below W.heap.size W W'):BlS w vs W':=⟨ah k.1 hb,k.2.later hb k.2.1⟩
theorem BlS.drew{W:World}(k:BlS w vs W):BlS w vs W.drew:=⟨k.1.drew,k.2.drew⟩
theorem yl(W:World)(x:Nat):bo (W.alloc (.cells #[.int .i64 ((x:Nat):Int)] 3)) (some ⟨W.heap.size,0,none⟩) (cP [x]):=by
 intro _;refine⟨W.heap.size,0,rfl,by simp,fun i a=>?_⟩
 match i,a with
 | 0,_=>simp[cP]
theorem zJ(W:World)(x y z u:Nat):bo (W.alloc (.cells #[.int .i64 ((x:Nat):Int),.int .i64 ((y:Nat):Int),.int .i64 ((z:Nat):Int),.int .i64 ((u:Nat):Int)] 3)) (some ⟨W.heap.size,0,none⟩) (cP [x,y,z,u]):=by
 intro _;refine⟨W.heap.size,0,rfl,by simp,fun i a=>?_⟩
 match i,a with
 | 0,_=>simp[cP]
 | 1,_=>simp[cP]
 | 2,_=>simp[cP]
 | 3,_=>simp[cP]
theorem rn(how st crc pk lg pl:Nat)(nm:ByteArray)(w:World)(k:how<65536)(l:st<4294967296)(h2:crc<4294967296)(m:pk<4294967296)(n:lg<4294967296)(o:nm.size<65536)(p:pl<4294967296) :
  CD 76 #[.agg #[.int .i64 (how:Nat),.int .i64 (st:Nat),.int .i64 (crc:Nat),.int .i64 (pk:Nat),.int .i64 (lg:Nat),.string nm,.int .i64 (pl:Nat)]] w (.string (ko how st crc pk lg nm pl)):=by
 have f:prog.follows .mixedOrders=true:=by kernel_rfl
 have r:Hid (∀g W,bo W (some ⟨g,0,none⟩) (cP [20])->CD 77 #[.slice (some ⟨g,0,none⟩) 1 1] W (.string (az (leS 2 20)))):=fun g W h=>by
  have:=dC (some ⟨g,0,none⟩) 1 1 [20] W rfl h (by decide) (by decide);rw[show([20]:List Nat).flatMap (leS 2)=leS 2 20 by simp]at this;exact this
 have CT:Hid (∀W,CD 100 #[.agg #[.int .i64 (how:Nat),.int .i64 (st:Nat),.int .i64 (crc:Nat),.int .i64 (pk:Nat),.int .i64 (lg:Nat),.string nm]] W (.string (fj how st crc pk lg nm.size))):=fun W=>BK how st crc pk lg nm W k l h2 m n o;have q:Hid (∀W,CD 78 #[.int .i64 (pl:Int)] W (.string (az (leS 4 pl)))):=fun W=>dA pl W p;have z0:((az (leS 2 20)).size:Int)<=100:=by rw[bL,aF];omega
 have z1:((fj how st crc pk lg nm.size).size:Int)<=100:=by rw[dW];omega
 have z2:((az (leS 4 pl)).size:Int)<=100:=by rw[bL,aF];omega
 have s:(nm.size:Int)<65536:=by omega
 unfold ko;generalize az (leS 2 20)=A0 at *
 generalize fj how st crc pk lg nm.size=A1 at *
 generalize az (leS 4 pl)=A2 at *
 have T0':Hid (BlS w [.int .i64 (how:Nat),.int .i64 (st:Nat),.int .i64 (crc:Nat),.int .i64 (pk:Nat),.int .i64 (lg:Nat),.string nm,.int .i64 (pl:Nat)] (w.alloc (.cells #[.int .i64 (how:Nat),.int .i64 (st:Nat),.int .i64 (crc:Nat),.int .i64 (pk:Nat),.int .i64 (lg:Nat),.string nm,.int .i64 (pl:Nat)] 83))):=⟨(a0c _ _).alloc (a0a _) _,aC w _ _⟩;clear k l h2 m n o p;go_enter func76,ntmps76;go_wp2_with fail;obtain⟨W0,hW0⟩:∃x,w.alloc (.cells #[.int .i64 (how:Nat),.int .i64 (st:Nat),.int .i64 (crc:Nat),.int .i64 (pk:Nat),.int .i64 (lg:Nat),.string nm,.int .i64 (pl:Nat)] 83)=x:=⟨_,rfl⟩;rw[hW0]at T0';rw[hW0];have T0:=T0';clear T0' hW0;refine wp_region_held_drew (S:=BlS w [.int .i64 (how:Nat),.int .i64 (st:Nat),.int .i64 (crc:Nat),.int .i64 (pk:Nat),.int .i64 (lg:Nat),.string nm,.int .i64 (pl:Nat)]) f (ae T0).drew (fun b=>?_);refine ag 3 (.pointer (some ⟨w.heap.size,0,none⟩)) rfl (by kernel_rfl) (fun _ _ _ h=>h) rfl (fun W a=>by go_simp) b ?_;refine ag 4 (.agg #[.int .i64 (how:Nat),.int .i64 (st:Nat),.int .i64 (crc:Nat),.int .i64 (pk:Nat),.int .i64 (lg:Nat),.string nm]) rfl (by kernel_rfl) (fun _ _ _ h=>h) rfl (fun W a=>by have s0:=a.2.cell 0 _ rfl;have s1:=a.2.cell 1 _ rfl;have s2:=a.2.cell 2 _ rfl;have s3:=a.2.cell 3 _ rfl;have s4:=a.2.cell 4 _ rfl;have s5:=a.2.cell 5 _ rfl;go_simp) b ?_;refine ag 8 (.pointer (some ⟨w.heap.size,6,none⟩)) rfl (by kernel_rfl) (fun _ _ _ h=>h) rfl (fun W a=>by go_simp) b ?_;refine ag 9 (.int .i64 (pl:Nat)) rfl (by kernel_rfl) (fun _ _ _ h=>h) rfl (fun W a=>by have s6:=a.2.cell 6 _ rfl;go_simp) b ?_;refine ag 12 (.pointer (some ⟨w.heap.size,0,none⟩)) rfl (by kernel_rfl) (fun _ _ _ h=>h) rfl (fun W a=>by go_simp) b ?_;refine ag 13 (.pointer (some ⟨w.heap.size,5,none⟩)) rfl (by kernel_rfl) (fun _ _ _ h=>h) rfl (fun W a=>by go_simp) b ?_;refine ag 14 (.string nm) rfl (by kernel_rfl) (fun _ _ _ h=>h) rfl (fun W a=>by have s5:=a.2.cell 5 _ rfl;go_simp) b ?_;have T1:=af ((ae T0).drew);generalize W0.drew=W1 at *
 refine aj 0 (by kernel_rfl) rfl fun K c=>?_;go_simp;have d:Below W1.heap.size W1 (W1.alloc (.cells #[.int .i64 20] 3)):=(a0c _ _).alloc (a0a _) _;have T2:=af ((ae T1).later d);have j:Hid (bo (W1.alloc (.cells #[.int .i64 20] 3)) (some ⟨W1.heap.size,0,none⟩) (cP [20])):=yl _ _;refine Shut.out c _ _ (ae T2) (fun b=>?_);clear c K d T1;obtain⟨g,hg⟩:∃x,W1.heap.size=x:=⟨_,rfl⟩;obtain⟨W2,hW2⟩:∃x,W1.alloc (.cells #[.int .i64 20] 3)=x:=⟨_,rfl⟩;rw[hW2]at T2 b;rw[hg,hW2]at j;rw[hg,hW2];refine aj 1 (by kernel_rfl) rfl fun K c=>?_;go_simp;go_at_call 77;refine(ae r g W2 (ae j)).mono ?_;rintro e W3 ⟨rfl,d⟩;have T3:=af ((ae T2).later d);refine Shut.out c _ _ (ae T3) (fun b=>?_);clear c K d T2;refine ag 2 (.string ((⟨#[80,75,1,2]⟩:ByteArray)++A0)) rfl (by kernel_rfl) (fun _ _ _ h=>h) rfl (fun W a=>by go_simp<;>omega) b ?_;refine aj 5 (by kernel_rfl) rfl fun K c=>?_;go_simp;go_at_call 100;refine(ae CT W3).mono ?_;rintro e W4 ⟨rfl,d⟩;have T4:=af ((ae T3).later d);refine Shut.out c _ _ (ae T4) (fun b=>?_);clear c K d T3;refine ag 6 (.string ((⟨#[80,75,1,2]⟩:ByteArray)++A0++A1)) rfl (by kernel_rfl) (fun _ _ _ h=>h) rfl (fun W a=>by go_simp<;>omega) b ?_;refine ag 7 (.string ((⟨#[80,75,1,2]⟩:ByteArray)++A0++A1++(⟨#[0,0,0,0,0,0,0,0,0,0]⟩:ByteArray))) rfl (by kernel_rfl) (fun _ _ _ h=>h) rfl (fun W a=>by go_simp<;>omega) b ?_;refine aj 10 (by kernel_rfl) rfl fun K c=>?_;go_simp;go_at_call 78;refine(ae q W4).mono ?_;rintro e W5 ⟨rfl,d⟩;have T5:=af ((ae T4).later d);refine Shut.out c _ _ (ae T5) (fun b=>?_);clear c K d T4;refine ag 11 (.string ((⟨#[80,75,1,2]⟩:ByteArray)++A0++A1++(⟨#[0,0,0,0,0,0,0,0,0,0]⟩:ByteArray)++A2)) rfl (by kernel_rfl) (fun _ _ _ h=>h) rfl (fun W a=>by go_simp<;>omega) b ?_;refine ag 15 (.string ((⟨#[80,75,1,2]⟩:ByteArray)++A0++A1++(⟨#[0,0,0,0,0,0,0,0,0,0]⟩:ByteArray)++A2++nm)) rfl (by kernel_rfl) (fun _ _ _ h=>h) rfl (fun W a=>by go_simp<;>omega) b ?_;refine aj 16 (by kernel_rfl) rfl fun K c=>?_;go_simp;refine Shut.out c _ _ (ae T5) (fun b=>?_);clear c K;refine wpAnyH_done (by kernel_rfl) ?_ _;clear b;generalize i:(⟨#[80,75,1,2]⟩:ByteArray)++A0++A1++(⟨#[0,0,0,0,0,0,0,0,0,0]⟩:ByteArray)++A2++nm=AA;go_wp2;go_ret;exact⟨by rw[←i];rfl,(ae T5).1⟩
def vj(w:World)(a:Option Addr)(n:Nat)(f:Nat->List Value):Prop:=0<n->∃g,a=some ⟨g,0,none⟩/\g<w.heap.size/\∀i,i<n->∀j u,(f i)[j]?=some u->w.cell? ⟨g,i*7+j,none⟩=some u
theorem vj.later{w':World}{a:Option Addr}{n:Nat}{f:Nat->List Value}(h:vj w a n f)(hb:Below w.heap.size w w'):vj w' a n f:=by
 intro c;obtain⟨g,e,b,d⟩:=h c;exact⟨g,e,a0h b hb.size,fun i k j u l=>(hb.cell (p:=⟨g,i*7+j,none⟩) b).trans (d i k j u l)⟩
theorem uD{α:Type}{T:TypeId}{f:α->List Value}(b:∀x,(f x).length=7){base cap n:Nat}{a:Option Addr}{l:List α}(d:α)(m:l.length=n)(h:bu T 7 f w base (.slice a n cap) l):vj w a n fun i=>f (l.getD i d):=by
 intro o;obtain⟨g,rfl⟩:=h.somes (by omega);refine⟨g,rfl,h.below.2,fun i e j u c=>?_⟩;have k:j<7:=by
  rw[←b (l.getD i d)];exact(List.getElem?_eq_some_iff.mp c).1
 rw[(bu.at b d m h i j e k).1];exact c
def vr(l:List En)(k:Nat):En×Nat:=(l.getD k default,(ar (l.take k)).1.size)
def hdL(l:List En)(n:Nat):List (En×Nat):=(List.range n).map (vr l)
theorem oV(l:List En)(n:Nat):(hdL l n).length=n:=by simp[hdL]
theorem JV(l:List En)(n:Nat):hdL l (n+1)=hdL l n++[vr l n]:=by simp[hdL,a3w]
theorem Nf(l:List En)(n i:Nat)(d:En×Nat)(h:i<n):(hdL l n).getD i d=vr l i:=by simp[hdL,List.getD,h]
theorem JC(L:ByteArray)(many long pl:Nat):L++(⟨#[80,75,5,6]⟩:ByteArray)++az ([0,0,many,many].flatMap (leS 2))++az (leS 4 long)++az (leS 4 pl)++az ([0].flatMap (leS 2))=L++dK many long pl:=by
 unfold dK;simp only[a1S]
theorem Ey(a:Option Addr)(cap n:Nat)(l:List En)(w:World)(hn:l.length=n)(h:vj w a n fun i=>oQ (vr l i))(hm:n<=6)(R:∀i,i<n->ik (l.getD i default)=true) :
  CD 46 #[.slice a n cap,.int .i64 ((ar l).1.size:Nat)] w (.string ((ar l).2++dK n (ar l).2.size (ar l).1.size)):=by
 have Y:=af (kN l (fun i hi=>R i (by omega)));have hz:=ae Y n (by omega);rw[a0o (by omega)]at hz;have N:(ar l).1.size<4294967296:=by omega
 have L:(ar l).2.size<4294967296:=by omega
 have M:((ar l).2.size:Int)<=600:=by omega
 have K:=af hn;have HS:=af R;have HR:=af h;have H:Hid (∀g W,bo W (some ⟨g,0,none⟩) (cP [0,0,n,n])->CD 77 #[.slice (some ⟨g,0,none⟩) 4 4] W (.string (az ([0,0,n,n].flatMap (leS 2))))):=fun g W h=>dC (some ⟨g,0,none⟩) 4 4 [0,0,n,n] W rfl h (by decide) (by intro x hx;simp at hx;omega);have G:Hid (∀g W,bo W (some ⟨g,0,none⟩) (cP [0])->CD 77 #[.slice (some ⟨g,0,none⟩) 1 1] W (.string (az ([0].flatMap (leS 2))))):=fun g W h=>dC (some ⟨g,0,none⟩) 1 1 [0] W rfl h (by decide) (by decide);have p:Hid (∀W,CD 78 #[.int .i64 ((ar l).2.size:Int)] W (.string (az (leS 4 (ar l).2.size)))):=fun W=>dA _ W L;have q:Hid (∀W,CD 78 #[.int .i64 ((ar l).1.size:Int)] W (.string (az (leS 4 (ar l).1.size)))):=fun W=>dA _ W N;have z1:((az ([0,0,n,n].flatMap (leS 2))).size:Int)<=100:=by rw[bL];simp[aF]
 have z2:((az ([0].flatMap (leS 2))).size:Int)<=100:=by rw[bL];simp[aF]
 have z3:((az (leS 4 (ar l).2.size)).size:Int)<=100:=by rw[bL,aF];omega
 have z4:((az (leS 4 (ar l).1.size)).size:Int)<=100:=by rw[bL,aF];omega
 have V:=af (JC (ar l).2 n (ar l).2.size (ar l).1.size);generalize (ar l).2++dK n (ar l).2.size (ar l).1.size=RES at *
 generalize az ([0,0,n,n].flatMap (leS 2))=A1 at *
 generalize az ([0].flatMap (leS 2))=A2 at *
 generalize az (leS 4 (ar l).2.size)=A3 at *
 generalize az (leS 4 (ar l).1.size)=A4 at *
 obtain⟨PL,hPL⟩:∃x,(ar l).1.size=x:=⟨_,rfl⟩;obtain⟨LI,hLI'⟩:∃x,(ar l).2=x:=⟨_,rfl⟩;rw[hPL]at q N;rw[hLI']at p V M L;have J:=af hLI';rw[hPL];clear hn h R hz N L hPL hLI';go_enter func46,ntmps46;go_wp2_with fail
 go_loopw [5,7,10] (fun o _ i wr=>∃k:Nat,k<=n/\i = .int .i64 k/\o = .string (ar (l.take k)).2/\Below w.heap.size w wr) (fun _ _ i _=>n-(intOf i).toNat)
 case atStart=>exact⟨0,a0g _,rfl,rfl,a0c _ _⟩
 case round=>
  obtain⟨k,hk,rfl,rfl,b⟩:=hrel;by_cases d:k<n
  .
   obtain⟨g,rfl,hg,c⟩:=(ae HR).later b (by omega);have c0:=c k d 0 _ rfl;have c1:=c k d 1 _ rfl;have c2:=c k d 2 _ rfl;have c3:=c k d 3 _ rfl;have c4:=c k d 4 _ rfl;have c5:=c k d 5 _ rfl;have c6:=c k d 6 _ rfl;simp only[vr]at c0 c1 c2 c3 c4 c5 c6;rw[a05]at c0;have S:Hid ((ar (l.take (k+1))).2=(ar (l.take k)).2++heE (l.getD k default) (ar (l.take k)).1.size):=by show _=_;rw[dP l k (by have:=ae K;omega)];rfl
   have T:=ae Y k (by have:=ae K;omega);have aa:((ar (l.take k)).2.size:Int)<=600:=by omega
   have m:(ar (l.take k)).1.size<4294967296:=by omega
   have v:=ae HS k d;obtain⟨f1,f2,f3⟩:=ct (n:=(l.getD k default).n) (t:=(l.getD k default).t) v;have hN:=(je f3).2.2;have Q:=oW (l.getD k default) (ar (l.take k)).1.size;have Z:((heE (l.getD k default) (ar (l.take k)).1.size).size:Int)<=100:=by omega
   have E:ay 0 (l.getD k default).t.data.toList<4294967296:=fL _ _ (by omega);have P:=gm (l.getD k default).t;have O:(aK (l.getD k default).t).size<=100000:=by unfold aK;split<;>omega
   have U:cn (l.getD k default).t<=8:=by unfold cn;split<;>omega
   have A:eN (l.getD k default)<4294967296:=by unfold eN;omega
   have HP:=af (fun W=>rn (cn (l.getD k default).t) (eN (l.getD k default)) (ay 0 (l.getD k default).t.data.toList) (aK (l.getD k default).t).size (l.getD k default).t.size (ar (l.take k)).1.size (l.getD k default).n W (by omega) A E (by omega) (by omega) (by omega) m);have X:Hid (ko (cn (l.getD k default).t) (eN (l.getD k default)) (ay 0 (l.getD k default).t.data.toList) (aK (l.getD k default).t).size (l.getD k default).t.size (l.getD k default).n (ar (l.take k)).1.size=heE (l.getD k default) (ar (l.take k)).1.size):=rfl;rw[ae X]at HP;have r:=af (a0b b hk);clear c v f1 f2 f3 hN Q T m E P O U A b hk X;generalize cn (l.getD k default).t=v0 at *
   generalize eN (l.getD k default)=v1 at *
   generalize ay 0 (l.getD k default).t.data.toList=v2 at *
   generalize (aK (l.getD k default).t).size=v3 at *
   generalize (l.getD k default).t.size=v4 at *
   generalize (l.getD k default).n=v5 at *
   generalize heE (l.getD k default) (ar (l.take k)).1.size=HE1 at *
   generalize (ar (l.take k)).2=L1 at *
   generalize (ar (l.take k)).1.size=P1 at *
   have y:Hid (Below wr.heap.size wr (wr.alloc (.cells #[.int .i64 (v0:Nat),.int .i64 (v1:Nat),.int .i64 (v2:Nat),.int .i64 (v3:Nat),.int .i64 (v4:Nat),.string v5,.int .i64 (P1:Nat)] 83))):=(a0c _ _).alloc (a0a _) _;go_wp2_with fail;refine(ae HP _).mono ?_;rintro e x1 ⟨rfl,f⟩;have j:=af (ah (ae r).1 (ah (ae y) f));clear f y;go_wp2;go_roundw
   case rel=>exact⟨k+1,by have:=(ae r).2;omega,by go_num,by rw[ae S],ae j⟩
   case measure=>simp[intOf];omega
  . have F:l.take k=l:=a0o (by rw[ae K];omega);rw[F,ae J];have r:=af b;clear b F;have y:Hid (Below wr.heap.size wr (wr.alloc (.cells #[.int .i64 0,.int .i64 0,.int .i64 (n:Nat),.int .i64 (n:Nat)] 3))):=(a0c _ _).alloc (a0a _) _;go_wp2_with fail;refine(ae H _ _ (zJ wr 0 0 n n)).mono ?_;rintro e x1 ⟨rfl,f⟩;have s:=af (ah (ae r) (ah (ae y) f));clear f y r;go_wp2_with fail;refine(ae p _).mono ?_;rintro e x2 ⟨rfl,B⟩;have j:=af (ah (ae s) B);clear B s;go_wp2_with fail;refine(ae q _).mono ?_;rintro e x3 ⟨rfl,C⟩;have u:=af (ah (ae j) C);clear C j;have z:Hid (Below x3.heap.size x3 (x3.alloc (.cells #[.int .i64 0] 3))):=(a0c _ _).alloc (a0a _) _;go_wp2_with fail;refine(ae G _ _ (yl x3 0)).mono ?_;rintro e x4 ⟨rfl,D⟩;have I:=af (ah (ae u) (ah (ae z) D));clear D z u;go_wp2;go_ret;exact⟨by rw[←ae V];rfl,ae I⟩
structure Hq where
 how:Nat
 st:Nat
 crc:Nat
 pk:Nat
 lg:Nat
 nm:ByteArray
 pl:Nat
def zu(q:Hq):List Value:=[.int .i64 (q.how:Nat),.int .i64 (q.st:Nat),.int .i64 (q.crc:Nat),.int .i64 (q.pk:Nat),.int .i64 (q.lg:Nat),.string q.nm,.int .i64 (q.pl:Nat)]
theorem JA(e:Hq):(zu e).length=7:=rfl
theorem JB(e:Hq):∀u∈zu e,u.oneCell'=true:=by
 intro u a;simp only[zu,a0U,a1r,a1n]at a;rcases a with rfl|rfl|rfl|rfl|rfl|rfl|rfl<;>rfl
def cQ(q:Hq):ByteArray:=ko q.how q.st q.crc q.pk q.lg q.nm q.pl
def okQ(q:Hq):Prop:=q.how<65536/\q.st<4294967296/\q.crc<4294967296/\q.pk<4294967296/\q.lg<4294967296/\q.nm.size<=54/\q.pl<4294967296
def eC(f:Nat->Hq):Nat->ByteArray
 | 0=>⟨#[]⟩
 | k+1=>eC f k++cQ (f k)
theorem ug(f:Nat->Hq):∀k,(∀i,i<k->okQ (f i))->(eC f k).size<=100*k
 | 0,_=>a0g _
 | k+1,h=>by
  have ih:=ug f k (fun i b=>h i (by omega));have a:=(h k (by omega)).2.2.2.2.2.1;have h2:(cQ (f k)).size=46+(f k).nm.size:=kW _ _ _ _ _ _ _;rw[eC,a0t];omega
theorem Ca(a:Option Addr)(cap n P:Nat)(f:Nat->Hq)(w:World)(h:vj w a n fun i=>zu (f i))(hm:n<=6)(J:∀i,i<n->okQ (f i))(Q:P<4294967296) :
  CD 46 #[.slice a n cap,.int .i64 (P:Nat)] w (.string (eC f n++dK n (eC f n).size P)):=by
 have V:(n:Int)<=6:=by omega
 have O:=af (fun k (H:k<=n)=>ug f k (fun i hi=>J i (by omega)));have Y:=ae O n (by omega);have E:(eC f n).size<4294967296:=by omega
 have F:((eC f n).size:Int)<=600:=by omega
 have U:=af J;have T:=af h;have B:Hid (∀g W,bo W (some ⟨g,0,none⟩) (cP [0,0,n,n])->CD 77 #[.slice (some ⟨g,0,none⟩) 4 4] W (.string (az ([0,0,n,n].flatMap (leS 2))))):=fun g W h=>dC (some ⟨g,0,none⟩) 4 4 [0,0,n,n] W rfl h (by decide) (by intro x X;simp at X;omega);have A:Hid (∀g W,bo W (some ⟨g,0,none⟩) (cP [0])->CD 77 #[.slice (some ⟨g,0,none⟩) 1 1] W (.string (az ([0].flatMap (leS 2))))):=fun g W h=>dC (some ⟨g,0,none⟩) 1 1 [0] W rfl h (by decide) (by decide);have m:Hid (∀W,CD 78 #[.int .i64 ((eC f n).size:Int)] W (.string (az (leS 4 (eC f n).size)))):=fun W=>dA _ W E;have z:Hid (∀W,CD 78 #[.int .i64 (P:Int)] W (.string (az (leS 4 P)))):=fun W=>dA _ W Q;have z1:((az ([0,0,n,n].flatMap (leS 2))).size:Int)<=100:=by rw[bL];simp[aF]
 have z2:((az ([0].flatMap (leS 2))).size:Int)<=100:=by rw[bL];simp[aF]
 have z3:((az (leS 4 (eC f n).size)).size:Int)<=100:=by rw[bL,aF];omega
 have z4:((az (leS 4 P)).size:Int)<=100:=by rw[bL,aF];omega
 have M:=af (JC (eC f n) n (eC f n).size P);generalize (eC f n)++dK n (eC f n).size P=RES at *
 generalize az ([0,0,n,n].flatMap (leS 2))=A1 at *
 generalize az ([0].flatMap (leS 2))=A2 at *
 generalize az (leS 4 (eC f n).size)=A3 at *
 generalize az (leS 4 P)=A4 at *
 obtain⟨LI,hLI'⟩:∃x,(eC f n)=x:=⟨_,rfl⟩;rw[hLI']at m M F E;have D:=af hLI';clear h J Y Q E hLI';go_enter func46,ntmps46;go_wp2_with fail
 go_loopw [5,7,10] (fun o _ i wr=>∃k:Nat,k<=n/\i = .int .i64 k/\o = .string (eC f k)/\Below w.heap.size w wr) (fun _ _ i _=>n-(intOf i).toNat)
 case atStart=>exact⟨0,a0g _,rfl,rfl,a0c _ _⟩
 case round=>
  obtain⟨k,H,rfl,rfl,b⟩:=hrel;by_cases d:k<n
  .
   obtain⟨g,rfl,hg,c⟩:=(ae T).later b (by omega);have c0:=c k d 0 _ rfl;have c1:=c k d 1 _ rfl;have c2:=c k d 2 _ rfl;have c3:=c k d 3 _ rfl;have c4:=c k d 4 _ rfl;have Z:=c k d 5 _ rfl;have c6:=c k d 6 _ rfl;rw[a05]at c0;have K:Hid (eC f (k+1)=eC f k++cQ (f k)):=rfl;have L:=ae O k (by omega);have S:((eC f k).size:Int)<=600:=by omega
   obtain⟨o0,o1,o2,o3,o4,o5,o6⟩:=ae U k d;have G:(cQ (f k)).size=46+(f k).nm.size:=kW _ _ _ _ _ _ _;have R:((cQ (f k)).size:Int)<=100:=by omega
   have HP:=af (fun W=>rn (f k).how (f k).st (f k).crc (f k).pk (f k).lg (f k).pl (f k).nm W o0 o1 o2 o3 o4 (by omega) o6);have N:Hid (ko (f k).how (f k).st (f k).crc (f k).pk (f k).lg (f k).nm (f k).pl=cQ (f k)):=rfl;rw[ae N]at HP;have p:=af (a0b b H);clear c o0 o1 o2 o3 o4 o5 o6 G L b H N;generalize cQ (f k)=HE1 at *
   generalize (f k).how=v0 at *
   generalize (f k).st=v1 at *
   generalize (f k).crc=v2 at *
   generalize (f k).pk=v3 at *
   generalize (f k).lg=v4 at *
   generalize (f k).nm=v5 at *
   generalize (f k).pl=P1 at *
   generalize eC f k=L1 at *
   have s:Hid (Below wr.heap.size wr (wr.alloc (.cells #[.int .i64 (v0:Nat),.int .i64 (v1:Nat),.int .i64 (v2:Nat),.int .i64 (v3:Nat),.int .i64 (v4:Nat),.string v5,.int .i64 (P1:Nat)] 83))):=(a0c _ _).alloc (a0a _) _;go_wp2_with fail;refine(ae HP _).mono ?_;rintro e x1 ⟨rfl,j⟩;have l:=af (ah (ae p).1 (ah (ae s) j));clear j s;go_wp2;go_roundw
   case rel=>exact⟨k+1,by have:=(ae p).2;omega,by go_num,by rw[ae K],ae l⟩
   case measure=>simp[intOf];omega
  .
   have I:k=n:=by omega
   subst I;rw[ae D];have p:=af b;clear b;have s:Hid (Below wr.heap.size wr (wr.alloc (.cells #[.int .i64 0,.int .i64 0,.int .i64 (k:Nat),.int .i64 (k:Nat)] 3))):=(a0c _ _).alloc (a0a _) _;go_wp2_with fail;refine(ae B _ _ (zJ wr 0 0 k k)).mono ?_;rintro e x1 ⟨rfl,j⟩;have q:=af (ah (ae p) (ah (ae s) j));clear j s p;go_wp2_with fail;refine(ae m _).mono ?_;rintro e x2 ⟨rfl,u⟩;have l:=af (ah (ae q) u);clear u q;go_wp2_with fail;refine(ae z _).mono ?_;rintro e x3 ⟨rfl,v⟩;have r:=af (ah (ae l) v);clear v l;have t:Hid (Below x3.heap.size x3 (x3.alloc (.cells #[.int .i64 0] 3))):=(a0c _ _).alloc (a0a _) _;go_wp2_with fail;refine(ae A _ _ (yl x3 0)).mono ?_;rintro e x4 ⟨rfl,y⟩;have C:=af (ah (ae r) (ah (ae t) y));clear y t r;go_wp2;go_ret;exact⟨by rw[←ae M];rfl,ae C⟩
theorem Kj(many long pl:Nat):az (leS 4 101010256)++az (leS 2 0)++az (leS 2 0)++az (leS 2 many)++az (leS 2 many)++az (leS 4 long)++az (leS 4 pl)++az (leS 2 0)=dK many long pl:=by
 unfold dK;rw[Jy];apply bV;simp[az,a0S]
theorem GA(n T A4:ByteArray):az (leS 4 33639248)++az (leS 2 20)++T++az (leS 2 0)++az (leS 2 0)++az (leS 2 0)++az (leS 4 0)++A4++n=(⟨#[80,75,1,2]⟩:ByteArray)++az (leS 2 20)++T++(⟨#[0,0,0,0,0,0,0,0,0,0]⟩:ByteArray)++A4++n:=by
 rw[Jn,←Ji];simp only[a1S]
theorem Gz(many long pl:Nat)(w:World)(x:many<65536)(y:long<4294967296)(h2:pl<4294967296) :
  CD 52 #[.int .i64 (many:Nat),.int .i64 (long:Nat),.int .i64 (pl:Nat)] w (.string (dK many long pl)):=by
 have s:Hid (∀W,CD 83 #[.int .i64 101010256,.int .i64 4] W (.string (az (leS 4 101010256)))):=fun W=>aS 101010256 4 W (by omega) (by omega);have a:Hid (∀W,CD 83 #[.int .i64 0,.int .i64 2] W (.string (az (leS 2 0)))):=fun W=>aS 0 2 W (by omega) (by omega);have j:Hid (∀W,CD 83 #[.int .i64 (many:Nat),.int .i64 2] W (.string (az (leS 2 many)))):=fun W=>aS many 2 W (by omega) (by omega);have t:Hid (∀W,CD 83 #[.int .i64 (long:Nat),.int .i64 4] W (.string (az (leS 4 long)))):=fun W=>aS long 4 W (by omega) (by omega);have u:Hid (∀W,CD 83 #[.int .i64 (pl:Nat),.int .i64 4] W (.string (az (leS 4 pl)))):=fun W=>aS pl 4 W (by omega) (by omega);have v:=af (Kj many long pl);have zz:∀many V,many<=4->((az (leS many V)).size:Int)<=4:=fun many V z=>by rw[bL,aF];omega
 have z1:=zz 4 101010256 (by omega);have z2:=zz 2 0 (by omega);have z3:=zz 2 many (by omega);have z4:=zz 4 long (by omega);have z5:=zz 4 pl (by omega);generalize az (leS 4 101010256)=A1 at *
 generalize az (leS 2 0)=A2 at *
 generalize az (leS 2 many)=A3 at *
 generalize az (leS 4 long)=A4 at *
 generalize az (leS 4 pl)=A5 at *
 generalize dK many long pl=RES at *
 clear x y h2 zz;go_enter func52,ntmps52;go_wp2_with fail;refine(ae s _).mono ?_;rintro e x1 ⟨rfl,b⟩;go_wp2_with fail;refine(ae a _).mono ?_;rintro e x2 ⟨rfl,k⟩;have c:=ah b k;clear b k;go_wp2_with fail;refine(ae a _).mono ?_;rintro e x3 ⟨rfl,l⟩;have d:=ah c l;clear c l;go_wp2_with fail;refine(ae j _).mono ?_;rintro e x4 ⟨rfl,m⟩;have f:=ah d m;clear d m;go_wp2_with fail;refine(ae j _).mono ?_;rintro e x5 ⟨rfl,n⟩;have g:=ah f n;clear f n;go_wp2_with fail;refine(ae t _).mono ?_;rintro e x6 ⟨rfl,o⟩;have h:=ah g o;clear g o;go_wp2_with fail;refine(ae u _).mono ?_;rintro e x7 ⟨rfl,p⟩;have i:=ah h p;clear h p;go_wp2_with fail;refine(ae a _).mono ?_;rintro e x8 ⟨rfl,q⟩;have r:=ah i q;clear i q;go_wp2;go_ret;exact⟨by rw[←ae v];rfl,r⟩
theorem vy(n t:ByteArray)(y mo d h mi s:Int)(N pl:Nat)(w:World)(k:(0<=y/\y<=100000)/\(0<=mo/\mo<=100)/\(0<=d/\d<=100)/\(0<=h/\h<=100)/\(0<=mi/\mi<=100) /\ -100<=s/\s<=100)
  (m:(((((y-1980)*16+mo)*32+d)*32+h)*64+mi)*32+Int.tdiv s 2=(N:Int)) (a:N<4294967296) (o:n.size<65536) (p:t.size<=1048576) (J:pl<4294967296) :
  CD 50 #[.agg #[.string n,.int .i64 y,.int .i64 mo,.int .i64 d,.int .i64 h,.int .i64 mi,.int .i64 s,.string t],.int .i64 (pl:Nat)] w (.string (ko (cn t) N (ay 0 t.data.toList) (aK t).size t.size n pl)):=by
 have b:prog.follows .mixedOrders=true:=by kernel_rfl
 have C:=af (fun W=>pf n t y mo d h mi s N W k m a o p);have D:Hid (∀W,CD 83 #[.int .i64 33639248,.int .i64 4] W (.string (az (leS 4 33639248)))):=fun W=>aS 33639248 4 W (by omega) (by omega);have F:Hid (∀W,CD 83 #[.int .i64 20,.int .i64 2] W (.string (az (leS 2 20)))):=fun W=>aS 20 2 W (by omega) (by omega);have A:Hid (∀W,CD 83 #[.int .i64 0,.int .i64 2] W (.string (az (leS 2 0)))):=fun W=>aS 0 2 W (by omega) (by omega);have B:Hid (∀W,CD 83 #[.int .i64 0,.int .i64 4] W (.string (az (leS 4 0)))):=fun W=>aS 0 4 W (by omega) (by omega);have E:Hid (∀W,CD 83 #[.int .i64 (pl:Nat),.int .i64 4] W (.string (az (leS 4 pl)))):=fun W=>aS pl 4 W (by omega) (by omega);have I:(n.size:Int)<65536:=by omega
 have G:=af (GA n (fj (cn t) N (ay 0 t.data.toList) (aK t).size t.size n.size) (az (leS 4 pl)));unfold ko;have zz:∀many V,many<=4->((az (leS many V)).size:Int)<=4:=fun many V S=>by rw[bL,aF];omega
 have z1:=zz 4 33639248 (by omega);have z2:=zz 2 20 (by omega);have z3:((fj (cn t) N (ay 0 t.data.toList) (aK t).size t.size n.size).size:Int)<=26:=by rw[dW];omega
 have z4:=zz 2 0 (by omega);have z5:=zz 4 0 (by omega);have z6:=zz 4 pl (by omega);generalize (⟨#[80,75,1,2]⟩:ByteArray)++az (leS 2 20)++fj (cn t) N (ay 0 t.data.toList) (aK t).size t.size n.size++(⟨#[0,0,0,0,0,0,0,0,0,0]⟩:ByteArray)++az (leS 4 pl)++n=RES at *
 generalize az (leS 4 33639248)=A1 at *
 generalize az (leS 2 20)=A2 at *
 generalize fj (cn t) N (ay 0 t.data.toList) (aK t).size t.size n.size=A3 at *
 generalize az (leS 2 0)=A4 at *
 generalize az (leS 4 0)=A5 at *
 generalize az (leS 4 pl)=A6 at *
 have T0':Hid (lO w n y mo d h mi s t (w.alloc (.cells #[.string n,.int .i64 y,.int .i64 mo,.int .i64 d,.int .i64 h,.int .i64 mi,.int .i64 s,.string t] 33))):=⟨(a0c _ _).alloc (a0a _) _,by simp,by simp,by simp,by simp,by simp,by simp,by simp,by simp,by simp⟩;clear k m a o p J zz;go_enter func50,ntmps50;go_wp2_with fail;obtain⟨W1,hW1⟩:∃x,w.alloc (.cells #[.string n,.int .i64 y,.int .i64 mo,.int .i64 d,.int .i64 h,.int .i64 mi,.int .i64 s,.string t] 33)=x:=⟨_,rfl⟩;rw[hW1]at T0';rw[hW1];have T1:=T0';clear T0' hW1;obtain⟨c0,c1,c2,c3,c4,i,j,l⟩:=(ae T1).2.2;have k0:=cell_regrown c0;have K:=cell_regrown c1;have L:=cell_regrown c2;have M:=cell_regrown c3;have O:=cell_regrown c4;have P:=cell_regrown i;have Q:=cell_regrown j;have R:=cell_regrown l;have q:=fun d os=>Calls.regrown_of (w:=W1) (d:=d) (os:=os) (ae D _);have r:=fun d os=>Calls.regrown_of (w:=W1) (d:=d) (os:=os) (ae F _);have u:=fun d os=>Calls.regrown_of (w:=W1) (d:=d) (os:=os) (ae C _);have e:=fun d os=>Calls.regrown_of (w:=W1) (d:=d) (os:=os) (ae A _);have v:=fun d os=>Calls.regrown_of (w:=W1) (d:=d) (os:=os) (ae B _);have z:=fun d os=>Calls.regrown_of (w:=W1) (d:=d) (os:=os) (ae E _);have n1:¬ 9223372036854775807<A1.size+A2.size:=by omega
 have n2:¬ 9223372036854775807<A1.size+A2.size+A3.size:=by omega
 have n3:¬ 9223372036854775807<A1.size+A2.size+A3.size+A4.size:=by omega
 have n4:¬ 9223372036854775807<A1.size+A2.size+A3.size+A4.size+A4.size:=by omega
 have n5:¬ 9223372036854775807<A1.size+A2.size+A3.size+A4.size+A4.size+A4.size:=by omega
 have n6:¬ 9223372036854775807<A1.size+A2.size+A3.size+A4.size+A4.size+A4.size+A5.size:=by omega
 have n7:¬ 9223372036854775807<A1.size+A2.size+A3.size+A4.size+A4.size+A4.size+A5.size+A6.size:=by omega
 have n8:¬ 9223372036854775807<A1.size+A2.size+A3.size+A4.size+A4.size+A4.size+A5.size+A6.size+n.size:=by omega
 refine wp_region_quiet_below b (by kernel_rfl) ?_
 quiet_step (exact q _ _)
 quiet_step (exact r _ _)
 quiet_step (fail)
 quiet_step (fail)
 quiet_step (exact u _ _)
 quiet_step (fail)
 quiet_step (exact e _ _)
 quiet_step (fail)
 quiet_step (exact e _ _)
 quiet_step (fail)
 quiet_step (exact e _ _)
 quiet_step (fail)
 quiet_step (exact v _ _)
 quiet_step (fail)
 quiet_step (fail)
 quiet_step (exact z _ _)
 quiet_step (fail)
 quiet_step (fail)
 quiet_step (fail)
 quiet_step (fail)
 quiet_step (fail)
 refine a1D ?_;intro zw g;obtain⟨⟨H,osq⟩,c⟩:=g;have f:=below_regrown W1 H osq;rw[←c]at f;have T9:=af (ah (ae T1).1 f);clear n1 n2 n3 n4 n5 n6 n7 n8 c f k0 K L M O P Q R q r u e v z c0 c1 c2 c3 c4 i j l;go_wp2;go_ret;exact⟨by rw[←ae G];rfl,ae T9⟩
theorem wm(a:Option Addr)(cap n:Nat)(l:List En)(w:World)(U:l.length=n)(h:iV w a l)(hm:n<=6)(O:∀i,i<n->ik (l.getD i default)=true) :
  CD 28 #[.slice a n cap] w (.string ((ar l).1++(ar l).2++dK n (ar l).2.size (ar l).1.size)):=by
 have aa:(n:Int)<=6:=by omega
 have Q:=af (kN l (fun i hi=>O i (by omega)));have u:=af U;have Z:=af O;have Y:=af h;have V:=ae Q n (by omega);rw[a0o (by omega)]at V;have X:=af (fun W=>Gz n (ar l).2.size (ar l).1.size W (by omega) (by omega) (by omega));have ad:((ar l).1.size:Int)<=2400:=by omega
 have an:((ar l).2.size:Int)<=600:=by omega
 have ao:((dK n (ar l).2.size (ar l).1.size).size:Int)<=22:=by rw[kv];omega
 clear U h O hm V;go_enter func28,ntmps28;go_wp2_with fail
 go_loopw [3,4,5] (fun o q i wr=>∃k:Nat,k<=n/\i = .int .i64 k/\o = .string (ar (l.take k)).1/\q = .string (ar (l.take k)).2/\Below w.heap.size w wr) (fun _ _ i _=>n-(intOf i).toNat)
 case atStart=>exact⟨0,a0g _,rfl,rfl,rfl,a0c _ _⟩
 case round=>
  obtain⟨k,S,rfl,rfl,rfl,c⟩:=hrel;by_cases N:k<n
  .
   obtain⟨g,o,rfl,j,D⟩:=(ae Y).later c (by have:=ae u;omega);obtain⟨c0,c1,c2,c3,c4,c5,c6,c7⟩:=D k (by have:=ae u;omega);have E:Hid ((ar (l.take (k+1))).1=(ar (l.take k)).1++loE (l.getD k default)):=by show _=_;rw[dP l k (by have:=ae u;omega)];rfl
   have F:Hid ((ar (l.take (k+1))).2=(ar (l.take k)).2++heE (l.getD k default) (ar (l.take k)).1.size):=by show _=_;rw[dP l k (by have:=ae u;omega)];rfl
   have P:=ae Q k (by have:=ae u;omega);have ab:((ar (l.take k)).1.size:Int)<=2400:=by omega
   have ac:((ar (l.take k)).2.size:Int)<=600:=by omega
   have r:=ae Z k N;obtain⟨f1,f2,f3⟩:=ct (n:=(l.getD k default).n) (t:=(l.getD k default).t) r;obtain⟨g1,g2,g3,_⟩:=je f3;have M:=(kA r).2;have T:((loE (l.getD k default)).size:Int)<=400:=by omega
   have K:=oW (l.getD k default) (ar (l.take k)).1.size;have R:((heE (l.getD k default) (ar (l.take k)).1.size).size:Int)<=100:=by omega
   have H:=af (fun W=>vy (l.getD k default).n (l.getD k default).t (l.getD k default).y (l.getD k default).mo (l.getD k default).d (l.getD k default).h (l.getD k default).mi (l.getD k default).s (eN (l.getD k default)) (ar (l.take k)).1.size W g1 g2 g3 (by omega) (by omega) (by omega));have I:=af (fun W=>Aj (l.getD k default).n (l.getD k default).t (l.getD k default).y (l.getD k default).mo (l.getD k default).d (l.getD k default).h (l.getD k default).mi (l.getD k default).s (eN (l.getD k default)) W g1 g2 g3 (by omega) (by omega));have v:Hid (ko (cn (l.getD k default).t) (eN (l.getD k default)) (ay 0 (l.getD k default).t.data.toList) (aK (l.getD k default).t).size (l.getD k default).t.size (l.getD k default).n (ar (l.take k)).1.size=heE (l.getD k default) (ar (l.take k)).1.size):=rfl;have x:Hid (bF (l.getD k default).n (l.getD k default).t (eN (l.getD k default))=loE (l.getD k default)):=rfl;rw[ae v]at H;rw[ae x]at I;have G:=af (a0b c S);clear D r f1 f2 f3 g1 g2 g3 P M K c S v x;generalize loE (l.getD k default)=LO at *
   generalize heE (l.getD k default) (ar (l.take k)).1.size=HE at *
   generalize (ar (l.take k)).1=F1 at *
   generalize (ar (l.take k)).2=F2 at *
   generalize l.getD k default=en at *
   go_wp2_with fail;refine(ae H _).mono ?_;rintro e x1 ⟨rfl,b⟩;have f:=af (ah (ae G).1 b);have d0:=(b.cell (p:=⟨g,o+k*8,none⟩) j).trans c0;have d1:=(b.cell (p:=⟨g,o+k*8+1,none⟩) j).trans c1;have d2:=(b.cell (p:=⟨g,o+k*8+2,none⟩) j).trans c2;have d3:=(b.cell (p:=⟨g,o+k*8+3,none⟩) j).trans c3;have d4:=(b.cell (p:=⟨g,o+k*8+4,none⟩) j).trans c4;have d5:=(b.cell (p:=⟨g,o+k*8+5,none⟩) j).trans c5;have d6:=(b.cell (p:=⟨g,o+k*8+6,none⟩) j).trans c6;have d7:=(b.cell (p:=⟨g,o+k*8+7,none⟩) j).trans c7;clear b H;go_wp2_with fail;refine(ae I _).mono ?_;rintro e x2 ⟨rfl,C⟩;have J:=af (ah (ae f) C);clear C f I;go_wp2;go_roundw
   case rel=>exact⟨k+1,by have:=(ae G).2;omega,by go_num,by rw[ae E],by rw[ae F],ae J⟩
   case measure=>simp[intOf];omega
  .
   have L:k=n:=by omega
   subst L;rw[a0o (by rw[ae u];omega)];have G:=af c;clear c;generalize z:dK k (ar l).2.size (ar l).1.size=EB at *
   generalize A:(ar l).1=F1 at *
   generalize B:(ar l).2=F2 at *
   have m:=af (a0b z (a0b A B));clear z A B;go_wp2_with fail;refine(ae X _).mono ?_;rintro e x1 ⟨rfl,b⟩;have f:=af (ah (ae G) b);clear b;go_wp2;go_ret;exact⟨by rw[(ae m).2.1,(ae m).2.2,(ae m).1];rfl,ae f⟩
theorem gw(a:Option Addr)(cap:Nat)(l:List En)(n:Nat)(k:l.length=n)(w:World)(h:iV w a l)(v:(n:Int)<=1048576)
  (p:∀i,i<n->(l.getD i default).n.size<=1048576/\((l.getD i default).t.size:Int)<=9223372036854775807) :
  CD 10 #[.slice a n cap] w (.string (cj l)):=by
 have d:=af (jW a cap l n k w h v p);cases j:ci l
 .
  have HP:Hid (cj l=⟨#[]⟩):=by simp[Hid,cj,j]
  rw[j]at d;clear h p;go_enter func10,ntmps10;go_wp2_with fail;refine(ae d).mono ?_;rintro e x1 ⟨rfl,c⟩;have b:=af c;clear c;go_wp2;go_ret;exact⟨by rw[ae HP];rfl,ae b⟩
 .
  obtain⟨f,u⟩:=dp j;have HP:Hid (cj l=(ar l).1++(ar l).2++dK n (ar l).2.size (ar l).1.size):=by
   show _=_;rw[cj,a0d j,k]
  have m:Hid (∀i,i<n->ik (l.getD i default)=true):=fun i x=>f i (by omega);have r:=af k;have q:Hid (n<=6):=by show _<=_;omega
  have s:=af h;rw[j]at d;clear h p f u k;go_enter func10,ntmps10;go_wp2_with fail;refine(ae d).mono ?_;rintro e x1 ⟨rfl,c⟩;have b:=af c;clear c d;go_wp2_with fail;refine(wm a cap n l _ (ae r) ((ae s).later (ae b)) (ae q) (ae m)).mono ?_;rintro e x3 ⟨rfl,g⟩;have o:=af (ah (ae b) g);rw[←ae HP];clear g b;go_wp2;go_ret;exact⟨rfl,ae o⟩
theorem Tryz.infoHd:(prog.info? 83).map (fun i=>(i.zero,i.size,i.bytes))=some (some (.agg #[.int .i64 0,.int .i64 0,.int .i64 0,.int .i64 0,.int .i64 0,.string ⟨#[]⟩,.int .i64 0]),7,64):=by kernel_rfl
abbrev Pv:=bu (α:=En×Nat) 83 7 oQ
theorem Blk.grown{w':World}{b:Nat}{row:Option Nat}(h:Blk w b vs)(a:w.grownBy w' row)(c:some b≠row):Blk w' b vs:=
 ⟨a0h h.1 a.size,fun i v e=>⟨(World.cell?_of_block (a.block b h.1 c)).trans (h.2 i v e).1,(World.frozen?_of_block (a.block b h.1 c)).trans (h.2 i v e).2⟩⟩
theorem Cd(a:Option Addr)(cap n:Nat)(l:List En)(w:World)(hn:l.length=n)(h:vj w a n fun i=>vO (l.getD i default))(hm:n<=6)(Y:∀i,i<n->ik (l.getD i default)=true) :
  CD 25 #[.slice a n cap] w (.string ((ar l).1++(ar l).2++dK n (ar l).2.size (ar l).1.size)):=by
 have bd:(n:Int)<=6:=by omega
 have HZ:=af (kN l (fun i U=>Y i (by omega)));have Hn:=af hn;have Hm:=af hm;have HS:=af Y;have HR:=af h;have J:=af (fun W b c (h:vj W b n fun i=>oQ (vr l i))=>Ey b c n l W hn h hm Y);have hz:=ae HZ n (by omega);rw[a0o (by omega)]at hz;have M:Hid (((ar l).2++dK n (ar l).2.size (ar l).1.size).size<=1000):=by
  show _<=_;rw[a0t,kv];omega
 have bk:((ar l).1.size:Int)<=2400:=by omega
 have K:Hid ((ar l).1++(ar l).2++dK n (ar l).2.size (ar l).1.size=(ar l).1++((ar l).2++dK n (ar l).2.size (ar l).1.size)):=a1S;rw[ae K];clear hn h Y hm hz K;obtain⟨i0,U,a6,a7,a8⟩:=a0r Tryz.infoHd;go_enter func25,ntmps25;go_wp2_with fail
 go_loopw [3,4,6,9] (fun o q _ i wr=>∃k:Nat,k<=n/\i = .int .i64 k/\o = .string (ar (l.take k)).1/\Pv wr w.heap.size q (hdL l k)/\Below w.heap.size w wr) (fun _ _ _ i _=>n-(intOf i).toNat)
 case atStart=>exact⟨0,a0g _,rfl,rfl,bu.nil _ _,a0c _ _⟩
 case round=>
  obtain⟨k,hk,rfl,rfl,hq,m⟩:=hrel;by_cases r:k<n
  .
   obtain⟨g,rfl,hg,p⟩:=(ae HR).later m (by omega);have c0:=p k r 0 _ rfl;have c1:=p k r 1 _ rfl;have c2:=p k r 2 _ rfl;have c3:=p k r 3 _ rfl;have c4:=p k r 4 _ rfl;have c5:=p k r 5 _ rfl;have c6:=p k r 6 _ rfl;rw[a05]at c0;have a3:Hid ((ar (l.take (k+1))).1=(ar (l.take k)).1++loE (l.getD k default)):=by show _=_;rw[dP l k (by have:=ae Hn;omega)];rfl
   have a2:=af (JV l k);have a4:=ae HZ k (by have:=ae Hn;omega);have bb:((ar (l.take k)).1.size:Int)<=2400:=by omega
   have G:=ae HS k r;obtain⟨f1,f2,f3⟩:=ct (n:=(l.getD k default).n) (t:=(l.getD k default).t) G;have hN:=(je f3).2.2;have a1:=(kA G).2;have ba:((loE (l.getD k default)).size:Int)<=400:=by omega
   have T:ay 0 (l.getD k default).t.data.toList<4294967296:=fL _ _ (by omega);have ao:=gm (l.getD k default).t;have S:(aK (l.getD k default).t).size<=100000:=by unfold aK;split<;>omega
   have a5:cn (l.getD k default).t<=8:=by unfold cn;split<;>omega
   have P:eN (l.getD k default)<4294967296:=by unfold eN;omega
   have HP:=af (fun W=>jw (cn (l.getD k default).t) (eN (l.getD k default)) (ay 0 (l.getD k default).t.data.toList) (aK (l.getD k default).t).size (l.getD k default).t.size (l.getD k default).n (aK (l.getD k default).t) W (by omega) P T (by omega) (by omega) (by omega) S);have HX:Hid (cb (cn (l.getD k default).t) (eN (l.getD k default)) (ay 0 (l.getD k default).t.data.toList) (aK (l.getD k default).t).size (l.getD k default).t.size (l.getD k default).n++aK (l.getD k default).t=loE (l.getD k default)):=rfl;rw[ae HX]at HP;have HK:=af hk;have HQ:=af hq;have C:=af m;clear p G f1 f2 f3 hN a4 a1 T ao S a5 P hk HX hq m;have D:Hid (oQ (vr l k)=[.int .i64 (cn (l.getD k default).t:Nat),.int .i64 (eN (l.getD k default):Nat),.int .i64 (ay 0 (l.getD k default).t.data.toList:Nat),.int .i64 ((aK (l.getD k default).t).size:Nat),.int .i64 ((l.getD k default).t.size:Nat),.string (l.getD k default).n,.int .i64 ((ar (l.take k)).1.size:Nat)]):=rfl;have E:=af (F9 (vr l k));generalize be:cn (l.getD k default).t=v0 at *
   generalize eN (l.getD k default)=v1 at *
   generalize ay 0 (l.getD k default).t.data.toList=v2 at *
   generalize (aK (l.getD k default).t).size=v3 at *
   generalize (l.getD k default).t.size=v4 at *
   generalize (l.getD k default).n=v5 at *
   generalize aK (l.getD k default).t=v6 at *
   generalize loE (l.getD k default)=LO at *
   generalize (ar (l.take k)).1=F1 at *
   rw[ae D]at E;have X:Hid (Below wr.heap.size wr (wr.alloc (.cells #[.int .i64 (v0:Nat),.int .i64 (v1:Nat),.int .i64 (v2:Nat),.int .i64 (v3:Nat),.int .i64 (v4:Nat),.string v5,.string v6] 55))):=(a0c _ _).alloc (a0a _) _;have z:Hid (k+1<=maxLen/\(k+1)*64<=140737488355328):=by
    show _/\_;have:=ae Hm;unfold maxLen;omega
   have B:=bu.own (oV l k) ((ae HQ).later (ae X) (a0a _));have d:=ah (ae C) (ae X);have y:=d.size;have ab:=af (bu.own (oV l k) (ae HQ));have A:=af (aC wr #[.int .i64 (v0:Nat),.int .i64 (v1:Nat),.int .i64 (v2:Nat),.int .i64 (v3:Nat),.int .i64 (v4:Nat),.string v5,.string v6] 55);clear HQ C;obtain⟨W1,hW1⟩:∃x,wr.alloc (.cells #[.int .i64 (v0:Nat),.int .i64 (v1:Nat),.int .i64 (v2:Nat),.int .i64 (v3:Nat),.int .i64 (v4:Nat),.string v5,.string v6] 55)=x:=⟨_,rfl⟩;rw[hW1]at X B d y A;have an:Hid (∀j,Value.ownBlock u4=some j->j<wr.heap.size):=fun j hj=>(a0E (ae ab) j hj).2;have p0:=(ae A).cell 0 _ rfl;have p1:=(ae A).cell 1 _ rfl;have p2:=(ae A).cell 2 _ rfl;have p3:=(ae A).cell 3 _ rfl;have p4:=(ae A).cell 4 _ rfl;have p5:=(ae A).cell 5 _ rfl;go_wp2_with (at_builtin;refine a0B _ rfl _ _ 81 rfl w.heap.size 83 i0 (.agg #[.int .i64 0,.int .i64 0,.int .i64 0,.int .i64 0,.int .i64 0,.string ⟨#[]⟩,.int .i64 0]) 7 64 underlying81 U a6 a7 a8 rfl (by decide) _ _ _ rfl (a0m B _) ⟨W1.heap.size,0,none⟩ 1 1 [.int .i64 (v0:Nat),.int .i64 (v1:Nat),.int .i64 (v2:Nat),.int .i64 (v3:Nat),.int .i64 (v4:Nat),.string v5,.int .i64 (F1.size:Nat)] rfl rfl (nj W1 _ _) (ae E) (ae z).1 (ae z).2 (au y _) ?_;intro v' x2 F s V;clear V;have f:=af (Blk.grown (Blk.later (ae A) ((a0c _ _).alloc (a0a _) _) (ae A).1) s (fun e=>absurd (ae an _ e.symm) (a2M _)));have r0:=(ae f).cell 0 _ rfl;have r1:=(ae f).cell 1 _ rfl;have r2:=(ae f).cell 2 _ rfl;have r3:=(ae f).cell 3 _ rfl;have r4:=(ae f).cell 4 _ rfl;have r5:=(ae f).cell 5 _ rfl;have r6:=(ae f).cell 6 _ rfl);refine(ae HP _).mono ?_;rintro e x3 ⟨rfl,H⟩;have R:=aH (v:=u4) s B (a0a _) y d;have I:Pv x2 w.heap.size v' (hdL l k++[vr l k]):=bu.snoc (oV l k) (by rw[ae D];exact F);rw[←ae a2]at I;have ac:=af (I.later H (a0a _));have aa:=af (ah R H);clear F s B I R H f r0 r1 r2 r3 r4 r5 r6 p0 p1 p2 p3 p4 p5 d y A X hW1;go_wp2;go_roundw
   case rel=>exact⟨k+1,by have:=ae HK;omega,by go_num,by rw[ae a3],ae ac,ae aa⟩
   case measure=>simp[intOf];omega
  .
   have a0:k=n:=by omega
   subst a0;rw[a0o (by rw[ae Hn];omega)];obtain⟨b,c,rfl,a9,_⟩:=hq.formN (oV l k);have HW:=af (uD F8 (default,0) (oV l k) hq);have HB:=af m;clear hq m;have ad:Hid (vj wr b k fun i=>oQ (vr l i)):=by
    intro h0;obtain⟨g,e,hg,hc⟩:=ae HW h0;exact⟨g,e,hg,fun i U j u hu=>hc i U j u (by show(oQ ((hdL l k).getD i _))[j]?=_;rw[Nf l k i _ U];exact hu)⟩
   have hE:=ae M;have bc:(((ar l).2++dK k (ar l).2.size (ar l).1.size).size:Int)<=1000:=by omega
   clear HW hE M HZ HS HR;generalize N:(ar l).2++dK k (ar l).2.size (ar l).1.size=EN at *
   generalize O:(ar l).1=F1 at *
   have L:=af (a0b N O);clear N O;go_wp2_with fail;refine(ae J _ _ _ (ae ad)).mono ?_;rintro e x1 ⟨rfl,Q⟩;have Z:=af (ah (ae HB) Q);clear Q;go_wp2;go_ret;exact⟨by rw[←(ae L).1,←(ae L).2];rfl,ae Z⟩
theorem ez(a:Option Addr)(cap:Nat)(l:List En)(n:Nat)(x:l.length=n)(m:Int)(w:World)(h:iV w a l)(I:(n:Int)<=1048576)(r:(n:Int)<=(cap:Int))
  (C:∀i,i<n->(l.getD i default).n.size<=1048576/\((l.getD i default).t.size:Int)<=9223372036854775807) (B:w.cell? ⟨2,0,none⟩=some (.int .i64 m)) (A:jH w) (z:cJ w) :
  CD 9 #[.slice a n cap] w (.string (cj l)):=by
 have g:=af (jQ a cap l n x m w h I r C B A);cases s:ci l
 .
  have HP:Hid (cj l=⟨#[]⟩):=by simp[Hid,cj,s]
  rw[s]at g;clear h C B A z;go_enter func9,ntmps9;go_wp2_with fail;refine(ae g).mono ?_;rintro e x1 ⟨rfl,f⟩;have d:=af f;clear f;go_wp2;go_ret;exact⟨by rw[ae HP];rfl,ae d⟩
 .
  obtain⟨o,H⟩:=dp s;have HP:Hid (cj l=(ar l).1++(ar l).2++dK n (ar l).2.size (ar l).1.size):=by
   show _=_;rw[cj,a0d s,x]
  have j:Hid (∀i,i<n->ik (l.getD i default)=true):=fun i J=>o i (by omega);have u:=af x;have D:Hid (n<=6):=by show _<=_;omega
  have G:=af h;have F:=af z;rw[s]at g;clear h C B A z o H x;go_enter func9,ntmps9;go_wp2_with fail;refine(ae g).mono ?_;rintro e x1 ⟨rfl,f⟩;have d:=af f;clear f g;go_wp2_with fail;refine(C6 a cap n l _ (ae u) ((ae G).later (ae d)) (ae D) (ae j) ((ae F).later (ae d))).mono ?_;rintro e x2 ⟨v,rfl,hq,p⟩;obtain⟨b,c,rfl,_,_⟩:=hq.formN (ae u);have k:=af (ah (ae d) p);have E:=af (uD Ga default (ae u) hq);clear hq p d;go_wp2_with fail;refine(Cd b c n l _ (ae u) (ae E) (ae D) (ae j)).mono ?_;rintro e x3 ⟨rfl,q⟩;have y:=af (ah (ae k) q);rw[←ae HP];clear q k E;go_wp2;go_ret;exact⟨rfl,ae y⟩
theorem sd(a:Option Addr)(cap:Nat)(l:List En)(n:Nat)(r:l.length=n)(w:World)(h:iV w a l)(B:(n:Int)<=1048576)
  (A:∀i,i<n->(l.getD i default).n.size<=1048576/\((l.getD i default).t.size:Int)<=9223372036854775807) :
  CD 18 #[.slice a n cap] w (.tuple #[.agg #[.string (cj l),.string ⟨#[]⟩],.bool (ci l)]):=by
 have k:=af (fun W (hb:Below w.heap.size w W)=>jW a cap l n r W (h.later hb) B A);have f:Hid (Below w.heap.size w (w.alloc (.cells #[.string ⟨#[]⟩,.string ⟨#[]⟩] 37))):=(a0c _ _).alloc (a0a _) _;have g:=af (aC w #[.string ⟨#[]⟩,.string ⟨#[]⟩] 37);obtain⟨W1,hW1⟩:∃x,w.alloc (.cells #[.string ⟨#[]⟩,.string ⟨#[]⟩] 37)=x:=⟨_,rfl⟩;rw[hW1]at f g;cases q:ci l
 .
  have HP:Hid (cj l=⟨#[]⟩):=by simp[Hid,cj,q]
  rw[q]at k;rw[ae HP];clear h A;go_enter func18,ntmps18;go_wp2_with fail;refine(ae k _ (ae f)).mono ?_;rintro e x1 ⟨rfl,b⟩;have c:=af (ah (ae f) b);have d:=af ((ae g).later b (ae g).1);have C:=(ae d).cell 0 _ rfl;have D:=(ae d).cell 1 _ rfl;have f0:=(ae d).free 0 (by decide);have f1:=(ae d).free 1 (by decide);have z:=(ae d).1;clear b k f g hW1;have TZ:=af (ai (o:=1) (ai (o:=0) (ae c) (a0a _) (.string ⟨#[]⟩)) (a0a _) (.string ⟨#[]⟩));have ZZ:=af (((ae d).set 0 (.string ⟨#[]⟩)).set 1 (.string ⟨#[]⟩));go_wp2;have z0:=(ae ZZ).cell 0 _ rfl;have z1:=(ae ZZ).cell 1 _ rfl;exact a0u (v:=.tuple #[.agg #[.string ⟨#[]⟩,.string ⟨#[]⟩],.bool false]) (by simp[results,results18,go_sem,z0,z1]) rfl ⟨rfl,ae TZ⟩
 .
  obtain⟨p,y⟩:=dp q;rw[r]at y;have s:=af (fun W (hb:Below w.heap.size w W)=>wm a cap n l W r (h.later hb) y (fun i E=>p i (by omega)));have HP:Hid ((ar l).1++(ar l).2++dK n (ar l).2.size (ar l).1.size=cj l):=by
   show _=_;rw[cj,a0d q,r]
  rw[ae HP]at s;rw[q]at k;clear h A p y;generalize cj l=Z at *
  go_enter func18,ntmps18;go_wp2_with fail;refine(ae k _ (ae f)).mono ?_;rintro e x1 ⟨rfl,b⟩;have c:=af (ah (ae f) b);have d:=af ((ae g).later b (ae g).1);clear b k f g hW1;go_wp2_with fail;refine(ae s _ (ae c)).mono ?_;rintro e x2 ⟨rfl,j⟩;have u:=af (ah (ae c) j);have m:=af ((ae d).later j (ae d).1);have C:=(ae m).cell 0 _ rfl;have D:=(ae m).cell 1 _ rfl;have f0:=(ae m).free 0 (by decide);have f1:=(ae m).free 1 (by decide);have z:=(ae m).1;clear j c d s;have TZ:=af (ai (o:=1) (ai (o:=0) (ae u) (a0a _) (.string Z)) (a0a _) (.string ⟨#[]⟩));have ZZ:=af (((ae m).set 0 (.string Z)).set 1 (.string ⟨#[]⟩));go_wp2;have z0:=(ae ZZ).cell 0 _ rfl;have z1:=(ae ZZ).cell 1 _ rfl;exact a0u (v:=.tuple #[.agg #[.string Z,.string ⟨#[]⟩],.bool true]) (by simp[results,results18,go_sem,z0,z1]) rfl ⟨rfl,ae TZ⟩
theorem rW(a:Option Addr)(cap:Nat)(l:List En)(n:Nat)(G:l.length=n)(m:Int)(w:World)(h:iV w a l)(J:(n:Int)<=1048576)(f:(n:Int)<=(cap:Int))
  (B:∀i,i<n->(l.getD i default).n.size<=1048576/\((l.getD i default).t.size:Int)<=9223372036854775807) (A:w.cell? ⟨2,0,none⟩=some (.int .i64 m)) (y:jH w) (D:cJ w) :
  CD 17 #[.slice a n cap] w (.tuple #[.agg #[.string (cj l),.string ⟨#[]⟩],.bool (ci l)]):=by
 have u:=af (fun W (hb:Below w.heap.size w W)=>(hb.cell (p:=⟨2,0,none⟩) (World.block_lt_of_cell? _ _ A)).trans A);have s:Hid (∀W,Below w.heap.size w W->jH W):=fun W hb=>(hb.cell (p:=⟨0,0,none⟩) (World.block_lt_of_cell? _ _ y)).trans y;have q:=af (fun W (hb:Below w.heap.size w W)=>jQ a cap l n G m W (h.later hb) J f B (ae u W hb) (ae s W hb));have g:Hid (Below w.heap.size w (w.alloc (.cells #[.string ⟨#[]⟩,.string ⟨#[]⟩] 37))):=(a0c _ _).alloc (a0a _) _;have j:=af (aC w #[.string ⟨#[]⟩,.string ⟨#[]⟩] 37);obtain⟨W1,hW1⟩:∃x,w.alloc (.cells #[.string ⟨#[]⟩,.string ⟨#[]⟩] 37)=x:=⟨_,rfl⟩;rw[hW1]at g j;cases z:ci l
 .
  have HP:Hid (cj l=⟨#[]⟩):=by simp[Hid,cj,z]
  rw[z]at q;rw[ae HP];clear h B A y D u s;go_enter func17,ntmps17;go_wp2_with fail;refine(ae q _ (ae g)).mono ?_;rintro e x1 ⟨rfl,b⟩;have c:=af (ah (ae g) b);have d:=af ((ae j).later b (ae j).1);have K:=(ae d).cell 0 _ rfl;have L:=(ae d).cell 1 _ rfl;have f0:=(ae d).free 0 (by decide);have f1:=(ae d).free 1 (by decide);have F:=(ae d).1;clear b q g j hW1;have TZ:=af (ai (o:=1) (ai (o:=0) (ae c) (a0a _) (.string ⟨#[]⟩)) (a0a _) (.string ⟨#[]⟩));have ZZ:=af (((ae d).set 0 (.string ⟨#[]⟩)).set 1 (.string ⟨#[]⟩));go_wp2;have z0:=(ae ZZ).cell 0 _ rfl;have z1:=(ae ZZ).cell 1 _ rfl;exact a0u (v:=.tuple #[.agg #[.string ⟨#[]⟩,.string ⟨#[]⟩],.bool false]) (by simp[results,results17,go_sem,z0,z1]) rfl ⟨rfl,ae TZ⟩
 .
  obtain⟨E,I⟩:=dp z;rw[G]at I;have H:=af (fun W (hb:Below w.heap.size w W)=>ez a cap l n G m W (h.later hb) J f B (ae u W hb) (ae s W hb) (D.later hb));rw[z]at q;clear h B A y D u s E I;generalize cj l=Z at *
  go_enter func17,ntmps17;go_wp2_with fail;refine(ae q _ (ae g)).mono ?_;rintro e x1 ⟨rfl,b⟩;have c:=af (ah (ae g) b);have d:=af ((ae j).later b (ae j).1);clear b q g j hW1;go_wp2_with fail;refine(ae H _ (ae c)).mono ?_;rintro e x2 ⟨rfl,k⟩;have C:=af (ah (ae c) k);have r:=af ((ae d).later k (ae d).1);have K:=(ae r).cell 0 _ rfl;have L:=(ae r).cell 1 _ rfl;have f0:=(ae r).free 0 (by decide);have f1:=(ae r).free 1 (by decide);have F:=(ae r).1;clear k c d H;have TZ:=af (ai (o:=1) (ai (o:=0) (ae C) (a0a _) (.string Z)) (a0a _) (.string ⟨#[]⟩));have ZZ:=af (((ae r).set 0 (.string Z)).set 1 (.string ⟨#[]⟩));go_wp2;have z0:=(ae ZZ).cell 0 _ rfl;have z1:=(ae ZZ).cell 1 _ rfl;exact a0u (v:=.tuple #[.agg #[.string Z,.string ⟨#[]⟩],.bool true]) (by simp[results,results17,go_sem,z0,z1]) rfl ⟨rfl,ae TZ⟩
end Go.Proofs.YtgmfehnnebkaoaaGreatDoor
