/- Texts. -/
import Derived.Test.YtfannoajibacnaaGreatDoorM17
import Derived.Test.YtfannoajibacnaaGreatDoorM11
import Derived.Test.YtfannoajibacnaaGreatDoorM19
import Derived.Test.YtfannoajibacnaaGreatDoorM14
set_option linter.all false
set_option maxRecDepth 100000
set_option maxHeartbeats 6400000
namespace Go.Proofs.YtfannoajibacnaaGreatDoor
open Go.Proofs.Tryz
open Go.RowKit Corb
variable {D L l o:List Int}{T:List UInt8}{V k n p q r sz:Nat}{i:Int}
def Rp{f:Nat}(b:n+f=15)(d:nx l n<=cd V p n)(h:pz l V sz p f n=some (i,q)):q<=sz/\p<q/\0<=i/\i<(l.length:Int):=by
 induction f generalizing n with
 | zero=>simp[pz]at h
 | succ f ih=>
  by_cases a:sz<p+n+1
  . rw[pZ a]at h;cases h
  .
   by_cases h2:cd V p (n+1)<nx l (n+1)
   . rw[qU a h2]at h;simp only[a0l,a0R]at h;obtain⟨rfl,rfl⟩:=h;obtain⟨k,g,_,_,e⟩:=tH (l:=l) (n:=n) (c:=cd V p (n+1)) (by omega) (by simp only[cd];omega) h2;rw[e];omega
   . rw[oP a h2]at h;exact ih (by omega) (by omega) h
def gB(h:dec l V sz p=some (i,q)):q<=sz/\p<q/\0<=i/\i<(l.length:Int):=Rp rfl (a0g _) h
def rdN(V sz p k:Nat):Option (Nat×Nat):=if p+k<=sz then some (V/2 ^ p%2 ^ k,p+k)else none
def dn(h:p+k<=sz):rdN V sz p k=some (V/2 ^ p%2 ^ k,p+k):=a0d h
def fS(h:¬ p+k<=sz):rdN V sz p k=none:=a0e h
def bV{x:Nat}(h:rdN V sz p k=some (x,q)):q<=sz/\q=p+k/\x=V/2 ^ p%2 ^ k/\x<2 ^ k:=by
 unfold rdN at h
 split at h
 . simp only[a0l,a0R]at h;obtain⟨rfl,rfl⟩:=h;exact⟨by assumption,rfl,rfl,a0Z _ (a1p k)⟩
 . cases h
def scG(V sz least group many k q:Nat):Option (Nat×Nat):=if k<many then(rdN V sz q (stF least group k).2).bind fun x=>some ((stF least group k).1+x.1,x.2)else none
def gK(V sz:Nat)(D:List Int)(k q:Nat):Option (Tk×Nat):=
 (scG V sz 3 4 28 k q).bind fun a=>(dec D V sz a.2).bind fun j=>(scG V sz 1 2 30 j.1.toNat j.2).bind fun c=>some ((0,((a.1:Nat):Int),((c.1:Nat):Int)),c.2)
def oneG(V sz:Nat)(D:List Int)(k:Int)(q:Nat):Option (Tk×Nat):=if k<256 then some ((k,0,0),q)else gK V sz D (k.toNat-257) q
def It{least group many x:Nat}(h:scG V sz least group many k q=some (x,r)):r<=sz/\q<=r:=by
 unfold scG at h
 split at h
 .
  rcases a:rdN V sz q (stF least group k).2 with _|⟨y,t⟩
  . rw[a]at h;cases h
  . rw[a]at h;simp only[a0f,a0l,a0R]at h;have:=bV a;omega
 . cases h
def Cn{t:Tk}(h:gK V sz D k q=some (t,r)):r<=sz/\q<=r:=by
 unfold gK at h;rcases b:scG V sz 3 4 28 k q with _|⟨a,a2⟩
 . rw[b]at h;cases h
 rw[b]at h;simp only[a0f]at h;rcases h2:dec D V sz a2 with _|⟨j,j2⟩
 . rw[h2]at h;cases h
 rw[h2]at h;simp only[a0f]at h;rcases d:scG V sz 1 2 30 j.toNat j2 with _|⟨c,c2⟩
 . rw[d]at h;cases h
 rw[d]at h;simp only[a0f,a0l,a0R]at h;have e:=It b;have f:=gB h2;have g:=It d;omega
def vo{k:Int}{t:Tk}(h:oneG V sz D k q=some (t,r))(hq:q<=sz):r<=sz/\q<=r:=by
 unfold oneG at h
 split at h
 . simp only[a0l,a0R]at h;omega
 . exact Cn h
def qB(V sz:Nat)(L D:List Int):Nat->Nat->List UInt8->Option (List UInt8×Nat)
 | 0,_,_=>none
 | f+1,p,T=>(dec L V sz p).bind fun k=>if k.1=256 then some (T,k.2)else(oneG V sz D k.1 k.2).bind fun t=>(fX T t.1).bind fun T'=>qB V sz L D f t.2 T'
def iP(V sz:Nat)(L D:List Int)(p:Nat)(T:List UInt8):Option (List UInt8×Nat):=qB V sz L D (sz+1-p) p T
def Mo: ∀(n f p:Nat) (T:List UInt8),sz+1-p<=n->sz+1-p<=f->qB V sz L D f p T=qB V sz L D (sz+1-p) p T:=by
 intro n;induction n with
 | zero=>
  intro f p T b h2;have e:sz+1-p=0:=by omega
  rw[e];cases f with
  | zero=>rfl
  | succ f=>
   have hd:dec L V sz p=none:=by
    rcases h:dec L V sz p with _|⟨i,q⟩
    . rfl
    . have:=gB h;omega
   simp only[qB,hd,a2d]
 | succ n ih=>
  intro f p T b h2;rcases hd:dec L V sz p with _|⟨i,q⟩
  .
   cases f with
   | zero=>rw[show sz+1-p=0 by omega]
   | succ f=>
    rcases a:sz+1-p with _|m
    . simp only[qB,hd,a2d]
    . simp only[qB,hd,a2d]
  .
   have hb:=gB hd;obtain⟨f',rfl⟩:∃g,f=g+1:=⟨f-1,by omega⟩;obtain⟨m,a⟩:∃g,sz+1-p=g+1:=⟨sz-p,by omega⟩;rw[a];simp only[qB,hd,a0f]
   split
   . rfl
   .
    rcases c:oneG V sz D i q with _|⟨t,r⟩
    . rfl
    .
     simp only[a0f];have d:=vo c hb.1;rcases fX T t with _|T'
     . rfl
     . simp only[a0f];rw[ih f' r T' (by omega) (by omega),ih m r T' (by omega) (by omega)]
def zW(h:dec L V sz p=none):iP V sz L D p T=none:=by
 unfold iP;rcases a:sz+1-p with _|m
 . rfl
 . simp only[qB,h,a2d]
def yb(h:dec L V sz p=some (256,q)):iP V sz L D p T=some (T,q):=by
 have hb:=gB h;unfold iP;obtain⟨m,hm⟩:∃g,sz+1-p=g+1:=⟨sz-p,by omega⟩;rw[hm];simp only[qB,h,a0f,a0Y]
def tL(h:dec L V sz p=some (i,q))(a:i≠256):iP V sz L D p T=(oneG V sz D i q).bind fun t=>(fX T t.1).bind fun T'=>iP V sz L D t.2 T':=by
 have hb:=gB h;unfold iP;obtain⟨m,hm⟩:∃g,sz+1-p=g+1:=⟨sz-p,by omega⟩;rw[hm];simp only[qB,h,a0f,a0e a];rcases b:oneG V sz D i q with _|⟨t,r⟩
 . rfl
 .
  simp only[a0f];have c:=vo b hb.1;rcases fX T t with _|T'
  . rfl
  . simp only[a0f];exact Mo m m r T' (by omega) (by omega)
def S2: ∀(f p:Nat) (T T':List UInt8) (q:Nat),qB V sz L D f p T=some (T',q)->q<=sz/\p<q/\(T.length<=300->T'.length<=300):=by
 intro f;induction f with
 | zero=>intro p T T' q h;simp[qB]at h
 | succ f ih=>
  intro p T T' q h;rcases hd:dec L V sz p with _|⟨i,r⟩
  . simp[qB,hd]at h
  .
   have hb:=gB hd;simp only[qB,hd,a0f]at h
   split at h
   . simp only[a0l,a0R]at h;obtain⟨rfl,rfl⟩:=h;exact⟨hb.1,hb.2.1,id⟩
   .
    rcases b:oneG V sz D i r with _|⟨t,u⟩
    . rw[b]at h;simp at h
    .
     rw[b]at h;simp only[a0f]at h;have e:=vo b hb.1;rcases a:fX T t with _|T2
     . rw[a]at h;simp at h
     . rw[a]at h;simp only[a0f]at h;obtain⟨c,h2,d⟩:=ih u T2 T' q h;exact⟨c,by omega,fun _=>d (qJ a)⟩
def Ca{T':List UInt8}(h:iP V sz L D p T=some (T',q)):q<=sz/\p<q/\(T.length<=300->T'.length<=300):=S2 _ _ _ _ _ h
def Aa(w:World)(x y:Value)(t:TypeId)(g:Nat)(a:w.heap.size=g):(w.alloc (.cells #[x,y] t)).cell? ⟨g,0,none⟩=some x/\(w.alloc (.cells #[x,y] t)).cell? ⟨g,1,none⟩=some y:=by
 subst a;simp
def oL(w:World)(b:Nat):Nat:=match w.cell? ⟨b,0,none⟩with|some v=>sliceLen v|none=>0
def oo(a:Option Addr)(cap n:Nat)(l:List Int)(w:World)(hn:l.length=n)(h:bE w a l)(hm:n<=300)(hc:∀i,i<l.length->0<=l.getD i 0/\l.getD i 0<=100000)(h2:1<(aC l l.length).length) :
  Calls prog 183 #[.slice a n cap] w fun e w'=>e = .returned (.slice w.heap.size n n)/\an w' w.heap.size (.slice w.heap.size n n) (cj l)/\Below w.heap.size w w':=by
 have fc:(n:Int)<=300:=by omega
 obtain⟨i0,hi,el,em,en⟩:=a0p Tryz.infoInt;have E:=af (a0b hn (a0b hm (a0b hc h2)));have HR:=af h;have d2:Hid (∀k,(aC l l.length).length-k<=1->(k<(aC l l.length).length∨k=0)->cj l=(az l k).2):=by
  intro k h3 h4;unfold cj;rw[a0e (by omega)]
  congr 2;omega
 clear hc h2 h;go_enter func183,ntmps183;go_wp2_with (at_make;refine a1J _ rfl _ _ 129 rfl w.heap.size 3 i0 (.int .i64 0) 1 a0F hi el em .i64 .i64 _ _ n rfl rfl rfl rfl (by rw[en];omega) (by unfold maxLen;omega) (a0a _) ?_;intro w1 bd V);have cp:an w1 w.heap.size (.slice w.heap.size n n) (List.replicate l.length 0):=by
  rw[hn];exact dJ bd
 have b4:Below w.heap.size w w1:=(a0c _ _).grown V (a0a _) (fun k h=>by cases h);have fk:w.heap.size+1<=w1.heap.size:=cp.below.2;have c5:=af (yO a cap n l w1 hn (HR.later b4) hm);have bk:=af (a0b cp b4);clear bd V hn hm cp b4 hi el em en;apply c5.mono;rintro e w2⟨rfl,L0,va0,vc0,d3,dd,bn,eg,I⟩;have d7:=bk.1.later I (a0a _);have d1:=aj bk.2 I;rw[←E.1]at bn;clear c5 bk;generalize hB:w1.heap.size=B at *;clear hB;go_wp2_with fail
 go_loopw [5,6,7,9] (fun _ _ _ _ wq=>∃(j:Nat) (L:List Grp) (va:Option Addr) (vc:Nat),(j<(aC l l.length).length∨j=0)/\(L.map bare).Perm (az l j).1/\dw wq B (B+1) (.slice va L.length vc) L/\HP L/\eH wq (B+1) L/\an wq w.heap.size (.slice w.heap.size n n) (az l j).2/\Below w.heap.size w wq) (fun _ _ _ _ wq=>oL wq B)
 case atStart=>exact⟨0,L0,va0,vc0,.inr rfl,bn,d3,dd,eg,d7,d1⟩
 case round=>
  obtain⟨j,L,va,vc,hj,hL,hh,hP,hs,hp,d⟩:=hrel;clear bn d3 dd eg d7 d1 I;have HZ:=af (km B (B+1) L.length vc va L wr hh);have ca:L.length=(aC l l.length).length-j:=by
   have O:=hL.length_eq;rw[a0O,(cF l j hj).2.2.2]at O;exact O
  by_cases a7:1<L.length
  .
   obtain⟨q,hq⟩:∃q,L.length=q+2:=⟨L.length-2,by omega⟩;obtain⟨g,rfl⟩:=hh.2.somes (by omega);rw[hq]at HZ;have cr:q+2<=300:=by
    have h2:=qu l l.length;have:=E.1;have:=E.2.1;omega
   have fh:(q:Int)+2<=300:=(by omega);have b8:dw wr B (B+1) (.slice g (q+1+1) vc) L:=by rw[hq]at hh;exact hh
   have c6:=af (Fw B g (q+1) vc L wr hs hq (by omega) b8 hP);have H:=af (a0b hj (a0b hL (a0b b8 (a0b hP (a0b hs (a0b hp (a0b d a7)))))));clear hj hL b8 hP hs hp d a7 ca hh cr;go_wp2_with fail;apply HZ.mono;rintro e y1⟨rfl,ad⟩;rw[ad];clear ad y1;go_wp2_with fail;apply c6.mono;rintro e x1⟨rfl,M1,r,a2,d4,a5,X⟩;have f:Hid (Calls prog 219 #[.pointer B] x1 fun e w'=>e = .returned (.agg #[.int .i64 (M1.getD 0 g0).cnt,.int .i64 (M1.getD 0 g0).fst,(M1.getD 0 g0).val])/\∃M:List Grp,(M1.getD 0 g0 :: M).Perm M1/\HP M/\dw w' B (B+1) (.slice g q vc) M/\Below B x1 w'/\bR 3 x1 w'):=by
    obtain⟨hj,hL,hh,hP,hs,hp,d,a7⟩:=ae H;have a8:M1.length=q+1:=by have:=r.length_eq;simp at this;omega
    exact Fw B g q vc M1 x1 ((X.syms hs).sub (fun y hy=>r.mem_iff.1 (by simp[hy]))) a8 (by omega) d4 a2
   have bl:=af (a0b r (a0b a2 (a0b a5 X)));obtain⟨aa,ac,b3⟩:=(H.2.2.2.2.1 (L.getD 0 g0) (gT L 0 (by omega))).form;rw[b3];have c9:=gT L 0 (by omega);have cu:=af (a0b b3 c9);clear r a2 d4 a5 X b3 c9;generalize c8:L.getD 0 g0=A at *;have cv:=af c8;clear c8;go_wp2_with fail;apply f.mono;rintro e x2⟨rfl,M2,Q,dl,b7,I,d5⟩;have HF:Hid (M1.length=q+1/\M2.length=q/\an x2 (B+1) A.val A.syms/\an x2 (B+1) (M1.getD 0 g0).val (M1.getD 0 g0).syms/\eH x2 (B+1) M2/\an x2 w.heap.size (.slice w.heap.size n n) (az l j).2/\Below w.heap.size w x2/\M2.Perm M2):=by
    obtain⟨hj,hL,hh,hP,hs,hp,d,a7⟩:=ae H;obtain⟨r,a2,a5,X⟩:=ae bl;have a8:M1.length=q+1:=by have:=r.length_eq;simp at this;omega
    have d6:M2.length=q:=by have:=Q.length_eq;simp at this;omega
    have hk:=X.trans d5;have eh:eH x2 (B+1) M1:=(hk.syms hs).sub (fun y hy=>r.mem_iff.1 (by simp[hy]));exact⟨a8,d6,hk.ints (hs _ cu.2),eh _ (gT M1 0 (by omega)),eh.sub (fun y hy=>Q.mem_iff.1 (by simp[hy])),hk.ints hp,(d.trans (a5.mono (by omega))).trans (I.mono (by omega)),a2x _⟩
   have c7:=af (a0b Q (a0b dl b7));obtain⟨ga,gc,b6⟩:=HF.2.2.2.1.form;have D:=af (Oq E.2.2.1 (by rw[E.1];exact E.2.1) H.1 H.2.1 H.2.2.2.1 (by omega) (by rw[ae cv];exact bl.1) bl.2.1 Q);rw[ae cv]at D;rw[b6];have eu:=af b6;have e8:=b7.lt;clear Q dl b7 I d5 b6;generalize M1.getD 0 g0=G at *;clear c6 f HZ;go_wp2_with fail;have a4:Below x2.heap.size x2 (((x2.alloc (.cells #[A.cnt,A.fst,.slice aa A.syms.length ac] 300)).alloc (.cells #[G.cnt,G.fst,.slice ga G.syms.length gc] 300)).alloc (.cells #[.slice aa A.syms.length ac,.slice ga G.syms.length gc] 129)):=
    (cC.alloc (by simp) _).alloc (by simp;omega) _
   have ds:Three (((x2.alloc (.cells #[A.cnt,A.fst,.slice aa A.syms.length ac] 300)).alloc (.cells #[G.cnt,G.fst,.slice ga G.syms.length gc] 300)).alloc (.cells #[.slice aa A.syms.length ac,.slice ga G.syms.length gc] 129)) x2.heap.size (.int .i64 A.cnt) (.int .i64 A.fst) (.slice aa A.syms.length ac):=
    ((rX x2 _ _ _ _).later cC).later cC
   have dv:Three (((x2.alloc (.cells #[A.cnt,A.fst,.slice aa A.syms.length ac] 300)).alloc (.cells #[G.cnt,G.fst,.slice ga G.syms.length gc] 300)).alloc (.cells #[.slice aa A.syms.length ac,.slice ga G.syms.length gc] 129)) (x2.heap.size+1) (.int .i64 G.cnt) (.int .i64 G.fst) (.slice ga G.syms.length gc):=by
    have O:=rX (x2.alloc (.cells #[A.cnt,A.fst,.slice aa A.syms.length ac] 300)) (.int .i64 G.cnt) (.int .i64 G.fst) (.slice ga G.syms.length gc) 300;have e:(x2.alloc (.cells #[A.cnt,A.fst,.slice aa A.syms.length ac] 300)).heap.size=x2.heap.size+1:=(by simp);rw[e]at O;exact O.later cC
   have dq:kf (((x2.alloc (.cells #[A.cnt,A.fst,.slice aa A.syms.length ac] 300)).alloc (.cells #[G.cnt,G.fst,.slice ga G.syms.length gc] 300)).alloc (.cells #[.slice aa A.syms.length ac,.slice ga G.syms.length gc] 129)) (x2.heap.size+1+1) (B+1) [(.slice aa A.syms.length ac,A.syms.map (Value.int .i64)),(.slice ga G.syms.length gc,G.syms.map (Value.int .i64))]:=by
    have ch:=HF.2.2.1.later a4 (a0a _);have co:=HF.2.2.2.1.later a4 (a0a _);rw[cu.1]at ch;rw[ae eu]at co;intro i hi
    match i,hi with
    | 0,_=>exact⟨(Aa _ _ _ _ _ (by simp)).1,_,ch,a1u .i64 _⟩
    | 1,_=>exact⟨(Aa _ _ _ _ _ (by simp)).2,_,co,a1u .i64 _⟩
   have ev:(((x2.alloc (.cells #[A.cnt,A.fst,.slice aa A.syms.length ac] 300)).alloc (.cells #[G.cnt,G.fst,.slice ga G.syms.length gc] 300)).alloc (.cells #[.slice aa A.syms.length ac,.slice ga G.syms.length gc] 129)).heap.size=x2.heap.size+3:=(by simp);generalize ((x2.alloc (.cells #[A.cnt,A.fst,.slice aa A.syms.length ac] 300)).alloc (.cells #[G.cnt,G.fst,.slice ga G.syms.length gc] 300)).alloc (.cells #[.slice aa A.syms.length ac,.slice ga G.syms.length gc] 129)=W3 at *;have C:aR [(Value.slice aa A.syms.length ac,A.syms.map (Value.int .i64)),(Value.slice ga G.syms.length gc,G.syms.map (Value.int .i64))]=(A.syms++G.syms).length:=by simp[aR,dc]
   have R:dQ [(Value.slice aa A.syms.length ac,A.syms.map (Value.int .i64)),(Value.slice ga G.syms.length gc,G.syms.map (Value.int .i64))]=(A.syms++G.syms).map (Value.int .i64):=by simp[dQ]
   refine(sD (x2.heap.size+1+1) (B+1) 2 2 _ W3 rfl (by omega) (by omega) dq (by rw[C];have:=D.2.2.2.2.2.1;omega)).mono ?_;rintro e x3⟨v,rfl,cg,T⟩;rw[C,R]at cg;have b2:an x3 W3.heap.size v (A.syms++G.syms):=cg;have a9:=ds.later T;have ba:=dv.later T;have m:=aj a4 T;have N:Hid (dw x3 B (B+1) (.slice g q vc) M2/\eH x3 (B+1) M2/\an x3 w.heap.size (.slice w.heap.size n n) (az l j).2/\Below w.heap.size w x3/\an x3 W3.heap.size v (A.syms++G.syms)/\Three x3 x2.heap.size (.int .i64 A.cnt) (.int .i64 A.fst) (.slice aa A.syms.length ac)/\Three x3 (x2.heap.size+1) (.int .i64 G.cnt) (.int .i64 G.fst) (.slice ga G.syms.length gc)/\x2.heap.size+3<=x3.heap.size):=by
    obtain⟨a8,d6,ch,co,e4,e3,ey,_⟩:=ae HF;refine⟨c7.2.2.later m,e4.later m (a0a _),e3.later m (a0a _),ey.trans (m.mono (by omega)),b2,a9,ba,?_⟩;have:=T.size;omega
   obtain⟨sa,sc,ej⟩:=b2.form;have a3:Hid ((A.syms++G.syms).length<=300/\0<(A.syms++G.syms).length/\(∀x∈A.syms++G.syms,0<=x/\x<(l.length:Int))):=by
    obtain⟨t1,t2,t3,t4,t5,t6,t7,t8,t9⟩:=ae D;refine⟨t6,?_,t9⟩;rw[a0i];omega
   clear a4 ds dv dq cg T b2 a9 ba m R C;generalize hS:A.syms++G.syms=S at *;clear hS;obtain⟨gs,e0⟩:=(show an x3 W3.heap.size (.slice sa S.length sc) S by rw[←ej];exact N.2.2.2.2.1).somes a3.2.1;subst e0;subst ej;have sI:(S.length:Int)<=300:=by have:=a3.1;omega
   go_wp2_with fail;have e2:=af (wh l (fun i hi=>(E.2.2.1 i hi).2) (by rw[E.1];exact E.2.1) j H.1);have e1:Hid ((j:Int)<=300):=by
    show(j:Int)<=300;have O:=H.1;have h2:=qu l l.length;have:=E.1;have:=E.2.1;omega
   have cy:Hid (oL wr B=q+2):=by
    show oL wr B=q+2;unfold oL;rw[H.2.2.1.cell];rfl
   go_loopw [9,30] (fun _ i wq=>∃t:Nat,t<=S.length/\i = .int .i64 t/\an wq w.heap.size (.slice w.heap.size n n) (bump (az l j).2 (S.take t))/\Touch (some ⟨w.heap.size,0,none⟩) x3 wq/\Below w.heap.size w wq) (fun _ i _=>S.length-(intOf i).toNat)
   case atStart=>exact⟨0,a0g _,rfl,N.2.2.1,Touch.refl _ _,N.2.2.2.1⟩
   case round=>
    obtain⟨t,ht,rfl,J,c,a6⟩:=hrel;have cc:Hid ((bump (az l j).2 (S.take t)).length=n):=by show(bump (az l j).2 (S.take t)).length=n;rw[qR,fj,E.1]
    have ek:Hid (t<=S.length):=ht;clear ht;by_cases Y:t<S.length
    .
     have be:=N.2.2.2.2.1.touch c (kU _ _ (by omega));obtain⟨c0,_,_,_⟩:=be.at rfl Y;have hx:=a3.2.2 (S.getD t 0) (by simp[List.getD,Y]);rw[E.1]at hx;have U:=af (yU (az l j).2 S t Y);have bc:=af (vJ e2 (S.take t));obtain⟨p,eb⟩:=a0r hx.1;rw[eb]at c0 U;have d8:p<n:=(by omega);obtain⟨d0,f0,_,_⟩:=J.at cc d8;have cs:=ae bc p (by rw[ae cc];exact d8);have Z:=J.put (j:=p) cc ((bump (az l j).2 (S.take t)).getD p 0+1);have ei:Hid (bump (az l j).2 (S.take (t+1))=(bump (az l j).2 (S.take t)).set p ((bump (az l j).2 (S.take t)).getD p 0+1)):=by
      show bump (az l j).2 (S.take (t+1))=_;rw[ae U];unfold gN;rw[a0n]
     have fn:(bump (az l j).2 (S.take t)).getD p 0<=100000:=by
      have O:=cs.2;have h2:(S.take t).length<=300:=by rw[a0u];have:=a3.1;omega
      have:=ae e1;omega
     have fl:=cs.1;have bb:=ai a6 (b:=w.heap.size) (o:=p) (a0a _) (.int .i64 ((bump (az l j).2 (S.take t)).getD p 0+1));have ab:=c.set (o:=p) rfl (.int .i64 ((bump (az l j).2 (S.take t)).getD p 0+1));have e7:(p:Int)<(n:Int):=(by omega);rw[←ae ei]at Z;generalize (bump (az l j).2 (S.take t)).getD p 0=y at *;have K:=af (a0b Z (a0b bb ab));have e6:(t:Int)<(S.length:Int):=(by omega);clear Z bb ab ei cs bc U eb hx be c a6 J;go_wp2;go_roundw
     case rel=>exact⟨t+1,by have:=ae ek;omega,by go_num,K.1,K.2.2,K.2.1⟩
     case measure=>simp[intOf];omega
    .
     obtain rfl:t=S.length:=by have:=ae ek;omega
     rw[a0t (a0a _)]at J;obtain⟨h3,s3,_,_,o3,tA,tG,z3⟩:=ae N;have HY:Hid (dw wr B (B+1) (.slice g q vc) M2/\eH wr (B+1) M2/\an wr (B+1) (.slice gs S.length sc) S):=by
      refine⟨⟨(c.2 B (fun g' e=>by simp only[a0l,a0A,a0Q]at e;omega)).trans h3.1,pL h3.2 c (kU _ _ (by omega))⟩,fun y hy=>(s3 y hy).touch c (kU _ _ (by omega)),?_⟩;have h4:=o3.touch c (kU _ _ (by omega));exact an.mono h4 (by omega)
     obtain⟨a0,a1,_,_,_,_,abl⟩:=tA;obtain⟨b0,b1,_,_,_,_,fb⟩:=tG;have a0':=(jq c (p:=⟨x2.heap.size,0,none⟩) (by show x2.heap.size≠w.heap.size;omega)).trans a0;have a1':=(jq c (p:=⟨x2.heap.size,1,none⟩) (by show x2.heap.size≠w.heap.size;omega)).trans a1;have e9:=(jq c (p:=⟨x2.heap.size+1,0,none⟩) (by show x2.heap.size+1≠w.heap.size;omega)).trans b0;have fa:=(jq c (p:=⟨x2.heap.size+1,1,none⟩) (by show x2.heap.size+1≠w.heap.size;omega)).trans b1;obtain⟨t1,t2,t3,t4,t5,t6,t7,t8,t9⟩:=ae D;obtain⟨F,hF⟩:∃F:Int,F=if G.fst<A.fst then G.fst else A.fst:=⟨_,rfl⟩
     rw[←hF]at t2;have f:=af (a0b t1 t2);have al:=af (Eb B q vc (some ⟨g,0,none⟩) M2 ⟨A.cnt+G.cnt,F,S,.slice gs S.length sc⟩ wr HY.2.1 HY.2.2 HF.2.1 (by omega) HY.1 c7.2.1);have ao:=af (a0b J a6);clear h3 s3 o3 z3 a0 a1 b0 b1 c J a6 ev t1 t2 t6 t7 t8 t9;by_cases e5:A.fst<=G.fst
     .
      have P:F=A.fst:=(by rw[hF,a0e (by omega)]);rw[P]at al f;clear hF P;go_wp2_with fail;apply al.mono;rintro e x5⟨rfl,M3,g',c',s,bs,W,b5,z⟩;go_wp2;go_roundw
      case rel=>
       have b9:M3.length=q+1:=by rw[s.length_eq,a0i,HF.2.1];rfl
       have u:=ao.1;refine⟨j+1,M3,some ⟨g',0,none⟩,c',.inl ?_,f.2 M3 _ s,by rw[b9];exact W,bs,?_,?_,ao.2.trans (b5.mono (by omega))⟩
       . have O:=H.2.1.length_eq;rw[a0O,(cF l j H.1).2.2.2]at O;omega
       . exact(((z.syms HY.2.1)).snoc (z.ints HY.2.2)).perm s
       . show an x5 w.heap.size _ (bump (az l j).2 (bp (az l j).1));rw[f.1];exact z.ints u
      case measure=>
       rw[ae cy];unfold oL;rw[W.cell];simp[sliceLen]
     .
      have P:F=G.fst:=(by rw[hF,a0d (by omega)]);rw[P]at al f;clear hF P;go_wp2_with fail;apply al.mono;rintro e x5⟨rfl,M3,g',c',s,bs,W,b5,z⟩;go_wp2;go_roundw
      case rel=>
       have b9:M3.length=q+1:=by rw[s.length_eq,a0i,HF.2.1];rfl
       have u:=ao.1;refine⟨j+1,M3,some ⟨g',0,none⟩,c',.inl ?_,f.2 M3 _ s,by rw[b9];exact W,bs,?_,?_,ao.2.trans (b5.mono (by omega))⟩
       . have O:=H.2.1.length_eq;rw[a0O,(cF l j H.1).2.2.2]at O;omega
       . exact(((z.syms HY.2.1)).snoc (z.ints HY.2.2)).perm s
       . show an x5 w.heap.size _ (bump (az l j).2 (bp (az l j).1));rw[f.1];exact z.ints u
      case measure=>
       rw[ae cy];unfold oL;rw[W.cell];simp[sliceLen]
  . obtain⟨va',vc',hform⟩:∃x y,Value.slice va L.length vc = .slice x L.length y:=⟨_,_,rfl⟩;have ed:=ae d2 j (by omega) hj;rw[←ed]at hp;clear hform;go_wp2_with fail;apply HZ.mono;rintro e y1⟨rfl,ad⟩;rw[ad];clear ad y1;go_wp2;go_ret;exact⟨rfl,hp,d⟩
def xl(h:ci o k<o.getD k 0):ci o (k+1)=o.getD k 0:=by simp only[ci];rw[a0d h]
def Bz(h:¬ ci o k<o.getD k 0):ci o (k+1)=ci o k:=by simp only[ci];rw[a0e h]
def Pj(b:0<=o.getD 0 0):ci o 1=o.getD 0 0:=by
 by_cases h:ci o 0<o.getD 0 0
 . exact xl h
 . have a:ci o 1=ci o 0:=Bz h;have e:ci o 0=0:=rfl;rw[e]at h a;rw[a];exact(Int.le_antisymm (Int.not_lt.1 h) b).symm
def IA(v:Value)(w:World)(n:Nat):Nat:=match v with
 | .slice (some a) _ _=>((List.range n).map (fun i=>(intOf ((w.cell? ⟨a.block,a.off+i,none⟩).getD (.int .i64 0))).toNat)).sum
 | _=>0
def JG{w:World}{a:Option Addr}{c:Nat}(e:l.length=n)(b:1<=n)(h:bE w a l):IA (.slice a n c) w n=lc l:=by
 obtain⟨g,o,rfl,f,d⟩:=h (by omega);unfold IA lc;simp only
 congr 1
 apply a2k
 . simp[e]
 . intro i b h2;simp only[a0O,List.length_range]at b;simp only[List.getElem_map,List.getElem_range];rw[d i (by omega)];simp[intOf,List.getD,show i<l.length by omega]
def xi(a:Option Addr)(cap n:Nat)(o:List Int)(w:World)(t:o.length=n)(h:bE w a o)(r:1<=n)(z:n<=300)(d:∀i,i<o.length->0<=o.getD i 0) :
  Calls prog 179 #[.slice a n cap] w fun e w'=>e = .returned (.int .i64 (ci o n))/\w'=w:=by
 have A:(n:Int)<=300:=by omega
 have x:(1:Int)<=(n:Int):=by omega
 have p:=af (a0b t (a0b r d));obtain⟨g,off,rfl,E,f⟩:=h (by omega);have c0:=f 0 (by omega);have e0:=af (Pj (d 0 (by omega)));rw[a1d]at c0;have v:=af f;clear t h z d f r;generalize B:o.getD 0 0=y0 at *;clear B;go_enter func179,ntmps179;go_wp2_with fail
 go_loop [3,4] (fun m i=>∃k:Nat,1<=k/\k<=n/\i = .int .i64 k/\m = .int .i64 (ci o k)) (fun _ i=>n-(intOf i).toNat)
 case atStart=>exact⟨1,a0a _,p.2.1,rfl,by rw[ae e0]⟩
 case round=>
  obtain⟨k,u,s,rfl,rfl⟩:=hrel;have C:=af (a0b u s);by_cases j:k<n
  .
   have D:=ae v k (by rw[p.1];exact j);have c:=af (fun h=>xl (o:=o) (k:=k) h);have l:=af (fun h=>Bz (o:=o) (k:=k) h);clear s u c0;generalize o.getD k 0=y,ci o k=q at *;by_cases b:q<y
   .
    have e1:=af (ae c b);go_wp2
    go_round
    case rel=>exact⟨k+1,by omega,by omega,by go_num,by rw[ae e1]⟩
    case measure=>simp[intOf];omega
   .
    have e1:=af (ae l b);go_wp2
    go_round
    case rel=>exact⟨k+1,by omega,by omega,by go_num,by rw[ae e1]⟩
    case measure=>simp[intOf];omega
  .
   obtain rfl:k=n:=by omega
   go_wp2;go_ret;exact⟨rfl,rfl⟩
def GK(x:Int)(w:World)(a:0<=x)(b:x<=1000000) :
  Calls prog 184 #[x] w fun e w'=>e = .returned (.int .i64 (jB x))/\w'=w:=by
 go_enter func184,ntmps184;go_wp2;go_ret;exact⟨rfl,rfl⟩
def AJ(a:Option Addr)(cap n:Nat)(l:List Int)(w:World)(H:l.length=n)(h:bE w a l)(G:n<=1048576)(E:okC l) :
  Calls prog 181 #[.slice a n cap,.func (.func 184) #[] #[]] w fun e w'=>∃v,e = .returned v/\an w' w.heap.size v (bG l)/\Below w.heap.size w w':=by
 have M:(n:Int)<=1048576:=by omega
 have p:=af H;have K:=af G;have I:=af E;clear H G E;obtain⟨i0,L,B,C,D⟩:=a0p Tryz.infoInt;go_enter func181,ntmps181;go_wp2_with fail
 go_loopw [5,7,10] (fun o _ i wr=>∃k:Nat,k<=n/\i = .int .i64 k/\an wr w.heap.size o (bG (l.take k))/\Below w.heap.size w wr) (fun _ _ i _=>n-(intOf i).toNat)
 case atStart=>exact⟨0,a0g _,rfl,a1b _ _ _ _,a0c _ _⟩
 case round=>
  obtain⟨k,F,rfl,hq,b⟩:=hrel;have q:=b.size;by_cases m:k<n
  .
   obtain⟨g,o,rfl,N,r⟩:=(h.later b) (by rw[ae p];omega);have c0:=r k (by rw[ae p];exact m);obtain⟨y0,y1⟩:=ae I k (by rw[ae p];exact m);have A:Hid (bG (l.take (k+1))=bG (l.take k)++[jB (l.getD k 0)]):=by
    show _=_;unfold bG;rw[cN l k (by rw[ae p];exact m),a0K];rfl
   have z:Hid ((bG (l.take k)).length=k):=by show _=k;have:=ae p;rw[fq];simp;omega
   have J:=af F;clear r F h;generalize l.getD k 0=y at *;have HP:=af (GK y wr (by omega) (by omega));generalize jB y=R at *;go_wp2_with fail;apply HP.mono;rintro e x1⟨rfl,u⟩;rw[u];clear u x1;have d:Hid ((bG (l.take k)).length+1<=maxLen/\((bG (l.take k)).length+1)*8<=140737488355328):=by
    show _/\_;rw[ae z];have:=ae K;unfold maxLen;omega
   clear HP;go_wp2_with (at_builtin;refine a0w _ rfl _ _ 129 rfl w.heap.size 3 i0 (.int .i64 0) 1 8 a0F L B C D rfl (by decide) _ _ _ rfl (a0o hq _) ⟨wr.heap.size,0,none⟩ 1 1 [.int .i64 R] rfl rfl (cK _ _ rfl _ _) (fD _) d.1 d.2 (ar q _) ?_;intro v' x2 j c s;clear s);have x:=aH (v:=u5) c hq (a0a _) q b;have t:=oY j;rw[←ae A]at t;clear j c hq;go_wp2;go_roundw
   case rel=>exact⟨k+1,by have:=ae J;omega,by go_num,t,x⟩
   case measure=>simp[intOf];omega
  . have f:l.take k=l:=a0t (by rw[ae p];omega);rw[f]at hq;obtain⟨va,vc,rfl⟩:=hq.form;clear f h;go_wp2;go_ret;exact⟨_,rfl,hq,b⟩
def Qf(l:List Int)(k i:Nat)(d:i<k)(c:0<l.getD i 0):∃g∈aC l k,g.fst=(i:Int):=by
 induction k with
 | zero=>omega
 | succ k ih=>
  by_cases e:i=k
  . subst e;refine⟨⟨l.getD i 0,(i:Int),[(i:Int)],.slice none 0 0⟩,?_,rfl⟩;rw[xQ c];simp
  .
   obtain⟨g,a,b⟩:=ih (by omega);refine⟨g,?_,b⟩;simp only[aC]
   split
   . simp[a]
   . exact a
def Qg(l:List Int)(k:Nat):∀g∈aC l k,∃i:Nat,g.fst=(i:Int)/\i<k/\0<l.getD i 0:=by
 induction k with
 | zero=>intro g a;simp[aC]at a
 | succ k ih=>
  intro g a;simp only[aC]at a
  split at a
  .
   rename_i hp;simp only[a03,a09]at a;rcases a with a|rfl
   . obtain⟨i,b,h2,c⟩:=ih g a;exact⟨i,b,by omega,c⟩
   . exact⟨k,rfl,by omega,hp⟩
  . obtain⟨i,b,h2,c⟩:=ih g a;exact⟨i,b,by omega,c⟩
def Bi(m:okC l)(a:(aC l l.length).length=1):cj l=l.map je:=by
 unfold cj;rw[a0d a];obtain⟨x,hx⟩:∃x,aC l l.length=[x]:=by
  cases j:aC l l.length with
  | nil=>rw[j]at a;simp at a
  | cons x t=>rw[j]at a;simp at a;exact⟨x,by rw[a]⟩
 obtain⟨q,hq,p,h⟩:=Qg l l.length x (by rw[hx];simp);rw[hx];simp only[List.getD_cons_zero];rw[hq,a0n];apply a2k
 . simp
 .
  intro i h2 k;have f:i<l.length:=by simpa using k
  have e:l.getD i 0=l[i]:=by simp[List.getD,f]
  have b:=m i f;rw[List.getElem_set,List.getElem_map,List.getElem_replicate];by_cases c:q=i
  .
   subst c;rw[a0d rfl];rw[e]at h b;unfold je
   split<;>omega
  .
   rw[a0e c];have r:¬ 0<l.getD i 0:=by
    intro o;obtain⟨g,d,n⟩:=Qf l l.length i f o;rw[hx]at d;simp only[a09]at d;subst d;rw[hq]at n;omega
   rw[e]at r b;unfold je
   split<;>omega
def Rz{m:Int}(j:1<=m)(b:okC l)(d:(aC l l.length).length=1):dL m l=l.map je:=by
 have g:fits (cj l) m=true:=by
  refine Ja (by omega) ?_;rw[Bi b d];intro i h;have a:i<l.length:=by simpa using h
  have e:(l.map je).getD i 0=je l[i]:=by simp[List.getD,a]
  have e2:l.getD i 0=l[i]:=by simp[List.getD,a]
  have c:=b i a;rw[e2]at c;rw[e];unfold je
  split<;>omega
 rw[←Bi b d];unfold dL;cases lc l with
 | zero=>rfl
 | succ f=>simp only[re];rw[g];rfl
def Sa(b:okC l)(c:l.length<=300)(h2:1<(aC l l.length).length):∀i,i<(cj l).length->0<=(cj l).getD i 0:=by
 intro i a;have e:cj l=(az l ((aC l l.length).length-1)).2:=by unfold cj;rw[a0e (by omega)]
 rw[e]at a ⊢;exact((wh l (fun i a=>(b i a).2) c _ (.inl (by omega))) i a).1
def wj(a:Option Addr)(cap n:Nat)(l:List Int)(m:Int)(w:World)(g:l.length=n)(h:bE w a l)(f:n<=1048576)(c:zy l m=false) :
  Ds 152 #[.slice a n cap,m] w (.slice none 0 0):=by
 have j:=af (nH a cap n l w g h f);by_cases v:m<1
 .
  clear g h f c;generalize jZ l=U at *;go_enter a20,a22;go_wp2_with fail;apply j.mono;rintro e x1⟨rfl,d⟩;rw[d];go_wp2;go_ret;exact⟨rfl,a0c _ _⟩
 .
  by_cases p:15<m
  .
   clear g h f c;generalize jZ l=U at *;go_enter a20,a22;go_wp2_with fail;apply j.mono;rintro e x1⟨rfl,d⟩;rw[d];go_wp2;go_ret;exact⟨rfl,a0c _ _⟩
  .
   by_cases i:jZ l<1
   .
    clear g h f c;generalize jZ l=U at *;go_enter a20,a22;go_wp2_with fail;apply j.mono;rintro e x1⟨rfl,d⟩;rw[d];go_wp2;go_ret;exact⟨rfl,a0c _ _⟩
   .
    obtain⟨mm,rfl⟩:∃mm:Nat,m=(mm:Int)+1:=⟨(m-1).toNat,by omega⟩;have b:(decide (l.length<=300)&&inC l)=true:=by
     cases u:decide (l.length<=300)&&inC l
     . exfalso;apply i;unfold jZ;rw[u];simp
     . rfl
    have k:(p2 mm:Int)<jZ l:=by
     simp only[a0k,a0v]at b;rw[pr b.1 b.2]at i ⊢;unfold zy at c;rw[a0B b.1,b.2,aI.2 ⟨by omega,by omega⟩]at c;have e3:((mm:Int)+1).toNat=mm+1:=(by omega);rw[e3,BJ]at c;simp only[a29]at c;have:=fs.1 c;omega
    have s:jZ l<=300:=by
     simp only[a0k,a0v]at b;rw[pr b.1 b.2];have:=uD l;omega
    have r:(1:Int)*2 ^ mm=(p2 mm:Int):=(by rw[Int.one_mul,lP]);have o:(2:Int) ^ mm=(p2 mm:Int):=(lP mm).symm;have q:(mm:Int)<=14:=(by omega);have t:IntKind.i64.wrap (p2 mm:Int)=(p2 mm:Int):=bW _ (by omega) (by omega);clear g h f c b;generalize jZ l=U,p2 mm=PW at *;go_enter a20,a22;go_wp2_with fail;apply j.mono;rintro e x1⟨rfl,d⟩;rw[d];go_wp2;go_ret;exact⟨rfl,a0c _ _⟩
def wN(o:List Int)(i:Nat):Nat:=(o.getD i 0).toNat
def Pf(l:List Int)(i:Nat)(h:i<l.length):l.getD i 0∈l:=by simp[List.getD,h]
def zk(h2:2<=(aC l l.length).length) :
  (∀i,i<l.length->0<=(cj l).getD i 0/\(cj l).getD i 0<=(((aC l l.length).length-1:Nat):Int)) /\
  (∀i,i<l.length->(0<(cj l).getD i 0<->0<l.getD i 0)) /\
  (∀D,(aC l l.length).length<=D->krR l (wN (cj l)) D l.length=2 ^ D) /\
  qX l (cj l) l.length=tS ((aC l l.length).length-1) (aC l l.length):=by
 obtain⟨U,hU⟩:∃U,(aC l l.length).length=U+2:=⟨(aC l l.length).length-2,by omega⟩;have A:cj l=(az l (U+1)).2:=by
  unfold cj;rw[a0e (by omega),hU];rfl
 have k:U+1<(aC l l.length).length∨U+1=0:=.inl (by omega);have m:=mO l (U+1) k;have b:(az l (U+1)).1.length=1:=by have:=(cF l (U+1) k).2.2.2;omega
 have B:(az l U).1.length=2:=by have:=(cF l U (by omega)).2.2.2;omega
 obtain⟨g,hg⟩:∃g,(az l (U+1)).1=[g]:=by
  cases v:(az l (U+1)).1 with
  | nil=>rw[v]at b;simp at b
  | cons x t=>rw[v]at b;simp at b;exact⟨x,by rw[b]⟩
 have a:=oU l (U+1) k;have p:(g.syms).Perm (bD (aC l l.length)):=by
  rw[hg]at a
  simpa[bD]using a
 rw[A];refine⟨?_,?_,?_,?_⟩
 .
  intro i h;have:=m i (by rw[fj];exact h);refine⟨this.1,?_⟩;have e:(((aC l l.length).length-1:Nat):Int)=((U+1:Nat):Int):=by rw[hU];omega
  rw[e];exact this.2
 .
  intro i h;constructor
  .
   intro u;apply Classical.byContradiction;intro C;have H:=zj l i h (fun q=>by
    obtain⟨j,d,s,w⟩:=(Dy l l.length (i:Int)).1 q;have:i=j:=by omega
    subst this;exact C w) (U+1) k
   omega
  .
   intro u;have q:(i:Int)∈bD (aC l l.length):=(Dy l l.length (i:Int)).2 ⟨i,rfl,h,u⟩;have f:1<(az l U).1.length:=(by omega);have n:=i6 l U (by omega);have c:=kT _ f;have G:=dP (az l U).1 (by omega);have E:=dP (au (az l U).1) (by omega);have o:au (au (az l U).1)=[]:=a2s (by omega);rw[o]at c;have r:(i:Int)∈bp (az l U).1:=by
    have d:=(oU l U (by omega)).mem_iff.2 q;have s:=c.mem_iff.2 d;simpa[bD]using s
   have hb:=nG (az l U).2 (bp (az l U).1) i (kS f n.1).1 (fun y F=>(n.2 y (c.mem_iff.1 (by simp[F]))).1) (by rw[fj];exact h);rw[a0d r]at hb;have hd:=(mO l U (by omega)) i (by rw[fj];exact h);show 0<(bump (az l U).2 (bp (az l U).1)).getD i 0;omega
 . intro D z;have d:=RY l D z (U+1) k g (by rw[hg];simp);rw[←yr,←d];exact(LF _ p).symm
 .
  have d:=RV l (U+1) k;have e:(aC l l.length).length-1-(U+1)=0:=by omega
  rw[e]at d;simp only[tS,Int.add_zero]at d;exact d
def OH{len:Nat->Nat}{D E:Nat}(b:E<=D)(h:∀i,i<n->0<l.getD i 0->len i<=E):krR l len D n=2 ^ (D-E)*krR l len E n:=by
 induction n with
 | zero=>rfl
 | succ n ih=>
  simp only[krR];rw[ih (fun i c=>h i (by omega)),a2r];by_cases a:0<l.getD n 0
  .
   rw[a0d a,a0d a];have:=h n (by omega) a;rw[←a0T]
   congr 2
   omega
  . rw[a0e a,a0e a];rfl
def OI{E:Nat}(h2:2<=(aC l l.length).length)(h:∀i,i<l.length->(cj l).getD i 0<=(E:Int)):krR l (wN (cj l)) E l.length=2 ^ E:=by
 obtain⟨e,_,d,_⟩:=zk h2;have b:∀i,i<l.length->0<l.getD i 0->wN (cj l) i<=E:=by
  intro i c _;have:=h i c;unfold wN;omega
 have a:=OH (D:=E+(aC l l.length).length) (Nat.le_add_right _ _) b;rw[d _ (Nat.le_add_left _ _),a1t,a0T,a1j]at a;exact(Nat.eq_of_mul_eq_mul_left (Nat.pow_pos (by omega)) a).symm
def Sd(e:o.length=l.length)(h:∀i,i<l.length->(0<o.getD i 0<->0<l.getD i 0))(k:Nat)(d:k<=l.length):kr (o.take k)=krR l (wN o) 15 k/\us (o.take k)=(aC l k).length:=by
 induction k with
 | zero=>exact⟨rfl,rfl⟩
 | succ k ih=>
  obtain⟨c,h2⟩:=ih (by omega);rw[Bl o k (by omega),rZ o k (by omega),c,h2];simp only[krR];have b:=h k (by omega);by_cases a:0<l.getD k 0
  .
   rw[a0d a,a0d (b.2 a),kF a];refine⟨?_,by simp⟩;unfold krN wN p2;rw[a0d (b.2 a)]
   congr 2
   have:=b.2 a;omega
  . rw[a0e a,a0e (fun x=>a (b.1 x)),oA a];refine⟨?_,rfl⟩;unfold krN;rw[a0e (fun x=>a (b.1 x))]
def FQ(c:o.length=l.length)(j:l.length<=300)(h:∀i,i<l.length->(0<o.getD i 0<->0<l.getD i 0))(b:∀i,i<l.length->0<=o.getD i 0/\o.getD i 0<=15)(a:krR l (wN o) 15 l.length=32768∨((aC l l.length).length=1/\krR l (wN o) 15 l.length=16384)):ap o=true:=by
 obtain⟨d,h2⟩:=Sd c h l.length (a0a _);rw[←c,a2y,c]at d h2;unfold ap nd;simp only[a0k,a1m,a0v];refine⟨⟨?_,by omega⟩,?_⟩
 .
  unfold inL;rw[a1c];intro x g;obtain⟨i,f,rfl⟩:=a1M g;have:=b i (by omega);have e:o.getD i 0=o[i]:=by simp[List.getD,f]
  rw[e]at this;exact aI.2 this
 .
  rw[d,h2];rcases a with a|a
  . exact .inl a
  . exact .inr a
def Jm(o:List Int)(k i:Nat)(a:i<k):o.getD i 0<=ci o k:=by
 induction k with
 | zero=>omega
 | succ k ih=>
  by_cases h:ci o k<o.getD k 0
  .
   rw[xl h];by_cases e:i=k
   . subst e;exact a2L _
   . have:=ih (by omega);omega
  .
   rw[Bz h];by_cases e:i=k
   . subst e;omega
   . exact ih (by omega)
def KC(m:Nat):∀(f:Nat) (l:List Int),okC l->1<=(aC l l.length).length->(aC l l.length).length<=p2 m->lc l<=f ->
  ∃c:List Int,c.length=l.length/\okC c/\(∀i,i<l.length->(0<c.getD i 0<->0<l.getD i 0))/\re ((m:Int)+1) f l=cj c/\(∀i,i<l.length->(cj c).getD i 0<=(m:Int)+1)/\(aC c c.length).length=(aC l l.length).length:=by
 intro f;induction f with
 | zero=>
  intro l e k _ v;exfalso;obtain⟨g,u⟩:∃g,g∈aC l l.length:=by
   cases b:aC l l.length with
   | nil=>rw[b]at k;simp at k
   | cons x t=>exact⟨x,by simp⟩
  obtain⟨_,i,_,d,q,_⟩:=rQ l l.length g u;have:∀(a:List Int) (x:Int),x∈a->0<x->0<lc a:=by
   intro a x j q;induction a with
   | nil=>cases j
   | cons y a ih=>
    simp only[lc,a0D,a0N]at ih ⊢;simp only[a02]at j;rcases j with rfl|j
    . omega
    . have:=ih j;omega
  have:=this l (l.getD i 0) (Pf l i d) q;omega
 | succ f ih=>
  intro l e k p v;cases h:fits (cj l) ((m:Int)+1)
  .
   have hex:=xt p h;have r:=(xV l (BF e)).2 hex;have b:=tu l (fun i d=>(e i d).1) l.length (a0a _);obtain⟨c,c1,c2,c3,c4,n,o⟩:=ih (bG l) (xw e) (by rw[fq,b];exact k) (by rw[fq,b];exact p) (by omega);rw[fq]at c1 c3 n o;refine⟨c,c1,c2,?_,?_,n,by rw[o,b]⟩
   . intro i d;rw[c3 i d,sN l i d];unfold jB;have:=(e i d).1;omega
   . simp only[re];rw[h];exact c4
  .
   refine⟨l,rfl,e,fun i _=>Iff.rfl,?_,?_,rfl⟩
   . simp only[re];rw[h];rfl
   . intro i d;unfold fits at h;have s:=a3y h;rw[jC]at s;have:=Jm (cj l) l.length i d;omega
def zB{c:List Int}(d:okC c)(g:(aC c c.length).length=1)(i:Nat)(b:i<c.length):(cj c).getD i 0=if 0<c.getD i 0 then 1 else 0:=by
 rw[Bi d g];have e:(c.map je).getD i 0=je c[i]:=by simp[List.getD,b]
 have e2:c.getD i 0=c[i]:=by simp[List.getD,b]
 have a:=d i b;rw[e2]at a ⊢;rw[e];unfold je;by_cases f:0<c[i]
 . rw[a0d f];split<;>omega
 . rw[a0e f];split<;>omega
def Uc{c:List Int}(d:okC c)(k:Nat)(f:k<=c.length)(b:(aC c c.length).length=1):krR c (wN (cj c)) 15 k=(aC c k).length*16384:=by
 induction k with
 | zero=>simp[krR,aC]
 | succ k ih=>
  simp only[krR];rw[ih (by omega)];have h:=zB d b k (by omega);by_cases a:0<c.getD k 0
  .
   rw[a0d a,kF a];have e:wN (cj c) k=1:=by unfold wN;rw[h,a0d a];rfl
   have e2:(2:Nat) ^ (15-1)=16384:=(by decide);rw[e,e2,a0i,a1l,a1y,a2P]
  . rw[a0e a,oA a,a1d]
def wS{m:Nat}(p:okC l)(s:l.length<=300)(n:1<=(aC l l.length).length)(o:(aC l l.length).length<=p2 m)(t:m<=14) :
  (dL ((m:Int)+1) l).length=l.length/\ap (dL ((m:Int)+1) l)=true/\∀i,i<l.length->0<=(dL ((m:Int)+1) l).getD i 0/\(dL ((m:Int)+1) l).getD i 0<=(m:Int)+1/\(0<(dL ((m:Int)+1) l).getD i 0<->0<l.getD i 0):=by
 obtain⟨c,c1,c2,c3,c4,j,r⟩:=KC m (lc l) l p n o (a0a _);have e:dL ((m:Int)+1) l=cj c:=c4;rw[e];by_cases b:(aC c c.length).length=1
 .
  have q:=zB c2 b;have d:∀i,i<l.length->0<=(cj c).getD i 0/\(cj c).getD i 0<=1/\(0<(cj c).getD i 0<->0<l.getD i 0):=by
   intro i a;have h:=q i (by omega);have k:=c3 i a;by_cases g:0<c.getD i 0
   . rw[a0d g]at h;rw[h];exact⟨by omega,by omega,⟨fun _=>k.1 g,fun _=>by omega⟩⟩
   . rw[a0e g]at h;rw[h];exact⟨by omega,by omega,⟨fun x=>by omega,fun x=>absurd (k.2 x) g⟩⟩
  refine⟨by rw[jC,c1],?_,fun i a=>⟨(d i a).1,j i a,(d i a).2.2⟩⟩;refine FQ (l:=c) (jC c) (by omega) ?_ ?_ (.inr ⟨b,by rw[Uc c2 _ (a0a _) b,b]⟩)
  . intro i a;exact(d i (by omega)).2.2.trans (c3 i (by omega)).symm
  . intro i a;have:=d i (by omega);exact⟨this.1,by omega⟩
 .
  have h2:2<=(aC c c.length).length:=by omega
  obtain⟨f0,f1,_,_⟩:=zk h2;refine⟨by rw[jC,c1],?_,fun i a=>⟨(f0 i (by omega)).1,j i a,(f1 i (by omega)).trans (c3 i a)⟩⟩;have f:∀i,i<c.length->(cj c).getD i 0<=((15:Nat):Int):=fun i a=>by have:=j i (by omega);omega
  refine FQ (l:=c) (jC c) (by omega) f1 (fun i a=>⟨(f0 i a).1,f i a⟩) (.inl (OI h2 f))
def wk(a:Option Addr)(cap n mm:Nat)(l:List Int)(w:World)(M:l.length=n)(h:bE w a l)(hm:n<=300)(hc:inC l=true)(Z:mm<=14)(al:1<=us l)(P:us l<=p2 mm) :
  Calls prog 152 #[.slice a n cap,.int .i64 ((mm:Int)+1)] w fun e w'=>(∃v,e = .returned v/\an w' w.heap.size v (dL ((mm:Int)+1) l))/\Below w.heap.size w w':=by
 have Y:=uD l;have HU:=af (nH a cap n l w M h (by omega));rw[pr (by omega) hc]at HU;have a4:(us l:Int)<=300:=by omega
 have a2:(1:Int)<=(us l:Int):=by omega
 have a3:(us l:Int)<=(p2 mm:Int):=by omega
 have bb:(1:Int)*2 ^ mm=(p2 mm:Int):=by rw[Int.one_mul,lP]
 have a9:(2:Int) ^ mm=(p2 mm:Int):=(lP mm).symm;have ba:(mm:Int)<=14:=by omega
 have ab:p2 mm<=16384:=by
  have h1:p2 mm<=p2 14:=a0P (by omega) (by omega);have h2:p2 14=16384:=rfl;omega
 have bc:IntKind.i64.wrap (p2 mm:Int)=(p2 mm:Int):=bW _ (by omega) (by omega);have y:=Um hc;by_cases s:us l=1
 .
  have HE:=af (Dn a cap n l w M h (by omega) y);have j:Hid (dL ((mm:Int)+1) l=l.map je):=Rz (by omega) y (by rw[fT];exact s);rw[s]at a3 HU;have Hn:=af M;clear M h hm hc Z al P Y a4 a2 s y ab;generalize p2 mm=PW at *;go_enter a20,a22;go_wp2_with fail;apply HU.mono;rintro e x1⟨rfl,E⟩;rw[E];clear E x1;go_wp2_with fail;apply HE.mono;rintro e x2⟨v,rfl,ho,hb⟩;obtain⟨va,vc,rfl⟩:=ho.formN (n:=n) (by rw[a0O,ae Hn]);go_wp2;go_ret;exact⟨⟨_,rfl,by rw[ae j];exact ho⟩,hb⟩
 .
  have a8:((us l:Int) == 1)=false:=by simp;omega
  have O:1<(aC l l.length).length:=by rw[fT];omega
  have HN:=af (a0b M (a0b hm (a0b y (show(aC l l.length).length<=p2 mm by rw[fT];exact P))));have N:Hid (1<=n):=by show 1<=n;omega
  have HP:=af (oo a cap n l w M h hm y O);have HH:=af (a0b h O);clear M h hm hc Z al P Y s y ab O;have r:Hid (n<=300):=HN.2.1;generalize us l=U,V:p2 mm=PW at *;have R:=af V;clear V;go_enter a20,a22;go_wp2_with fail;apply HU.mono;rintro e x1⟨rfl,E⟩;rw[E];clear E x1;go_wp2_with fail;apply HP.mono;rintro e x2⟨rfl,ho,hb⟩;go_wp2_with fail
  go_loopw [0,6] (fun c v wr=>∃(b:List Int) (f ob T:Nat) (S:Option Addr),b.length=n/\okC b/\(aC b b.length).length<=PW/\1<(aC b b.length).length/\lc b<=f/\dL ((mm:Int)+1) l=re ((mm:Int)+1) f b/\c = .slice S n T/\v = .slice ob n n/\w.heap.size<=ob/\an wr ob (.slice ob n n) (cj b)/\bE wr S b/\Below w.heap.size w wr) (fun c _ wr=>IA c wr n)
  case atStart=>exact⟨l,lc l,w.heap.size,cap,a,HN.1,HN.2.2.1,HN.2.2.2,HH.2,a0a _,rfl,rfl,rfl,a0a _,ho,HH.1.later hb,hb⟩
  case round=>
   obtain⟨b,f,ob,T,S,k,g,p,u,H,j,rfl,rfl,J,D,B,q⟩:=hrel;clear ho hb;have m:(cj b).length=n:=(jC b).trans k;have Q:=af (xi (some ⟨ob,0,none⟩) n n (cj b) wr m (D.rowN m) N r (Sa g (by rw[k];exact r) u));have C:Hid (fits (cj b) ((mm:Int)+1)=decide (ci (cj b) n<=(mm:Int)+1)):=by show _=_;unfold fits;rw[m]
   have HQ:=af (a0b k (a0b g (a0b p (a0b u (a0b H j)))));have HO:=af (a0b D (a0b B (a0b q J)));have HE:=af (AJ S T n b wr k B (by have:=ae r;omega) g);have HS:=af (JG (c:=T) k N B);clear k g p u H j m D B q J;generalize ci (cj b) n=mo at *;by_cases a7:(mm:Int)+1<mo
   .
    have I:fits (cj b) ((mm:Int)+1)=false:=by rw[ae C];exact a0m (by omega)
    obtain⟨k,g,p,u,H,j⟩:=ae HQ;rw[←ae R]at p;have hex:=xt p I;have K:=(xV b (BF g)).2 hex;obtain⟨f',hff⟩:∃f',f=f'+1:=⟨f-1,by omega⟩;have L:Hid (dL ((mm:Int)+1) l=re ((mm:Int)+1) f' (bG b)):=by
     show _=_;rw[j,hff];simp only[re];rw[I];rfl
    have X:Hid (lc (bG b)<=f'):=by show _<=_;omega
    have a0:=af K;have A:=af (xw g);have ad:=tu b (fun i hi=>(g i hi).1) b.length (a0a _);have z:Hid ((aC (bG b) (bG b).length).length<=PW/\1<(aC (bG b) (bG b).length).length):=by
     show _/\_;rw[fq,ad,←ae R];exact⟨p,u⟩
    have o:Hid ((bG b).length=n):=(fq b).trans k;clear k g p H j hex K hff ad u;go_wp2_with fail;apply Q.mono;rintro e x3⟨rfl,F⟩;rw[F];clear F x3;go_wp2_with fail;apply HE.mono;rintro e x4⟨v,rfl,x,W⟩;obtain⟨va,vc,rfl⟩:=x.formN o;have d:=x.rowN o;have t:Below w.heap.size w x4:=aj HO.2.2.1 W;have ao:=af (oo va vc n (bG b) x4 o d r A z.2);have a1:=af (a0b x (a0b t d));clear x W d t;go_wp2_with fail;apply ao.mono;rintro e x5⟨rfl,aa,G⟩;obtain⟨x,t,d⟩:=ae a1;have a5:Hid (IA (.slice va n vc) x5 n<IA (.slice S n T) wr n):=by
     show IA _ _ _<IA _ _ _;rw[JG o N (d.later G),ae HS];exact a0
    have HR:=af (a0b aa (a0b (d.later G) (aj t G)));have a6:Hid (w.heap.size<=x4.heap.size):=t.size;clear x t d aa G;go_wp2;go_roundw
    case rel=>exact⟨bG b,f',x4.heap.size,vc,va,o,A,z.1,z.2,X,L,rfl,rfl,a6,HR.1,HR.2.1,HR.2.2⟩
    case measure=>exact a5
   .
    have I:fits (cj b) ((mm:Int)+1)=true:=by rw[ae C];exact a0B (by omega)
    have ac:Hid (dL ((mm:Int)+1) l=cj b):=by
     show _=_;rw[HQ.2.2.2.2.2];cases f with
     | zero=>rfl
     | succ f=>simp only[re];rw[I];rfl
    go_wp2_with fail;apply Q.mono;rintro e x3⟨rfl,F⟩;rw[F];clear F x3;obtain⟨D,B,q,J⟩:=ae HO;go_wp2;go_ret;exact⟨⟨_,rfl,by rw[ae ac];exact D.mono J⟩,q⟩
def kJ(a:Option Addr)(cap n:Nat)(l:List Int)(m:Int)(w:World)(i:l.length=n)(h:bE w a l)(j:n<=1048576) :
  Calls prog 152 #[.slice a n cap,m] w fun e w'=>(∃v,e = .returned v/\an w' w.heap.size v (lm l m))/\Below w.heap.size w w':=by
 cases b:zy l m
 . apply(wj a cap n l m w i h j b).mono;rintro e w'⟨rfl,hb⟩;refine⟨⟨_,rfl,?_⟩,hb⟩;unfold lm;rw[b];exact a1b _ _ _ _
 .
  have f:=b;unfold zy at f;simp only[a0k,a0v]at f;obtain⟨⟨⟨k,g⟩,d⟩,c⟩:=f;obtain⟨m1,m2⟩:=aI.1 g;obtain⟨mm,rfl⟩:∃mm:Nat,m=(mm:Int)+1:=⟨(m-1).toNat,by omega⟩;have e3:((mm:Int)+1).toNat=mm+1:=by omega
  rw[e3,BJ]at c;obtain⟨u1,u2⟩:=aI.1 c;have:=wk a cap n mm l w i h (by omega) d (by omega) (by omega) (by omega);unfold lm;rw[b];exact this
