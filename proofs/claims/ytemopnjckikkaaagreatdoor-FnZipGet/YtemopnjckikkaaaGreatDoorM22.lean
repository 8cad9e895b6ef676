/- Texts. -/
import Derived.Test.YtemopnjckikkaaaGreatDoorM20
import Derived.Test.YtemopnjckikkaaaGreatDoorM11
import Derived.Test.YtemopnjckikkaaaGreatDoorM18
import Derived.Test.YtemopnjckikkaaaGreatDoorM15
set_option linter.all false
set_option maxRecDepth 100000
set_option maxHeartbeats 6400000
namespace Go.Proofs.YtemopnjckikkaaaGreatDoor
open Go.Proofs.Tryz
open Go.RowKit Corb
variable {D L l o:List Int}{T:List UInt8}{V k n p q r sz:Nat}{i:Int}
def Oe{f:Nat}(b:n+f=15)(d:nx l n<=cd V p n)(h:nY l V sz p f n=some (i,q)):q<=sz/\p<q/\0<=i/\i<(l.length:Int):=by
 induction f generalizing n with
 | zero=>simp[nY]at h
 | succ f ih=>
  by_cases a:sz<p+n+1
  . rw[oG a]at h;cases h
  .
   by_cases h2:cd V p (n+1)<nx l (n+1)
   . rw[pu a h2]at h;simp only[a0j,a0O]at h;obtain⟨rfl,rfl⟩:=h;obtain⟨k,g,_,_,e⟩:=rB (l:=l) (n:=n) (c:=cd V p (n+1)) (by omega) (by simp only[cd];omega) h2;rw[e];omega
   . rw[nw a h2]at h;exact ih (by omega) (by omega) h
def fO(h:dec l V sz p=some (i,q)):q<=sz/\p<q/\0<=i/\i<(l.length:Int):=Oe rfl (a0f _) h
def rdN(V sz p k:Nat):Option (Nat×Nat):=if p+k<=sz then some (V/2 ^ p%2 ^ k,p+k)else none
def cS(h:p+k<=sz):rdN V sz p k=some (V/2 ^ p%2 ^ k,p+k):=a0c h
def fj(h:¬ p+k<=sz):rdN V sz p k=none:=a0d h
def bJ{x:Nat}(h:rdN V sz p k=some (x,q)):q<=sz/\q=p+k/\x=V/2 ^ p%2 ^ k/\x<2 ^ k:=by
 unfold rdN at h
 split at h
 . simp only[a0j,a0O]at h;obtain⟨rfl,rfl⟩:=h;exact⟨by assumption,rfl,rfl,a0U _ (a1f k)⟩
 . cases h
def scG(V sz least group many k q:Nat):Option (Nat×Nat):=if k<many then(rdN V sz q (stF least group k).2).bind fun x=>some ((stF least group k).1+x.1,x.2)else none
def fU(V sz:Nat)(D:List Int)(k q:Nat):Option (Tk×Nat):=
 (scG V sz 3 4 28 k q).bind fun a=>(dec D V sz a.2).bind fun j=>(scG V sz 1 2 30 j.1.toNat j.2).bind fun c=>some ((0,((a.1:Nat):Int),((c.1:Nat):Int)),c.2)
def oneG(V sz:Nat)(D:List Int)(k:Int)(q:Nat):Option (Tk×Nat):=if k<256 then some ((k,0,0),q)else fU V sz D (k.toNat-257) q
def Fh{least group many x:Nat}(h:scG V sz least group many k q=some (x,r)):r<=sz/\q<=r:=by
 unfold scG at h
 split at h
 .
  rcases a:rdN V sz q (stF least group k).2 with _|⟨y,t⟩
  . rw[a]at h;cases h
  . rw[a]at h;simp only[a0e,a0j,a0O]at h;have:=bJ a;omega
 . cases h
def zD{t:Tk}(h:fU V sz D k q=some (t,r)):r<=sz/\q<=r:=by
 unfold fU at h;rcases b:scG V sz 3 4 28 k q with _|⟨a,a2⟩
 . rw[b]at h;cases h
 rw[b]at h;simp only[a0e]at h;rcases h2:dec D V sz a2 with _|⟨j,j2⟩
 . rw[h2]at h;cases h
 rw[h2]at h;simp only[a0e]at h;rcases d:scG V sz 1 2 30 j.toNat j2 with _|⟨c,c2⟩
 . rw[d]at h;cases h
 rw[d]at h;simp only[a0e,a0j,a0O]at h;have e:=Fh b;have f:=fO h2;have g:=Fh d;omega
def ti{k:Int}{t:Tk}(h:oneG V sz D k q=some (t,r))(hq:q<=sz):r<=sz/\q<=r:=by
 unfold oneG at h
 split at h
 . simp only[a0j,a0O]at h;omega
 . exact zD h
def pa(V sz:Nat)(L D:List Int):Nat->Nat->List UInt8->Option (List UInt8×Nat)
 | 0,_,_=>none
 | f+1,p,T=>(dec L V sz p).bind fun k=>if k.1=256 then some (T,k.2)else(oneG V sz D k.1 k.2).bind fun t=>(fs T t.1).bind fun T'=>pa V sz L D f t.2 T'
def hH(V sz:Nat)(L D:List Int)(p:Nat)(T:List UInt8):Option (List UInt8×Nat):=pa V sz L D (sz+1-p) p T
def Ju: ∀(n f p:Nat) (T:List UInt8),sz+1-p<=n->sz+1-p<=f->pa V sz L D f p T=pa V sz L D (sz+1-p) p T:=by
 intro n;induction n with
 | zero=>
  intro f p T b h2;have e:sz+1-p=0:=by omega
  rw[e];cases f with
  | zero=>rfl
  | succ f=>
   have hd:dec L V sz p=none:=by
    rcases h:dec L V sz p with _|⟨i,q⟩
    . rfl
    . have:=fO h;omega
   simp only[pa,hd,a1X]
 | succ n ih=>
  intro f p T b h2;rcases hd:dec L V sz p with _|⟨i,q⟩
  .
   cases f with
   | zero=>rw[show sz+1-p=0 by omega]
   | succ f=>
    rcases a:sz+1-p with _|m
    . simp only[pa,hd,a1X]
    . simp only[pa,hd,a1X]
  .
   have hb:=fO hd;obtain⟨f',rfl⟩:∃g,f=g+1:=⟨f-1,by omega⟩;obtain⟨m,a⟩:∃g,sz+1-p=g+1:=⟨sz-p,by omega⟩;rw[a];simp only[pa,hd,a0e]
   split
   . rfl
   .
    rcases c:oneG V sz D i q with _|⟨t,r⟩
    . rfl
    .
     simp only[a0e];have d:=ti c hb.1;rcases fs T t with _|T'
     . rfl
     . simp only[a0e];rw[ih f' r T' (by omega) (by omega),ih m r T' (by omega) (by omega)]
def xM(h:dec L V sz p=none):hH V sz L D p T=none:=by
 unfold hH;rcases a:sz+1-p with _|m
 . rfl
 . simp only[pa,h,a1X]
def vN(h:dec L V sz p=some (256,q)):hH V sz L D p T=some (T,q):=by
 have hb:=fO h;unfold hH;obtain⟨m,hm⟩:∃g,sz+1-p=g+1:=⟨sz-p,by omega⟩;rw[hm];simp only[pa,h,a0e,a0S]
def rF(h:dec L V sz p=some (i,q))(a:i≠256):hH V sz L D p T=(oneG V sz D i q).bind fun t=>(fs T t.1).bind fun T'=>hH V sz L D t.2 T':=by
 have hb:=fO h;unfold hH;obtain⟨m,hm⟩:∃g,sz+1-p=g+1:=⟨sz-p,by omega⟩;rw[hm];simp only[pa,h,a0e,a0d a];rcases b:oneG V sz D i q with _|⟨t,r⟩
 . rfl
 .
  simp only[a0e];have c:=ti b hb.1;rcases fs T t with _|T'
  . rfl
  . simp only[a0e];exact Ju m m r T' (by omega) (by omega)
def PH: ∀(f p:Nat) (T T':List UInt8) (q:Nat),pa V sz L D f p T=some (T',q)->q<=sz/\p<q/\(T.length<=300->T'.length<=300):=by
 intro f;induction f with
 | zero=>intro p T T' q h;simp[pa]at h
 | succ f ih=>
  intro p T T' q h;rcases hd:dec L V sz p with _|⟨i,r⟩
  . simp[pa,hd]at h
  .
   have hb:=fO hd;simp only[pa,hd,a0e]at h
   split at h
   . simp only[a0j,a0O]at h;obtain⟨rfl,rfl⟩:=h;exact⟨hb.1,hb.2.1,id⟩
   .
    rcases b:oneG V sz D i r with _|⟨t,u⟩
    . rw[b]at h;simp at h
    .
     rw[b]at h;simp only[a0e]at h;have e:=ti b hb.1;rcases a:fs T t with _|T2
     . rw[a]at h;simp at h
     . rw[a]at h;simp only[a0e]at h;obtain⟨c,h2,d⟩:=ih u T2 T' q h;exact⟨c,by omega,fun _=>d (pi a)⟩
def zo{T':List UInt8}(h:hH V sz L D p T=some (T',q)):q<=sz/\p<q/\(T.length<=300->T'.length<=300):=PH _ _ _ _ _ h
def xR(w:World)(x y:Value)(t:TypeId)(g:Nat)(a:w.heap.size=g):(w.alloc (.cells #[x,y] t)).cell? ⟨g,0,none⟩=some x/\(w.alloc (.cells #[x,y] t)).cell? ⟨g,1,none⟩=some y:=by
 subst a;simp
def np(w:World)(b:Nat):Nat:=match w.cell? ⟨b,0,none⟩with|some v=>sliceLen v|none=>0
def mV(a:Option Addr)(cap n:Nat)(l:List Int)(w:World)(hn:l.length=n)(h:br w a l)(hm:n<=300)(hc:∀i,i<l.length->0<=l.getD i 0/\l.getD i 0<=100000)(h2:1<(aC l l.length).length) :
  Calls prog 144 #[.slice a n cap] w fun e w'=>e = .returned (.slice w.heap.size n n)/\ap w' w.heap.size (.slice w.heap.size n n) (bV l)/\Below w.heap.size w w':=by
 have fc:(n:Int)<=300:=by omega
 obtain⟨i0,hi,el,em,en⟩:=a0p Tryz.infoInt;have E:=af (a0b hn (a0b hm (a0b hc h2)));have HR:=af h;have d2:Hid (∀k,(aC l l.length).length-k<=1->(k<(aC l l.length).length∨k=0)->bV l=(az l k).2):=by
  intro k h3 h4;unfold bV;rw[a0d (by omega)]
  congr 2;omega
 clear hc h2 h;go_enter func144,ntmps144;go_wp2_with (at_make;refine a1t _ rfl _ _ 99 rfl w.heap.size 3 i0 (.int .i64 0) 1 underlying99 hi el em .i64 .i64 _ _ n rfl rfl rfl rfl (by rw[en];omega) (by unfold maxLen;omega) (a0a _) ?_;intro w1 bc V);have cp:ap w1 w.heap.size (.slice w.heap.size n n) (List.replicate l.length 0):=by
  rw[hn];exact dm bc
 have b4:Below w.heap.size w w1:=(Below.refl _ _).grown V (a0a _) (fun k h=>by cases h);have fk:w.heap.size+1<=w1.heap.size:=cp.below.2;have c5:=af (ww a cap n l w1 hn (HR.later b4) hm);have be:=af (a0b cp b4);clear bc V hn hm cp b4 hi el em en;refine c5.mono ?_;rintro e w2⟨rfl,L0,va0,vc0,d3,dd,bl,eg,I⟩;have d7:=be.1.later I (a0a _);have d1:=aj be.2 I;rw[←E.1]at bl;clear c5 be;generalize hB:w1.heap.size=B at *
 clear hB;go_wp2_with fail
 go_loopw [5,6,7,9] (fun _ _ _ _ wq=>∃(j:Nat) (L:List Grp) (va:Option Addr) (vc:Nat),(j<(aC l l.length).length∨j=0)/\(L.map bare).Perm (az l j).1/\cX wq B (B+1) (.slice va L.length vc) L/\HP L/\dS wq (B+1) L/\ap wq w.heap.size (.slice w.heap.size n n) (az l j).2/\Below w.heap.size w wq) (fun _ _ _ _ wq=>np wq B)
 case atStart=>exact⟨0,L0,va0,vc0,.inr rfl,bl,d3,dd,eg,d7,d1⟩
 case round=>
  obtain⟨j,L,va,vc,hj,hL,hh,hP,hs,hp,d⟩:=hrel;clear bl d3 dd eg d7 d1 I;have HZ:=af (jt B (B+1) L.length vc va L wr hh);have ca:L.length=(aC l l.length).length-j:=by
   have O:=hL.length_eq;rw[a0K,(cf l j hj).2.2.2]at O;exact O
  by_cases a6:1<L.length
  .
   obtain⟨q,hq⟩:∃q,L.length=q+2:=⟨L.length-2,by omega⟩;obtain⟨g,rfl⟩:=hh.2.somes (by omega);rw[hq]at HZ;have cr:q+2<=300:=by
    have h2:=oU l l.length;have:=E.1;have:=E.2.1;omega
   have fh:(q:Int)+2<=300:=by omega
   have b8:cX wr B (B+1) (.slice g (q+1+1) vc) L:=by rw[hq]at hh;exact hh
   have c6:=af (Cw B g (q+1) vc L wr hs hq (by omega) b8 hP);have H:=af (a0b hj (a0b hL (a0b b8 (a0b hP (a0b hs (a0b hp (a0b d a6)))))));clear hj hL b8 hP hs hp d a6 ca hh cr;go_wp2_with fail;refine HZ.mono ?_;rintro e y1⟨rfl,ad⟩;rw[ad];clear ad y1;go_wp2_with fail;refine c6.mono ?_;rintro e x1⟨rfl,M1,r,ao,d4,a4,X⟩;have f:Hid (Calls prog 177 #[.pointer B] x1 fun e w'=>e = .returned (.agg #[.int .i64 (M1.getD 0 g0).cnt,.int .i64 (M1.getD 0 g0).fst,(M1.getD 0 g0).val])/\∃M:List Grp,(M1.getD 0 g0 :: M).Perm M1/\HP M/\cX w' B (B+1) (.slice g q vc) M/\Below B x1 w'/\bF 3 x1 w'):=by
    obtain⟨hj,hL,hh,hP,hs,hp,d,a6⟩:=ae H;have a7:M1.length=q+1:=by have:=r.length_eq;simp at this;omega
    exact Cw B g q vc M1 x1 ((X.syms hs).sub (fun y hy=>r.mem_iff.1 (by simp[hy]))) a7 (by omega) d4 ao
   have bk:=af (a0b r (a0b ao (a0b a4 X)));obtain⟨aa,ac,b3⟩:=(H.2.2.2.2.1 (L.getD 0 g0) (fY L 0 (by omega))).form;rw[b3];have c9:=fY L 0 (by omega);have cu:=af (a0b b3 c9);clear r ao d4 a4 X b3 c9;generalize c8:L.getD 0 g0=A at *
   have cv:=af c8;clear c8;go_wp2_with fail;refine f.mono ?_;rintro e x2⟨rfl,M2,Q,dl,b7,I,d5⟩;have HF:Hid (M1.length=q+1/\M2.length=q/\ap x2 (B+1) A.val A.syms/\ap x2 (B+1) (M1.getD 0 g0).val (M1.getD 0 g0).syms/\dS x2 (B+1) M2/\ap x2 w.heap.size (.slice w.heap.size n n) (az l j).2/\Below w.heap.size w x2/\M2.Perm M2):=by
    obtain⟨hj,hL,hh,hP,hs,hp,d,a6⟩:=ae H;obtain⟨r,ao,a4,X⟩:=ae bk;have a7:M1.length=q+1:=by have:=r.length_eq;simp at this;omega
    have d6:M2.length=q:=by have:=Q.length_eq;simp at this;omega
    have hk:=X.trans d5;have eh:dS x2 (B+1) M1:=(hk.syms hs).sub (fun y hy=>r.mem_iff.1 (by simp[hy]));exact⟨a7,d6,hk.ints (hs _ cu.2),eh _ (fY M1 0 (by omega)),eh.sub (fun y hy=>Q.mem_iff.1 (by simp[hy])),hk.ints hp,(d.trans (a4.mono (by omega))).trans (I.mono (by omega)),a2h _⟩
   have c7:=af (a0b Q (a0b dl b7));obtain⟨ga,gc,b6⟩:=HF.2.2.2.1.form;have D:=af (Lr E.2.2.1 (by rw[E.1];exact E.2.1) H.1 H.2.1 H.2.2.2.1 (by omega) (by rw[ae cv];exact bk.1) bk.2.1 Q);rw[ae cv]at D;rw[b6];have eu:=af b6;have e8:=b7.lt;clear Q dl b7 I d5 b6;generalize M1.getD 0 g0=G at *
   clear c6 f HZ;go_wp2_with fail;have a3:Below x2.heap.size x2 (((x2.alloc (.cells #[A.cnt,A.fst,.slice aa A.syms.length ac] 268)).alloc (.cells #[G.cnt,G.fst,.slice ga G.syms.length gc] 268)).alloc (.cells #[.slice aa A.syms.length ac,.slice ga G.syms.length gc] 99)):=
    (bx.alloc (by simp) _).alloc (by simp;omega) _
   have ds:Three (((x2.alloc (.cells #[A.cnt,A.fst,.slice aa A.syms.length ac] 268)).alloc (.cells #[G.cnt,G.fst,.slice ga G.syms.length gc] 268)).alloc (.cells #[.slice aa A.syms.length ac,.slice ga G.syms.length gc] 99)) x2.heap.size (.int .i64 A.cnt) (.int .i64 A.fst) (.slice aa A.syms.length ac):=
    ((qj x2 _ _ _ _).later bx).later bx
   have dv:Three (((x2.alloc (.cells #[A.cnt,A.fst,.slice aa A.syms.length ac] 268)).alloc (.cells #[G.cnt,G.fst,.slice ga G.syms.length gc] 268)).alloc (.cells #[.slice aa A.syms.length ac,.slice ga G.syms.length gc] 99)) (x2.heap.size+1) (.int .i64 G.cnt) (.int .i64 G.fst) (.slice ga G.syms.length gc):=by
    have O:=qj (x2.alloc (.cells #[A.cnt,A.fst,.slice aa A.syms.length ac] 268)) (.int .i64 G.cnt) (.int .i64 G.fst) (.slice ga G.syms.length gc) 268;have e:(x2.alloc (.cells #[A.cnt,A.fst,.slice aa A.syms.length ac] 268)).heap.size=x2.heap.size+1:=by simp
    rw[e]at O;exact O.later bx
   have dq:jq (((x2.alloc (.cells #[A.cnt,A.fst,.slice aa A.syms.length ac] 268)).alloc (.cells #[G.cnt,G.fst,.slice ga G.syms.length gc] 268)).alloc (.cells #[.slice aa A.syms.length ac,.slice ga G.syms.length gc] 99)) (x2.heap.size+1+1) (B+1) [(.slice aa A.syms.length ac,A.syms.map (Value.int .i64)),(.slice ga G.syms.length gc,G.syms.map (Value.int .i64))]:=by
    have ch:=HF.2.2.1.later a3 (a0a _);have co:=HF.2.2.2.1.later a3 (a0a _);rw[cu.1]at ch;rw[ae eu]at co;intro i hi
    match i,hi with
    | 0,_=>exact⟨(xR _ _ _ _ _ (by simp)).1,_,ch,a1j .i64 _⟩
    | 1,_=>exact⟨(xR _ _ _ _ _ (by simp)).2,_,co,a1j .i64 _⟩
   have ev:(((x2.alloc (.cells #[A.cnt,A.fst,.slice aa A.syms.length ac] 268)).alloc (.cells #[G.cnt,G.fst,.slice ga G.syms.length gc] 268)).alloc (.cells #[.slice aa A.syms.length ac,.slice ga G.syms.length gc] 99)).heap.size=x2.heap.size+3:=by simp
   generalize ((x2.alloc (.cells #[A.cnt,A.fst,.slice aa A.syms.length ac] 268)).alloc (.cells #[G.cnt,G.fst,.slice ga G.syms.length gc] 268)).alloc (.cells #[.slice aa A.syms.length ac,.slice ga G.syms.length gc] 99)=W3 at *
   have C:aO [(Value.slice aa A.syms.length ac,A.syms.map (Value.int .i64)),(Value.slice ga G.syms.length gc,G.syms.map (Value.int .i64))]=(A.syms++G.syms).length:=by simp[aO,cJ]
   have R:dw [(Value.slice aa A.syms.length ac,A.syms.map (Value.int .i64)),(Value.slice ga G.syms.length gc,G.syms.map (Value.int .i64))]=(A.syms++G.syms).map (Value.int .i64):=by simp[dw]
   refine(qC (x2.heap.size+1+1) (B+1) 2 2 _ W3 rfl (by omega) (by omega) dq (by rw[C];have:=D.2.2.2.2.2.1;omega)).mono ?_;rintro e x3⟨v,rfl,cg,T⟩;rw[C,R]at cg;have b2:ap x3 W3.heap.size v (A.syms++G.syms):=cg;have a8:=ds.later T;have a9:=dv.later T;have m:=aj a3 T;have N:Hid (cX x3 B (B+1) (.slice g q vc) M2/\dS x3 (B+1) M2/\ap x3 w.heap.size (.slice w.heap.size n n) (az l j).2/\Below w.heap.size w x3/\ap x3 W3.heap.size v (A.syms++G.syms)/\Three x3 x2.heap.size (.int .i64 A.cnt) (.int .i64 A.fst) (.slice aa A.syms.length ac)/\Three x3 (x2.heap.size+1) (.int .i64 G.cnt) (.int .i64 G.fst) (.slice ga G.syms.length gc)/\x2.heap.size+3<=x3.heap.size):=by
    obtain⟨a7,d6,ch,co,e4,e3,ey,_⟩:=ae HF;refine⟨c7.2.2.later m,e4.later m (a0a _),e3.later m (a0a _),ey.trans (m.mono (by omega)),b2,a8,a9,?_⟩;have:=T.size;omega
   obtain⟨sa,sc,ej⟩:=b2.form;have a2:Hid ((A.syms++G.syms).length<=300/\0<(A.syms++G.syms).length/\(∀x∈A.syms++G.syms,0<=x/\x<(l.length:Int))):=by
    obtain⟨t1,t2,t3,t4,t5,t6,t7,t8,t9⟩:=ae D;refine⟨t6,?_,t9⟩;rw[a0i];omega
   clear a3 ds dv dq cg T b2 a8 a9 m R C;generalize hS:A.syms++G.syms=S at *
   clear hS;obtain⟨gs,e0⟩:=(show ap x3 W3.heap.size (.slice sa S.length sc) S by rw[←ej];exact N.2.2.2.2.1).somes a2.2.1;subst e0;subst ej;have sI:(S.length:Int)<=300:=by have:=a2.1;omega
   go_wp2_with fail;have e2:=af (ue l (fun i hi=>(E.2.2.1 i hi).2) (by rw[E.1];exact E.2.1) j H.1);have e1:Hid ((j:Int)<=300):=by
    show(j:Int)<=300;have O:=H.1;have h2:=oU l l.length;have:=E.1;have:=E.2.1;omega
   have cy:Hid (np wr B=q+2):=by
    show np wr B=q+2;unfold np;rw[H.2.2.1.cell];rfl
   go_loopw [9,30] (fun _ i wq=>∃t:Nat,t<=S.length/\i = .int .i64 t/\ap wq w.heap.size (.slice w.heap.size n n) (bump (az l j).2 (S.take t))/\Touch (some ⟨w.heap.size,0,none⟩) x3 wq/\Below w.heap.size w wq) (fun _ i _=>S.length-(intOf i).toNat)
   case atStart=>exact⟨0,a0f _,rfl,N.2.2.1,Touch.refl _ _,N.2.2.2.1⟩
   case round=>
    obtain⟨t,ht,rfl,J,c,a5⟩:=hrel;have cc:Hid ((bump (az l j).2 (S.take t)).length=n):=by show(bump (az l j).2 (S.take t)).length=n;rw[pq,eq,E.1]
    have ek:Hid (t<=S.length):=ht;clear ht;by_cases Y:t<S.length
    .
     have bd:=N.2.2.2.2.1.touch c (jU _ _ (by omega));obtain⟨c0,_,_,_⟩:=bd.at rfl Y;have hx:=a2.2.2 (S.getD t 0) (by simp[List.getD,Y]);rw[E.1]at hx;have U:=af (wE (az l j).2 S t Y);have bb:=af (tI e2 (S.take t));obtain⟨p,eb⟩:=a0o hx.1;rw[eb]at c0 U;have d8:p<n:=by omega
     obtain⟨d0,f0,_,_⟩:=J.at cc d8;have cs:=ae bb p (by rw[ae cc];exact d8);have Z:=J.put (j:=p) cc ((bump (az l j).2 (S.take t)).getD p 0+1);have ei:Hid (bump (az l j).2 (S.take (t+1))=(bump (az l j).2 (S.take t)).set p ((bump (az l j).2 (S.take t)).getD p 0+1)):=by
      show bump (az l j).2 (S.take (t+1))=_;rw[ae U];unfold fV;rw[a0n]
     have fn:(bump (az l j).2 (S.take t)).getD p 0<=100000:=by
      have O:=cs.2;have h2:(S.take t).length<=300:=by rw[a0w];have:=a2.1;omega
      have:=ae e1;omega
     have fl:=cs.1;have ba:=ai a5 (b:=w.heap.size) (o:=p) (a0a _) (.int .i64 ((bump (az l j).2 (S.take t)).getD p 0+1));have ab:=c.set (o:=p) rfl (.int .i64 ((bump (az l j).2 (S.take t)).getD p 0+1));have e7:(p:Int)<(n:Int):=by omega
     rw[←ae ei]at Z;generalize (bump (az l j).2 (S.take t)).getD p 0=y at *
     have K:=af (a0b Z (a0b ba ab));have e6:(t:Int)<(S.length:Int):=by omega
     clear Z ba ab ei cs bb U eb hx bd c a5 J;go_wp2;go_roundw
     case rel=>exact⟨t+1,by have:=ae ek;omega,by go_num,K.1,K.2.2,K.2.1⟩
     case measure=>simp[intOf];omega
    .
     obtain rfl:t=S.length:=by have:=ae ek;omega
     rw[a0t (a0a _)]at J;obtain⟨h3,s3,_,_,o3,tA,tG,z3⟩:=ae N;have HY:Hid (cX wr B (B+1) (.slice g q vc) M2/\dS wr (B+1) M2/\ap wr (B+1) (.slice gs S.length sc) S):=by
      refine⟨⟨(c.2 B (fun g' e=>by simp only[a0j,a0z,a0N]at e;omega)).trans h3.1,oq h3.2 c (jU _ _ (by omega))⟩,fun y hy=>(s3 y hy).touch c (jU _ _ (by omega)),?_⟩;have h4:=o3.touch c (jU _ _ (by omega));exact ap.mono h4 (by omega)
     obtain⟨a0,a1,_,_,_,_,abl⟩:=tA;obtain⟨b0,b1,_,_,_,_,fb⟩:=tG;have a0':=(iG c (p:=⟨x2.heap.size,0,none⟩) (by show x2.heap.size≠w.heap.size;omega)).trans a0;have a1':=(iG c (p:=⟨x2.heap.size,1,none⟩) (by show x2.heap.size≠w.heap.size;omega)).trans a1;have e9:=(iG c (p:=⟨x2.heap.size+1,0,none⟩) (by show x2.heap.size+1≠w.heap.size;omega)).trans b0;have fa:=(iG c (p:=⟨x2.heap.size+1,1,none⟩) (by show x2.heap.size+1≠w.heap.size;omega)).trans b1;obtain⟨t1,t2,t3,t4,t5,t6,t7,t8,t9⟩:=ae D;obtain⟨F,hF⟩:∃F:Int,F=if G.fst<A.fst then G.fst else A.fst:=⟨_,rfl⟩
     rw[←hF]at t2;have f:=af (a0b t1 t2);have al:=af (Bf B q vc (some ⟨g,0,none⟩) M2 ⟨A.cnt+G.cnt,F,S,.slice gs S.length sc⟩ wr HY.2.1 HY.2.2 HF.2.1 (by omega) HY.1 c7.2.1);have an:=af (a0b J a5);clear h3 s3 o3 z3 a0 a1 b0 b1 c J a5 ev t1 t2 t6 t7 t8 t9;by_cases e5:A.fst<=G.fst
     .
      have P:F=A.fst:=by rw[hF,a0d (by omega)]
      rw[P]at al f;clear hF P;go_wp2_with fail;refine al.mono ?_;rintro e x5⟨rfl,M3,g',c',s,bs,W,b5,z⟩;go_wp2;go_roundw
      case rel=>
       have b9:M3.length=q+1:=by rw[s.length_eq,a0i,HF.2.1];rfl
       have u:=an.1;refine⟨j+1,M3,some ⟨g',0,none⟩,c',.inl ?_,f.2 M3 _ s,by rw[b9];exact W,bs,?_,?_,an.2.trans (b5.mono (by omega))⟩
       . have O:=H.2.1.length_eq;rw[a0K,(cf l j H.1).2.2.2]at O;omega
       . exact(((z.syms HY.2.1)).snoc (z.ints HY.2.2)).perm s
       . show ap x5 w.heap.size _ (bump (az l j).2 (bi (az l j).1));rw[f.1];exact z.ints u
      case measure=>
       rw[ae cy];unfold np;rw[W.cell];simp[sliceLen]
     .
      have P:F=G.fst:=by rw[hF,a0c (by omega)]
      rw[P]at al f;clear hF P;go_wp2_with fail;refine al.mono ?_;rintro e x5⟨rfl,M3,g',c',s,bs,W,b5,z⟩;go_wp2;go_roundw
      case rel=>
       have b9:M3.length=q+1:=by rw[s.length_eq,a0i,HF.2.1];rfl
       have u:=an.1;refine⟨j+1,M3,some ⟨g',0,none⟩,c',.inl ?_,f.2 M3 _ s,by rw[b9];exact W,bs,?_,?_,an.2.trans (b5.mono (by omega))⟩
       . have O:=H.2.1.length_eq;rw[a0K,(cf l j H.1).2.2.2]at O;omega
       . exact(((z.syms HY.2.1)).snoc (z.ints HY.2.2)).perm s
       . show ap x5 w.heap.size _ (bump (az l j).2 (bi (az l j).1));rw[f.1];exact z.ints u
      case measure=>
       rw[ae cy];unfold np;rw[W.cell];simp[sliceLen]
  . obtain⟨va',vc',hform⟩:∃x y,Value.slice va L.length vc = .slice x L.length y:=⟨_,_,rfl⟩;have ed:=ae d2 j (by omega) hj;rw[←ed]at hp;clear hform;go_wp2_with fail;refine HZ.mono ?_;rintro e y1⟨rfl,ad⟩;rw[ad];clear ad y1;go_wp2;go_ret;exact⟨rfl,hp,d⟩
def uZ(h:bT o k<o.getD k 0):bT o (k+1)=o.getD k 0:=by simp only[bT];rw[a0c h]
def y6(h:¬ bT o k<o.getD k 0):bT o (k+1)=bT o k:=by simp only[bT];rw[a0d h]
def Mi(b:0<=o.getD 0 0):bT o 1=o.getD 0 0:=by
 by_cases h:bT o 0<o.getD 0 0
 . exact uZ h
 . have a:bT o 1=bT o 0:=y6 h;have e:bT o 0=0:=rfl;rw[e]at h a;rw[a];exact(Int.le_antisymm (Int.not_lt.1 h) b).symm
def Fq(v:Value)(w:World)(n:Nat):Nat:=match v with
 | .slice (some a) _ _=>((List.range n).map (fun i=>(intOf ((w.cell? ⟨a.block,a.off+i,none⟩).getD (.int .i64 0))).toNat)).sum
 | _=>0
def Gu{w:World}{a:Option Addr}{c:Nat}(e:l.length=n)(b:1<=n)(h:br w a l):Fq (.slice a n c) w n=jY l:=by
 obtain⟨g,o,rfl,f,d⟩:=h (by omega);unfold Fq jY;simp only
 congr 1
 apply a2e
 . simp[e]
 . intro i b h2;simp only[a0K,List.length_range]at b;simp only[List.getElem_map,List.getElem_range];rw[d i (by omega)];simp[intOf,List.getD,show i<l.length by omega]
def uX(a:Option Addr)(cap n:Nat)(o:List Int)(w:World)(t:o.length=n)(h:br w a o)(r:1<=n)(z:n<=300)(d:∀i,i<o.length->0<=o.getD i 0) :
  Calls prog 140 #[.slice a n cap] w fun e w'=>e = .returned (.int .i64 (bT o n))/\w'=w:=by
 have A:(n:Int)<=300:=by omega
 have x:(1:Int)<=(n:Int):=by omega
 have p:=af (a0b t (a0b r d));obtain⟨g,off,rfl,E,f⟩:=h (by omega);have c0:=f 0 (by omega);have e0:=af (Mi (d 0 (by omega)));rw[a09]at c0;have v:=af f;clear t h z d f r;generalize B:o.getD 0 0=y0 at *
 clear B;go_enter func140,ntmps140;go_wp2_with fail
 go_loop [3,4] (fun m i=>∃k:Nat,1<=k/\k<=n/\i = .int .i64 k/\m = .int .i64 (bT o k)) (fun _ i=>n-(intOf i).toNat)
 case atStart=>exact⟨1,a0a _,p.2.1,rfl,by rw[ae e0]⟩
 case round=>
  obtain⟨k,u,s,rfl,rfl⟩:=hrel;have C:=af (a0b u s);by_cases j:k<n
  .
   have D:=ae v k (by rw[p.1];exact j);have c:=af (fun h=>uZ (o:=o) (k:=k) h);have l:=af (fun h=>y6 (o:=o) (k:=k) h);clear s u c0;generalize o.getD k 0=y at *
   generalize bT o k=q at *
   by_cases b:q<y
   .
    have e1:=af (ae c b);go_wp2
    go_round
    case rel=>exact⟨k+1,by omega,by omega,by go_num,by rw[ae e1]⟩
    case measure=>simp[intOf];omega
   .
    have e1:=af (ae l b);go_wp2
    go_round
    case rel=>exact⟨k+1,by omega,by omega,by go_num,by rw[ae e1]⟩
    case measure=>simp[intOf];omega
  .
   obtain rfl:k=n:=by omega
   go_wp2;go_ret;exact⟨rfl,rfl⟩
def Ek(x:Int)(w:World)(a:0<=x)(b:x<=1000000) :
  Calls prog 145 #[x] w fun e w'=>e = .returned (.int .i64 (iQ x))/\w'=w:=by
 go_enter func145,ntmps145;go_wp2;go_ret;exact⟨rfl,rfl⟩
def yz(a:Option Addr)(cap n:Nat)(l:List Int)(w:World)(H:l.length=n)(h:br w a l)(G:n<=1048576)(E:okC l) :
  Calls prog 142 #[.slice a n cap,.func (.func 145) #[] #[]] w fun e w'=>∃v,e = .returned v/\ap w' w.heap.size v (bv l)/\Below w.heap.size w w':=by
 have M:(n:Int)<=1048576:=by omega
 have p:=af H;have K:=af G;have I:=af E;clear H G E;obtain⟨i0,L,B,C,D⟩:=a0p Tryz.infoInt;go_enter func142,ntmps142;go_wp2_with fail
 go_loopw [5,7,10] (fun o _ i wr=>∃k:Nat,k<=n/\i = .int .i64 k/\ap wr w.heap.size o (bv (l.take k))/\Below w.heap.size w wr) (fun _ _ i _=>n-(intOf i).toNat)
 case atStart=>exact⟨0,a0f _,rfl,a06 _ _ _ _,Below.refl _ _⟩
 case round=>
  obtain⟨k,F,rfl,hq,b⟩:=hrel;have q:=b.size;by_cases m:k<n
  .
   obtain⟨g,o,rfl,N,r⟩:=(h.later b) (by rw[ae p];omega);have c0:=r k (by rw[ae p];exact m);obtain⟨y0,y1⟩:=ae I k (by rw[ae p];exact m);have A:Hid (bv (l.take (k+1))=bv (l.take k)++[iQ (l.getD k 0)]):=by
    show _=_;unfold bv;rw[cn l k (by rw[ae p];exact m),a0H];rfl
   have z:Hid ((bv (l.take k)).length=k):=by show _=k;have:=ae p;rw[eE];simp;omega
   have J:=af F;clear r F h;generalize l.getD k 0=y at *
   have HP:=af (Ek y wr (by omega) (by omega));generalize iQ y=R at *
   go_wp2_with fail;refine HP.mono ?_;rintro e x1⟨rfl,u⟩;rw[u];clear u x1;have d:Hid ((bv (l.take k)).length+1<=maxLen/\((bv (l.take k)).length+1)*8<=140737488355328):=by
    show _/\_;rw[ae z];have:=ae K;unfold maxLen;omega
   clear HP;go_wp2_with (at_builtin;refine a0u _ rfl _ _ 99 rfl w.heap.size 3 i0 (.int .i64 0) 1 8 underlying99 L B C D rfl (by decide) _ _ _ rfl (a0m hq _) ⟨wr.heap.size,0,none⟩ 1 1 [.int .i64 R] rfl rfl (ck _ _ rfl _ _) (eR _) d.1 d.2 (av q _) ?_;intro v' x2 j c s;clear s);have x:=aI (v:=u5) c hq (a0a _) q b;have t:=nG j;rw[←ae A]at t;clear j c hq;go_wp2;go_roundw
   case rel=>exact⟨k+1,by have:=ae J;omega,by go_num,t,x⟩
   case measure=>simp[intOf];omega
  . have f:l.take k=l:=a0t (by rw[ae p];omega);rw[f]at hq;obtain⟨va,vc,rfl⟩:=hq.form;clear f h;go_wp2;go_ret;exact⟨_,rfl,hq,b⟩
def MZ(l:List Int)(k i:Nat)(d:i<k)(c:0<l.getD i 0):∃g∈aC l k,g.fst=(i:Int):=by
 induction k with
 | zero=>omega
 | succ k ih=>
  by_cases e:i=k
  . subst e;refine⟨⟨l.getD i 0,(i:Int),[(i:Int)],.slice none 0 0⟩,?_,rfl⟩;rw[vC c];simp
  .
   obtain⟨g,a,b⟩:=ih (by omega);refine⟨g,?_,b⟩;simp only[aC]
   split
   . simp[a]
   . exact a
def M0(l:List Int)(k:Nat):∀g∈aC l k,∃i:Nat,g.fst=(i:Int)/\i<k/\0<l.getD i 0:=by
 induction k with
 | zero=>intro g a;simp[aC]at a
 | succ k ih=>
  intro g a;simp only[aC]at a
  split at a
  .
   rename_i hp;simp only[a0X,a02]at a;rcases a with a|rfl
   . obtain⟨i,b,h2,c⟩:=ih g a;exact⟨i,b,by omega,c⟩
   . exact⟨k,rfl,by omega,hp⟩
  . obtain⟨i,b,h2,c⟩:=ih g a;exact⟨i,b,by omega,c⟩
def yM(m:okC l)(a:(aC l l.length).length=1):bV l=l.map iv:=by
 unfold bV;rw[a0c a];obtain⟨x,hx⟩:∃x,aC l l.length=[x]:=by
  cases j:aC l l.length with
  | nil=>rw[j]at a;simp at a
  | cons x t=>rw[j]at a;simp at a;exact⟨x,by rw[a]⟩
 obtain⟨q,hq,p,h⟩:=M0 l l.length x (by rw[hx];simp);rw[hx];simp only[List.getD_cons_zero];rw[hq,a0n];apply a2e
 . simp
 .
  intro i h2 k;have f:i<l.length:=by simpa using k
  have e:l.getD i 0=l[i]:=by simp[List.getD,f]
  have b:=m i f;rw[List.getElem_set,List.getElem_map,List.getElem_replicate];by_cases c:q=i
  .
   subst c;rw[a0c rfl];rw[e]at h b;unfold iv
   split<;>omega
  .
   rw[a0d c];have r:¬ 0<l.getD i 0:=by
    intro o;obtain⟨g,d,n⟩:=MZ l l.length i f o;rw[hx]at d;simp only[a02]at d;subst d;rw[hq]at n;omega
   rw[e]at r b;unfold iv
   split<;>omega
def Oq{m:Int}(j:1<=m)(b:okC l)(d:(aC l l.length).length=1):dp m l=l.map iv:=by
 have g:fits (bV l) m=true:=by
  refine FX (by omega) ?_;rw[yM b d];intro i h;have a:i<l.length:=by simpa using h
  have e:(l.map iv).getD i 0=iv l[i]:=by simp[List.getD,a]
  have e2:l.getD i 0=l[i]:=by simp[List.getD,a]
  have c:=b i a;rw[e2]at c;rw[e];unfold iv
  split<;>omega
 rw[←yM b d];unfold dp;cases jY l with
 | zero=>rfl
 | succ f=>simp only[pB];rw[g];rfl
def OI(b:okC l)(c:l.length<=300)(h2:1<(aC l l.length).length):∀i,i<(bV l).length->0<=(bV l).getD i 0:=by
 intro i a;have e:bV l=(az l ((aC l l.length).length-1)).2:=by unfold bV;rw[a0d (by omega)]
 rw[e]at a ⊢;exact((ue l (fun i a=>(b i a).2) c _ (.inl (by omega))) i a).1
def ug(a:Option Addr)(cap n:Nat)(l:List Int)(m:Int)(w:World)(g:l.length=n)(h:br w a l)(f:n<=1048576)(c:xi l m=false) :
  CD 113 #[.slice a n cap,m] w (.slice none 0 0):=by
 have j:=af (mz a cap n l w g h f);by_cases v:m<1
 .
  clear g h f c;generalize jo l=U at *
  go_enter func113,ntmps113;go_wp2_with fail;refine j.mono ?_;rintro e x1⟨rfl,d⟩;rw[d];go_wp2;go_ret;exact⟨rfl,Below.refl _ _⟩
 .
  by_cases p:15<m
  .
   clear g h f c;generalize jo l=U at *
   go_enter func113,ntmps113;go_wp2_with fail;refine j.mono ?_;rintro e x1⟨rfl,d⟩;rw[d];go_wp2;go_ret;exact⟨rfl,Below.refl _ _⟩
  .
   by_cases i:jo l<1
   .
    clear g h f c;generalize jo l=U at *
    go_enter func113,ntmps113;go_wp2_with fail;refine j.mono ?_;rintro e x1⟨rfl,d⟩;rw[d];go_wp2;go_ret;exact⟨rfl,Below.refl _ _⟩
   .
    obtain⟨mm,rfl⟩:∃mm:Nat,m=(mm:Int)+1:=⟨(m-1).toNat,by omega⟩;have b:(decide (l.length<=300)&&inC l)=true:=by
     cases u:decide (l.length<=300)&&inC l
     . exfalso;apply i;unfold jo;rw[u];simp
     . rfl
    have k:(p2 mm:Int)<jo l:=by
     simp only[a0k,a0s]at b;rw[nU b.1 b.2]at i ⊢;unfold xi at c;rw[a0x b.1,b.2,aH.2 ⟨by omega,by omega⟩]at c;have e3:((mm:Int)+1).toNat=mm+1:=by omega
     rw[e3,zd]at c;simp only[a2D]at c;have:=eG.1 c;omega
    have s:jo l<=300:=by
     simp only[a0k,a0s]at b;rw[nU b.1 b.2];have:=sJ l;omega
    have r:(1:Int)*2 ^ mm=(p2 mm:Int):=by rw[Int.one_mul,kN]
    have o:(2:Int) ^ mm=(p2 mm:Int):=(kN mm).symm;have q:(mm:Int)<=14:=by omega
    have t:IntKind.i64.wrap (p2 mm:Int)=(p2 mm:Int):=bK _ (by omega) (by omega);clear g h f c b;generalize jo l=U at *
    generalize p2 mm=PW at *
    go_enter func113,ntmps113;go_wp2_with fail;refine j.mono ?_;rintro e x1⟨rfl,d⟩;rw[d];go_wp2;go_ret;exact⟨rfl,Below.refl _ _⟩
def uH(o:List Int)(i:Nat):Nat:=(o.getD i 0).toNat
def Me(l:List Int)(i:Nat)(h:i<l.length):l.getD i 0∈l:=by simp[List.getD,h]
def wU(h2:2<=(aC l l.length).length) :
  (∀i,i<l.length->0<=(bV l).getD i 0/\(bV l).getD i 0<=(((aC l l.length).length-1:Nat):Int)) /\
  (∀i,i<l.length->(0<(bV l).getD i 0<->0<l.getD i 0)) /\
  (∀D,(aC l l.length).length<=D->krR l (uH (bV l)) D l.length=2 ^ D) /\
  py l (bV l) l.length=rN ((aC l l.length).length-1) (aC l l.length):=by
 obtain⟨U,hU⟩:∃U,(aC l l.length).length=U+2:=⟨(aC l l.length).length-2,by omega⟩;have A:bV l=(az l (U+1)).2:=by
  unfold bV;rw[a0d (by omega),hU];rfl
 have k:U+1<(aC l l.length).length∨U+1=0:=.inl (by omega);have m:=lI l (U+1) k;have b:(az l (U+1)).1.length=1:=by have:=(cf l (U+1) k).2.2.2;omega
 have B:(az l U).1.length=2:=by have:=(cf l U (by omega)).2.2.2;omega
 obtain⟨g,hg⟩:∃g,(az l (U+1)).1=[g]:=by
  cases v:(az l (U+1)).1 with
  | nil=>rw[v]at b;simp at b
  | cons x t=>rw[v]at b;simp at b;exact⟨x,by rw[b]⟩
 have a:=nC l (U+1) k;have p:(g.syms).Perm (bq (aC l l.length)):=by
  rw[hg]at a
  simpa[bq]using a
 rw[A];refine⟨?_,?_,?_,?_⟩
 .
  intro i h;have:=m i (by rw[eq];exact h);refine⟨this.1,?_⟩;have e:(((aC l l.length).length-1:Nat):Int)=((U+1:Nat):Int):=by rw[hU];omega
  rw[e];exact this.2
 .
  intro i h;constructor
  .
   intro u;apply Classical.byContradiction;intro C;have H:=wT l i h (fun q=>by
    obtain⟨j,d,s,w⟩:=(Ap l l.length (i:Int)).1 q;have:i=j:=by omega
    subst this;exact C w) (U+1) k
   omega
  .
   intro u;have q:(i:Int)∈bq (aC l l.length):=(Ap l l.length (i:Int)).2 ⟨i,rfl,h,u⟩;have f:1<(az l U).1.length:=by omega
   have n:=ip l U (by omega);have c:=jT _ f;have G:=du (az l U).1 (by omega);have E:=du (au (az l U).1) (by omega);have o:au (au (az l U).1)=[]:=a2a (by omega);rw[o]at c;have r:(i:Int)∈bi (az l U).1:=by
    have d:=(nC l U (by omega)).mem_iff.2 q;have s:=c.mem_iff.2 d;simpa[bq]using s
   have hb:=mx (az l U).2 (bi (az l U).1) i (jS f n.1).1 (fun y F=>(n.2 y (c.mem_iff.1 (by simp[F]))).1) (by rw[eq];exact h);rw[a0c r]at hb;have hd:=(lI l U (by omega)) i (by rw[eq];exact h);show 0<(bump (az l U).2 (bi (az l U).1)).getD i 0;omega
 . intro D z;have d:=OH l D z (U+1) k g (by rw[hg];simp);rw[←vY,←d];exact(IZ _ p).symm
 .
  have d:=OG l (U+1) k;have e:(aC l l.length).length-1-(U+1)=0:=by omega
  rw[e]at d;simp only[rN,Int.add_zero]at d;exact d
def LF{len:Nat->Nat}{D E:Nat}(b:E<=D)(h:∀i,i<n->0<l.getD i 0->len i<=E):krR l len D n=2 ^ (D-E)*krR l len E n:=by
 induction n with
 | zero=>rfl
 | succ n ih=>
  simp only[krR];rw[ih (fun i c=>h i (by omega)),a17];by_cases a:0<l.getD n 0
  .
   rw[a0c a,a0c a];have:=h n (by omega) a;rw[←a0P]
   congr 2
   omega
  . rw[a0d a,a0d a];rfl
def LH{E:Nat}(h2:2<=(aC l l.length).length)(h:∀i,i<l.length->(bV l).getD i 0<=(E:Int)):krR l (uH (bV l)) E l.length=2 ^ E:=by
 obtain⟨e,_,d,_⟩:=wU h2;have b:∀i,i<l.length->0<l.getD i 0->uH (bV l) i<=E:=by
  intro i c _;have:=h i c;unfold uH;omega
 have a:=LF (D:=E+(aC l l.length).length) (Nat.le_add_right _ _) b;rw[d _ (Nat.le_add_left _ _),a1o,a0P,a1c]at a;exact(Nat.eq_of_mul_eq_mul_left (Nat.pow_pos (by omega)) a).symm
def OM(e:o.length=l.length)(h:∀i,i<l.length->(0<o.getD i 0<->0<l.getD i 0))(k:Nat)(d:k<=l.length):kr (o.take k)=krR l (uH o) 15 k/\us (o.take k)=(aC l k).length:=by
 induction k with
 | zero=>exact⟨rfl,rfl⟩
 | succ k ih=>
  obtain⟨c,h2⟩:=ih (by omega);rw[yO o k (by omega),ql o k (by omega),c,h2];simp only[krR];have b:=h k (by omega);by_cases a:0<l.getD k 0
  .
   rw[a0c a,a0c (b.2 a),jF a];refine⟨?_,by simp⟩;unfold krN uH p2;rw[a0c (b.2 a)]
   congr 2
   have:=b.2 a;omega
  . rw[a0d a,a0d (fun x=>a (b.1 x)),nb a];refine⟨?_,rfl⟩;unfold krN;rw[a0d (fun x=>a (b.1 x))]
def Dn(c:o.length=l.length)(j:l.length<=300)(h:∀i,i<l.length->(0<o.getD i 0<->0<l.getD i 0))(b:∀i,i<l.length->0<=o.getD i 0/\o.getD i 0<=15)(a:krR l (uH o) 15 l.length=32768∨((aC l l.length).length=1/\krR l (uH o) 15 l.length=16384)):ar o=true:=by
 obtain⟨d,h2⟩:=OM c h l.length (a0a _);rw[←c,a2i,c]at d h2;unfold ar lY;simp only[a0k,a1e,a0s];refine⟨⟨?_,by omega⟩,?_⟩
 .
  unfold inL;rw[a08];intro x g;obtain⟨i,f,rfl⟩:=a1E g;have:=b i (by omega);have e:o.getD i 0=o[i]:=by simp[List.getD,f]
  rw[e]at this;exact aH.2 this
 .
  rw[d,h2];rcases a with a|a
  . exact .inl a
  . exact .inr a
def Gc(o:List Int)(k i:Nat)(a:i<k):o.getD i 0<=bT o k:=by
 induction k with
 | zero=>omega
 | succ k ih=>
  by_cases h:bT o k<o.getD k 0
  .
   rw[uZ h];by_cases e:i=k
   . subst e;exact a2q _
   . have:=ih (by omega);omega
  .
   rw[y6 h];by_cases e:i=k
   . subst e;omega
   . exact ih (by omega)
def Hu(m:Nat):∀(f:Nat) (l:List Int),okC l->1<=(aC l l.length).length->(aC l l.length).length<=p2 m->jY l<=f ->
  ∃c:List Int,c.length=l.length/\okC c/\(∀i,i<l.length->(0<c.getD i 0<->0<l.getD i 0))/\pB ((m:Int)+1) f l=bV c/\(∀i,i<l.length->(bV c).getD i 0<=(m:Int)+1)/\(aC c c.length).length=(aC l l.length).length:=by
 intro f;induction f with
 | zero=>
  intro l e k _ v;exfalso;obtain⟨g,u⟩:∃g,g∈aC l l.length:=by
   cases b:aC l l.length with
   | nil=>rw[b]at k;simp at k
   | cons x t=>exact⟨x,by simp⟩
  obtain⟨_,i,_,d,q,_⟩:=p6 l l.length g u;have:∀(a:List Int) (x:Int),x∈a->0<x->0<jY a:=by
   intro a x j q;induction a with
   | nil=>cases j
   | cons y a ih=>
    simp only[jY,a0B,a0L]at ih ⊢;simp only[a0V]at j;rcases j with rfl|j
    . omega
    . have:=ih j;omega
  have:=this l (l.getD i 0) (Me l i d) q;omega
 | succ f ih=>
  intro l e k p v;cases h:fits (bV l) ((m:Int)+1)
  .
   have hex:=vf p h;have r:=(vI l (y8 e)).2 hex;have b:=rr l (fun i d=>(e i d).1) l.length (a0a _);obtain⟨c,c1,c2,c3,c4,n,o⟩:=ih (bv l) (vh e) (by rw[eE,b];exact k) (by rw[eE,b];exact p) (by omega);rw[eE]at c1 c3 n o;refine⟨c,c1,c2,?_,?_,n,by rw[o,b]⟩
   . intro i d;rw[c3 i d,qN l i d];unfold iQ;have:=(e i d).1;omega
   . simp only[pB];rw[h];exact c4
  .
   refine⟨l,rfl,e,fun i _=>Iff.rfl,?_,?_,rfl⟩
   . simp only[pB];rw[h];rfl
   . intro i d;unfold fits at h;have s:=a2V h;rw[iR]at s;have:=Gc (bV l) l.length i d;omega
def xj{c:List Int}(d:okC c)(g:(aC c c.length).length=1)(i:Nat)(b:i<c.length):(bV c).getD i 0=if 0<c.getD i 0 then 1 else 0:=by
 rw[yM d g];have e:(c.map iv).getD i 0=iv c[i]:=by simp[List.getD,b]
 have e2:c.getD i 0=c[i]:=by simp[List.getD,b]
 have a:=d i b;rw[e2]at a ⊢;rw[e];unfold iv;by_cases f:0<c[i]
 . rw[a0c f];split<;>omega
 . rw[a0d f];split<;>omega
def Qx{c:List Int}(d:okC c)(k:Nat)(f:k<=c.length)(b:(aC c c.length).length=1):krR c (uH (bV c)) 15 k=(aC c k).length*16384:=by
 induction k with
 | zero=>simp[krR,aC]
 | succ k ih=>
  simp only[krR];rw[ih (by omega)];have h:=xj d b k (by omega);by_cases a:0<c.getD k 0
  .
   rw[a0c a,jF a];have e:uH (bV c) k=1:=by unfold uH;rw[h,a0c a];rfl
   have e2:(2:Nat) ^ (15-1)=16384:=by decide
   rw[e,e2,a0i,a1d,a1w,Nat.one_mul]
  . rw[a0d a,nb a,a09]
def uM{m:Nat}(p:okC l)(s:l.length<=300)(n:1<=(aC l l.length).length)(o:(aC l l.length).length<=p2 m)(t:m<=14) :
  (dp ((m:Int)+1) l).length=l.length/\ar (dp ((m:Int)+1) l)=true/\∀i,i<l.length->0<=(dp ((m:Int)+1) l).getD i 0/\(dp ((m:Int)+1) l).getD i 0<=(m:Int)+1/\(0<(dp ((m:Int)+1) l).getD i 0<->0<l.getD i 0):=by
 obtain⟨c,c1,c2,c3,c4,j,r⟩:=Hu m (jY l) l p n o (a0a _);have e:dp ((m:Int)+1) l=bV c:=c4;rw[e];by_cases b:(aC c c.length).length=1
 .
  have q:=xj c2 b;have d:∀i,i<l.length->0<=(bV c).getD i 0/\(bV c).getD i 0<=1/\(0<(bV c).getD i 0<->0<l.getD i 0):=by
   intro i a;have h:=q i (by omega);have k:=c3 i a;by_cases g:0<c.getD i 0
   . rw[a0c g]at h;rw[h];exact⟨by omega,by omega,⟨fun _=>k.1 g,fun _=>by omega⟩⟩
   . rw[a0d g]at h;rw[h];exact⟨by omega,by omega,⟨fun x=>by omega,fun x=>absurd (k.2 x) g⟩⟩
  refine⟨by rw[iR,c1],?_,fun i a=>⟨(d i a).1,j i a,(d i a).2.2⟩⟩;refine Dn (l:=c) (iR c) (by omega) ?_ ?_ (.inr ⟨b,by rw[Qx c2 _ (a0a _) b,b]⟩)
  . intro i a;exact(d i (by omega)).2.2.trans (c3 i (by omega)).symm
  . intro i a;have:=d i (by omega);exact⟨this.1,by omega⟩
 .
  have h2:2<=(aC c c.length).length:=by omega
  obtain⟨f0,f1,_,_⟩:=wU h2;refine⟨by rw[iR,c1],?_,fun i a=>⟨(f0 i (by omega)).1,j i a,(f1 i (by omega)).trans (c3 i a)⟩⟩;have f:∀i,i<c.length->(bV c).getD i 0<=((15:Nat):Int):=fun i a=>by have:=j i (by omega);omega
  refine Dn (l:=c) (iR c) (by omega) f1 (fun i a=>⟨(f0 i a).1,f i a⟩) (.inl (LH h2 f))
def uh(a:Option Addr)(cap n mm:Nat)(l:List Int)(w:World)(M:l.length=n)(h:br w a l)(hm:n<=300)(hc:inC l=true)(Z:mm<=14)(al:1<=us l)(P:us l<=p2 mm) :
  Calls prog 113 #[.slice a n cap,.int .i64 ((mm:Int)+1)] w fun e w'=>(∃v,e = .returned v/\ap w' w.heap.size v (dp ((mm:Int)+1) l))/\Below w.heap.size w w':=by
 have Y:=sJ l;have HU:=af (mz a cap n l w M h (by omega));rw[nU (by omega) hc]at HU;have a3:(us l:Int)<=300:=by omega
 have a1:(1:Int)<=(us l:Int):=by omega
 have a2:(us l:Int)<=(p2 mm:Int):=by omega
 have ba:(1:Int)*2 ^ mm=(p2 mm:Int):=by rw[Int.one_mul,kN]
 have a8:(2:Int) ^ mm=(p2 mm:Int):=(kN mm).symm;have a9:(mm:Int)<=14:=by omega
 have ab:p2 mm<=16384:=by
  have h1:p2 mm<=p2 14:=a0M (by omega) (by omega);have h2:p2 14=16384:=rfl;omega
 have bb:IntKind.i64.wrap (p2 mm:Int)=(p2 mm:Int):=bK _ (by omega) (by omega);have y:=QH hc;by_cases s:us l=1
 .
  have HE:=af (Ag a cap n l w M h (by omega) y);have j:Hid (dp ((mm:Int)+1) l=l.map iv):=Oq (by omega) y (by rw[fm];exact s);rw[s]at a2 HU;have Hn:=af M;clear M h hm hc Z al P Y a3 a1 s y ab;generalize p2 mm=PW at *
  go_enter func113,ntmps113;go_wp2_with fail;refine HU.mono ?_;rintro e x1⟨rfl,E⟩;rw[E];clear E x1;go_wp2_with fail;refine HE.mono ?_;rintro e x2⟨v,rfl,ho,hb⟩;obtain⟨va,vc,rfl⟩:=ho.formN (n:=n) (by rw[a0K,ae Hn]);go_wp2;go_ret;exact⟨⟨_,rfl,by rw[ae j];exact ho⟩,hb⟩
 .
  have a7:((us l:Int) == 1)=false:=by simp;omega
  have O:1<(aC l l.length).length:=by rw[fm];omega
  have HN:=af (a0b M (a0b hm (a0b y (show(aC l l.length).length<=p2 mm by rw[fm];exact P))));have N:Hid (1<=n):=by show 1<=n;omega
  have HP:=af (mV a cap n l w M h hm y O);have HH:=af (a0b h O);clear M h hm hc Z al P Y s y ab O;have r:Hid (n<=300):=HN.2.1;generalize us l=U at *
  generalize V:p2 mm=PW at *
  have R:=af V;clear V;go_enter func113,ntmps113;go_wp2_with fail;refine HU.mono ?_;rintro e x1⟨rfl,E⟩;rw[E];clear E x1;go_wp2_with fail;refine HP.mono ?_;rintro e x2⟨rfl,ho,hb⟩;go_wp2_with fail
  go_loopw [0,6] (fun c v wr=>∃(b:List Int) (f ob T:Nat) (S:Option Addr),b.length=n/\okC b/\(aC b b.length).length<=PW/\1<(aC b b.length).length/\jY b<=f/\dp ((mm:Int)+1) l=pB ((mm:Int)+1) f b/\c = .slice S n T/\v = .slice ob n n/\w.heap.size<=ob/\ap wr ob (.slice ob n n) (bV b)/\br wr S b/\Below w.heap.size w wr) (fun c _ wr=>Fq c wr n)
  case atStart=>exact⟨l,jY l,w.heap.size,cap,a,HN.1,HN.2.2.1,HN.2.2.2,HH.2,a0a _,rfl,rfl,rfl,a0a _,ho,HH.1.later hb,hb⟩
  case round=>
   obtain⟨b,f,ob,T,S,k,g,p,u,H,j,rfl,rfl,J,D,B,q⟩:=hrel;clear ho hb;have m:(bV b).length=n:=(iR b).trans k;have Q:=af (uX (some ⟨ob,0,none⟩) n n (bV b) wr m (D.rowN m) N r (OI g (by rw[k];exact r) u));have C:Hid (fits (bV b) ((mm:Int)+1)=decide (bT (bV b) n<=(mm:Int)+1)):=by show _=_;unfold fits;rw[m]
   have HQ:=af (a0b k (a0b g (a0b p (a0b u (a0b H j)))));have HO:=af (a0b D (a0b B (a0b q J)));have HE:=af (yz S T n b wr k B (by have:=ae r;omega) g);have HS:=af (Gu (c:=T) k N B);clear k g p u H j m D B q J;generalize bT (bV b) n=mo at *
   by_cases a6:(mm:Int)+1<mo
   .
    have I:fits (bV b) ((mm:Int)+1)=false:=by rw[ae C];exact a0l (by omega)
    obtain⟨k,g,p,u,H,j⟩:=ae HQ;rw[←ae R]at p;have hex:=vf p I;have K:=(vI b (y8 g)).2 hex;obtain⟨f',hff⟩:∃f',f=f'+1:=⟨f-1,by omega⟩;have L:Hid (dp ((mm:Int)+1) l=pB ((mm:Int)+1) f' (bv b)):=by
     show _=_;rw[j,hff];simp only[pB];rw[I];rfl
    have X:Hid (jY (bv b)<=f'):=by show _<=_;omega
    have ao:=af K;have A:=af (vh g);have ad:=rr b (fun i hi=>(g i hi).1) b.length (a0a _);have z:Hid ((aC (bv b) (bv b).length).length<=PW/\1<(aC (bv b) (bv b).length).length):=by
     show _/\_;rw[eE,ad,←ae R];exact⟨p,u⟩
    have o:Hid ((bv b).length=n):=(eE b).trans k;clear k g p H j hex K hff ad u;go_wp2_with fail;refine Q.mono ?_;rintro e x3⟨rfl,F⟩;rw[F];clear F x3;go_wp2_with fail;refine HE.mono ?_;rintro e x4⟨v,rfl,x,W⟩;obtain⟨va,vc,rfl⟩:=x.formN o;have d:=x.rowN o;have t:Below w.heap.size w x4:=aj HO.2.2.1 W;have an:=af (mV va vc n (bv b) x4 o d r A z.2);have a0:=af (a0b x (a0b t d));clear x W d t;go_wp2_with fail;refine an.mono ?_;rintro e x5⟨rfl,aa,G⟩;obtain⟨x,t,d⟩:=ae a0;have a4:Hid (Fq (.slice va n vc) x5 n<Fq (.slice S n T) wr n):=by
     show Fq _ _ _<Fq _ _ _;rw[Gu o N (d.later G),ae HS];exact ao
    have HR:=af (a0b aa (a0b (d.later G) (aj t G)));have a5:Hid (w.heap.size<=x4.heap.size):=t.size;clear x t d aa G;go_wp2;go_roundw
    case rel=>exact⟨bv b,f',x4.heap.size,vc,va,o,A,z.1,z.2,X,L,rfl,rfl,a5,HR.1,HR.2.1,HR.2.2⟩
    case measure=>exact a4
   .
    have I:fits (bV b) ((mm:Int)+1)=true:=by rw[ae C];exact a0x (by omega)
    have ac:Hid (dp ((mm:Int)+1) l=bV b):=by
     show _=_;rw[HQ.2.2.2.2.2];cases f with
     | zero=>rfl
     | succ f=>simp only[pB];rw[I];rfl
    go_wp2_with fail;refine Q.mono ?_;rintro e x3⟨rfl,F⟩;rw[F];clear F x3;obtain⟨D,B,q,J⟩:=ae HO;go_wp2;go_ret;exact⟨⟨_,rfl,by rw[ae ac];exact D.mono J⟩,q⟩
def jK(a:Option Addr)(cap n:Nat)(l:List Int)(m:Int)(w:World)(i:l.length=n)(h:br w a l)(j:n<=1048576) :
  Calls prog 113 #[.slice a n cap,m] w fun e w'=>(∃v,e = .returned v/\ap w' w.heap.size v (j9 l m))/\Below w.heap.size w w':=by
 cases b:xi l m
 . refine(ug a cap n l m w i h j b).mono ?_;rintro e w'⟨rfl,hb⟩;refine⟨⟨_,rfl,?_⟩,hb⟩;unfold j9;rw[b];exact a06 _ _ _ _
 .
  have f:=b;unfold xi at f;simp only[a0k,a0s]at f;obtain⟨⟨⟨k,g⟩,d⟩,c⟩:=f;obtain⟨m1,m2⟩:=aH.1 g;obtain⟨mm,rfl⟩:∃mm:Nat,m=(mm:Int)+1:=⟨(m-1).toNat,by omega⟩;have e3:((mm:Int)+1).toNat=mm+1:=by omega
  rw[e3,zd]at c;obtain⟨u1,u2⟩:=aH.1 c;have:=uh a cap n mm l w i h (by omega) d (by omega) (by omega) (by omega);unfold j9;rw[b];exact this
