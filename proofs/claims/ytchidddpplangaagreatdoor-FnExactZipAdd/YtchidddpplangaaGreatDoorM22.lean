/- Of what the proof is made: 6 texts, one behind the other. -/
import Derived.Test.YtchidddpplangaaGreatDoorM19
import Derived.Test.YtchidddpplangaaGreatDoorM9
import Derived.Test.YtchidddpplangaaGreatDoorM11
import Derived.Test.YtchidddpplangaaGreatDoorM17
import Derived.Test.YtchidddpplangaaGreatDoorM14
set_option maxRecDepth 100000
set_option linter.unusedSimpArgs false
set_option linter.unusedVariables false
set_option maxHeartbeats 6400000
namespace Go.Proofs.YtchidddpplangaaGreatDoor
open Go.Proofs.Tryz
open Go.RowKit Corb
variable {D L l o:List Int}{T:List UInt8}{V k n p q r sz:Nat}{i:Int}
theorem Lv{f:Nat}(b:n+f=15)(d:nx l n<=cd V p n)(h:nK l V sz p f n=some (i,q)):q<=sz/\p<q/\0<=i/\i<(l.length:Int):=by
 induction f generalizing n with
 | zero=>simp[nK]at h
 | succ f ih=>
  by_cases a:sz<p+n+1
  . rw[nM a]at h;cases h
  .
   by_cases h2:cd V p (n+1)<nx l (n+1)
   . rw[sL a h2]at h;simp only[a0l,a06]at h;obtain⟨rfl,rfl⟩:=h;obtain⟨k,g,_,_,e⟩:=qA (l:=l) (n:=n) (c:=cd V p (n+1)) (by omega) (by simp only[cd];omega) h2;rw[e];omega
   . rw[pI a h2]at h;exact ih (by omega) (by omega) h
theorem fs(h:dec l V sz p=some (i,q)):q<=sz/\p<q/\0<=i/\i<(l.length:Int):=Lv rfl (a0g _) h
def rdN(V sz p k:Nat):Option (Nat×Nat):=if p+k<=sz then some (V/2 ^ p%2 ^ k,p+k)else none
theorem cK(h:p+k<=sz):rdN V sz p k=some (V/2 ^ p%2 ^ k,p+k):=a0e h
theorem eU(h:¬ p+k<=sz):rdN V sz p k=none:=a0d h
theorem bD{x:Nat}(h:rdN V sz p k=some (x,q)):q<=sz/\q=p+k/\x=V/2 ^ p%2 ^ k/\x<2 ^ k:=by
 unfold rdN at h
 split at h
 . simp only[a0l,a06]at h;obtain⟨rfl,rfl⟩:=h;exact⟨by assumption,rfl,rfl,a03 _ (a1r k)⟩
 . cases h
def scG(V sz least group many k q:Nat):Option (Nat×Nat):=if k<many then(rdN V sz q (stF least group k).2).bind fun x=>some ((stF least group k).1+x.1,x.2)else none
def fL(V sz:Nat)(D:List Int)(k q:Nat):Option (Tk×Nat):=
 (scG V sz 3 4 28 k q).bind fun a=>(dec D V sz a.2).bind fun j=>(scG V sz 1 2 30 j.1.toNat j.2).bind fun c=>some ((0,((a.1:Nat):Int),((c.1:Nat):Int)),c.2)
def oneG(V sz:Nat)(D:List Int)(k:Int)(q:Nat):Option (Tk×Nat):=if k<256 then some ((k,0,0),q)else fL V sz D (k.toNat-257) q
theorem Dp{least group many x:Nat}(h:scG V sz least group many k q=some (x,r)):r<=sz/\q<=r:=by
 unfold scG at h
 split at h
 .
  rcases a:rdN V sz q (stF least group k).2 with _|⟨y,t⟩
  . rw[a]at h;cases h
  . rw[a]at h;simp only[a0f,a0l,a06]at h;have:=bD a;omega
 . cases h
theorem yk{t:Tk}(h:fL V sz D k q=some (t,r)):r<=sz/\q<=r:=by
 unfold fL at h;rcases b:scG V sz 3 4 28 k q with _|⟨a,a2⟩
 . rw[b]at h;cases h
 rw[b]at h;simp only[a0f]at h;rcases h2:dec D V sz a2 with _|⟨j,j2⟩
 . rw[h2]at h;cases h
 rw[h2]at h;simp only[a0f]at h;rcases d:scG V sz 1 2 30 j.toNat j2 with _|⟨c,c2⟩
 . rw[d]at h;cases h
 rw[d]at h;simp only[a0f,a0l,a06]at h;have e:=Dp b;have f:=fs h2;have g:=Dp d;omega
theorem r8{k:Int}{t:Tk}(h:oneG V sz D k q=some (t,r))(hq:q<=sz):r<=sz/\q<=r:=by
 unfold oneG at h
 split at h
 . simp only[a0l,a06]at h;omega
 . exact yk h
def ot(V sz:Nat)(L D:List Int):Nat->Nat->List UInt8->Option (List UInt8×Nat)
 | 0,_,_=>none
 | f+1,p,T=>(dec L V sz p).bind fun k=>if k.1=256 then some (T,k.2)else(oneG V sz D k.1 k.2).bind fun t=>(eG T t.1).bind fun T'=>ot V sz L D f t.2 T'
def iv(V sz:Nat)(L D:List Int)(p:Nat)(T:List UInt8):Option (List UInt8×Nat):=ot V sz L D (sz+1-p) p T
theorem GP: ∀(n f p:Nat) (T:List UInt8),sz+1-p<=n->sz+1-p<=f->ot V sz L D f p T=ot V sz L D (sz+1-p) p T:=by
 intro n;induction n with
 | zero=>
  intro f p T b h2;have e:sz+1-p=0:=by omega
  rw[e];cases f with
  | zero=>rfl
  | succ f=>
   have hd:dec L V sz p=none:=by
    rcases h:dec L V sz p with _|⟨i,q⟩
    . rfl
    . have:=fs h;omega
   simp only[ot,hd,a13]
 | succ n ih=>
  intro f p T b h2;rcases hd:dec L V sz p with _|⟨i,q⟩
  .
   cases f with
   | zero=>rw[show sz+1-p=0 by omega]
   | succ f=>
    rcases a:sz+1-p with _|m
    . simp only[ot,hd,a13]
    . simp only[ot,hd,a13]
  .
   have hb:=fs hd;obtain⟨f',rfl⟩:∃g,f=g+1:=⟨f-1,by omega⟩;obtain⟨m,a⟩:∃g,sz+1-p=g+1:=⟨sz-p,by omega⟩;rw[a];simp only[ot,hd,a0f]
   split
   . rfl
   .
    rcases c:oneG V sz D i q with _|⟨t,r⟩
    . rfl
    .
     simp only[a0f];have d:=r8 c hb.1;rcases eG T t with _|T'
     . rfl
     . simp only[a0f];rw[ih f' r T' (by omega) (by omega),ih m r T' (by omega) (by omega)]
theorem wk(h:dec L V sz p=none):iv V sz L D p T=none:=by
 unfold iv;rcases a:sz+1-p with _|m
 . rfl
 . simp only[ot,h,a13]
theorem AU(h:dec L V sz p=some (256,q)):iv V sz L D p T=some (T,q):=by
 have hb:=fs h;unfold iv;obtain⟨m,hm⟩:∃g,sz+1-p=g+1:=⟨sz-p,by omega⟩;rw[hm];simp only[ot,h,a0f,a0W]
theorem wl(h:dec L V sz p=some (i,q))(a:i≠256):iv V sz L D p T=(oneG V sz D i q).bind fun t=>(eG T t.1).bind fun T'=>iv V sz L D t.2 T':=by
 have hb:=fs h;unfold iv;obtain⟨m,hm⟩:∃g,sz+1-p=g+1:=⟨sz-p,by omega⟩;rw[hm];simp only[ot,h,a0f,a0d a];rcases b:oneG V sz D i q with _|⟨t,r⟩
 . rfl
 .
  simp only[a0f];have c:=r8 b hb.1;rcases eG T t with _|T'
  . rfl
  . simp only[a0f];exact GP m m r T' (by omega) (by omega)
theorem MB: ∀(f p:Nat) (T T':List UInt8) (q:Nat),ot V sz L D f p T=some (T',q)->q<=sz/\p<q/\(T.length<=300->T'.length<=300):=by
 intro f;induction f with
 | zero=>intro p T T' q h;simp[ot]at h
 | succ f ih=>
  intro p T T' q h;rcases hd:dec L V sz p with _|⟨i,r⟩
  . simp[ot,hd]at h
  .
   have hb:=fs hd;simp only[ot,hd,a0f]at h
   split at h
   . simp only[a0l,a06]at h;obtain⟨rfl,rfl⟩:=h;exact⟨hb.1,hb.2.1,id⟩
   .
    rcases b:oneG V sz D i r with _|⟨t,u⟩
    . rw[b]at h;simp at h
    .
     rw[b]at h;simp only[a0f]at h;have e:=r8 b hb.1;rcases a:eG T t with _|T2
     . rw[a]at h;simp at h
     . rw[a]at h;simp only[a0f]at h;obtain⟨c,h2,d⟩:=ih u T2 T' q h;exact⟨c,by omega,fun _=>d (oz a)⟩
theorem xT{T':List UInt8}(h:iv V sz L D p T=some (T',q)):q<=sz/\p<q/\(T.length<=300->T'.length<=300):=MB _ _ _ _ _ h
theorem wo(w:World)(x y:Value)(t:TypeId)(g:Nat)(a:w.heap.size=g):(w.alloc (.cells #[x,y] t)).cell? ⟨g,0,none⟩=some x/\(w.alloc (.cells #[x,y] t)).cell? ⟨g,1,none⟩=some y:=by
 subst a;simp
def mJ(w:World)(b:Nat):Nat:=match w.cell? ⟨b,0,none⟩with|some v=>sliceLen v|none=>0
theorem mh(a:Option Addr)(cap n:Nat)(l:List Int)(w:World)(hn:l.length=n)(h:aY w a l)(hm:n<=300)(hc:∀i,i<l.length->0<=l.getD i 0/\l.getD i 0<=100000)(h2:1<(ax l l.length).length) :
  Calls prog 190 #[.slice a n cap] w fun e w'=>e = .returned (.slice (some ⟨w.heap.size,0,none⟩) n n)/\am w' w.heap.size (.slice (some ⟨w.heap.size,0,none⟩) n n) (bP l)/\Below w.heap.size w w':=by
 have fn:(n:Int)<=300:=by omega
 obtain⟨i0,hi,ev,ey,e0⟩:=a0p Tryz.infoInt;have E:=ae (a0b hn (a0b hm (a0b hc h2)));have HR:=ae h;have d5:Hid (∀k,(ax l l.length).length-k<=1->(k<(ax l l.length).length∨k=0)->bP l=(aw l k).2):=by
  intro k h3 h4;unfold bP;rw[a0d (by omega)]
  congr 2;omega
 clear hc h2 h;go_enter func190,ntmps190;go_wp2_with (at_make;refine a1y _ rfl _ _ 137 rfl w.heap.size 3 i0 (.int .i64 0) 1 a0D hi ev ey .i64 .i64 _ _ n rfl rfl rfl rfl (by rw[e0];omega) (by unfold maxLen;omega) (a0a _) ?_;intro w1 bk V);have cu:am w1 w.heap.size (.slice (some ⟨w.heap.size,0,none⟩) n n) (List.replicate l.length 0):=by
  rw[hn];exact cU bk
 have b7:Below w.heap.size w w1:=(a0c _ _).grown V (a0a _) (fun k h=>by cases h);have fv:w.heap.size+1<=w1.heap.size:=cu.below.2;have c8:=ae (vj a cap n l w1 hn ((ab HR).later b7) hm);have bs:=ae (a0b cu b7);clear bk V hn hm cu b7 hi ev ey e0;refine(ab c8).mono ?_;rintro e w2 ⟨rfl,L0,va0,vc0,d6,ds,b3,ek,I⟩;have eg:=(ab bs).1.later I (a0a _);have d4:=ai (ab bs).2 I;rw[←(ab E).1]at b3;clear c8 bs;generalize hB:w1.heap.size=B at *
 clear hB;go_wp2_with fail
 go_loopw [5,6,7,9] (fun _ _ _ _ wq=>∃(j:Nat) (L:List Grp) (va:Option Addr) (vc:Nat),(j<(ax l l.length).length∨j=0)/\(L.map bare).Perm (aw l j).1/\cB wq B (B+1) (.slice va L.length vc) L/\HP L/\dI wq (B+1) L/\am wq w.heap.size (.slice (some ⟨w.heap.size,0,none⟩) n n) (aw l j).2/\Below w.heap.size w wq) (fun _ _ _ _ wq=>mJ wq B)
 case atStart=>exact⟨0,L0,va0,vc0,.inr rfl,b3,d6,ds,ek,eg,d4⟩
 case round=>
  obtain⟨j,L,va,vc,hj,hL,hh,hP,hs,hp,d⟩:=hrel;clear b3 d6 ds ek eg d4 I;have HZ:=ae (iS B (B+1) L.length vc va L wr hh);have ch:L.length=(ax l l.length).length-j:=by
   have O:=hL.length_eq;rw[a0K,(bU l j hj).2.2.2]at O;exact O
  by_cases a9:1<L.length
  .
   obtain⟨q,hq⟩:∃q,L.length=q+2:=⟨L.length-2,by omega⟩;obtain⟨g,rfl⟩:=hh.2.somes (by omega);rw[hq]at HZ;have cv:q+2<=300:=by
    have h2:=oj l l.length;have:=(ab E).1;have:=(ab E).2.1;omega
   have fr:(q:Int)+2<=300:=by omega
   have cc:cB wr B (B+1) (.slice (some ⟨g,0,none⟩) (q+1+1) vc) L:=by rw[hq]at hh;exact hh
   have c9:=ae (AO B g (q+1) vc L wr hs hq (by omega) cc hP);have H:=ae (a0b hj (a0b hL (a0b cc (a0b hP (a0b hs (a0b hp (a0b d a9)))))));clear hj hL cc hP hs hp d a9 ch hh cv;go_wp2_with fail;refine(ab HZ).mono ?_;rintro e y1 ⟨rfl,al⟩;rw[al];clear al y1;go_wp2_with fail;refine(ab c9).mono ?_;rintro e x1 ⟨rfl,M1,r,a4,d7,a7,X⟩;have f:Hid (Calls prog 221 #[.pointer (some ⟨B,0,none⟩)] x1 fun e w'=>e = .returned (.agg #[.int .i64 (M1.getD 0 g0).cnt,.int .i64 (M1.getD 0 g0).fst,(M1.getD 0 g0).val])/\∃M:List Grp,(M1.getD 0 g0 :: M).Perm M1/\HP M/\cB w' B (B+1) (.slice (some ⟨g,0,none⟩) q vc) M/\Below B x1 w'/\bj 3 x1 w'):=by
    obtain⟨hj,hL,hh,hP,hs,hp,d,a9⟩:=ab H;have ba:M1.length=q+1:=by have:=r.length_eq;simp at this;omega
    exact AO B g q vc M1 x1 ((X.syms hs).sub (fun y hy=>r.mem_iff.1 (by simp[hy]))) ba (by omega) d7 a4
   have b2:=ae (a0b r (a0b a4 (a0b a7 X)));obtain⟨aa,ac,b6⟩:=((ab H).2.2.2.2.1 (L.getD 0 g0) (fC L 0 (by omega))).form;rw[b6];have dq:=fC L 0 (by omega);have c5:=ae (a0b b6 dq);clear r a4 d7 a7 X b6 dq;generalize dl:L.getD 0 g0=A at *
   have c6:=ae dl;clear dl;go_wp2_with fail;refine(ab f).mono ?_;rintro e x2 ⟨rfl,M2,Q,dv,ca,I,d8⟩;have HF:Hid (M1.length=q+1/\M2.length=q/\am x2 (B+1) A.val A.syms/\am x2 (B+1) (M1.getD 0 g0).val (M1.getD 0 g0).syms/\dI x2 (B+1) M2/\am x2 w.heap.size (.slice (some ⟨w.heap.size,0,none⟩) n n) (aw l j).2/\Below w.heap.size w x2/\M2.Perm M2):=by
    obtain⟨hj,hL,hh,hP,hs,hp,d,a9⟩:=ab H;obtain⟨r,a4,a7,X⟩:=ab b2;have ba:M1.length=q+1:=by have:=r.length_eq;simp at this;omega
    have ed:M2.length=q:=by have:=Q.length_eq;simp at this;omega
    have hk:=X.trans d8;have el:dI x2 (B+1) M1:=(hk.syms hs).sub (fun y hy=>r.mem_iff.1 (by simp[hy]));exact⟨ba,ed,hk.ints (hs _ (ab c5).2),el _ (fC M1 0 (by omega)),el.sub (fun y hy=>Q.mem_iff.1 (by simp[hy])),hk.ints hp,(d.trans (a7.mono (by omega))).trans (I.mono (by omega)),a2p _⟩
   have dd:=ae (a0b Q (a0b dv ca));obtain⟨ga,gc,b9⟩:=(ab HF).2.2.2.1.form;have D:=ae (Jc (ab E).2.2.1 (by rw[(ab E).1];exact(ab E).2.1) (ab H).1 (ab H).2.1 (ab H).2.2.2.1 (by omega) (by rw[ab c6];exact(ab b2).1) (ab b2).2.1 Q);rw[ab c6]at D;rw[b9];have e1:=ae b9;have fc:=ca.lt;clear Q dv ca I d8 b9;generalize M1.getD 0 g0=G at *
   clear c9 f HZ;go_wp2_with fail;have a6:Below x2.heap.size x2 (((x2.alloc (.cells #[.int .i64 A.cnt,.int .i64 A.fst,.slice aa A.syms.length ac] 302)).alloc (.cells #[.int .i64 G.cnt,.int .i64 G.fst,.slice ga G.syms.length gc] 302)).alloc (.cells #[.slice aa A.syms.length ac,.slice ga G.syms.length gc] 137)):=
    (((a0c _ _).alloc (a0a _) _).alloc (by simp) _).alloc (by simp;omega) _
   have d2:Three (((x2.alloc (.cells #[.int .i64 A.cnt,.int .i64 A.fst,.slice aa A.syms.length ac] 302)).alloc (.cells #[.int .i64 G.cnt,.int .i64 G.fst,.slice ga G.syms.length gc] 302)).alloc (.cells #[.slice aa A.syms.length ac,.slice ga G.syms.length gc] 137)) x2.heap.size (.int .i64 A.cnt) (.int .i64 A.fst) (.slice aa A.syms.length ac):=
    ((pt x2 _ _ _ _).later ((a0c _ _).alloc (a0a _) _)).later ((a0c _ _).alloc (a0a _) _)
   have d3:Three (((x2.alloc (.cells #[.int .i64 A.cnt,.int .i64 A.fst,.slice aa A.syms.length ac] 302)).alloc (.cells #[.int .i64 G.cnt,.int .i64 G.fst,.slice ga G.syms.length gc] 302)).alloc (.cells #[.slice aa A.syms.length ac,.slice ga G.syms.length gc] 137)) (x2.heap.size+1) (.int .i64 G.cnt) (.int .i64 G.fst) (.slice ga G.syms.length gc):=by
    have O:=pt (x2.alloc (.cells #[.int .i64 A.cnt,.int .i64 A.fst,.slice aa A.syms.length ac] 302)) (.int .i64 G.cnt) (.int .i64 G.fst) (.slice ga G.syms.length gc) 302;have e:(x2.alloc (.cells #[.int .i64 A.cnt,.int .i64 A.fst,.slice aa A.syms.length ac] 302)).heap.size=x2.heap.size+1:=by simp
    rw[e]at O;exact O.later ((a0c _ _).alloc (a0a _) _)
   have d1:iO (((x2.alloc (.cells #[.int .i64 A.cnt,.int .i64 A.fst,.slice aa A.syms.length ac] 302)).alloc (.cells #[.int .i64 G.cnt,.int .i64 G.fst,.slice ga G.syms.length gc] 302)).alloc (.cells #[.slice aa A.syms.length ac,.slice ga G.syms.length gc] 137)) (x2.heap.size+1+1) (B+1) [(.slice aa A.syms.length ac,A.syms.map (Value.int .i64)),(.slice ga G.syms.length gc,G.syms.map (Value.int .i64))]:=by
    have cr:=(ab HF).2.2.1.later a6 (a0a _);have cs:=(ab HF).2.2.2.1.later a6 (a0a _);rw[(ab c5).1]at cr;rw[ab e1]at cs;intro i hi
    match i,hi with
    | 0,_=>exact⟨(wo _ _ _ _ _ (by simp)).1,_,cr,a1k .i64 _⟩
    | 1,_=>exact⟨(wo _ _ _ _ _ (by simp)).2,_,cs,a1k .i64 _⟩
   have e2:(((x2.alloc (.cells #[.int .i64 A.cnt,.int .i64 A.fst,.slice aa A.syms.length ac] 302)).alloc (.cells #[.int .i64 G.cnt,.int .i64 G.fst,.slice ga G.syms.length gc] 302)).alloc (.cells #[.slice aa A.syms.length ac,.slice ga G.syms.length gc] 137)).heap.size=x2.heap.size+3:=by simp
   generalize ((x2.alloc (.cells #[.int .i64 A.cnt,.int .i64 A.fst,.slice aa A.syms.length ac] 302)).alloc (.cells #[.int .i64 G.cnt,.int .i64 G.fst,.slice ga G.syms.length gc] 302)).alloc (.cells #[.slice aa A.syms.length ac,.slice ga G.syms.length gc] 137)=W3 at *
   have C:aM [(Value.slice aa A.syms.length ac,A.syms.map (Value.int .i64)),(Value.slice ga G.syms.length gc,G.syms.map (Value.int .i64))]=(A.syms++G.syms).length:=by simp[aM,cj]
   have R:de [(Value.slice aa A.syms.length ac,A.syms.map (Value.int .i64)),(Value.slice ga G.syms.length gc,G.syms.map (Value.int .i64))]=(A.syms++G.syms).map (Value.int .i64):=by simp[de]
   refine(pF (x2.heap.size+1+1) (B+1) 2 2 _ W3 rfl (by omega) (by omega) d1 (by rw[C];have:=(ab D).2.2.2.2.2.1;omega)).mono ?_;rintro e x3 ⟨v,rfl,cp,T⟩;rw[C,R]at cp;have b5:am x3 W3.heap.size v (A.syms++G.syms):=cp;have bb:=d2.later T;have bc:=d3.later T;have m:=ai a6 T;have N:Hid (cB x3 B (B+1) (.slice (some ⟨g,0,none⟩) q vc) M2/\dI x3 (B+1) M2/\am x3 w.heap.size (.slice (some ⟨w.heap.size,0,none⟩) n n) (aw l j).2/\Below w.heap.size w x3/\am x3 W3.heap.size v (A.syms++G.syms)/\Three x3 x2.heap.size (.int .i64 A.cnt) (.int .i64 A.fst) (.slice aa A.syms.length ac)/\Three x3 (x2.heap.size+1) (.int .i64 G.cnt) (.int .i64 G.fst) (.slice ga G.syms.length gc)/\x2.heap.size+3<=x3.heap.size):=by
    obtain⟨ba,ed,cr,cs,e8,e7,e3,_⟩:=ab HF;refine⟨(ab dd).2.2.later m,e8.later m (a0a _),e7.later m (a0a _),e3.trans (m.mono (by omega)),b5,bb,bc,?_⟩;have:=T.size;omega
   obtain⟨sa,sc,en⟩:=b5.form;have a5:Hid ((A.syms++G.syms).length<=300/\0<(A.syms++G.syms).length/\(∀x∈A.syms++G.syms,0<=x/\x<(l.length:Int))):=by
    obtain⟨t1,t2,t3,t4,t5,t6,t7,t8,t9⟩:=ab D;refine⟨t6,?_,t9⟩;rw[a0k];omega
   clear a6 d2 d3 d1 cp T b5 bb bc m R C;generalize hS:A.syms++G.syms=S at *
   clear hS;obtain⟨gs,e4⟩:=(show am x3 W3.heap.size (.slice sa S.length sc) S by rw[←en];exact(ab N).2.2.2.2.1).somes (ab a5).2.1;subst e4;subst en;have sI:(S.length:Int)<=300:=by have:=(ab a5).1;omega
   go_wp2_with fail;have e6:=ae (sW l (fun i hi=>((ab E).2.2.1 i hi).2) (by rw[(ab E).1];exact(ab E).2.1) j (ab H).1);have e5:Hid ((j:Int)<=300):=by
    show(j:Int)<=300;have O:=(ab H).1;have h2:=oj l l.length;have:=(ab E).1;have:=(ab E).2.1;omega
   have c7:Hid (mJ wr B=q+2):=by
    show mJ wr B=q+2;unfold mJ;rw[(ab H).2.2.1.cell];rfl
   go_loopw [9,30] (fun _ i wq=>∃t:Nat,t<=S.length/\i = .int .i64 t/\am wq w.heap.size (.slice (some ⟨w.heap.size,0,none⟩) n n) (bump (aw l j).2 (S.take t))/\Touch (some ⟨w.heap.size,0,none⟩) x3 wq/\Below w.heap.size w wq) (fun _ i _=>S.length-(intOf i).toNat)
   case atStart=>exact⟨0,a0g _,rfl,(ab N).2.2.1,Touch.refl _ _,(ab N).2.2.2.1⟩
   case round=>
    obtain⟨t,ht,rfl,J,c,a8⟩:=hrel;have co:Hid ((bump (aw l j).2 (S.take t)).length=n):=by show(bump (aw l j).2 (S.take t)).length=n;rw[oB,dZ,(ab E).1]
    have eu:Hid (t<=S.length):=ht;clear ht;by_cases Y:t<S.length
    .
     have bl:=(ab N).2.2.2.2.1.touch c (ju _ _ (by omega));obtain⟨c0,_,_,_⟩:=bl.at rfl Y;have hx:=(ab a5).2.2 (S.getD t 0) (by simp[List.getD,Y]);rw[(ab E).1]at hx;have U:=ae (vp (aw l j).2 S t Y);have be:=ae (sF (ab e6) (S.take t));obtain⟨p,ei⟩:=a0s hx.1;rw[ei]at c0 U;have eh:p<n:=by omega
     obtain⟨d0,f0,_,_⟩:=J.at (ab co) eh;have cy:=ab be p (by rw[ab co];exact eh);have Z:=J.put (j:=p) (ab co) ((bump (aw l j).2 (S.take t)).getD p 0+1);have em:Hid (bump (aw l j).2 (S.take (t+1))=(bump (aw l j).2 (S.take t)).set p ((bump (aw l j).2 (S.take t)).getD p 0+1)):=by
      show bump (aw l j).2 (S.take (t+1))=_;rw[ab U];unfold fy;rw[a0t]
     have f2:(bump (aw l j).2 (S.take t)).getD p 0<=100000:=by
      have O:=cy.2;have h2:(S.take t).length<=300:=by rw[a0v];have:=(ab a5).1;omega
      have:=ab e5;omega
     have fz:=cy.1;have bd:=ah a8 (b:=w.heap.size) (o:=p) (a0a _) (.int .i64 ((bump (aw l j).2 (S.take t)).getD p 0+1));have ad:=c.set (o:=p) rfl (.int .i64 ((bump (aw l j).2 (S.take t)).getD p 0+1));have fb:(p:Int)<(n:Int):=by omega
     rw[←ab em]at Z;generalize (bump (aw l j).2 (S.take t)).getD p 0=y at *
     have K:=ae (a0b Z (a0b bd ad));have fa:(t:Int)<(S.length:Int):=by omega
     clear Z bd ad em cy be U ei hx bl c a8 J;go_wp2;go_roundw
     case rel=>exact⟨t+1,by have:=ab eu;omega,by go_num,(ab K).1,(ab K).2.2,(ab K).2.1⟩
     case measure=>simp[intOf];omega
    .
     obtain rfl:t=S.length:=by have:=ab eu;omega
     rw[a0x (a0a _)]at J;obtain⟨h3,s3,_,_,o3,tA,tG,z3⟩:=ab N;have HY:Hid (cB wr B (B+1) (.slice (some ⟨g,0,none⟩) q vc) M2/\dI wr (B+1) M2/\am wr (B+1) (.slice (some ⟨gs,0,none⟩) S.length sc) S):=by
      refine⟨⟨(c.2 B (fun g' e=>by simp only[a0l,a0B,a0O]at e;omega)).trans h3.1,nu h3.2 c (ju _ _ (by omega))⟩,fun y hy=>(s3 y hy).touch c (ju _ _ (by omega)),?_⟩;have h4:=o3.touch c (ju _ _ (by omega));exact am.mono h4 (by omega)
     obtain⟨a0,a1,_,_,_,_,abl⟩:=tA;obtain⟨b0,b1,_,_,_,_,fl⟩:=tG;have a0':=(gW c (p:=⟨x2.heap.size,0,none⟩) (by show x2.heap.size≠w.heap.size;omega)).trans a0;have a1':=(gW c (p:=⟨x2.heap.size,1,none⟩) (by show x2.heap.size≠w.heap.size;omega)).trans a1;have fh:=(gW c (p:=⟨x2.heap.size+1,0,none⟩) (by show x2.heap.size+1≠w.heap.size;omega)).trans b0;have fk:=(gW c (p:=⟨x2.heap.size+1,1,none⟩) (by show x2.heap.size+1≠w.heap.size;omega)).trans b1;obtain⟨t1,t2,t3,t4,t5,t6,t7,t8,t9⟩:=ab D;obtain⟨F,hF⟩:∃F:Int,F=if G.fst<A.fst then G.fst else A.fst:=⟨_,rfl⟩
     rw[←hF]at t2;have f:=ae (a0b t1 t2);have a2:=ae (zy B q vc (some ⟨g,0,none⟩) M2 ⟨A.cnt+G.cnt,F,S,.slice (some ⟨gs,0,none⟩) S.length sc⟩ wr (ab HY).2.1 (ab HY).2.2 (ab HF).2.1 (by omega) (ab HY).1 (ab dd).2.1);have a3:=ae (a0b J a8);clear h3 s3 o3 z3 a0 a1 b0 b1 c J a8 e2 t1 t2 t6 t7 t8 t9;by_cases e9:A.fst<=G.fst
     .
      have P:F=A.fst:=by rw[hF,a0d (by omega)]
      rw[P]at a2 f;clear hF P;go_wp2_with fail;refine(ab a2).mono ?_;rintro e x5 ⟨rfl,M3,g',c',s,b4,W,b8,z⟩;go_wp2;go_roundw
      case rel=>
       have cg:M3.length=q+1:=by rw[s.length_eq,a0k,(ab HF).2.1];rfl
       have u:=(ab a3).1;refine⟨j+1,M3,some ⟨g',0,none⟩,c',.inl ?_,(ab f).2 M3 _ s,by rw[cg];exact W,b4,?_,?_,(ab a3).2.trans (b8.mono (by omega))⟩
       . have O:=(ab H).2.1.length_eq;rw[a0K,(bU l j (ab H).1).2.2.2]at O;omega
       . exact(((z.syms (ab HY).2.1)).snoc (z.ints (ab HY).2.2)).perm s
       . show am x5 w.heap.size _ (bump (aw l j).2 (bg (aw l j).1));rw[(ab f).1];exact z.ints u
      case measure=>
       rw[ab c7];unfold mJ;rw[W.cell];simp[sliceLen]
     .
      have P:F=G.fst:=by rw[hF,a0e (by omega)]
      rw[P]at a2 f;clear hF P;go_wp2_with fail;refine(ab a2).mono ?_;rintro e x5 ⟨rfl,M3,g',c',s,b4,W,b8,z⟩;go_wp2;go_roundw
      case rel=>
       have cg:M3.length=q+1:=by rw[s.length_eq,a0k,(ab HF).2.1];rfl
       have u:=(ab a3).1;refine⟨j+1,M3,some ⟨g',0,none⟩,c',.inl ?_,(ab f).2 M3 _ s,by rw[cg];exact W,b4,?_,?_,(ab a3).2.trans (b8.mono (by omega))⟩
       . have O:=(ab H).2.1.length_eq;rw[a0K,(bU l j (ab H).1).2.2.2]at O;omega
       . exact(((z.syms (ab HY).2.1)).snoc (z.ints (ab HY).2.2)).perm s
       . show am x5 w.heap.size _ (bump (aw l j).2 (bg (aw l j).1));rw[(ab f).1];exact z.ints u
      case measure=>
       rw[ab c7];unfold mJ;rw[W.cell];simp[sliceLen]
  . obtain⟨va',vc',hform⟩:∃x y,Value.slice va L.length vc = .slice x L.length y:=⟨_,_,rfl⟩;have ej:=ab d5 j (by omega) hj;rw[←ej]at hp;clear hform;go_wp2_with fail;refine(ab HZ).mono ?_;rintro e y1 ⟨rfl,al⟩;rw[al];clear al y1;go_wp2;go_ret;exact⟨rfl,hp,d⟩
theorem tZ(h:bK o k<o.getD k 0):bK o (k+1)=o.getD k 0:=by simp only[bK];rw[a0e h]
theorem xC(h:¬ bK o k<o.getD k 0):bK o (k+1)=bK o k:=by simp only[bK];rw[a0d h]
theorem JP(b:0<=o.getD 0 0):bK o 1=o.getD 0 0:=by
 by_cases h:bK o 0<o.getD 0 0
 . exact tZ h
 . have a:bK o 1=bK o 0:=xC h;have e:bK o 0=0:=rfl;rw[e]at h a;rw[a];exact(Int.le_antisymm (Int.not_lt.1 h) b).symm
def Dw(v:Value)(w:World)(n:Nat):Nat:=match v with
 | .slice (some a) _ _=>((List.range n).map (fun i=>(intOf ((w.cell? ⟨a.block,a.off+i,none⟩).getD (.int .i64 0))).toNat)).sum
 | _=>0
theorem EG{w:World}{a:Option Addr}{c:Nat}(e:l.length=n)(b:1<=n)(h:aY w a l):Dw (.slice a n c) w n=jA l:=by
 obtain⟨g,o,rfl,f,d⟩:=h (by omega);unfold Dw jA;simp only
 congr 1
 apply a2G
 . simp[e]
 . intro i b h2;simp only[a0K,List.length_range]at b;simp only[List.getElem_map,List.getElem_range];rw[d i (by omega)];simp[intOf,List.getD,show i<l.length by omega]
theorem tV(a:Option Addr)(cap n:Nat)(o:List Int)(w:World)(t:o.length=n)(h:aY w a o)(r:1<=n)(z:n<=300)(d:∀i,i<o.length->0<=o.getD i 0) :
  Calls prog 186 #[.slice a n cap] w fun e w'=>e = .returned (.int .i64 (bK o n))/\w'=w:=by
 have A:(n:Int)<=300:=by omega
 have x:(1:Int)<=(n:Int):=by omega
 have p:=ae (a0b t (a0b r d));obtain⟨g,off,rfl,E,f⟩:=h (by omega);have c0:=f 0 (by omega);have e0:=ae (JP (d 0 (by omega)));rw[a1w]at c0;have v:=ae f;clear t h z d f r;generalize B:o.getD 0 0=y0 at *
 clear B;go_enter func186,ntmps186;go_wp2_with fail
 go_loop [3,4] (fun m i=>∃k:Nat,1<=k/\k<=n/\i = .int .i64 k/\m = .int .i64 (bK o k)) (fun _ i=>n-(intOf i).toNat)
 case atStart=>exact⟨1,a0a _,(ab p).2.1,rfl,by rw[ab e0]⟩
 case round=>
  obtain⟨k,u,s,rfl,rfl⟩:=hrel;have C:=ae (a0b u s);by_cases j:k<n
  .
   have D:=ab v k (by rw[(ab p).1];exact j);have c:=ae (fun h=>tZ (o:=o) (k:=k) h);have l:=ae (fun h=>xC (o:=o) (k:=k) h);clear s u c0;generalize o.getD k 0=y at *
   generalize bK o k=q at *
   by_cases b:q<y
   .
    have e1:=ae (ab c b);go_wp2
    go_round
    case rel=>exact⟨k+1,by omega,by omega,by go_num,by rw[ab e1]⟩
    case measure=>simp[intOf];omega
   .
    have e1:=ae (ab l b);go_wp2
    go_round
    case rel=>exact⟨k+1,by omega,by omega,by go_num,by rw[ab e1]⟩
    case measure=>simp[intOf];omega
  .
   obtain rfl:k=n:=by omega
   go_wp2;go_ret;exact⟨rfl,rfl⟩
theorem Cg(x:Int)(w:World)(a:0<=x)(b:x<=1000000) :
  Calls prog 191 #[.int .i64 x] w fun e w'=>e = .returned (.int .i64 (im x))/\w'=w:=by
 go_enter func191,ntmps191;go_wp2;go_ret;exact⟨rfl,rfl⟩
theorem wR(a:Option Addr)(cap n:Nat)(l:List Int)(w:World)(H:l.length=n)(h:aY w a l)(G:n<=1048576)(E:okC l) :
  Calls prog 188 #[.slice a n cap,.func (.func 191) #[] #[]] w fun e w'=>∃v,e = .returned v/\am w' w.heap.size v (bo l)/\Below w.heap.size w w':=by
 have M:(n:Int)<=1048576:=by omega
 have p:=ae H;have K:=ae G;have I:=ae E;clear H G E;obtain⟨i0,L,B,C,D⟩:=a0p Tryz.infoInt;go_enter func188,ntmps188;go_wp2_with fail
 go_loopw [5,7,10] (fun o _ i wr=>∃k:Nat,k<=n/\i = .int .i64 k/\am wr w.heap.size o (bo (l.take k))/\Below w.heap.size w wr) (fun _ _ i _=>n-(intOf i).toNat)
 case atStart=>exact⟨0,a0g _,rfl,a04 _ _ _ _,a0c _ _⟩
 case round=>
  obtain⟨k,F,rfl,hq,b⟩:=hrel;have q:=b.size;by_cases m:k<n
  .
   obtain⟨g,o,rfl,N,r⟩:=(h.later b) (by rw[ab p];omega);have c0:=r k (by rw[ab p];exact m);obtain⟨y0,y1⟩:=ab I k (by rw[ab p];exact m);have A:Hid (bo (l.take (k+1))=bo (l.take k)++[im (l.getD k 0)]):=by
    show _=_;unfold bo;rw[bX l k (by rw[ab p];exact m),a0I];rfl
   have z:Hid ((bo (l.take k)).length=k):=by show _=k;have:=ab p;rw[ee];simp;omega
   have J:=ae F;clear r F h;generalize l.getD k 0=y at *
   have HP:=ae (Cg y wr (by omega) (by omega));generalize im y=R at *
   go_wp2_with fail;refine(ab HP).mono ?_;rintro e x1 ⟨rfl,u⟩;rw[u];clear u x1;have d:Hid ((bo (l.take k)).length+1<=maxLen/\((bo (l.take k)).length+1)*8<=140737488355328):=by
    show _/\_;rw[ab z];have:=ab K;unfold maxLen;omega
   clear HP;go_wp2_with (at_builtin;refine a0r _ rfl _ _ 137 rfl w.heap.size 3 i0 (.int .i64 0) 1 8 a0D L B C D rfl (by decide) _ _ _ rfl (a0j hq _) ⟨wr.heap.size,0,none⟩ 1 1 [.int .i64 R] rfl rfl (bC _ _ rfl _ _) (ew _) (ab d).1 (ab d).2 (an q _) ?_;intro v' x2 j c s;clear s);have x:=aB (v:=u5) c hq (a0a _) q b;have t:=mS j;rw[←ab A]at t;clear j c hq;go_wp2;go_roundw
   case rel=>exact⟨k+1,by have:=ab J;omega,by go_num,t,x⟩
   case measure=>simp[intOf];omega
  . have f:l.take k=l:=a0x (by rw[ab p];omega);rw[f]at hq;obtain⟨va,vc,rfl⟩:=hq.form;clear f h;go_wp2;go_ret;exact⟨_,rfl,hq,b⟩
theorem Ku(l:List Int)(k i:Nat)(d:i<k)(c:0<l.getD i 0):∃g∈ax l k,g.fst=(i:Int):=by
 induction k with
 | zero=>omega
 | succ k ih=>
  by_cases e:i=k
  . subst e;refine⟨⟨l.getD i 0,(i:Int),[(i:Int)],.slice none 0 0⟩,?_,rfl⟩;rw[uw c];simp
  .
   obtain⟨g,a,b⟩:=ih (by omega);refine⟨g,?_,b⟩;simp only[ax]
   split
   . simp[a]
   . exact a
theorem Kv(l:List Int)(k:Nat):∀g∈ax l k,∃i:Nat,g.fst=(i:Int)/\i<k/\0<l.getD i 0:=by
 induction k with
 | zero=>intro g a;simp[ax]at a
 | succ k ih=>
  intro g a;simp only[ax]at a
  split at a
  .
   rename_i hp;simp only[a0U,a05]at a;rcases a with a|rfl
   . obtain⟨i,b,h2,c⟩:=ih g a;exact⟨i,b,by omega,c⟩
   . exact⟨k,rfl,by omega,hp⟩
  . obtain⟨i,b,h2,c⟩:=ih g a;exact⟨i,b,by omega,c⟩
theorem xl(m:okC l)(a:(ax l l.length).length=1):bP l=l.map gN:=by
 unfold bP;rw[a0e a];obtain⟨x,hx⟩:∃x,ax l l.length=[x]:=by
  cases j:ax l l.length with
  | nil=>rw[j]at a;simp at a
  | cons x t=>rw[j]at a;simp at a;exact⟨x,by rw[a]⟩
 obtain⟨q,hq,p,h⟩:=Kv l l.length x (by rw[hx];simp);rw[hx];simp only[List.getD_cons_zero];rw[hq,a0t];apply a2G
 . simp
 .
  intro i h2 k;have f:i<l.length:=by simpa using k
  have e:l.getD i 0=l[i]:=by simp[List.getD,f]
  have b:=m i f;rw[List.getElem_set,List.getElem_map,List.getElem_replicate];by_cases c:q=i
  .
   subst c;rw[a0e rfl];rw[e]at h b;unfold gN
   split<;>omega
  .
   rw[a0d c];have r:¬ 0<l.getD i 0:=by
    intro o;obtain⟨g,d,n⟩:=Ku l l.length i f o;rw[hx]at d;simp only[a05]at d;subst d;rw[hq]at n;omega
   rw[e]at r b;unfold gN
   split<;>omega
theorem LD{m:Int}(j:1<=m)(b:okC l)(d:(ax l l.length).length=1):cW m l=l.map gN:=by
 have g:fits (bP l) m=true:=by
  refine Eb (by omega) ?_;rw[xl b d];intro i h;have a:i<l.length:=by simpa using h
  have e:(l.map gN).getD i 0=gN l[i]:=by simp[List.getD,a]
  have e2:l.getD i 0=l[i]:=by simp[List.getD,a]
  have c:=b i a;rw[e2]at c;rw[e];unfold gN
  split<;>omega
 rw[←xl b d];unfold cW;cases jA l with
 | zero=>rfl
 | succ f=>simp only[oI];rw[g];rfl
theorem LU(b:okC l)(c:l.length<=300)(h2:1<(ax l l.length).length):∀i,i<(bP l).length->0<=(bP l).getD i 0:=by
 intro i a;have e:bP l=(aw l ((ax l l.length).length-1)).2:=by unfold bP;rw[a0d (by omega)]
 rw[e]at a ⊢;exact((sW l (fun i a=>(b i a).2) c _ (.inl (by omega))) i a).1
theorem sY(a:Option Addr)(cap n:Nat)(l:List Int)(m:Int)(w:World)(g:l.length=n)(h:aY w a l)(f:n<=1048576)(c:vQ l m=false) :
  Ds 144 #[.slice a n cap,.int .i64 m] w (.slice none 0 0):=by
 have j:=ae (lP a cap n l w g h f);by_cases v:m<1
 .
  clear g h f c;generalize iL l=U at *
  go_enter a2O,a2P;go_wp2_with fail;refine(ab j).mono ?_;rintro e x1 ⟨rfl,d⟩;rw[d];go_wp2;go_ret;exact⟨rfl,a0c _ _⟩
 .
  by_cases p:15<m
  .
   clear g h f c;generalize iL l=U at *
   go_enter a2O,a2P;go_wp2_with fail;refine(ab j).mono ?_;rintro e x1 ⟨rfl,d⟩;rw[d];go_wp2;go_ret;exact⟨rfl,a0c _ _⟩
  .
   by_cases i:iL l<1
   .
    clear g h f c;generalize iL l=U at *
    go_enter a2O,a2P;go_wp2_with fail;refine(ab j).mono ?_;rintro e x1 ⟨rfl,d⟩;rw[d];go_wp2;go_ret;exact⟨rfl,a0c _ _⟩
   .
    obtain⟨mm,rfl⟩:∃mm:Nat,m=(mm:Int)+1:=⟨(m-1).toNat,by omega⟩;have b:(decide (l.length<=300)&&inC l)=true:=by
     cases u:decide (l.length<=300)&&inC l
     . exfalso;apply i;unfold iL;rw[u];simp
     . rfl
    have k:(p2 mm:Int)<iL l:=by
     simp only[a0o,a0y]at b;rw[nf b.1 b.2]at i ⊢;unfold vQ at c;rw[a0u b.1,b.2,az.2 ⟨by omega,by omega⟩]at c;have e3:((mm:Int)+1).toNat=mm+1:=by omega
     rw[e3,xI]at c;simp only[a3v]at c;have:=dJ.1 c;omega
    have s:iL l<=300:=by
     simp only[a0o,a0y]at b;rw[nf b.1 b.2];have:=rD l;omega
    have r:(1:Int)*2 ^ mm=(p2 mm:Int):=by rw[Int.one_mul,jZ]
    have o:(2:Int) ^ mm=(p2 mm:Int):=(jZ mm).symm;have q:(mm:Int)<=14:=by omega
    have t:IntKind.i64.wrap (p2 mm:Int)=(p2 mm:Int):=bH _ (by omega) (by omega);clear g h f c b;generalize iL l=U at *
    generalize p2 mm=PW at *
    go_enter a2O,a2P;go_wp2_with fail;refine(ab j).mono ?_;rintro e x1 ⟨rfl,d⟩;rw[d];go_wp2;go_ret;exact⟨rfl,a0c _ _⟩
def tI(o:List Int)(i:Nat):Nat:=(o.getD i 0).toNat
theorem JM(l:List Int)(i:Nat)(h:i<l.length):l.getD i 0∈l:=by simp[List.getD,h]
theorem vH(h2:2<=(ax l l.length).length) :
  (∀i,i<l.length->0<=(bP l).getD i 0/\(bP l).getD i 0<=(((ax l l.length).length-1:Nat):Int)) /\
  (∀i,i<l.length->(0<(bP l).getD i 0<->0<l.getD i 0)) /\
  (∀D,(ax l l.length).length<=D->krR l (tI (bP l)) D l.length=2 ^ D) /\
  oG l (bP l) l.length=qM ((ax l l.length).length-1) (ax l l.length):=by
 obtain⟨U,hU⟩:∃U,(ax l l.length).length=U+2:=⟨(ax l l.length).length-2,by omega⟩;have A:bP l=(aw l (U+1)).2:=by
  unfold bP;rw[a0d (by omega),hU];rfl
 have k:U+1<(ax l l.length).length∨U+1=0:=.inl (by omega);have m:=kW l (U+1) k;have b:(aw l (U+1)).1.length=1:=by have:=(bU l (U+1) k).2.2.2;omega
 have B:(aw l U).1.length=2:=by have:=(bU l U (by omega)).2.2.2;omega
 obtain⟨g,hg⟩:∃g,(aw l (U+1)).1=[g]:=by
  cases v:(aw l (U+1)).1 with
  | nil=>rw[v]at b;simp at b
  | cons x t=>rw[v]at b;simp at b;exact⟨x,by rw[b]⟩
 have a:=mQ l (U+1) k;have p:(g.syms).Perm (bm (ax l l.length)):=by
  rw[hg]at a
  simpa[bm]using a
 rw[A];refine⟨?_,?_,?_,?_⟩
 .
  intro i h;have:=m i (by rw[dZ];exact h);refine⟨this.1,?_⟩;have e:(((ax l l.length).length-1:Nat):Int)=((U+1:Nat):Int):=by rw[hU];omega
  rw[e];exact this.2
 .
  intro i h;constructor
  .
   intro u;apply Classical.byContradiction;intro C;have H:=vG l i h (fun q=>by
    obtain⟨j,d,s,w⟩:=(y6 l l.length (i:Int)).1 q;have:i=j:=by omega
    subst this;exact C w) (U+1) k
   omega
  .
   intro u;have q:(i:Int)∈bm (ax l l.length):=(y6 l l.length (i:Int)).2 ⟨i,rfl,h,u⟩;have f:1<(aw l U).1.length:=by omega
   have n:=gF l U (by omega);have c:=jt _ f;have G:=dc (aw l U).1 (by omega);have E:=dc (ao (aw l U).1) (by omega);have o:ao (ao (aw l U).1)=[]:=a2k (by omega);rw[o]at c;have r:(i:Int)∈bg (aw l U).1:=by
    have d:=(mQ l U (by omega)).mem_iff.2 q;have s:=c.mem_iff.2 d;simpa[bm]using s
   have hb:=lO (aw l U).2 (bg (aw l U).1) i (js f n.1).1 (fun y F=>(n.2 y (c.mem_iff.1 (by simp[F]))).1) (by rw[dZ];exact h);rw[a0e r]at hb;have hd:=(kW l U (by omega)) i (by rw[dZ];exact h);show 0<(bump (aw l U).2 (bg (aw l U).1)).getD i 0;omega
 . intro D z;have d:=LS l D z (U+1) k g (by rw[hg];simp);rw[←uS,←d];exact(Gi _ p).symm
 .
  have d:=LQ l (U+1) k;have e:(ax l l.length).length-1-(U+1)=0:=by omega
  rw[e]at d;simp only[qM,Int.add_zero]at d;exact d
theorem Jn{len:Nat->Nat}{D E:Nat}(b:E<=D)(h:∀i,i<n->0<l.getD i 0->len i<=E):krR l len D n=2 ^ (D-E)*krR l len E n:=by
 induction n with
 | zero=>rfl
 | succ n ih=>
  simp only[krR];rw[ih (fun i c=>h i (by omega)),a2x];by_cases a:0<l.getD n 0
  .
   rw[a0e a,a0e a];have:=h n (by omega) a;rw[←a0V]
   congr 2
   omega
  . rw[a0d a,a0d a];rfl
theorem Jo{E:Nat}(h2:2<=(ax l l.length).length)(h:∀i,i<l.length->(bP l).getD i 0<=(E:Int)):krR l (tI (bP l)) E l.length=2 ^ E:=by
 obtain⟨e,_,d,_⟩:=vH h2;have b:∀i,i<l.length->0<l.getD i 0->tI (bP l) i<=E:=by
  intro i c _;have:=h i c;unfold tI;omega
 have a:=Jn (D:=E+(ax l l.length).length) (Nat.le_add_right _ _) b;rw[d _ (Nat.le_add_left _ _),a2b,a0V,a1s]at a;exact(Nat.eq_of_mul_eq_mul_left (Nat.pow_pos (by omega)) a).symm
theorem LX(e:o.length=l.length)(h:∀i,i<l.length->(0<o.getD i 0<->0<l.getD i 0))(k:Nat)(d:k<=l.length):kr (o.take k)=krR l (tI o) 15 k/\us (o.take k)=(ax l k).length:=by
 induction k with
 | zero=>exact⟨rfl,rfl⟩
 | succ k ih=>
  obtain⟨c,h2⟩:=ih (by omega);rw[xr o k (by omega),pw o k (by omega),c,h2];simp only[krR];have b:=h k (by omega);by_cases a:0<l.getD k 0
  .
   rw[a0e a,a0e (b.2 a),i6 a];refine⟨?_,by simp⟩;unfold krN tI p2;rw[a0e (b.2 a)]
   congr 2
   have:=b.2 a;omega
  . rw[a0d a,a0d (fun x=>a (b.1 x)),ms a];refine⟨?_,rfl⟩;unfold krN;rw[a0d (fun x=>a (b.1 x))]
theorem Bp(c:o.length=l.length)(j:l.length<=300)(h:∀i,i<l.length->(0<o.getD i 0<->0<l.getD i 0))(b:∀i,i<l.length->0<=o.getD i 0/\o.getD i 0<=15)(a:krR l (tI o) 15 l.length=32768∨((ax l l.length).length=1/\krR l (tI o) 15 l.length=16384)):ar o=true:=by
 obtain⟨d,h2⟩:=LX c h l.length (a0a _);rw[←c,List.take_length,c]at d h2;unfold ar lx;simp only[a0o,a1A,a0y];refine⟨⟨?_,by omega⟩,?_⟩
 .
  unfold inL;rw[a09];intro x g;obtain⟨i,f,rfl⟩:=a1O g;have:=b i (by omega);have e:o.getD i 0=o[i]:=by simp[List.getD,f]
  rw[e]at this;exact az.2 this
 .
  rw[d,h2];rcases a with a|a
  . exact .inl a
  . exact .inr a
theorem Eo(o:List Int)(k i:Nat)(a:i<k):o.getD i 0<=bK o k:=by
 induction k with
 | zero=>omega
 | succ k ih=>
  by_cases h:bK o k<o.getD k 0
  .
   rw[tZ h];by_cases e:i=k
   . subst e;exact a29 _
   . have:=ih (by omega);omega
  .
   rw[xC h];by_cases e:i=k
   . subst e;omega
   . exact ih (by omega)
theorem Fu(m:Nat):∀(f:Nat) (l:List Int),okC l->1<=(ax l l.length).length->(ax l l.length).length<=p2 m->jA l<=f ->
  ∃c:List Int,c.length=l.length/\okC c/\(∀i,i<l.length->(0<c.getD i 0<->0<l.getD i 0))/\oI ((m:Int)+1) f l=bP c/\(∀i,i<l.length->(bP c).getD i 0<=(m:Int)+1)/\(ax c c.length).length=(ax l l.length).length:=by
 intro f;induction f with
 | zero=>
  intro l e k _ v;exfalso;obtain⟨g,u⟩:∃g,g∈ax l l.length:=by
   cases b:ax l l.length with
   | nil=>rw[b]at k;simp at k
   | cons x t=>exact⟨x,by simp⟩
  obtain⟨_,i,_,d,q,_⟩:=pm l l.length g u;have:∀(a:List Int) (x:Int),x∈a->0<x->0<jA a:=by
   intro a x j q;induction a with
   | nil=>cases j
   | cons y a ih=>
    simp only[jA,a0H,a0M]at ih ⊢;simp only[a0Z]at j;rcases j with rfl|j
    . omega
    . have:=ih j;omega
  have:=this l (l.getD i 0) (JM l i d) q;omega
 | succ f ih=>
  intro l e k p v;cases h:fits (bP l) ((m:Int)+1)
  .
   have hex:=ub p h;have r:=(uC l (xE e)).2 hex;have b:=qs l (fun i d=>(e i d).1) l.length (a0a _);obtain⟨c,c1,c2,c3,c4,n,o⟩:=ih (bo l) (ud e) (by rw[ee,b];exact k) (by rw[ee,b];exact p) (by omega);rw[ee]at c1 c3 n o;refine⟨c,c1,c2,?_,?_,n,by rw[o,b]⟩
   . intro i d;rw[c3 i d,pR l i d];unfold im;have:=(e i d).1;omega
   . simp only[oI];rw[h];exact c4
  .
   refine⟨l,rfl,e,fun i _=>Iff.rfl,?_,?_,rfl⟩
   . simp only[oI];rw[h];rfl
   . intro i d;unfold fits at h;have s:=a3m h;rw[io]at s;have:=Eo (bP l) l.length i d;omega
theorem vS{c:List Int}(d:okC c)(g:(ax c c.length).length=1)(i:Nat)(b:i<c.length):(bP c).getD i 0=if 0<c.getD i 0 then 1 else 0:=by
 rw[xl d g];have e:(c.map gN).getD i 0=gN c[i]:=by simp[List.getD,b]
 have e2:c.getD i 0=c[i]:=by simp[List.getD,b]
 have a:=d i b;rw[e2]at a ⊢;rw[e];unfold gN;by_cases f:0<c[i]
 . rw[a0e f];split<;>omega
 . rw[a0d f];split<;>omega
theorem Ns{c:List Int}(d:okC c)(k:Nat)(f:k<=c.length)(b:(ax c c.length).length=1):krR c (tI (bP c)) 15 k=(ax c k).length*16384:=by
 induction k with
 | zero=>simp[krR,ax]
 | succ k ih=>
  simp only[krR];rw[ih (by omega)];have h:=vS d b k (by omega);by_cases a:0<c.getD k 0
  .
   rw[a0e a,i6 a];have e:tI (bP c) k=1:=by unfold tI;rw[h,a0e a];rfl
   have e2:(2:Nat) ^ (15-1)=16384:=by decide
   rw[e,e2,a0k,a1n,a1t,a2I]
  . rw[a0d a,ms a,a1w]
theorem tM{m:Nat}(p:okC l)(s:l.length<=300)(n:1<=(ax l l.length).length)(o:(ax l l.length).length<=p2 m)(t:m<=14) :
  (cW ((m:Int)+1) l).length=l.length/\ar (cW ((m:Int)+1) l)=true/\∀i,i<l.length->0<=(cW ((m:Int)+1) l).getD i 0/\(cW ((m:Int)+1) l).getD i 0<=(m:Int)+1/\(0<(cW ((m:Int)+1) l).getD i 0<->0<l.getD i 0):=by
 obtain⟨c,c1,c2,c3,c4,j,r⟩:=Fu m (jA l) l p n o (a0a _);have e:cW ((m:Int)+1) l=bP c:=c4;rw[e];by_cases b:(ax c c.length).length=1
 .
  have q:=vS c2 b;have d:∀i,i<l.length->0<=(bP c).getD i 0/\(bP c).getD i 0<=1/\(0<(bP c).getD i 0<->0<l.getD i 0):=by
   intro i a;have h:=q i (by omega);have k:=c3 i a;by_cases g:0<c.getD i 0
   . rw[a0e g]at h;rw[h];exact⟨by omega,by omega,⟨fun _=>k.1 g,fun _=>by omega⟩⟩
   . rw[a0d g]at h;rw[h];exact⟨by omega,by omega,⟨fun x=>by omega,fun x=>absurd (k.2 x) g⟩⟩
  refine⟨by rw[io,c1],?_,fun i a=>⟨(d i a).1,j i a,(d i a).2.2⟩⟩;refine Bp (l:=c) (io c) (by omega) ?_ ?_ (.inr ⟨b,by rw[Ns c2 _ (a0a _) b,b]⟩)
  . intro i a;exact(d i (by omega)).2.2.trans (c3 i (by omega)).symm
  . intro i a;have:=d i (by omega);exact⟨this.1,by omega⟩
 .
  have h2:2<=(ax c c.length).length:=by omega
  obtain⟨f0,f1,_,_⟩:=vH h2;refine⟨by rw[io,c1],?_,fun i a=>⟨(f0 i (by omega)).1,j i a,(f1 i (by omega)).trans (c3 i a)⟩⟩;have f:∀i,i<c.length->(bP c).getD i 0<=((15:Nat):Int):=fun i a=>by have:=j i (by omega);omega
  refine Bp (l:=c) (io c) (by omega) f1 (fun i a=>⟨(f0 i a).1,f i a⟩) (.inl (Jo h2 f))
theorem sZ(a:Option Addr)(cap n mm:Nat)(l:List Int)(w:World)(M:l.length=n)(h:aY w a l)(hm:n<=300)(hc:inC l=true)(Z:mm<=14)(a0:1<=us l)(P:us l<=p2 mm) :
  Calls prog 144 #[.slice a n cap,.int .i64 ((mm:Int)+1)] w fun e w'=>(∃v,e = .returned v/\am w' w.heap.size v (cW ((mm:Int)+1) l))/\Below w.heap.size w w':=by
 have Y:=rD l;have HU:=ae (lP a cap n l w M h (by omega));rw[nf (by omega) hc]at HU;have a6:(us l:Int)<=300:=by omega
 have a4:(1:Int)<=(us l:Int):=by omega
 have a5:(us l:Int)<=(p2 mm:Int):=by omega
 have bd:(1:Int)*2 ^ mm=(p2 mm:Int):=by rw[Int.one_mul,jZ]
 have bb:(2:Int) ^ mm=(p2 mm:Int):=(jZ mm).symm;have bc:(mm:Int)<=14:=by omega
 have ac:p2 mm<=16384:=by
  have h1:p2 mm<=p2 14:=a0N (by omega) (by omega);have h2:p2 14=16384:=rfl;omega
 have be:IntKind.i64.wrap (p2 mm:Int)=(p2 mm:Int):=bH _ (by omega) (by omega);have y:=Nw hc;by_cases s:us l=1
 .
  have HE:=ae (yR a cap n l w M h (by omega) y);have j:Hid (cW ((mm:Int)+1) l=l.map gN):=LD (by omega) y (by rw[eV];exact s);rw[s]at a5 HU;have Hn:=ae M;clear M h hm hc Z a0 P Y a6 a4 s y ac;generalize p2 mm=PW at *
  go_enter a2O,a2P;go_wp2_with fail;refine(ab HU).mono ?_;rintro e x1 ⟨rfl,E⟩;rw[E];clear E x1;go_wp2_with fail;refine(ab HE).mono ?_;rintro e x2 ⟨v,rfl,ho,hb⟩;obtain⟨va,vc,rfl⟩:=ho.formN (n:=n) (by rw[a0K,ab Hn]);go_wp2;go_ret;exact⟨⟨_,rfl,by rw[ab j];exact ho⟩,hb⟩
 .
  have ba:((us l:Int) == 1)=false:=by simp;omega
  have O:1<(ax l l.length).length:=by rw[eV];omega
  have HN:=ae (a0b M (a0b hm (a0b y (show(ax l l.length).length<=p2 mm by rw[eV];exact P))));have N:Hid (1<=n):=by show 1<=n;omega
  have HP:=ae (mh a cap n l w M h hm y O);have HH:=ae (a0b h O);clear M h hm hc Z a0 P Y s y ac O;have r:Hid (n<=300):=(ab HN).2.1;generalize us l=U at *
  generalize V:p2 mm=PW at *
  have R:=ae V;clear V;go_enter a2O,a2P;go_wp2_with fail;refine(ab HU).mono ?_;rintro e x1 ⟨rfl,E⟩;rw[E];clear E x1;go_wp2_with fail;refine(ab HP).mono ?_;rintro e x2 ⟨rfl,ho,hb⟩;go_wp2_with fail
  go_loopw [0,6] (fun c v wr=>∃(b:List Int) (f ob T:Nat) (S:Option Addr),b.length=n/\okC b/\(ax b b.length).length<=PW/\1<(ax b b.length).length/\jA b<=f/\cW ((mm:Int)+1) l=oI ((mm:Int)+1) f b/\c = .slice S n T/\v = .slice (some ⟨ob,0,none⟩) n n/\w.heap.size<=ob/\am wr ob (.slice (some ⟨ob,0,none⟩) n n) (bP b)/\aY wr S b/\Below w.heap.size w wr) (fun c _ wr=>Dw c wr n)
  case atStart=>exact⟨l,jA l,w.heap.size,cap,a,(ab HN).1,(ab HN).2.2.1,(ab HN).2.2.2,(ab HH).2,a0a _,rfl,rfl,rfl,a0a _,ho,(ab HH).1.later hb,hb⟩
  case round=>
   obtain⟨b,f,ob,T,S,k,g,p,u,H,j,rfl,rfl,J,D,B,q⟩:=hrel;clear ho hb;have m:(bP b).length=n:=(io b).trans k;have Q:=ae (tV (some ⟨ob,0,none⟩) n n (bP b) wr m (D.rowN m) (ab N) (ab r) (LU g (by rw[k];exact ab r) u));have C:Hid (fits (bP b) ((mm:Int)+1)=decide (bK (bP b) n<=(mm:Int)+1)):=by show _=_;unfold fits;rw[m]
   have HQ:=ae (a0b k (a0b g (a0b p (a0b u (a0b H j)))));have HO:=ae (a0b D (a0b B (a0b q J)));have HE:=ae (wR S T n b wr k B (by have:=ab r;omega) g);have HS:=ae (EG (c:=T) k (ab N) B);clear k g p u H j m D B q J;generalize bK (bP b) n=mo at *
   by_cases a9:(mm:Int)+1<mo
   .
    have I:fits (bP b) ((mm:Int)+1)=false:=by rw[ab C];exact a0h (by omega)
    obtain⟨k,g,p,u,H,j⟩:=ab HQ;rw[←ab R]at p;have hex:=ub p I;have K:=(uC b (xE g)).2 hex;obtain⟨f',hff⟩:∃f',f=f'+1:=⟨f-1,by omega⟩;have L:Hid (cW ((mm:Int)+1) l=oI ((mm:Int)+1) f' (bo b)):=by
     show _=_;rw[j,hff];simp only[oI];rw[I];rfl
    have X:Hid (jA (bo b)<=f'):=by show _<=_;omega
    have a2:=ae K;have A:=ae (ud g);have al:=qs b (fun i hi=>(g i hi).1) b.length (a0a _);have z:Hid ((ax (bo b) (bo b).length).length<=PW/\1<(ax (bo b) (bo b).length).length):=by
     show _/\_;rw[ee,al,←ab R];exact⟨p,u⟩
    have o:Hid ((bo b).length=n):=(ee b).trans k;clear k g p H j hex K hff al u;go_wp2_with fail;refine(ab Q).mono ?_;rintro e x3 ⟨rfl,F⟩;rw[F];clear F x3;go_wp2_with fail;refine(ab HE).mono ?_;rintro e x4 ⟨v,rfl,x,W⟩;obtain⟨va,vc,rfl⟩:=x.formN (ab o);have d:=x.rowN (ab o);have t:Below w.heap.size w x4:=ai (ab HO).2.2.1 W;have a1:=ae (mh va vc n (bo b) x4 (ab o) d (ab r) (ab A) (ab z).2);have a3:=ae (a0b x (a0b t d));clear x W d t;go_wp2_with fail;refine(ab a1).mono ?_;rintro e x5 ⟨rfl,aa,G⟩;obtain⟨x,t,d⟩:=ab a3;have a7:Hid (Dw (.slice va n vc) x5 n<Dw (.slice S n T) wr n):=by
     show Dw _ _ _<Dw _ _ _;rw[EG (ab o) (ab N) (d.later G),ab HS];exact ab a2
    have HR:=ae (a0b aa (a0b (d.later G) (ai t G)));have a8:Hid (w.heap.size<=x4.heap.size):=t.size;clear x t d aa G;go_wp2;go_roundw
    case rel=>exact⟨bo b,f',x4.heap.size,vc,va,ab o,ab A,(ab z).1,(ab z).2,ab X,ab L,rfl,rfl,ab a8,(ab HR).1,(ab HR).2.1,(ab HR).2.2⟩
    case measure=>exact ab a7
   .
    have I:fits (bP b) ((mm:Int)+1)=true:=by rw[ab C];exact a0u (by omega)
    have ad:Hid (cW ((mm:Int)+1) l=bP b):=by
     show _=_;rw[(ab HQ).2.2.2.2.2];cases f with
     | zero=>rfl
     | succ f=>simp only[oI];rw[I];rfl
    go_wp2_with fail;refine(ab Q).mono ?_;rintro e x3 ⟨rfl,F⟩;rw[F];clear F x3;obtain⟨D,B,q,J⟩:=ab HO;go_wp2;go_ret;exact⟨⟨_,rfl,by rw[ab ad];exact D.mono J⟩,q⟩
theorem jg(a:Option Addr)(cap n:Nat)(l:List Int)(m:Int)(w:World)(i:l.length=n)(h:aY w a l)(j:n<=1048576) :
  Calls prog 144 #[.slice a n cap,.int .i64 m] w fun e w'=>(∃v,e = .returned v/\am w' w.heap.size v (jG l m))/\Below w.heap.size w w':=by
 cases b:vQ l m
 . refine(sY a cap n l m w i h j b).mono ?_;rintro e w' ⟨rfl,hb⟩;refine⟨⟨_,rfl,?_⟩,hb⟩;unfold jG;rw[b];exact a04 _ _ _ _
 .
  have f:=b;unfold vQ at f;simp only[a0o,a0y]at f;obtain⟨⟨⟨k,g⟩,d⟩,c⟩:=f;obtain⟨m1,m2⟩:=az.1 g;obtain⟨mm,rfl⟩:∃mm:Nat,m=(mm:Int)+1:=⟨(m-1).toNat,by omega⟩;have e3:((mm:Int)+1).toNat=mm+1:=by omega
  rw[e3,xI]at c;obtain⟨u1,u2⟩:=az.1 c;have:=sZ a cap n mm l w i h (by omega) d (by omega) (by omega) (by omega);unfold jG;rw[b];exact this
end Go.Proofs.YtchidddpplangaaGreatDoor
