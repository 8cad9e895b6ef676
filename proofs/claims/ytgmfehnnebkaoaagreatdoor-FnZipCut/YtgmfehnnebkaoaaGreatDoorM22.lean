/- Of what the proof is made: 6 texts, one behind the other. -/
import Derived.Test.YtgmfehnnebkaoaaGreatDoorM17
import Derived.Test.YtgmfehnnebkaoaaGreatDoorM9
import Derived.Test.YtgmfehnnebkaoaaGreatDoorM11
import Derived.Test.YtgmfehnnebkaoaaGreatDoorM20
import Derived.Test.YtgmfehnnebkaoaaGreatDoorM14
set_option maxRecDepth 100000
set_option linter.unusedSimpArgs false
set_option linter.unusedVariables false
set_option maxHeartbeats 6400000
namespace Go.Proofs.YtgmfehnnebkaoaaGreatDoor
open Go.Proofs.Tryz
open Go.RowKit Corb
variable {D L l o:List Int}{T:List UInt8}{V k n p q r sz:Nat}{i:Int}
theorem MU{f:Nat}(b:n+f=15)(d:nx l n<=cd V p n)(h:oM l V sz p f n=some (i,q)):q<=sz/\p<q/\0<=i/\i<(l.length:Int):=by
 induction f generalizing n with
 | zero=>simp[oM]at h
 | succ f ih=>
  by_cases a:sz<p+n+1
  . rw[s9 a]at h;cases h
  .
   by_cases h2:cd V p (n+1)<nx l (n+1)
   . rw[sZ a h2]at h;simp only[a0k,a0W]at h;obtain⟨rfl,rfl⟩:=h;obtain⟨k,g,_,_,e⟩:=Io (l:=l) (n:=n) (c:=cd V p (n+1)) (by omega) (by simp only[cd];omega) h2;rw[e];omega
   . rw[pZ a h2]at h;exact ih (by omega) (by omega) h
theorem gJ(h:dec l V sz p=some (i,q)):q<=sz/\p<q/\0<=i/\i<(l.length:Int):=MU rfl (a0g _) h
def rdN(V sz p k:Nat):Option (Nat×Nat):=if p+k<=sz then some (V/2 ^ p%2 ^ k,p+k)else none
theorem nr(h:p+k<=sz):rdN V sz p k=some (V/2 ^ p%2 ^ k,p+k):=a0d h
theorem qD(h:¬ p+k<=sz):rdN V sz p k=none:=a0e h
theorem bS{x:Nat}(h:rdN V sz p k=some (x,q)):q<=sz/\q=p+k/\x=V/2 ^ p%2 ^ k/\x<2 ^ k:=by
 unfold rdN at h
 split at h
 . simp only[a0k,a0W]at h;obtain⟨rfl,rfl⟩:=h;exact⟨by assumption,rfl,rfl,a1t _ (a1E k)⟩
 . cases h
def scG(V sz least group many k q:Nat):Option (Nat×Nat):=if k<many then(rdN V sz q (stF least group k).2).bind fun x=>some ((stF least group k).1+x.1,x.2)else none
def lS(V sz:Nat)(D:List Int)(k q:Nat):Option (Tk×Nat):=
 (scG V sz 3 4 28 k q).bind fun a=>(dec D V sz a.2).bind fun j=>(scG V sz 1 2 30 j.1.toNat j.2).bind fun c=>some ((0,((a.1:Nat):Int),((c.1:Nat):Int)),c.2)
def oneG(V sz:Nat)(D:List Int)(k:Int)(q:Nat):Option (Tk×Nat):=if k<256 then some ((k,0,0),q)else lS V sz D (k.toNat-257) q
theorem D8{least group many x:Nat}(h:scG V sz least group many k q=some (x,r)):r<=sz/\q<=r:=by
 unfold scG at h
 split at h
 .
  rcases a:rdN V sz q (stF least group k).2 with _|⟨y,t⟩
  . rw[a]at h;cases h
  . rw[a]at h;simp only[a0f,a0k,a0W]at h;have:=bS a;omega
 . cases h
theorem Ja{t:Tk}(h:lS V sz D k q=some (t,r)):r<=sz/\q<=r:=by
 unfold lS at h;rcases b:scG V sz 3 4 28 k q with _|⟨a,a2⟩
 . rw[b]at h;cases h
 rw[b]at h;simp only[a0f]at h;rcases h2:dec D V sz a2 with _|⟨j,j2⟩
 . rw[h2]at h;cases h
 rw[h2]at h;simp only[a0f]at h;rcases d:scG V sz 1 2 30 j.toNat j2 with _|⟨c,c2⟩
 . rw[d]at h;cases h
 rw[d]at h;simp only[a0f,a0k,a0W]at h;have e:=D8 b;have f:=gJ h2;have g:=D8 d;omega
theorem sA{k:Int}{t:Tk}(h:oneG V sz D k q=some (t,r))(hq:q<=sz):r<=sz/\q<=r:=by
 unfold oneG at h
 split at h
 . simp only[a0k,a0W]at h;omega
 . exact Ja h
def oA(V sz:Nat)(L D:List Int):Nat->Nat->List UInt8->Option (List UInt8×Nat)
 | 0,_,_=>none
 | f+1,p,T=>(dec L V sz p).bind fun k=>if k.1=256 then some (T,k.2)else(oneG V sz D k.1 k.2).bind fun t=>(eu T t.1).bind fun T'=>oA V sz L D f t.2 T'
def lx(V sz:Nat)(L D:List Int)(p:Nat)(T:List UInt8):Option (List UInt8×Nat):=oA V sz L D (sz+1-p) p T
theorem Is: ∀(n f p:Nat) (T:List UInt8),sz+1-p<=n->sz+1-p<=f->oA V sz L D f p T=oA V sz L D (sz+1-p) p T:=by
 intro n;induction n with
 | zero=>
  intro f p T b h2;have e:sz+1-p=0:=by omega
  rw[e];cases f with
  | zero=>rfl
  | succ f=>
   have hd:dec L V sz p=none:=by
    rcases h:dec L V sz p with _|⟨i,q⟩
    . rfl
    . have:=gJ h;omega
   simp only[oA,hd,a15]
 | succ n ih=>
  intro f p T b h2;rcases hd:dec L V sz p with _|⟨i,q⟩
  .
   cases f with
   | zero=>rw[show sz+1-p=0 by omega]
   | succ f=>
    rcases a:sz+1-p with _|m
    . simp only[oA,hd,a15]
    . simp only[oA,hd,a15]
  .
   have hb:=gJ hd;obtain⟨f',rfl⟩:∃g,f=g+1:=⟨f-1,by omega⟩;obtain⟨m,a⟩:∃g,sz+1-p=g+1:=⟨sz-p,by omega⟩;rw[a];simp only[oA,hd,a0f]
   split
   . rfl
   .
    rcases c:oneG V sz D i q with _|⟨t,r⟩
    . rfl
    .
     simp only[a0f];have d:=sA c hb.1;rcases eu T t with _|T'
     . rfl
     . simp only[a0f];rw[ih f' r T' (by omega) (by omega),ih m r T' (by omega) (by omega)]
theorem It(h:dec L V sz p=none):lx V sz L D p T=none:=by
 unfold lx;rcases a:sz+1-p with _|m
 . rfl
 . simp only[oA,h,a15]
theorem BG(h:dec L V sz p=some (256,q)):lx V sz L D p T=some (T,q):=by
 have hb:=gJ h;unfold lx;obtain⟨m,hm⟩:∃g,sz+1-p=g+1:=⟨sz-p,by omega⟩;rw[hm];simp only[oA,h,a0f,a0Z]
theorem wU(h:dec L V sz p=some (i,q))(a:i≠256):lx V sz L D p T=(oneG V sz D i q).bind fun t=>(eu T t.1).bind fun T'=>lx V sz L D t.2 T':=by
 have hb:=gJ h;unfold lx;obtain⟨m,hm⟩:∃g,sz+1-p=g+1:=⟨sz-p,by omega⟩;rw[hm];simp only[oA,h,a0f,a0e a];rcases b:oneG V sz D i q with _|⟨t,r⟩
 . rfl
 .
  simp only[a0f];have c:=sA b hb.1;rcases eu T t with _|T'
  . rfl
  . simp only[a0f];exact Is m m r T' (by omega) (by omega)
theorem Oc: ∀(f p:Nat) (T T':List UInt8) (q:Nat),oA V sz L D f p T=some (T',q)->q<=sz/\p<q/\(T.length<=300->T'.length<=300):=by
 intro f;induction f with
 | zero=>intro p T T' q h;simp[oA]at h
 | succ f ih=>
  intro p T T' q h;rcases hd:dec L V sz p with _|⟨i,r⟩
  . simp[oA,hd]at h
  .
   have hb:=gJ hd;simp only[oA,hd,a0f]at h
   split at h
   . simp only[a0k,a0W]at h;obtain⟨rfl,rfl⟩:=h;exact⟨hb.1,hb.2.1,id⟩
   .
    rcases b:oneG V sz D i r with _|⟨t,u⟩
    . rw[b]at h;simp at h
    .
     rw[b]at h;simp only[a0f]at h;have e:=sA b hb.1;rcases a:eu T t with _|T2
     . rw[a]at h;simp at h
     . rw[a]at h;simp only[a0f]at h;obtain⟨c,h2,d⟩:=ih u T2 T' q h;exact⟨c,by omega,fun _=>d (oG a)⟩
theorem yD{T':List UInt8}(h:lx V sz L D p T=some (T',q)):q<=sz/\p<q/\(T.length<=300->T'.length<=300):=Oc _ _ _ _ _ h
theorem wY(w:World)(x y:Value)(t:TypeId)(g:Nat)(a:w.heap.size=g):(w.alloc (.cells #[x,y] t)).cell? ⟨g,0,none⟩=some x/\(w.alloc (.cells #[x,y] t)).cell? ⟨g,1,none⟩=some y:=by
 subst a;simp
def mX(w:World)(b:Nat):Nat:=match w.cell? ⟨b,0,none⟩with|some v=>sliceLen v|none=>0
theorem mD(a:Option Addr)(cap n:Nat)(l:List Int)(w:World)(hn:l.length=n)(h:bo w a l)(hm:n<=300)(hc:∀i,i<l.length->0<=l.getD i 0/\l.getD i 0<=100000)(h2:1<(ax l l.length).length) :
  Calls prog 159 #[.slice a n cap] w fun e w'=>e = .returned (.slice (some ⟨w.heap.size,0,none⟩) n n)/\al w' w.heap.size (.slice (some ⟨w.heap.size,0,none⟩) n n) (bI l)/\Below w.heap.size w w':=by
 have fk:(n:Int)<=300:=by omega
 obtain⟨i0,hi,em,en,ev⟩:=a0r Tryz.infoInt;have E:=af (a0b hn (a0b hm (a0b hc h2)));have HR:=af h;have d3:Hid (∀k,(ax l l.length).length-k<=1->(k<(ax l l.length).length∨k=0)->bI l=(aw l k).2):=by
  intro k h3 h4;unfold bI;rw[a0e (by omega)]
  congr 2;omega
 clear hc h2 h;go_enter func159,ntmps159;go_wp2_with (at_make;refine a1K _ rfl _ _ 97 rfl w.heap.size 3 i0 (.int .i64 0) 1 a0G hi em en .i64 .i64 _ _ n rfl rfl rfl rfl (by rw[ev];omega) (by unfold maxLen;omega) (a0a _) ?_;intro w1 bd V);have cr:al w1 w.heap.size (.slice (some ⟨w.heap.size,0,none⟩) n n) (List.replicate l.length 0):=by
  rw[hn];exact dy bd
 have b5:Below w.heap.size w w1:=(a0c _ _).grown V (a0a _) (fun k h=>by cases h);have fn:w.heap.size+1<=w1.heap.size:=cr.below.2;have c6:=af (vE a cap n l w1 hn ((ae HR).later b5) hm);have bk:=af (a0b cr b5);clear bd V hn hm cr b5 hi em en ev;refine(ae c6).mono ?_;rintro e w2 ⟨rfl,L0,va0,vc0,d4,dl,bs,eh,I⟩;have d8:=(ae bk).1.later I (a0a _);have d2:=ah (ae bk).2 I;rw[←(ae E).1]at bs;clear c6 bk;generalize hB:w1.heap.size=B at *
 clear hB;go_wp2_with fail
 go_loopw [5,6,7,9] (fun _ _ _ _ wq=>∃(j:Nat) (L:List Grp) (va:Option Addr) (vc:Nat),(j<(ax l l.length).length∨j=0)/\(L.map bare).Perm (aw l j).1/\cH wq B (B+1) (.slice va L.length vc) L/\HP L/\dJ wq (B+1) L/\al wq w.heap.size (.slice (some ⟨w.heap.size,0,none⟩) n n) (aw l j).2/\Below w.heap.size w wq) (fun _ _ _ _ wq=>mX wq B)
 case atStart=>exact⟨0,L0,va0,vc0,.inr rfl,bs,d4,dl,eh,d8,d2⟩
 case round=>
  obtain⟨j,L,va,vc,hj,hL,hh,hP,hs,hp,d⟩:=hrel;clear bs d4 dl eh d8 d2 I;have HZ:=af (iO B (B+1) L.length vc va L wr hh);have cc:L.length=(ax l l.length).length-j:=by
   have O:=hL.length_eq;rw[a0N,(bW l j hj).2.2.2]at O;exact O
  by_cases a7:1<L.length
  .
   obtain⟨q,hq⟩:∃q,L.length=q+2:=⟨L.length-2,by omega⟩;obtain⟨g,rfl⟩:=hh.2.somes (by omega);rw[hq]at HZ;have cs:q+2<=300:=by
    have h2:=ow l l.length;have:=(ae E).1;have:=(ae E).2.1;omega
   have fl:(q:Int)+2<=300:=by omega
   have b9:cH wr B (B+1) (.slice (some ⟨g,0,none⟩) (q+1+1) vc) L:=by rw[hq]at hh;exact hh
   have c7:=af (BB B g (q+1) vc L wr hs hq (by omega) b9 hP);have H:=af (a0b hj (a0b hL (a0b b9 (a0b hP (a0b hs (a0b hp (a0b d a7)))))));clear hj hL b9 hP hs hp d a7 cc hh cs;go_wp2_with fail;refine(ae HZ).mono ?_;rintro e y1 ⟨rfl,ad⟩;rw[ad];clear ad y1;go_wp2_with fail;refine(ae c7).mono ?_;rintro e x1 ⟨rfl,M1,r,a2,d5,a5,X⟩;have f:Hid (Calls prog 191 #[.pointer (some ⟨B,0,none⟩)] x1 fun e w'=>e = .returned (.agg #[.int .i64 (M1.getD 0 g0).cnt,.int .i64 (M1.getD 0 g0).fst,(M1.getD 0 g0).val])/\∃M:List Grp,(M1.getD 0 g0 :: M).Perm M1/\HP M/\cH w' B (B+1) (.slice (some ⟨g,0,none⟩) q vc) M/\Below B x1 w'/\bp 3 x1 w'):=by
    obtain⟨hj,hL,hh,hP,hs,hp,d,a7⟩:=ae H;have a8:M1.length=q+1:=by have:=r.length_eq;simp at this;omega
    exact BB B g q vc M1 x1 ((X.syms hs).sub (fun y hy=>r.mem_iff.1 (by simp[hy]))) a8 (by omega) d5 a2
   have bl:=af (a0b r (a0b a2 (a0b a5 X)));obtain⟨aa,ac,b4⟩:=((ae H).2.2.2.2.1 (L.getD 0 g0) (fC L 0 (by omega))).form;rw[b4];have dd:=fC L 0 (by omega);have cv:=af (a0b b4 dd);clear r a2 d5 a5 X b4 dd;generalize c9:L.getD 0 g0=A at *
   have cy:=af c9;clear c9;go_wp2_with fail;refine(ae f).mono ?_;rintro e x2 ⟨rfl,M2,Q,dq,b8,I,d6⟩;have HF:Hid (M1.length=q+1/\M2.length=q/\al x2 (B+1) A.val A.syms/\al x2 (B+1) (M1.getD 0 g0).val (M1.getD 0 g0).syms/\dJ x2 (B+1) M2/\al x2 w.heap.size (.slice (some ⟨w.heap.size,0,none⟩) n n) (aw l j).2/\Below w.heap.size w x2/\M2.Perm M2):=by
    obtain⟨hj,hL,hh,hP,hs,hp,d,a7⟩:=ae H;obtain⟨r,a2,a5,X⟩:=ae bl;have a8:M1.length=q+1:=by have:=r.length_eq;simp at this;omega
    have d7:M2.length=q:=by have:=Q.length_eq;simp at this;omega
    have hk:=X.trans d6;have ei:dJ x2 (B+1) M1:=(hk.syms hs).sub (fun y hy=>r.mem_iff.1 (by simp[hy]));exact⟨a8,d7,hk.ints (hs _ (ae cv).2),ei _ (fC M1 0 (by omega)),ei.sub (fun y hy=>Q.mem_iff.1 (by simp[hy])),hk.ints hp,(d.trans (a5.mono (by omega))).trans (I.mono (by omega)),a2t _⟩
   have c8:=af (a0b Q (a0b dq b8));obtain⟨ga,gc,b7⟩:=(ae HF).2.2.2.1.form;have D:=af (JY (ae E).2.2.1 (by rw[(ae E).1];exact(ae E).2.1) (ae H).1 (ae H).2.1 (ae H).2.2.2.1 (by omega) (by rw[ae cy];exact(ae bl).1) (ae bl).2.1 Q);rw[ae cy]at D;rw[b7];have ey:=af b7;have fa:=b8.lt;clear Q dq b8 I d6 b7;generalize M1.getD 0 g0=G at *
   clear c7 f HZ;go_wp2_with fail;have a4:Below x2.heap.size x2 (((x2.alloc (.cells #[.int .i64 A.cnt,.int .i64 A.fst,.slice aa A.syms.length ac] 266)).alloc (.cells #[.int .i64 G.cnt,.int .i64 G.fst,.slice ga G.syms.length gc] 266)).alloc (.cells #[.slice aa A.syms.length ac,.slice ga G.syms.length gc] 97)):=
    (((a0c _ _).alloc (a0a _) _).alloc (by simp) _).alloc (by simp;omega) _
   have dv:Three (((x2.alloc (.cells #[.int .i64 A.cnt,.int .i64 A.fst,.slice aa A.syms.length ac] 266)).alloc (.cells #[.int .i64 G.cnt,.int .i64 G.fst,.slice ga G.syms.length gc] 266)).alloc (.cells #[.slice aa A.syms.length ac,.slice ga G.syms.length gc] 97)) x2.heap.size (.int .i64 A.cnt) (.int .i64 A.fst) (.slice aa A.syms.length ac):=
    ((pK x2 _ _ _ _).later ((a0c _ _).alloc (a0a _) _)).later ((a0c _ _).alloc (a0a _) _)
   have d1:Three (((x2.alloc (.cells #[.int .i64 A.cnt,.int .i64 A.fst,.slice aa A.syms.length ac] 266)).alloc (.cells #[.int .i64 G.cnt,.int .i64 G.fst,.slice ga G.syms.length gc] 266)).alloc (.cells #[.slice aa A.syms.length ac,.slice ga G.syms.length gc] 97)) (x2.heap.size+1) (.int .i64 G.cnt) (.int .i64 G.fst) (.slice ga G.syms.length gc):=by
    have O:=pK (x2.alloc (.cells #[.int .i64 A.cnt,.int .i64 A.fst,.slice aa A.syms.length ac] 266)) (.int .i64 G.cnt) (.int .i64 G.fst) (.slice ga G.syms.length gc) 266;have e:(x2.alloc (.cells #[.int .i64 A.cnt,.int .i64 A.fst,.slice aa A.syms.length ac] 266)).heap.size=x2.heap.size+1:=by simp
    rw[e]at O;exact O.later ((a0c _ _).alloc (a0a _) _)
   have ds:iM (((x2.alloc (.cells #[.int .i64 A.cnt,.int .i64 A.fst,.slice aa A.syms.length ac] 266)).alloc (.cells #[.int .i64 G.cnt,.int .i64 G.fst,.slice ga G.syms.length gc] 266)).alloc (.cells #[.slice aa A.syms.length ac,.slice ga G.syms.length gc] 97)) (x2.heap.size+1+1) (B+1) [(.slice aa A.syms.length ac,A.syms.map (Value.int .i64)),(.slice ga G.syms.length gc,G.syms.map (Value.int .i64))]:=by
    have co:=(ae HF).2.2.1.later a4 (a0a _);have cp:=(ae HF).2.2.2.1.later a4 (a0a _);rw[(ae cv).1]at co;rw[ae ey]at cp;intro i hi
    match i,hi with
    | 0,_=>exact⟨(wY _ _ _ _ _ (by simp)).1,_,co,a1m .i64 _⟩
    | 1,_=>exact⟨(wY _ _ _ _ _ (by simp)).2,_,cp,a1m .i64 _⟩
   have e0:(((x2.alloc (.cells #[.int .i64 A.cnt,.int .i64 A.fst,.slice aa A.syms.length ac] 266)).alloc (.cells #[.int .i64 G.cnt,.int .i64 G.fst,.slice ga G.syms.length gc] 266)).alloc (.cells #[.slice aa A.syms.length ac,.slice ga G.syms.length gc] 97)).heap.size=x2.heap.size+3:=by simp
   generalize ((x2.alloc (.cells #[.int .i64 A.cnt,.int .i64 A.fst,.slice aa A.syms.length ac] 266)).alloc (.cells #[.int .i64 G.cnt,.int .i64 G.fst,.slice ga G.syms.length gc] 266)).alloc (.cells #[.slice aa A.syms.length ac,.slice ga G.syms.length gc] 97)=W3 at *
   have C:aN [(Value.slice aa A.syms.length ac,A.syms.map (Value.int .i64)),(Value.slice ga G.syms.length gc,G.syms.map (Value.int .i64))]=(A.syms++G.syms).length:=by simp[aN,cx]
   have R:dj [(Value.slice aa A.syms.length ac,A.syms.map (Value.int .i64)),(Value.slice ga G.syms.length gc,G.syms.map (Value.int .i64))]=(A.syms++G.syms).map (Value.int .i64):=by simp[dj]
   refine(pV (x2.heap.size+1+1) (B+1) 2 2 _ W3 rfl (by omega) (by omega) ds (by rw[C];have:=(ae D).2.2.2.2.2.1;omega)).mono ?_;rintro e x3 ⟨v,rfl,ch,T⟩;rw[C,R]at ch;have b3:al x3 W3.heap.size v (A.syms++G.syms):=ch;have a9:=dv.later T;have ba:=d1.later T;have m:=ah a4 T;have N:Hid (cH x3 B (B+1) (.slice (some ⟨g,0,none⟩) q vc) M2/\dJ x3 (B+1) M2/\al x3 w.heap.size (.slice (some ⟨w.heap.size,0,none⟩) n n) (aw l j).2/\Below w.heap.size w x3/\al x3 W3.heap.size v (A.syms++G.syms)/\Three x3 x2.heap.size (.int .i64 A.cnt) (.int .i64 A.fst) (.slice aa A.syms.length ac)/\Three x3 (x2.heap.size+1) (.int .i64 G.cnt) (.int .i64 G.fst) (.slice ga G.syms.length gc)/\x2.heap.size+3<=x3.heap.size):=by
    obtain⟨a8,d7,co,cp,e6,e5,e1,_⟩:=ae HF;refine⟨(ae c8).2.2.later m,e6.later m (a0a _),e5.later m (a0a _),e1.trans (m.mono (by omega)),b3,a9,ba,?_⟩;have:=T.size;omega
   obtain⟨sa,sc,ek⟩:=b3.form;have a3:Hid ((A.syms++G.syms).length<=300/\0<(A.syms++G.syms).length/\(∀x∈A.syms++G.syms,0<=x/\x<(l.length:Int))):=by
    obtain⟨t1,t2,t3,t4,t5,t6,t7,t8,t9⟩:=ae D;refine⟨t6,?_,t9⟩;rw[a0i];omega
   clear a4 dv d1 ds ch T b3 a9 ba m R C;generalize hS:A.syms++G.syms=S at *
   clear hS;obtain⟨gs,e2⟩:=(show al x3 W3.heap.size (.slice sa S.length sc) S by rw[←ek];exact(ae N).2.2.2.2.1).somes (ae a3).2.1;subst e2;subst ek;have sI:(S.length:Int)<=300:=by have:=(ae a3).1;omega
   go_wp2_with fail;have e4:=af (tw l (fun i hi=>((ae E).2.2.1 i hi).2) (by rw[(ae E).1];exact(ae E).2.1) j (ae H).1);have e3:Hid ((j:Int)<=300):=by
    show(j:Int)<=300;have O:=(ae H).1;have h2:=ow l l.length;have:=(ae E).1;have:=(ae E).2.1;omega
   have c5:Hid (mX wr B=q+2):=by
    show mX wr B=q+2;unfold mX;rw[(ae H).2.2.1.cell];rfl
   go_loopw [9,30] (fun _ i wq=>∃t:Nat,t<=S.length/\i = .int .i64 t/\al wq w.heap.size (.slice (some ⟨w.heap.size,0,none⟩) n n) (bump (aw l j).2 (S.take t))/\Touch (some ⟨w.heap.size,0,none⟩) x3 wq/\Below w.heap.size w wq) (fun _ i _=>S.length-(intOf i).toNat)
   case atStart=>exact⟨0,a0g _,rfl,(ae N).2.2.1,Touch.refl _ _,(ae N).2.2.2.1⟩
   case round=>
    obtain⟨t,ht,rfl,J,c,a6⟩:=hrel;have cg:Hid ((bump (aw l j).2 (S.take t)).length=n):=by show(bump (aw l j).2 (S.take t)).length=n;rw[oJ,dY,(ae E).1]
    have el:Hid (t<=S.length):=ht;clear ht;by_cases Y:t<S.length
    .
     have be:=(ae N).2.2.2.2.1.touch c (jl _ _ (by omega));obtain⟨c0,_,_,_⟩:=be.at rfl Y;have hx:=(ae a3).2.2 (S.getD t 0) (by simp[List.getD,Y]);rw[(ae E).1]at hx;have U:=af (vI (aw l j).2 S t Y);have bc:=af (sU (ae e4) (S.take t));obtain⟨p,ed⟩:=a0n hx.1;rw[ed]at c0 U;have eb:p<n:=by omega
     obtain⟨d0,f0,_,_⟩:=J.at (ae cg) eb;have cu:=ae bc p (by rw[ae cg];exact eb);have Z:=J.put (j:=p) (ae cg) ((bump (aw l j).2 (S.take t)).getD p 0+1);have ej:Hid (bump (aw l j).2 (S.take (t+1))=(bump (aw l j).2 (S.take t)).set p ((bump (aw l j).2 (S.take t)).getD p 0+1)):=by
      show bump (aw l j).2 (S.take (t+1))=_;rw[ae U];unfold fw;rw[a0l]
     have fv:(bump (aw l j).2 (S.take t)).getD p 0<=100000:=by
      have O:=cu.2;have h2:(S.take t).length<=300:=by rw[a0z];have:=(ae a3).1;omega
      have:=ae e3;omega
     have fr:=cu.1;have bb:=ai a6 (b:=w.heap.size) (o:=p) (a0a _) (.int .i64 ((bump (aw l j).2 (S.take t)).getD p 0+1));have ab:=c.set (o:=p) rfl (.int .i64 ((bump (aw l j).2 (S.take t)).getD p 0+1));have e9:(p:Int)<(n:Int):=by omega
     rw[←ae ej]at Z;generalize (bump (aw l j).2 (S.take t)).getD p 0=y at *
     have K:=af (a0b Z (a0b bb ab));have e8:(t:Int)<(S.length:Int):=by omega
     clear Z bb ab ej cu bc U ed hx be c a6 J;go_wp2;go_roundw
     case rel=>exact⟨t+1,by have:=ae el;omega,by go_num,(ae K).1,(ae K).2.2,(ae K).2.1⟩
     case measure=>simp[intOf];omega
    .
     obtain rfl:t=S.length:=by have:=ae el;omega
     rw[a0o (a0a _)]at J;obtain⟨h3,s3,_,_,o3,tA,tG,z3⟩:=ae N;have HY:Hid (cH wr B (B+1) (.slice (some ⟨g,0,none⟩) q vc) M2/\dJ wr (B+1) M2/\al wr (B+1) (.slice (some ⟨gs,0,none⟩) S.length sc) S):=by
      refine⟨⟨(c.2 B (fun g' e=>by simp only[a0k,a0D,a0P]at e;omega)).trans h3.1,nO h3.2 c (jl _ _ (by omega))⟩,fun y hy=>(s3 y hy).touch c (jl _ _ (by omega)),?_⟩;have h4:=o3.touch c (jl _ _ (by omega));exact al.mono h4 (by omega)
     obtain⟨a0,a1,_,_,_,_,abl⟩:=tA;obtain⟨b0,b1,_,_,_,_,fh⟩:=tG;have a0':=(gZ c (p:=⟨x2.heap.size,0,none⟩) (by show x2.heap.size≠w.heap.size;omega)).trans a0;have a1':=(gZ c (p:=⟨x2.heap.size,1,none⟩) (by show x2.heap.size≠w.heap.size;omega)).trans a1;have fb:=(gZ c (p:=⟨x2.heap.size+1,0,none⟩) (by show x2.heap.size+1≠w.heap.size;omega)).trans b0;have fc:=(gZ c (p:=⟨x2.heap.size+1,1,none⟩) (by show x2.heap.size+1≠w.heap.size;omega)).trans b1;obtain⟨t1,t2,t3,t4,t5,t6,t7,t8,t9⟩:=ae D;obtain⟨F,hF⟩:∃F:Int,F=if G.fst<A.fst then G.fst else A.fst:=⟨_,rfl⟩
     rw[←hF]at t2;have f:=af (a0b t1 t2);have an:=af (Al B q vc (some ⟨g,0,none⟩) M2 ⟨A.cnt+G.cnt,F,S,.slice (some ⟨gs,0,none⟩) S.length sc⟩ wr (ae HY).2.1 (ae HY).2.2 (ae HF).2.1 (by omega) (ae HY).1 (ae c8).2.1);have ao:=af (a0b J a6);clear h3 s3 o3 z3 a0 a1 b0 b1 c J a6 e0 t1 t2 t6 t7 t8 t9;by_cases e7:A.fst<=G.fst
     .
      have P:F=A.fst:=by rw[hF,a0e (by omega)]
      rw[P]at an f;clear hF P;go_wp2_with fail;refine(ae an).mono ?_;rintro e x5 ⟨rfl,M3,g',c',s,b2,W,b6,z⟩;go_wp2;go_roundw
      case rel=>
       have ca:M3.length=q+1:=by rw[s.length_eq,a0i,(ae HF).2.1];rfl
       have u:=(ae ao).1;refine⟨j+1,M3,some ⟨g',0,none⟩,c',.inl ?_,(ae f).2 M3 _ s,by rw[ca];exact W,b2,?_,?_,(ae ao).2.trans (b6.mono (by omega))⟩
       . have O:=(ae H).2.1.length_eq;rw[a0N,(bW l j (ae H).1).2.2.2]at O;omega
       . exact(((z.syms (ae HY).2.1)).snoc (z.ints (ae HY).2.2)).perm s
       . show al x5 w.heap.size _ (bump (aw l j).2 (bg (aw l j).1));rw[(ae f).1];exact z.ints u
      case measure=>
       rw[ae c5];unfold mX;rw[W.cell];simp[sliceLen]
     .
      have P:F=G.fst:=by rw[hF,a0d (by omega)]
      rw[P]at an f;clear hF P;go_wp2_with fail;refine(ae an).mono ?_;rintro e x5 ⟨rfl,M3,g',c',s,b2,W,b6,z⟩;go_wp2;go_roundw
      case rel=>
       have ca:M3.length=q+1:=by rw[s.length_eq,a0i,(ae HF).2.1];rfl
       have u:=(ae ao).1;refine⟨j+1,M3,some ⟨g',0,none⟩,c',.inl ?_,(ae f).2 M3 _ s,by rw[ca];exact W,b2,?_,?_,(ae ao).2.trans (b6.mono (by omega))⟩
       . have O:=(ae H).2.1.length_eq;rw[a0N,(bW l j (ae H).1).2.2.2]at O;omega
       . exact(((z.syms (ae HY).2.1)).snoc (z.ints (ae HY).2.2)).perm s
       . show al x5 w.heap.size _ (bump (aw l j).2 (bg (aw l j).1));rw[(ae f).1];exact z.ints u
      case measure=>
       rw[ae c5];unfold mX;rw[W.cell];simp[sliceLen]
  . obtain⟨va',vc',hform⟩:∃x y,Value.slice va L.length vc = .slice x L.length y:=⟨_,_,rfl⟩;have eg:=ae d3 j (by omega) hj;rw[←eg]at hp;clear hform;go_wp2_with fail;refine(ae HZ).mono ?_;rintro e y1 ⟨rfl,ad⟩;rw[ad];clear ad y1;go_wp2;go_ret;exact⟨rfl,hp,d⟩
theorem ut(h:bG o k<o.getD k 0):bG o (k+1)=o.getD k 0:=by simp only[bG];rw[a0d h]
theorem yj(h:¬ bG o k<o.getD k 0):bG o (k+1)=bG o k:=by simp only[bG];rw[a0e h]
theorem KO(b:0<=o.getD 0 0):bG o 1=o.getD 0 0:=by
 by_cases h:bG o 0<o.getD 0 0
 . exact ut h
 . have a:bG o 1=bG o 0:=yj h;have e:bG o 0=0:=rfl;rw[e]at h a;rw[a];exact(Int.le_antisymm (Int.not_lt.1 h) b).symm
def Ed(v:Value)(w:World)(n:Nat):Nat:=match v with
 | .slice (some a) _ _=>((List.range n).map (fun i=>(intOf ((w.cell? ⟨a.block,a.off+i,none⟩).getD (.int .i64 0))).toNat)).sum
 | _=>0
theorem Fu{w:World}{a:Option Addr}{c:Nat}(e:l.length=n)(b:1<=n)(h:bo w a l):Ed (.slice a n c) w n=js l:=by
 obtain⟨g,o,rfl,f,d⟩:=h (by omega);unfold Ed js;simp only
 congr 1
 apply a2p
 . simp[e]
 . intro i b h2;simp only[a0N,List.length_range]at b;simp only[List.getElem_map,List.getElem_range];rw[d i (by omega)];simp[intOf,List.getD,show i<l.length by omega]
theorem um(a:Option Addr)(cap n:Nat)(o:List Int)(w:World)(t:o.length=n)(h:bo w a o)(r:1<=n)(z:n<=300)(d:∀i,i<o.length->0<=o.getD i 0) :
  Calls prog 155 #[.slice a n cap] w fun e w'=>e = .returned (.int .i64 (bG o n))/\w'=w:=by
 have A:(n:Int)<=300:=by omega
 have x:(1:Int)<=(n:Int):=by omega
 have p:=af (a0b t (a0b r d));obtain⟨g,off,rfl,E,f⟩:=h (by omega);have c0:=f 0 (by omega);have e0:=af (KO (d 0 (by omega)));rw[a05]at c0;have v:=af f;clear t h z d f r;generalize B:o.getD 0 0=y0 at *
 clear B;go_enter func155,ntmps155;go_wp2_with fail
 go_loop [3,4] (fun m i=>∃k:Nat,1<=k/\k<=n/\i = .int .i64 k/\m = .int .i64 (bG o k)) (fun _ i=>n-(intOf i).toNat)
 case atStart=>exact⟨1,a0a _,(ae p).2.1,rfl,by rw[ae e0]⟩
 case round=>
  obtain⟨k,u,s,rfl,rfl⟩:=hrel;have C:=af (a0b u s);by_cases j:k<n
  .
   have D:=ae v k (by rw[(ae p).1];exact j);have c:=af (fun h=>ut (o:=o) (k:=k) h);have l:=af (fun h=>yj (o:=o) (k:=k) h);clear s u c0;generalize o.getD k 0=y at *
   generalize bG o k=q at *
   by_cases b:q<y
   .
    have e1:=af (ae c b);go_wp2
    go_round
    case rel=>exact⟨k+1,by omega,by omega,by go_num,by rw[ae e1]⟩
    case measure=>simp[intOf];omega
   .
    have e1:=af (ae l b);go_wp2
    go_round
    case rel=>exact⟨k+1,by omega,by omega,by go_num,by rw[ae e1]⟩
    case measure=>simp[intOf];omega
  .
   obtain rfl:k=n:=by omega
   go_wp2;go_ret;exact⟨rfl,rfl⟩
theorem Dl(x:Int)(w:World)(a:0<=x)(b:x<=1000000) :
  Calls prog 160 #[.int .i64 x] w fun e w'=>e = .returned (.int .i64 (im x))/\w'=w:=by
 go_enter func160,ntmps160;go_wp2;go_ret;exact⟨rfl,rfl⟩
theorem xH(a:Option Addr)(cap n:Nat)(l:List Int)(w:World)(H:l.length=n)(h:bo w a l)(G:n<=1048576)(E:okC l) :
  Calls prog 157 #[.slice a n cap,.func (.func 160) #[] #[]] w fun e w'=>∃v,e = .returned v/\al w' w.heap.size v (bq l)/\Below w.heap.size w w':=by
 have M:(n:Int)<=1048576:=by omega
 have p:=af H;have K:=af G;have I:=af E;clear H G E;obtain⟨i0,L,B,C,D⟩:=a0r Tryz.infoInt;go_enter func157,ntmps157;go_wp2_with fail
 go_loopw [5,7,10] (fun o _ i wr=>∃k:Nat,k<=n/\i = .int .i64 k/\al wr w.heap.size o (bq (l.take k))/\Below w.heap.size w wr) (fun _ _ i _=>n-(intOf i).toNat)
 case atStart=>exact⟨0,a0g _,rfl,a00 _ _ _ _,a0c _ _⟩
 case round=>
  obtain⟨k,F,rfl,hq,b⟩:=hrel;have q:=b.size;by_cases m:k<n
  .
   obtain⟨g,o,rfl,N,r⟩:=(h.later b) (by rw[ae p];omega);have c0:=r k (by rw[ae p];exact m);obtain⟨y0,y1⟩:=ae I k (by rw[ae p];exact m);have A:Hid (bq (l.take (k+1))=bq (l.take k)++[im (l.getD k 0)]):=by
    show _=_;unfold bq;rw[bZ l k (by rw[ae p];exact m),a0I];rfl
   have z:Hid ((bq (l.take k)).length=k):=by show _=k;have:=ae p;rw[ec];simp;omega
   have J:=af F;clear r F h;generalize l.getD k 0=y at *
   have HP:=af (Dl y wr (by omega) (by omega));generalize im y=R at *
   go_wp2_with fail;refine(ae HP).mono ?_;rintro e x1 ⟨rfl,u⟩;rw[u];clear u x1;have d:Hid ((bq (l.take k)).length+1<=maxLen/\((bq (l.take k)).length+1)*8<=140737488355328):=by
    show _/\_;rw[ae z];have:=ae K;unfold maxLen;omega
   clear HP;go_wp2_with (at_builtin;refine a0B _ rfl _ _ 97 rfl w.heap.size 3 i0 (.int .i64 0) 1 8 a0G L B C D rfl (by decide) _ _ _ rfl (a0m hq _) ⟨wr.heap.size,0,none⟩ 1 1 [.int .i64 R] rfl rfl (dB _ _ rfl _ _) (ib _) (ae d).1 (ae d).2 (au q _) ?_;intro v' x2 j c s;clear s);have x:=aH (v:=u5) c hq (a0a _) q b;have t:=nf j;rw[←ae A]at t;clear j c hq;go_wp2;go_roundw
   case rel=>exact⟨k+1,by have:=ae J;omega,by go_num,t,x⟩
   case measure=>simp[intOf];omega
  . have f:l.take k=l:=a0o (by rw[ae p];omega);rw[f]at hq;obtain⟨va,vc,rfl⟩:=hq.form;clear f h;go_wp2;go_ret;exact⟨_,rfl,hq,b⟩
theorem LF(l:List Int)(k i:Nat)(d:i<k)(c:0<l.getD i 0):∃g∈ax l k,g.fst=(i:Int):=by
 induction k with
 | zero=>omega
 | succ k ih=>
  by_cases e:i=k
  . subst e;refine⟨⟨l.getD i 0,(i:Int),[(i:Int)],.slice none 0 0⟩,?_,rfl⟩;rw[uQ c];simp
  .
   obtain⟨g,a,b⟩:=ih (by omega);refine⟨g,?_,b⟩;simp only[ax]
   split
   . simp[a]
   . exact a
theorem LG(l:List Int)(k:Nat):∀g∈ax l k,∃i:Nat,g.fst=(i:Int)/\i<k/\0<l.getD i 0:=by
 induction k with
 | zero=>intro g a;simp[ax]at a
 | succ k ih=>
  intro g a;simp only[ax]at a
  split at a
  .
   rename_i hp;simp only[a0V,a01]at a;rcases a with a|rfl
   . obtain⟨i,b,h2,c⟩:=ih g a;exact⟨i,b,by omega,c⟩
   . exact⟨k,rfl,by omega,hp⟩
  . obtain⟨i,b,h2,c⟩:=ih g a;exact⟨i,b,by omega,c⟩
theorem xV(m:okC l)(a:(ax l l.length).length=1):bI l=l.map gQ:=by
 unfold bI;rw[a0d a];obtain⟨x,hx⟩:∃x,ax l l.length=[x]:=by
  cases j:ax l l.length with
  | nil=>rw[j]at a;simp at a
  | cons x t=>rw[j]at a;simp at a;exact⟨x,by rw[a]⟩
 obtain⟨q,hq,p,h⟩:=LG l l.length x (by rw[hx];simp);rw[hx];simp only[List.getD_cons_zero];rw[hq,a0l];apply a2p
 . simp
 .
  intro i h2 k;have f:i<l.length:=by simpa using k
  have e:l.getD i 0=l[i]:=by simp[List.getD,f]
  have b:=m i f;rw[List.getElem_set,List.getElem_map,List.getElem_replicate];by_cases c:q=i
  .
   subst c;rw[a0d rfl];rw[e]at h b;unfold gQ
   split<;>omega
  .
   rw[a0e c];have r:¬ 0<l.getD i 0:=by
    intro o;obtain⟨g,d,n⟩:=LF l l.length i f o;rw[hx]at d;simp only[a01]at d;subst d;rw[hq]at n;omega
   rw[e]at r b;unfold gQ
   split<;>omega
theorem M4{m:Int}(j:1<=m)(b:okC l)(d:(ax l l.length).length=1):da m l=l.map gQ:=by
 have g:fits (bI l) m=true:=by
  refine EM (by omega) ?_;rw[xV b d];intro i h;have a:i<l.length:=by simpa using h
  have e:(l.map gQ).getD i 0=gQ l[i]:=by simp[List.getD,a]
  have e2:l.getD i 0=l[i]:=by simp[List.getD,a]
  have c:=b i a;rw[e2]at c;rw[e];unfold gQ
  split<;>omega
 rw[←xV b d];unfold da;cases js l with
 | zero=>rfl
 | succ f=>simp only[oR];rw[g];rfl
theorem Nl(b:okC l)(c:l.length<=300)(h2:1<(ax l l.length).length):∀i,i<(bI l).length->0<=(bI l).getD i 0:=by
 intro i a;have e:bI l=(aw l ((ax l l.length).length-1)).2:=by unfold bI;rw[a0e (by omega)]
 rw[e]at a ⊢;exact((tw l (fun i a=>(b i a).2) c _ (.inl (by omega))) i a).1
theorem tD(a:Option Addr)(cap n:Nat)(l:List Int)(m:Int)(w:World)(g:l.length=n)(h:bo w a l)(f:n<=1048576)(c:wv l m=false) :
  CD 123 #[.slice a n cap,.int .i64 m] w (.slice none 0 0):=by
 have j:=af (l7 a cap n l w g h f);by_cases v:m<1
 .
  clear g h f c;generalize iK l=U at *
  go_enter a2Q,a2R;go_wp2_with fail;refine(ae j).mono ?_;rintro e x1 ⟨rfl,d⟩;rw[d];go_wp2;go_ret;exact⟨rfl,a0c _ _⟩
 .
  by_cases p:15<m
  .
   clear g h f c;generalize iK l=U at *
   go_enter a2Q,a2R;go_wp2_with fail;refine(ae j).mono ?_;rintro e x1 ⟨rfl,d⟩;rw[d];go_wp2;go_ret;exact⟨rfl,a0c _ _⟩
  .
   by_cases i:iK l<1
   .
    clear g h f c;generalize iK l=U at *
    go_enter a2Q,a2R;go_wp2_with fail;refine(ae j).mono ?_;rintro e x1 ⟨rfl,d⟩;rw[d];go_wp2;go_ret;exact⟨rfl,a0c _ _⟩
   .
    obtain⟨mm,rfl⟩:∃mm:Nat,m=(mm:Int)+1:=⟨(m-1).toNat,by omega⟩;have b:(decide (l.length<=300)&&inC l)=true:=by
     cases u:decide (l.length<=300)&&inC l
     . exfalso;apply i;unfold iK;rw[u];simp
     . rfl
    have k:(p2 mm:Int)<iK l:=by
     simp only[a0j,a0p]at b;rw[ny b.1 b.2]at i ⊢;unfold wv at c;rw[a0F b.1,b.2,aI.2 ⟨by omega,by omega⟩]at c;have e3:((mm:Int)+1).toNat=mm+1:=by omega
     rw[e3,yr]at c;simp only[a3n]at c;have:=fU.1 c;omega
    have s:iK l<=300:=by
     simp only[a0j,a0p]at b;rw[ny b.1 b.2];have:=rK l;omega
    have r:(1:Int)*2 ^ mm=(p2 mm:Int):=by rw[Int.one_mul,jU]
    have o:(2:Int) ^ mm=(p2 mm:Int):=(jU mm).symm;have q:(mm:Int)<=14:=by omega
    have t:IntKind.i64.wrap (p2 mm:Int)=(p2 mm:Int):=dn _ (by omega) (by omega);clear g h f c b;generalize iK l=U at *
    generalize p2 mm=PW at *
    go_enter a2Q,a2R;go_wp2_with fail;refine(ae j).mono ?_;rintro e x1 ⟨rfl,d⟩;rw[d];go_wp2;go_ret;exact⟨rfl,a0c _ _⟩
def ua(o:List Int)(i:Nat):Nat:=(o.getD i 0).toNat
theorem KJ(l:List Int)(i:Nat)(h:i<l.length):l.getD i 0∈l:=by simp[List.getD,h]
theorem wa(h2:2<=(ax l l.length).length) :
  (∀i,i<l.length->0<=(bI l).getD i 0/\(bI l).getD i 0<=(((ax l l.length).length-1:Nat):Int)) /\
  (∀i,i<l.length->(0<(bI l).getD i 0<->0<l.getD i 0)) /\
  (∀D,(ax l l.length).length<=D->krR l (ua (bI l)) D l.length=2 ^ D) /\
  oP l (bI l) l.length=qW ((ax l l.length).length-1) (ax l l.length):=by
 obtain⟨U,hU⟩:∃U,(ax l l.length).length=U+2:=⟨(ax l l.length).length-2,by omega⟩;have A:bI l=(aw l (U+1)).2:=by
  unfold bI;rw[a0e (by omega),hU];rfl
 have k:U+1<(ax l l.length).length∨U+1=0:=.inl (by omega);have m:=lh l (U+1) k;have b:(aw l (U+1)).1.length=1:=by have:=(bW l (U+1) k).2.2.2;omega
 have B:(aw l U).1.length=2:=by have:=(bW l U (by omega)).2.2.2;omega
 obtain⟨g,hg⟩:∃g,(aw l (U+1)).1=[g]:=by
  cases v:(aw l (U+1)).1 with
  | nil=>rw[v]at b;simp at b
  | cons x t=>rw[v]at b;simp at b;exact⟨x,by rw[b]⟩
 have a:=nc l (U+1) k;have p:(g.syms).Perm (bn (ax l l.length)):=by
  rw[hg]at a
  simpa[bn]using a
 rw[A];refine⟨?_,?_,?_,?_⟩
 .
  intro i h;have:=m i (by rw[dY];exact h);refine⟨this.1,?_⟩;have e:(((ax l l.length).length-1:Nat):Int)=((U+1:Nat):Int):=by rw[hU];omega
  rw[e];exact this.2
 .
  intro i h;constructor
  .
   intro u;apply Classical.byContradiction;intro C;have H:=vZ l i h (fun q=>by
    obtain⟨j,d,s,w⟩:=(zD l l.length (i:Int)).1 q;have:i=j:=by omega
    subst this;exact C w) (U+1) k
   omega
  .
   intro u;have q:(i:Int)∈bn (ax l l.length):=(zD l l.length (i:Int)).2 ⟨i,rfl,h,u⟩;have f:1<(aw l U).1.length:=by omega
   have n:=gN l U (by omega);have c:=jj _ f;have G:=di (aw l U).1 (by omega);have E:=di (am (aw l U).1) (by omega);have o:am (am (aw l U).1)=[]:=a2l (by omega);rw[o]at c;have r:(i:Int)∈bg (aw l U).1:=by
    have d:=(nc l U (by omega)).mem_iff.2 q;have s:=c.mem_iff.2 d;simpa[bn]using s
   have hb:=lX (aw l U).2 (bg (aw l U).1) i (jh f n.1).1 (fun y F=>(n.2 y (c.mem_iff.1 (by simp[F]))).1) (by rw[dY];exact h);rw[a0d r]at hb;have hd:=(lh l U (by omega)) i (by rw[dY];exact h);show 0<(bump (aw l U).2 (bg (aw l U).1)).getD i 0;omega
 . intro D z;have d:=Nk l D z (U+1) k g (by rw[hg];simp);rw[←vq,←d];exact(G3 _ p).symm
 .
  have d:=Nj l (U+1) k;have e:(ax l l.length).length-1-(U+1)=0:=by omega
  rw[e]at d;simp only[qW,Int.add_zero]at d;exact d
theorem Kg{len:Nat->Nat}{D E:Nat}(b:E<=D)(h:∀i,i<n->0<l.getD i 0->len i<=E):krR l len D n=2 ^ (D-E)*krR l len E n:=by
 induction n with
 | zero=>rfl
 | succ n ih=>
  simp only[krR];rw[ih (fun i c=>h i (by omega)),a2h];by_cases a:0<l.getD n 0
  .
   rw[a0d a,a0d a];have:=h n (by omega) a;rw[←a0Q]
   congr 2
   omega
  . rw[a0e a,a0e a];rfl
theorem Kh{E:Nat}(h2:2<=(ax l l.length).length)(h:∀i,i<l.length->(bI l).getD i 0<=(E:Int)):krR l (ua (bI l)) E l.length=2 ^ E:=by
 obtain⟨e,_,d,_⟩:=wa h2;have b:∀i,i<l.length->0<l.getD i 0->ua (bI l) i<=E:=by
  intro i c _;have:=h i c;unfold ua;omega
 have a:=Kg (D:=E+(ax l l.length).length) (Nat.le_add_right _ _) b;rw[d _ (Nat.le_add_left _ _),a1M,a0Q,a1d]at a;exact(Nat.eq_of_mul_eq_mul_left (Nat.pow_pos (by omega)) a).symm
theorem Np(e:o.length=l.length)(h:∀i,i<l.length->(0<o.getD i 0<->0<l.getD i 0))(k:Nat)(d:k<=l.length):kr (o.take k)=krR l (ua o) 15 k/\us (o.take k)=(ax l k).length:=by
 induction k with
 | zero=>exact⟨rfl,rfl⟩
 | succ k ih=>
  obtain⟨c,h2⟩:=ih (by omega);rw[EV o k (by omega),pN o k (by omega),c,h2];simp only[krR];have b:=h k (by omega);by_cases a:0<l.getD k 0
  .
   rw[a0d a,a0d (b.2 a),iU a];refine⟨?_,by simp⟩;unfold krN ua p2;rw[a0d (b.2 a)]
   congr 2
   have:=b.2 a;omega
  . rw[a0e a,a0e (fun x=>a (b.1 x)),mN a];refine⟨?_,rfl⟩;unfold krN;rw[a0e (fun x=>a (b.1 x))]
theorem BU(c:o.length=l.length)(j:l.length<=300)(h:∀i,i<l.length->(0<o.getD i 0<->0<l.getD i 0))(b:∀i,i<l.length->0<=o.getD i 0/\o.getD i 0<=15)(a:krR l (ua o) 15 l.length=32768∨((ax l l.length).length=1/\krR l (ua o) 15 l.length=16384)):av o=true:=by
 obtain⟨d,h2⟩:=Np c h l.length (a0a _);rw[←c,a1Q,c]at d h2;unfold av oF;simp only[a0j,a1f,a0p];refine⟨⟨?_,by omega⟩,?_⟩
 .
  unfold inL;rw[a03];intro x g;obtain⟨i,f,rfl⟩:=a1N g;have:=b i (by omega);have e:o.getD i 0=o[i]:=by simp[List.getD,f]
  rw[e]at this;exact aI.2 this
 .
  rw[d,h2];rcases a with a|a
  . exact .inl a
  . exact .inr a
theorem E7(o:List Int)(k i:Nat)(a:i<k):o.getD i 0<=bG o k:=by
 induction k with
 | zero=>omega
 | succ k ih=>
  by_cases h:bG o k<o.getD k 0
  .
   rw[ut h];by_cases e:i=k
   . subst e;exact a2D _
   . have:=ih (by omega);omega
  .
   rw[yj h];by_cases e:i=k
   . subst e;omega
   . exact ih (by omega)
theorem Gd(m:Nat):∀(f:Nat) (l:List Int),okC l->1<=(ax l l.length).length->(ax l l.length).length<=p2 m->js l<=f ->
  ∃c:List Int,c.length=l.length/\okC c/\(∀i,i<l.length->(0<c.getD i 0<->0<l.getD i 0))/\oR ((m:Int)+1) f l=bI c/\(∀i,i<l.length->(bI c).getD i 0<=(m:Int)+1)/\(ax c c.length).length=(ax l l.length).length:=by
 intro f;induction f with
 | zero=>
  intro l e k _ v;exfalso;obtain⟨g,u⟩:∃g,g∈ax l l.length:=by
   cases b:ax l l.length with
   | nil=>rw[b]at k;simp at k
   | cons x t=>exact⟨x,by simp⟩
  obtain⟨_,i,_,d,q,_⟩:=pz l l.length g u;have:∀(a:List Int) (x:Int),x∈a->0<x->0<js a:=by
   intro a x j q;induction a with
   | nil=>cases j
   | cons y a ih=>
    simp only[js,a0C,a0M]at ih ⊢;simp only[a0U]at j;rcases j with rfl|j
    . omega
    . have:=ih j;omega
  have:=this l (l.getD i 0) (KJ l i d) q;omega
 | succ f ih=>
  intro l e k p v;cases h:fits (bI l) ((m:Int)+1)
  .
   have hex:=uw p h;have r:=(uW l (yk e)).2 hex;have b:=qG l (fun i d=>(e i d).1) l.length (a0a _);obtain⟨c,c1,c2,c3,c4,n,o⟩:=ih (bq l) (ux e) (by rw[ec,b];exact k) (by rw[ec,b];exact p) (by omega);rw[ec]at c1 c3 n o;refine⟨c,c1,c2,?_,?_,n,by rw[o,b]⟩
   . intro i d;rw[c3 i d,qg l i d];unfold im;have:=(e i d).1;omega
   . simp only[oR];rw[h];exact c4
  .
   refine⟨l,rfl,e,fun i _=>Iff.rfl,?_,?_,rfl⟩
   . simp only[oR];rw[h];rfl
   . intro i d;unfold fits at h;have s:=of_decide_eq_true h;rw[io]at s;have:=E7 (bI l) l.length i d;omega
theorem wz{c:List Int}(d:okC c)(g:(ax c c.length).length=1)(i:Nat)(b:i<c.length):(bI c).getD i 0=if 0<c.getD i 0 then 1 else 0:=by
 rw[xV d g];have e:(c.map gQ).getD i 0=gQ c[i]:=by simp[List.getD,b]
 have e2:c.getD i 0=c[i]:=by simp[List.getD,b]
 have a:=d i b;rw[e2]at a ⊢;rw[e];unfold gQ;by_cases f:0<c[i]
 . rw[a0d f];split<;>omega
 . rw[a0e f];split<;>omega
theorem OW{c:List Int}(d:okC c)(k:Nat)(f:k<=c.length)(b:(ax c c.length).length=1):krR c (ua (bI c)) 15 k=(ax c k).length*16384:=by
 induction k with
 | zero=>simp[krR,ax]
 | succ k ih=>
  simp only[krR];rw[ih (by omega)];have h:=wz d b k (by omega);by_cases a:0<c.getD k 0
  .
   rw[a0d a,iU a];have e:ua (bI c) k=1:=by unfold ua;rw[h,a0d a];rfl
   have e2:(2:Nat) ^ (15-1)=16384:=by decide
   rw[e,e2,a0i,a1j,a1o,a2H]
  . rw[a0e a,mN a,a05]
theorem ue{m:Nat}(p:okC l)(s:l.length<=300)(n:1<=(ax l l.length).length)(o:(ax l l.length).length<=p2 m)(t:m<=14) :
  (da ((m:Int)+1) l).length=l.length/\av (da ((m:Int)+1) l)=true/\∀i,i<l.length->0<=(da ((m:Int)+1) l).getD i 0/\(da ((m:Int)+1) l).getD i 0<=(m:Int)+1/\(0<(da ((m:Int)+1) l).getD i 0<->0<l.getD i 0):=by
 obtain⟨c,c1,c2,c3,c4,j,r⟩:=Gd m (js l) l p n o (a0a _);have e:da ((m:Int)+1) l=bI c:=c4;rw[e];by_cases b:(ax c c.length).length=1
 .
  have q:=wz c2 b;have d:∀i,i<l.length->0<=(bI c).getD i 0/\(bI c).getD i 0<=1/\(0<(bI c).getD i 0<->0<l.getD i 0):=by
   intro i a;have h:=q i (by omega);have k:=c3 i a;by_cases g:0<c.getD i 0
   . rw[a0d g]at h;rw[h];exact⟨by omega,by omega,⟨fun _=>k.1 g,fun _=>by omega⟩⟩
   . rw[a0e g]at h;rw[h];exact⟨by omega,by omega,⟨fun x=>by omega,fun x=>absurd (k.2 x) g⟩⟩
  refine⟨by rw[io,c1],?_,fun i a=>⟨(d i a).1,j i a,(d i a).2.2⟩⟩;refine BU (l:=c) (io c) (by omega) ?_ ?_ (.inr ⟨b,by rw[OW c2 _ (a0a _) b,b]⟩)
  . intro i a;exact(d i (by omega)).2.2.trans (c3 i (by omega)).symm
  . intro i a;have:=d i (by omega);exact⟨this.1,by omega⟩
 .
  have h2:2<=(ax c c.length).length:=by omega
  obtain⟨f0,f1,_,_⟩:=wa h2;refine⟨by rw[io,c1],?_,fun i a=>⟨(f0 i (by omega)).1,j i a,(f1 i (by omega)).trans (c3 i a)⟩⟩;have f:∀i,i<c.length->(bI c).getD i 0<=((15:Nat):Int):=fun i a=>by have:=j i (by omega);omega
  refine BU (l:=c) (io c) (by omega) f1 (fun i a=>⟨(f0 i a).1,f i a⟩) (.inl (Kh h2 f))
theorem tE(a:Option Addr)(cap n mm:Nat)(l:List Int)(w:World)(M:l.length=n)(h:bo w a l)(hm:n<=300)(hc:inC l=true)(Z:mm<=14)(an:1<=us l)(P:us l<=p2 mm) :
  Calls prog 123 #[.slice a n cap,.int .i64 ((mm:Int)+1)] w fun e w'=>(∃v,e = .returned v/\al w' w.heap.size v (da ((mm:Int)+1) l))/\Below w.heap.size w w':=by
 have Y:=rK l;have HU:=af (l7 a cap n l w M h (by omega));rw[ny (by omega) hc]at HU;have a4:(us l:Int)<=300:=by omega
 have a2:(1:Int)<=(us l:Int):=by omega
 have a3:(us l:Int)<=(p2 mm:Int):=by omega
 have bb:(1:Int)*2 ^ mm=(p2 mm:Int):=by rw[Int.one_mul,jU]
 have a9:(2:Int) ^ mm=(p2 mm:Int):=(jU mm).symm;have ba:(mm:Int)<=14:=by omega
 have ab:p2 mm<=16384:=by
  have h1:p2 mm<=p2 14:=a0T (by omega) (by omega);have h2:p2 14=16384:=rfl;omega
 have bc:IntKind.i64.wrap (p2 mm:Int)=(p2 mm:Int):=dn _ (by omega) (by omega);have y:=Ph hc;by_cases s:us l=1
 .
  have HE:=af (zr a cap n l w M h (by omega) y);have j:Hid (da ((mm:Int)+1) l=l.map gQ):=M4 (by omega) y (by rw[eK];exact s);rw[s]at a3 HU;have Hn:=af M;clear M h hm hc Z an P Y a4 a2 s y ab;generalize p2 mm=PW at *
  go_enter a2Q,a2R;go_wp2_with fail;refine(ae HU).mono ?_;rintro e x1 ⟨rfl,E⟩;rw[E];clear E x1;go_wp2_with fail;refine(ae HE).mono ?_;rintro e x2 ⟨v,rfl,ho,hb⟩;obtain⟨va,vc,rfl⟩:=ho.formN (n:=n) (by rw[a0N,ae Hn]);go_wp2;go_ret;exact⟨⟨_,rfl,by rw[ae j];exact ho⟩,hb⟩
 .
  have a8:((us l:Int) == 1)=false:=by simp;omega
  have O:1<(ax l l.length).length:=by rw[eK];omega
  have HN:=af (a0b M (a0b hm (a0b y (show(ax l l.length).length<=p2 mm by rw[eK];exact P))));have N:Hid (1<=n):=by show 1<=n;omega
  have HP:=af (mD a cap n l w M h hm y O);have HH:=af (a0b h O);clear M h hm hc Z an P Y s y ab O;have r:Hid (n<=300):=(ae HN).2.1;generalize us l=U at *
  generalize V:p2 mm=PW at *
  have R:=af V;clear V;go_enter a2Q,a2R;go_wp2_with fail;refine(ae HU).mono ?_;rintro e x1 ⟨rfl,E⟩;rw[E];clear E x1;go_wp2_with fail;refine(ae HP).mono ?_;rintro e x2 ⟨rfl,ho,hb⟩;go_wp2_with fail
  go_loopw [0,6] (fun c v wr=>∃(b:List Int) (f ob T:Nat) (S:Option Addr),b.length=n/\okC b/\(ax b b.length).length<=PW/\1<(ax b b.length).length/\js b<=f/\da ((mm:Int)+1) l=oR ((mm:Int)+1) f b/\c = .slice S n T/\v = .slice (some ⟨ob,0,none⟩) n n/\w.heap.size<=ob/\al wr ob (.slice (some ⟨ob,0,none⟩) n n) (bI b)/\bo wr S b/\Below w.heap.size w wr) (fun c _ wr=>Ed c wr n)
  case atStart=>exact⟨l,js l,w.heap.size,cap,a,(ae HN).1,(ae HN).2.2.1,(ae HN).2.2.2,(ae HH).2,a0a _,rfl,rfl,rfl,a0a _,ho,(ae HH).1.later hb,hb⟩
  case round=>
   obtain⟨b,f,ob,T,S,k,g,p,u,H,j,rfl,rfl,J,D,B,q⟩:=hrel;clear ho hb;have m:(bI b).length=n:=(io b).trans k;have Q:=af (um (some ⟨ob,0,none⟩) n n (bI b) wr m (D.rowN m) (ae N) (ae r) (Nl g (by rw[k];exact ae r) u));have C:Hid (fits (bI b) ((mm:Int)+1)=decide (bG (bI b) n<=(mm:Int)+1)):=by show _=_;unfold fits;rw[m]
   have HQ:=af (a0b k (a0b g (a0b p (a0b u (a0b H j)))));have HO:=af (a0b D (a0b B (a0b q J)));have HE:=af (xH S T n b wr k B (by have:=ae r;omega) g);have HS:=af (Fu (c:=T) k (ae N) B);clear k g p u H j m D B q J;generalize bG (bI b) n=mo at *
   by_cases a7:(mm:Int)+1<mo
   .
    have I:fits (bI b) ((mm:Int)+1)=false:=by rw[ae C];exact a0v (by omega)
    obtain⟨k,g,p,u,H,j⟩:=ae HQ;rw[←ae R]at p;have hex:=uw p I;have K:=(uW b (yk g)).2 hex;obtain⟨f',hff⟩:∃f',f=f'+1:=⟨f-1,by omega⟩;have L:Hid (da ((mm:Int)+1) l=oR ((mm:Int)+1) f' (bq b)):=by
     show _=_;rw[j,hff];simp only[oR];rw[I];rfl
    have X:Hid (js (bq b)<=f'):=by show _<=_;omega
    have a0:=af K;have A:=af (ux g);have ad:=qG b (fun i hi=>(g i hi).1) b.length (a0a _);have z:Hid ((ax (bq b) (bq b).length).length<=PW/\1<(ax (bq b) (bq b).length).length):=by
     show _/\_;rw[ec,ad,←ae R];exact⟨p,u⟩
    have o:Hid ((bq b).length=n):=(ec b).trans k;clear k g p H j hex K hff ad u;go_wp2_with fail;refine(ae Q).mono ?_;rintro e x3 ⟨rfl,F⟩;rw[F];clear F x3;go_wp2_with fail;refine(ae HE).mono ?_;rintro e x4 ⟨v,rfl,x,W⟩;obtain⟨va,vc,rfl⟩:=x.formN (ae o);have d:=x.rowN (ae o);have t:Below w.heap.size w x4:=ah (ae HO).2.2.1 W;have ao:=af (mD va vc n (bq b) x4 (ae o) d (ae r) (ae A) (ae z).2);have a1:=af (a0b x (a0b t d));clear x W d t;go_wp2_with fail;refine(ae ao).mono ?_;rintro e x5 ⟨rfl,aa,G⟩;obtain⟨x,t,d⟩:=ae a1;have a5:Hid (Ed (.slice va n vc) x5 n<Ed (.slice S n T) wr n):=by
     show Ed _ _ _<Ed _ _ _;rw[Fu (ae o) (ae N) (d.later G),ae HS];exact ae a0
    have HR:=af (a0b aa (a0b (d.later G) (ah t G)));have a6:Hid (w.heap.size<=x4.heap.size):=t.size;clear x t d aa G;go_wp2;go_roundw
    case rel=>exact⟨bq b,f',x4.heap.size,vc,va,ae o,ae A,(ae z).1,(ae z).2,ae X,ae L,rfl,rfl,ae a6,(ae HR).1,(ae HR).2.1,(ae HR).2.2⟩
    case measure=>exact ae a5
   .
    have I:fits (bI b) ((mm:Int)+1)=true:=by rw[ae C];exact a0F (by omega)
    have ac:Hid (da ((mm:Int)+1) l=bI b):=by
     show _=_;rw[(ae HQ).2.2.2.2.2];cases f with
     | zero=>rfl
     | succ f=>simp only[oR];rw[I];rfl
    go_wp2_with fail;refine(ae Q).mono ?_;rintro e x3 ⟨rfl,F⟩;rw[F];clear F x3;obtain⟨D,B,q,J⟩:=ae HO;go_wp2;go_ret;exact⟨⟨_,rfl,by rw[ae ac];exact D.mono J⟩,q⟩
theorem jb(a:Option Addr)(cap n:Nat)(l:List Int)(m:Int)(w:World)(i:l.length=n)(h:bo w a l)(j:n<=1048576) :
  Calls prog 123 #[.slice a n cap,.int .i64 m] w fun e w'=>(∃v,e = .returned v/\al w' w.heap.size v (jy l m))/\Below w.heap.size w w':=by
 cases b:wv l m
 . refine(tD a cap n l m w i h j b).mono ?_;rintro e w' ⟨rfl,hb⟩;refine⟨⟨_,rfl,?_⟩,hb⟩;unfold jy;rw[b];exact a00 _ _ _ _
 .
  have f:=b;unfold wv at f;simp only[a0j,a0p]at f;obtain⟨⟨⟨k,g⟩,d⟩,c⟩:=f;obtain⟨m1,m2⟩:=aI.1 g;obtain⟨mm,rfl⟩:∃mm:Nat,m=(mm:Int)+1:=⟨(m-1).toNat,by omega⟩;have e3:((mm:Int)+1).toNat=mm+1:=by omega
  rw[e3,yr]at c;obtain⟨u1,u2⟩:=aI.1 c;have:=tE a cap n mm l w i h (by omega) d (by omega) (by omega) (by omega);unfold jy;rw[b];exact this
end Go.Proofs.YtgmfehnnebkaoaaGreatDoor
