/- Of what the proof is made: 5 texts, one behind the other. -/
import Derived.Test.YtggknepmhjfohaaGreatDoorRt1
import Derived.Test.YtggknepmhjfohaaGreatDoorM25
import Derived.Test.YtggknepmhjfohaaGreatDoorM20
import Derived.Test.YtggknepmhjfohaaGreatDoorM28
import Derived.Test.YtggknepmhjfohaaGreatDoorM30
import Derived.Test.YtggknepmhjfohaaGreatDoorM31
set_option linter.unusedSimpArgs false
set_option linter.unusedVariables false
namespace Go.Proofs.YtggknepmhjfohaaGreatDoor
open Go.RowKit Corb
variable {V p sz:Nat}{a:List Int}{l:List (Int×Int)}
theorem lr(l:List UInt8):(⟨l.toArray⟩:ByteArray).size=l.length:=by simp[ByteArray.size]
theorem D3: ∀(L:List UInt8) (p:Nat) (R:List UInt8),Std V p (bH L++l)->p+8*L.length<=sz->R.length+L.length<=300->dr V sz L.length p R=some (R++L,p+8*L.length):=by
 intro L;induction L with
 | nil=>intro p R _ _ _;simp[dr]
 | cons b L ih=>
  intro p R h f d;rw[a0E]at f d ⊢;have e:bH (b :: L)++l=(((b.toNat:Nat):Int),(8:Int)) :: (bH L++l):=rfl;rw[e]at h;have c:=pQ (sz:=sz) h (by show p+8<=sz;omega);simp only[a0p]at c;have a:rdN V sz p 8=some (b.toNat,p+8):=c;have hb:=b.toNat_lt;simp only[dr];rw[a];simp only[a0f];rw[jU R b.toNat hb,a0d (by omega)];simp only[a0f];rw[xr,ih (p+8) (R++[b]) h.2 (by omega) (by rw[a0m,a1g];omega)];simp only[a0M,List.singleton_append,a0i,a0R,a1P];omega
theorem Fu{c:Nat}{L R:List UInt8}(g:(8-p%8)%8=c)(h:Std V p (((0:Int),(c:Int)) :: ((L.length:Int),(16:Int)) :: (((65535-L.length:Nat):Int),(16:Int)) :: (bH L++l)))(k:p+c+32+8*L.length<=sz)(f:R.length+L.length<=300) :
  du V sz p R=some (R++L,p+c+32+8*L.length):=by
 have d:=h.1;have a:=h.2;have h2:=a.2;have e:=h2.2;simp only[a0p,Int.toNat_zero]at d a h2 e;unfold du fj;rw[g,a0d d];simp only[a0f];have i:rdN V sz (p+c) 16=some (L.length,p+c+16):=pQ (sz:=sz) a (by show p+c+16<=sz;omega);have j:rdN V sz (p+c+16) 16=some (65535-L.length,p+c+16+16):=pQ (sz:=sz) h2 (by show p+c+16+16<=sz;omega);rw[i];simp only[a0f];rw[j];simp only[a0f,a0T];have b:Std V (p+c+16+16) (bH L++l):=e;rw[D3 L _ R b (by omega) f]
theorem nv{k:Nat}{T:List UInt8}{r:List UInt8×Nat}(h:Std V p (((1:Int),(1:Int)) :: ((k:Int),(2:Int)) :: l))(d:p+1+2<=sz)(a:fg V sz k (p+1+2) T=some r):fo V sz p T=some r:=by
 have b:rdN V sz p 1=some (1,p+1):=pQ (sz:=sz) h (by show p+1<=sz;omega);have h2:=h.2;have c:rdN V sz (p+1) 2=some (k,p+1+2):=by
  have:=pQ (sz:=sz) h2 (by show p+1+2<=sz;omega);simpa using this
 rw[lR,b];simp only[a0f];rw[c];simp only[a0f];rw[a];rfl
theorem II{M:Nat}(h:V<2 ^ M):fj V M=some (M+(8-M%8)%8):=by
 unfold fj;rw[a1L h,Nat.zero_mod,a0d rfl]
theorem rX{P:List (Int×Int)}{T:List UInt8}(a:lOk P=true)(f:(cx P).length<=700)(e:fo (aW P).1 (8*(cx P).length) 0 []=some (T,(aW P).2)):cn ⟨(cx P).toArray⟩=some (T,8*(cx P).length):=by
 have d:(cx P).length=((aW P).2+7)/8:=by unfold cx;exact aL _ _
 have c:=Jn a;rw[dW a]at c;have b:(aW P).1<2 ^ (aW P).2:=wV P (by unfold lOk at a;simp only[a0l]at a;exact a.1);unfold cn eH;rw[a0d (by rw[lr];exact f)];have e1:aj ⟨(cx P).toArray⟩=(aW P).1:=by unfold aj;simpa using c
 have e2:(⟨(cx P).toArray⟩:ByteArray).size=(cx P).length:=lr _;rw[e1,e2,e];simp only[a0f];rw[II b];simp only[a0f,a0i,a0R,a1P];rw[d];omega
theorem nS{P:List (Int×Int)}(a:lOk P=true):bN P=(aW P).2/\bN P<=8*(cx P).length/\Std (aW P).1 0 P:=by
 have h:aX P=true:=by unfold lOk at a;simp only[a0l]at a;exact a.1
 have b:=Fv h;have c:(cx P).length=((aW P).2+7)/8:=by unfold cx;exact aL _ _
 have h2:=KN 0 h;rw[Nat.zero_mul,a1q]at h2;refine⟨b,?_,h2⟩;unfold bN;rw[b,c];omega
theorem FY(L:List UInt8):bN (bH L)=8*L.length:=by
 induction L with
 | nil=>rfl
 | cons b L ih=>
  have e:bH (b :: L)=(((b.toNat:Nat):Int),(8:Int)) :: bH L:=rfl;rw[e,eK,ih,a0E];simp only[Int.reduceToNat];omega
theorem vi(L:List UInt8)(h:L.length<=300):lOk (ef L.length++bH L)=true:=by
 have a:=r9 L.length (by omega);have h2:=na L (by omega);unfold lOk at a h2 ⊢;simp only[a0l,a0u]at a h2 ⊢;rw[nR,a.1,h2.1,a0m,kw];refine⟨rfl,?_⟩;have:(ef L.length).length=5:=rfl;omega
theorem zH(L:List UInt8)(h:L.length<=300):cx (ef L.length++bH L)=fq L:=by
 rw[←dW (vi L h),vj L h];unfold fq;rw[a0d h]
theorem tN(L:List UInt8)(h:L.length<=300):(fq L).length=L.length+5:=by
 unfold fq;rw[a0d h,a0m,aL];omega
theorem xW(L:List UInt8)(h:L.length<=300):cn ⟨(fq L).toArray⟩=some (L,8*(L.length+5)):=by
 have d:=vi L h;obtain⟨e,f,b⟩:=nS d;have a:=tN L h;rw[←zH L h]at a ⊢;rw[a]at f;have hb:bN (ef L.length++bH L)=40+8*L.length:=by
  rw[dw,FY];rfl
 have:=rX (T:=L) d (by omega) (by
  rw[a,←e,hb];refine nv (k:=0) b (by omega) ?_;unfold fg;rw[a0d rfl];have g:=Fu (R:=[]) (V:=(aW (ef L.length++bH L)).1) (sz:=8*(L.length+5)) (p:=0+1+2) (c:=5) (L:=L) (l:=[]) (by decide) (by rw[a03];exact b.2.2) (by omega) (by simpa using h);rw[g];simp only[a1b])
 rw[this,a]
theorem JR:(List.range 288).all (fun i=>decide (0<(bR 288).getD i 0)&&decide ((bR 288).getD i 0<=9))=true:=by decide +kernel
theorem Gp:(List.range 32).all (fun i=>decide (gp.getD i 0=5))=true:=by decide +kernel
theorem AQ{i:Nat}(h:i<288):0<(bR 288).getD i 0/\(bR 288).getD i 0<=9:=by
 have:=a1m.1 JR i (List.mem_range.2 h);simpa using this
theorem CY{i:Nat}(h:i<32):gp.getD i 0=5:=by
 have:=a1m.1 Gp i (List.mem_range.2 h);simpa using this
theorem GR{t:Tk}(a:okT t=true):AZ (bR 288) gp t:=by
 have:=iN a;unfold fx at this;unfold AZ
 split
 .
  rename_i hB;rw[a0d hB]at this;have l1:(bR 288).length=288:=by decide +kernel
  exact(AQ (by omega)).1
 .
  rename_i hB;rw[a0e hB]at this;have l1:(bR 288).length=288:=by decide +kernel
  have l2:gp.length=32:=by decide +kernel
  refine⟨(AQ (by omega)).1,?_⟩;rw[CY (by omega)];omega
theorem Gt:(List.range 61).all (fun y=>decide (y<3) || decide (((bR 288).getD (257+fnd 3 4 y 27) 0).toNat+(stF 3 4 (fnd 3 4 y 27)).2+11<=9*y))=true:=by decide +kernel
theorem Gr:(List.range 251).all (fun y=>decide (y<1) || decide ((stF 1 2 (fnd 1 2 y 29)).2<=6))=true:=by decide +kernel
theorem Gs{t:Tk}(d:okT t=true):bN (ct (bR 288) gp t)<=9*(if isB t then 1 else t.2.1.toNat):=by
 obtain⟨y,lo,b⟩:=t;unfold ct;by_cases a:isB (y,lo,b)=true
 .
  rw[a0d a,a0d a,eK,jA,lu];have hb:0<=y/\y<=255:=by unfold isB inB at a;simp only[a0l,a0u]at a;omega
  have:=AQ (i:=y.toNat) (by omega);show((bR 288).getD y.toNat 0).toNat+0<=9*1;omega
 .
  rw[a0e a,a0e a];have c:isK (y,lo,b)=true:=by unfold okT at d;simpa[a]using d
  have hb:y=0/\3<=lo/\lo<=60/\1<=b/\b<=250:=by unfold isK inB at c;simp only[a0l,a0u]at c;omega
  obtain⟨rfl,e,f,h,j⟩:=hb;obtain⟨x,rfl⟩:=a0n (show 0<=lo by omega);obtain⟨z,rfl⟩:=a0n (show 0<=b by omega);have f1:=a1m.1 Gt x (List.mem_range.2 (by omega));have f2:=a1m.1 Gr z (List.mem_range.2 (by omega));simp only[a1h,a0u]at f1 f2;have g:=CY (i:=fnd 1 2 z 29) (by have:=f9 1 2 z 29;omega);simp only[eK,jA,lu,a0p];rw[g];omega
theorem JS{L:List UInt8} : ∀(n p:Nat),L.length-p<=n->bN ((bg L p).flatMap (ct (bR 288) gp))<=9*(L.length-p):=by
 intro n;induction n with
 | zero=>
  intro p h;rw[ea (by omega)];exact a0g _
 | succ n ih=>
  intro p h;by_cases d:p<L.length
  .
   have a:=vw L L.length p (by omega);rw[gO d]at a ⊢;have e:=Gs (a (fe L p) (by simp));have g:=gi L p;have i:=oM d;have j:=ih (p+ii L p) (by omega);have f:(if isB (fe L p)then 1 else(fe L p).2.1.toNat)=ii L p:=by
    unfold fe ii;by_cases b:(aY L p (min p 250)).1<3
    .
     have c:isB ((((L.getD p 0).toNat:Nat):Int),0,0)=true:=by
      have:=(L.getD p 0).toNat_lt;generalize (L.getD p 0).toNat=y at *
      unfold isB inB;simp;omega
     rw[a0d b,a0d b,c];rfl
    .
     have c:isB (0,((aY L p (min p 250)).1:Int),((aY L p (min p 250)).2:Int))=false:=by
      unfold isB;simp;omega
     rw[a0e b,a0e b,c];simp
   rw[f]at e;rw[a06,dw];omega
  . rw[ea d];exact a0g _
theorem uD(s:ByteArray):bN (gw s)=1+2+bN ((bg s.data.toList 0).flatMap (ct (bR 288) gp))+7:=by
 unfold gw;rw[dw,dw];have e1:bN [((1:Int),(1:Int)),((1:Int),(2:Int))]=3:=rfl;have e2:bN [pcM (bR 288) 256]=7:=by
  rw[eK,jA,lu];decide +kernel
 rw[e1,e2];omega
theorem sF(s:ByteArray)(h:s.size<=300):(dF s).length<=340/\2<=(dF s).length:=by
 have b:=od s h;obtain⟨a,d,f⟩:=nS b;have e:=uD s;have e2:=JS (L:=s.data.toList) s.data.toList.length 0 (by omega);have e3:s.data.toList.length=s.size:=by simp
 have c:(dF s).length=((aW (gw s)).2+7)/8:=by unfold dF cx;exact aL _ _
 rw[c,←a,e];omega
theorem xV(s:ByteArray)(h:s.size<=300):cn ⟨(dF s).toArray⟩=some (s.data.toList,8*(dF s).length):=by
 have f:=od s h;obtain⟨g,i,d⟩:=nS f;have m:=(sF s h).1;have e:=uD s;have e3:s.data.toList.length=s.size:=by simp
 have b:(bR 288).getD 256 0=7:=by decide +kernel
 refine rX f (show(dF s).length<=700 by omega) ?_;have j:bN (gw s)<=8*(dF s).length:=i;show fo (aW (gw s)).1 (8*(dF s).length) 0 []=some (s.data.toList,(aW (gw s)).2);refine nv (k:=1) d (by omega) ?_;unfold fg AP;rw[a0e (by decide),a0d rfl];have a:=DF (L:=bR 288) (D:=gp) ia lJ (V:=(aW (gw s)).1) (sz:=8*(dF s).length) (by rw[b];omega) (l:=[]) (bg s.data.toList 0) (0+1+2) [] s.data.toList (fun t a=>⟨eo s t a,GR (eo s t a)⟩) d.2.2 (by rw[b];simp only[Int.reduceToNat];omega) (tV (by omega));rw[b]at a;simp only[Int.reduceToNat]at a;have c:gm (aW (gw s)).1 (8*(dF s).length) (bR 288) (List.replicate 32 5) (0+1+2) []=_:=a;rw[c,←g,e]
theorem Lm(s:ByteArray)(h:s.size<=300):cn (byS s)=some (s.data.toList,8*(byS s).size)/\(byS s).size=s.size+5:=by
 have b:s.data.toList.length=s.size:=iJ s;have a:=xW s.data.toList (by omega);have h2:=tN s.data.toList (by omega);unfold byS;rw[lr,a,h2,b];exact⟨rfl,rfl⟩
theorem Lk(s:ByteArray)(h:s.size<=300):cn (byF s)=some (s.data.toList,8*(byF s).size)/\2<=(byF s).size/\(byF s).size<=340:=by
 have a:=xV s h;have h2:=sF s h;unfold byF kA;rw[a0d h,lr,a];exact⟨rfl,h2.2,h2.1⟩
theorem wt{r:List Int}(c:r.length=a.length)(h:∀j,j<a.length->r.getD j 0=a.getD j 0):r=a:=by
 apply a2g c;intro j b h2;have:=h j h2;simpa[List.getD,b,h2]using this
theorem Lz: ∀(is:List Nat) (p:Nat) (r:List Int),Std V p (is.map (fun i=>(a.getD i 0,(3:Int)))++l)->(∀i∈is,0<=a.getD i 0/\i<r.length)->∀j,(lbV V is p r).getD j 0=if j∈is then a.getD j 0 else r.getD j 0:=by
 intro is;induction is with
 | nil=>intro p r _ _ j;simp[lbV]
 | cons i is ih=>
  intro p r h c j;rw[a0B,a1o]at h;have d:V/2 ^ p%2 ^ 3=(a.getD i 0).toNat:=h.1;have h2:=h.2;obtain⟨i1,i2⟩:=c i (by simp);simp only[lbV];rw[d,a28 i1,ih (p+3) _ h2 (fun k f=>by rw[a1E];exact c k (by simp[f])) j];by_cases b:j∈is
  . rw[a0d b,a0d (by simp[b])]
  .
   rw[a0e b];by_cases e:j=i
   . subst e;rw[a0d (by simp)];simp[List.getD,i2]
   . rw[a0e (by simp[b,e])];simp[List.getD,Ne.symm e]
theorem LA(f:a.length=19)(e:∀i,i<19->0<=a.getD i 0)(h:Std V p (br.map (fun i=>(a.getD i 0,(3:Int)))++l)):lbV V br p (List.replicate 19 0)=a:=by
 have b:∀i∈br,i<19:=by decide
 have c:∀i,i<19->i∈br:=by decide
 have g:=Lz (a:=a) br p (List.replicate 19 0) h (fun i d=>⟨e i (b i d),by rw[a0w];exact b i d⟩);have k:(lbV V br p (List.replicate 19 0)).length=19:=by rw[J9,a0w]
 exact wt (by rw[k,f]) (fun j m=>by rw[g j,a0d (c j (by omega))])
theorem LC{B:List Int}(b:au B=true) : ∀(A R:List Int) (p:Nat),(∀x∈A,0<=x/\x<=15/\0<B.getD x.toNat 0)->Std V p (A.map (fun x=>pcM B x.toNat)++l)->p+bN (A.map (fun x=>pcM B x.toNat))<=sz->lnG V sz B (R.length+A.length) p R=some (R++A,p+bN (A.map (fun x=>pcM B x.toNat))):=by
 intro A;induction A with
 | nil=>
  intro R p _ _ a;rw[a1D,jA,a1q]at a;rw[sY a (by simp),a0d (by simp),a03,a1D,jA,a1q]
 | cons x A ih=>
  intro R p c h a;rw[a0B,eK,lu]at a ⊢;rw[a0B,a1o]at h;obtain⟨a1,a2,a3⟩:=c x (by simp);rw[a0E,sX (by omega) (by omega),nX b a3 h (by omega)];simp only[a0f];have e:dB V sz R ((x.toNat:Nat):Int) (p+(B.getD x.toNat 0).toNat)=some (R++[x],p+(B.getD x.toNat 0).toNat):=by
   rw[a28 a1];unfold dB;rw[a0e (by omega),a0e (by omega),a0e (by omega)]
  rw[e];simp only[a0f];have:=ih (R++[x]) (p+(B.getD x.toNat 0).toNat) (fun y d=>c y (by simp[d])) h.2 (by omega);rw[a0m,a1g]at this;rw[show R.length+(A.length+1)=R.length+1+A.length by omega,this];simp only[a0M,List.singleton_append,a0i,a0R,a1P];omega
theorem pa(a:List Int)(is:List Nat):bN (is.map (fun i=>(a.getD i 0,(3:Int))))=3*is.length:=by
 induction is with
 | nil=>rfl
 | cons i is ih=>
  rw[a0B,eK,ih,a0E];simp only[Int.reduceToNat];omega
theorem GY{L D:List Int}(r:au L=true)(q:au D=true)(l0:257<=L.length)(l1:L.length<=286)(y:1<=D.length)(z:D.length<=30)(h:Std V p (cW L D++l))(u:p+bN (cW L D)<=sz) :
  gq V sz p=some (L.length,L++D,p+bN (cW L D)):=by
 have g:∀x∈L++D,0<=x/\x<=15:=by
  intro x f;rcases a0X.1 f with h|h
  . exact jm r x h
  . exact jm q x h
 have j:(L++D).length=L.length+D.length:=a0m;obtain⟨v,s,w⟩:=sQ (L++D) (by omega) (by omega) g;have b:=EC (L++D) (by omega) (by omega) g;have e:cW L D++l=((L.length:Int)-257,(5:Int)) :: ((D.length:Int)-1,(5:Int)) :: ((15:Int),(4:Int)) :: (br.map (fun i=>((aJ (L++D)).getD i 0,(3:Int)))++((L++D).map (fun x=>pcM (aJ (L++D)) x.toNat)++l)):=by
  unfold cW;simp only[a1o,a1b,a0M]
 have eb:bN (cW L D)=5+5+4+3*19+bN ((L++D).map (fun x=>pcM (aJ (L++D)) x.toNat)):=by
  unfold cW;rw[dw,dw,pa];have e1:bN [((L.length:Int)-257,(5:Int)),((D.length:Int)-1,(5:Int)),((15:Int),(4:Int))]=14:=rfl;have e2:br.length=19:=rfl;rw[e1,e2];omega
 rw[e]at h;rw[eb]at u ⊢;generalize A:aJ (L++D)=B at *
 have x1:V/2 ^ p%2 ^ 5=L.length-257:=by have:=h.1;simp only[Int.reduceToNat]at this;omega
 have h2:Std V (p+5) _:=h.2;have x2:V/2 ^ (p+5)%2 ^ 5=D.length-1:=by have:=h2.1;simp only[Int.reduceToNat]at this;omega
 have m:Std V (p+5+5) _:=h2.2;have x3:V/2 ^ (p+5+5)%2 ^ 4=15:=by have:=m.1;simp only[Int.reduceToNat]at this;exact this
 have n:Std V (p+5+5+4) _:=m.2;have k:=LA (a:=B) v (fun i t=>(w i t).1) n;have o:=(nG.1 n).2;rw[pa,show br.length=19 from rfl]at o;have c:lbV V (br.take (15+4)) (p+5+5+4) (List.replicate 19 0)=B:=by
  rw[show br.take (15+4)=br from rfl];exact k
 rw[yK (by omega) x1 x2 x3 c,a0d ⟨by omega,s,by omega,by omega⟩];have d:=LC s (sz:=sz) (L++D) [] (p+5+5+4+3*(15+4)) (fun x f=>⟨(g x f).1,(g x f).2,b x f⟩) o (by omega);rw[a00,a0J,j,a1b]at d;rw[show L.length-257+257+(D.length-1+1)=L.length+D.length by omega,show L.length-257+257=L.length by omega,d];simp only[a0f];rw[List.take_left',List.drop_left',a0d ⟨r,q⟩]
 . simp only[a0i,a0R,a1P];omega
 . rfl
 . rfl
theorem Io(T:List Tk)(c:T.length<=300)(b:∀t∈T,okT t=true)(t:Tk)(d:t∈T):AZ (bv T) (cf T) t:=by
 obtain⟨a,h2⟩:=Dq T c b t d;unfold ie at a;unfold dS at h2;unfold AZ
 split
 . rename_i h;rw[a0d h]at a;exact a
 . rename_i h;rw[a0e h]at a h2;exact⟨a,h2 _ (by simp)⟩
theorem uY(T:List Tk):bN (ir T)=1+2+bN (cW (bv T) (cf T))+bN (T.flatMap (ct (bv T) (cf T)))+((bv T).getD 256 0).toNat:=by
 unfold ir;rw[dw,dw,dw,eK (pcM (bv T) 256),jA,lu];have e1:bN [((1:Int),(1:Int)),((2:Int),(2:Int))]=3:=rfl;rw[e1];omega
theorem Il(s:ByteArray)(h:s.size<=300):9<=(lm s).length:=by
 have c:=ij s h;have b:=ru (bg s.data.toList 0) c (eo s);obtain⟨a,f,g⟩:=nS b;have e:=uY (bg s.data.toList 0);have d:(lm s).length=((aW (ir (bg s.data.toList 0))).2+7)/8:=by unfold lm cx;exact aL _ _
 have eb:71<=bN (cW (bv (bg s.data.toList 0)) (cf (bg s.data.toList 0))):=by
  unfold cW;rw[dw,dw,pa];have e2:br.length=19:=rfl;rw[e2,eK,eK,eK];simp only[Int.reduceToNat];omega
 rw[d,←a,e];omega
theorem Ei(s:ByteArray)(h:s.size<=300)(g:(lm s).length<=700):cn ⟨(lm s).toArray⟩=some (s.data.toList,8*(lm s).length):=by
 have a:=ij s h;have b:=eo s;have e3:s.data.toList.length=s.size:=by simp
 have o:=tV (L:=s.data.toList) (by omega);unfold lm at g ⊢;generalize bg s.data.toList 0=T at *
 have d:=ru T a b;obtain⟨i,p,c⟩:=nS d;have e:=uY T;refine rX d g ?_;generalize 8*(cx (ir T)).length=sz at *
 generalize (aW (ir T)).1=V at *
 obtain⟨l0,l1⟩:=iY T a;obtain⟨j,m⟩:=j8 T a;have n:=zj T a 256 (.inl rfl) (by omega);refine nv (k:=2) c (by omega) ?_;have s3:Std V (0+1+2) (cW (bv T) (cf T)++(T.flatMap (ct (bv T) (cf T))++[pcM (bv T) 256])):=c.2.2;unfold fg;rw[a0e (by decide),a0e (by decide),a0d rfl,uX,GY (fH T a) (gT T a) l0 l1 j m s3 (by omega)];simp only[a0f];rw[List.take_left',List.drop_left']
 . have s4:=(nG.1 s3).2;rw[DF (fH T a) (gT T a) n (l:=[]) T _ [] s.data.toList (fun t f=>⟨b t f,Io T a b t f⟩) s4 (by omega) o,←i,e]
 . rfl
 . rfl
theorem Ll(s:ByteArray)(h:s.size<=300):((byO s).size<=700->cn (byO s)=some (s.data.toList,8*(byO s).size))/\2<=(byO s).size:=by
 have h2:=Il s h;unfold byO kM;rw[a0d h,lr];exact⟨fun a=>Ei s h a,by omega⟩
theorem AU(s:ByteArray)(h:s.size<=300):cn (bU s)=some (s.data.toList,8*(bU s).size)/\(bU s).size<=s.size+5/\2<=(bU s).size/\(bU s).size<=(byS s).size/\(bU s).size<=(byF s).size/\(bU s).size<=(byO s).size/\(bU s=byS s∨bU s=byF s∨bU s=byO s):=by
 obtain⟨a1,a2⟩:=Lm s h;obtain⟨a,b,c⟩:=Lk s h;obtain⟨c1,c2⟩:=Ll s h;unfold bU;by_cases e1:(byF s).size<(byS s).size
 .
  rw[eG e1];by_cases e2:(byO s).size<(byF s).size
  . rw[eG e2];exact⟨c1 (by omega),by omega,c2,by omega,by omega,a0a _,.inr (.inr rfl)⟩
  . rw[fQ e2];exact⟨a,by omega,b,by omega,a0a _,by omega,.inr (.inl rfl)⟩
 .
  rw[fQ e1];by_cases e2:(byO s).size<(byS s).size
  . rw[eG e2];exact⟨c1 (by omega),by omega,c2,by omega,by omega,a0a _,.inr (.inr rfl)⟩
  . rw[fQ e2];exact⟨a1,by omega,by omega,a0a _,by omega,by omega,.inl rfl⟩
end Go.Proofs.YtggknepmhjfohaaGreatDoor
