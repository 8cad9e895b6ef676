/- Texts. -/
import Derived.Test.YtckocaibjciplaaGreatDoorM42
set_option linter.all false
set_option maxRecDepth 100000
set_option maxHeartbeats 6400000
namespace Go.Proofs.YtckocaibjciplaaGreatDoor
open Go.Proofs.Tryz
open Go.RowKit Corb
variable {W w:World}
def iF{P:Program}{ops:Array Oper}{o:Oper}{a:Act}{K:Act->World->Prop}{Q:Exit->Act->World->Prop}{E:Prop}
  (p:o.guard=none) (s x:Operand) (t:TypeId) (f:o.op=Op.call { callee:=Callee.builtin Builtin.append,args:=#[s,x],argTypes:=#[t,t] })
  (base:Nat) (e:TypeId) (i:TypeInfo) (z:Value) (size bytes:Nat) (k:P.underlying t=some (.slice e)) (h2:P.info? e=some i) (G:i.zero=some z) (H:i.size=size) (I:i.bytes=bytes) (J:z.cells.size=size) (L:0<size)
  (v:Value) (n:Nat) (xs:List Value) (r:a.eval s=v) (b:w.ownsRow base e size v n xs)
  (vx:Value) (base' m:Nat) (news:List Value) (y:a.eval x=vx) (c:w.ownsRow base' e size vx m news) (j:∀u∈news,u.oneCell'=true)
  (A:n+m<=maxLen) (B:(n+m)*bytes<=140737488355328) (C:base<=w.heap.size)
  (l:∀v' w',w'.ownsRow base e size v' (n+m) (xs++news)->w.grownBy w' v.ownBlock->K (a.put o.dst v') w') :
  if Region.wanted o (yielded ops a.tmps)=true then Oper.wp P o a w K Q else E:=by
 have q:=c.1;rcases c.2 with⟨e0,F⟩|⟨g,cap,D,e0,R⟩
 .
  subst F;have d:news=[]:=a2p (by rw[q];simp);subst d;have M:Region.wanted o (yielded ops a.tmps)=true:=by simp[Region.wanted,p]
  rw[a0d M];have h:=run_append_owned_none (P:=P) (w:=w) base t o.type e i size k h2 v n xs b;unfold Oper.wp;simp[execOp,f,resolve,invoke,builtin,r,y.trans e0,h,Result.andThen];refine l v w ?_ (World.grownBy.same _ _);rw[a05,a1c];exact b
 . subst e0;exact aP p s x t f base e i z size bytes k h2 G H I J L v n xs r b ⟨g,0,none⟩ m cap news y q (a1Y c rfl) j A B C fun v' w' N O _=>l v' w' N O
def La(a b:ByteArray):ct a.data.toList b.data.toList=(a.toList == b.toList || (fX a.data.toList b.data.toList || fX b.data.toList a.data.toList)):=by
 unfold ct;rw[a1K,a1K,Bool.or_comm (fX b.data.toList _)]
def BA(a:Option Addr)(cap:Nat)(l:List En)(n:Nat)(y:l.length=n)(x:ByteArray)(w:World)(h:kF w a l)(O:(n:Int)<=1048576)(G:(x.size:Int)<=1048576)
  (F:∀i,i<n->((l.getD i default).n.size:Int)<=1048576) :
  Calls prog 53 #[.slice a n cap,x] w fun e w'=>e = .returned (.bool (lA l x))/\w'=w:=by
 have K:=af F;have J:=af h;have z:=af (fun k (v:k<l.length)=>@tR l x k v);have A:=af (@qF l x);rw[y]at z A;have B:=af y;clear h F y;go_enter func53,ntmps53;go_wp2_with fail
 go_loop [5] (fun i=>∃k:Nat,k<=n/\i = .int .i64 k/\(∀j,j<k->ct (l.getD j default).n.data.toList x.data.toList=false)) (fun i=>n-(intOf i).toNat)
 case atStart=>exact⟨0,a0g _,rfl,fun j E=>absurd E (by omega)⟩
 case round=>
  obtain⟨k,v,rfl,f⟩:=hrel;have c:=af f;clear f;by_cases d:k<n
  .
   have M:(k:Int)<(n:Int):=by omega
   obtain⟨g,o,rfl,N,D⟩:=ae J (by have:=ae B;omega);have c0:=(D k (by have:=ae B;omega)).1;have s:=af d;have b:=af (ae z k d);have r:=ae K k d;have H:=af (fun W=>mR (l.getD k default).n x W r G);have I:=af (fun W=>mR x (l.getD k default).n W G r);have q:Hid (ct (l.getD k default).n.data.toList x.data.toList=false->∀j,j<k+1->ct (l.getD j default).n.data.toList x.data.toList=false):=by
    intro e j E;by_cases u:j=k
    . rw[u];exact e
    . exact c j (by omega)
   rw[La]at b q;clear D v c d r;generalize (l.getD k default).n=p at *
   generalize fX p.data.toList x.data.toList=u1 at *
   generalize fX x.data.toList p.data.toList=u2 at *
   cases C:(p.toList == x.toList)
   .
    rw[C]at b q;go_wp2_with fail;refine(H _).mono ?_;rintro e w1⟨rfl,t⟩;rw[t];clear t;cases u1
    .
     go_wp2_with fail;refine(I _).mono ?_;rintro e w2⟨rfl,t⟩;rw[t];clear t;cases u2
     .
      have L:=af (ae q rfl);go_wp2
      go_round
      case rel=>exact⟨k+1,by have:=ae s;omega,by go_num,L⟩
      case measure=>have:=ae s;simp[intOf];omega
     . have m:=af (ae b rfl);go_wp2;go_ret;exact⟨by rw[ae m];rfl,rfl⟩
    . have m:=af (ae b rfl);go_wp2;go_ret;exact⟨by rw[ae m];rfl,rfl⟩
   . rw[C]at b;have m:=af (ae b rfl);go_wp2;go_ret;exact⟨by rw[ae m];rfl,rfl⟩
  .
   obtain rfl:k=n:=by omega
   have m:=af (ae A (ae c));go_wp2;go_ret;exact⟨by rw[ae m];rfl,rfl⟩
structure ESt (w:World) (e:En) (W:World):Prop where
 below:Below w.heap.size w W
 lt:w.heap.size<W.heap.size
 blk:Blk W w.heap.size [.string e.n,.int .i64 e.y,.int .i64 e.mo,.int .i64 e.d,.int .i64 e.h,.int .i64 e.mi,.int .i64 e.s,.string e.t]
def ESt.all{e:En}(h:ESt w e W):∀i,i<8->W.cell? ⟨w.heap.size,i,none⟩=[.string e.n,.int .i64 e.y,.int .i64 e.mo,.int .i64 e.d,.int .i64 e.h,.int .i64 e.mi,.int .i64 e.s,.string e.t][i]?:=h.blk.cells rfl
def ESt.drew{e:En}(h:ESt w e W):ESt w e W.drew:=⟨h.1.drew,h.2,h.3.drew⟩
def ESt.alloc{e:En}(h:ESt w e W)(o:Obj):ESt w e (W.alloc o):=by
 have hb:Below W.heap.size W (W.alloc o):=cC;exact⟨h.1.alloc (a0s h.2) o,a0l h.2 hb.size,h.3.later hb h.2⟩
def ESt.grown{W':World}{e:En}{v:Value}{n:Nat}{xs:List Value}(h:ESt w e W)(b:W.ownsRow (w.heap.size+1) 34 8 v n xs)(a:W.grownBy W' v.ownBlock):ESt w e W':=
 ⟨h.1.grown a (a0s h.2) (fun k e=>by have:=(a0z b k e).1;omega),a0l h.2 a.size,h.3.grown a (fun e=>by have:=(a0z b _ e.symm).1;omega)⟩
def pB{g:Nat}{vs:List Value}(h:Blk W g vs):∀j u,vs[j]?=some u->W.cell? ((⟨g,0,none⟩:Addr).add j)=some u:=fun j u a=>by
 have e:(⟨g,0,none⟩:Addr).add j=⟨g,j,none⟩:=by unfold Addr.add;split<;>simp_all
 rw[e];exact h.cell j u a
def yr{b n:Nat}{v:Value}{l:List En}{e:En}(a:l.length=n)(h:W.ownsRow (b+1) 34 8 v (0+n+1) ([]++l.flatMap jw++jw e)):fS W b v (l++[e]):=
 cb.mono (cb.snoc a (by rw[a0H,a08]at h;exact h)) (a02 _)
def xz(v:Value)(l:List En)(e:En)(ob:Nat)(w:World)(h:fS w ob v l)(Q:l.length<=6)(hs:∀i,i<l.length->((l.getD i default).n.size:Int)<=1048576)(he:e.n.size<=1048576)(ht:(e.t.size:Int)<=9223372036854775807) :
  Calls prog 26 #[v,.agg e] w fun f w'=>(∃v',f = .returned (.tuple #[v',.int .i64 (aT l e)])/\(aT l e=0->fS w' w.heap.size v' (l++[e]))/\(aT l e≠0->v'=v))/\Below w.heap.size w w':=by
 have Z:=cE
 obtain⟨i0,V,D,E,F⟩:=a0r Tryz.infoEnt;obtain⟨n,hn⟩:∃n,l.length=n:=⟨_,rfl⟩;obtain⟨a,c,rfl,hc,_⟩:=h.formN hn;rw[hn]at Q hs;have ad:(n:Int)<=6:=by omega
 have p:Hid (0+n<=maxLen/\(0+n)*80<=140737488355328/\0+n+1<=maxLen/\(0+n+1)*80<=140737488355328):=by show _/\_;unfold maxLen;omega
 have J:Hid (ESt w e (w.alloc (.cells e 34))):=⟨cC,by simp,aJ w _ _⟩;have CE:=af (jj e.n e.y e.mo e.d e.h e.mi e.s e.t (w.alloc (.cells e 34)) he ht);have CC:=af (fun W (hb:Below w.heap.size w W)=>BA a c l n hn e.n W (gQ hn (h.later hb (a0a _))) (by omega) (by omega) hs);have T:=af hn;have HO:=af h;clear h hs he ht hn hc Q;go_enter func26,ntmps26;go_wp2_with fail;refine CE.mono ?_;rintro f x1⟨rfl,P⟩;have N:Hid (ESt w e x1):=⟨aj J.1 P,a0l J.2 P.size,J.3.later P J.2⟩;clear CE P J;have X:=af (ae N).1;cases U:je e
 .
  have B:Hid (aT l e=1):=by show _=_;unfold aT;rw[a0e (by rw[U];decide)]
  rw[show ib e.n e.y e.mo e.d e.h e.mi e.s e.t=false from U];clear U;go_wp2
  go_ret2
  exact⟨⟨_,by rw[ae B];rfl,fun h=>(by rw[ae B]at h;cases h),fun _=>rfl⟩,X⟩
 .
  have G:Hid (aT l e=if lA l e.n then 3 else if 6<=n then 4 else 0):=by show _=_;unfold aT;rw[a0d U,ae T]
  rw[show ib e.n e.y e.mo e.d e.h e.mi e.s e.t=true from U];clear U;have pA:=N.all;go_wp2_with fail;refine(CC _ (ae X)).mono ?_;rintro f x2⟨rfl,aa⟩;rw[aa];clear CC pA aa x2;cases hA:lA l e.n
  .
   rw[hA]at G;clear hA;by_cases Q:6<=n
   .
    have B:Hid (aT l e=4):=by show _=_;rw[ae G,a0e (by decide),a0d Q]
    have ab:(6:Int)<=(n:Int):=by omega
    go_wp2
    go_ret2
    exact⟨⟨_,by rw[ae B];rfl,fun h=>(by rw[ae B]at h;cases h),fun _=>rfl⟩,X⟩
   .
    have B:Hid (aT l e=0):=by show _=_;rw[ae G,a0e (by decide),a0e Q]
    have ab:¬ (6:Int)<=(n:Int):=by omega
    clear G Q X;go_wp2_with fail;refine wp_region_held_drew (S:=fun W=>∀i,i<8->W.cell? ⟨w.heap.size,i,none⟩=[.string e.n,.int .i64 e.y,.int .i64 e.mo,.int .i64 e.d,.int .i64 e.h,.int .i64 e.mi,.int .i64 e.s,.string e.t][i]?) Z (N.drew.all) (fun hS=>?_);refine ag 1 (.slice a n c) rfl (fun W ac=>by go_simp) hS ?_;refine ag 3 (.agg e) rfl (fun W ac=>by go_simp) hS ?_;clear hS;have R:=af (ae N).drew;generalize x1.drew=W1 at *
    refine wpAnyH_ready (rs:=[0,4]) (by kernel_rfl) (by simp) ?_;refine AllReadyH.cons rfl (fun K k=>?_) (AllReadyH.cons rfl (fun K k=>?_) (AllReadyH.nil))
    .
     go_simp;have r:=af (R.alloc (.cells #[] 34));have H:=af (a0U (base:=w.heap.size+1) (size:=8) (e:=34) W1 #[] 0 R.2 (by unfold maxLen;omega) rfl);refine Shut.out k _ _ r.all (fun _=>?_);clear k K;obtain⟨G0,hG0⟩:∃x,W1.heap.size=x:=⟨_,rfl⟩;obtain⟨W2,hW2⟩:∃x,W1.alloc (.cells #[] 34)=x:=⟨_,rfl⟩;rw[hG0,hW2]at H;rw[hW2]at r;rw[hG0,hW2];refine wpAnyH_ready (rs:=[2,4]) (by kernel_rfl) (by simp) ?_;refine AllReadyH.cons rfl (fun K k=>?_) (AllReadyH.cons rfl (fun K k=>?_) (AllReadyH.nil))
     .
      refine iF rfl (.tmp 22) (.tmp 23) 27 rfl (w.heap.size+1) 34 i0 (.agg ()) 8 80 a1S V D E F rfl (by decide) (Value.slice G0 0 0) 0 [] rfl H _ ob n (l.flatMap jw) rfl (cb.own T (HO.later r.1 (a0a _))) (qR _) p.1 p.2.1 r.2 ?_;intro v3 W3 g b;have m:=af (r.grown H b);have u:=af g;clear g b;refine Shut.out k _ _ m.all (fun _=>?_);clear k K;refine ah 4 fun K k=>?_;go_simp;have q:=af (m.alloc (.cells e 34));have C:=af (aJ W3 e 34);have z:=af (a0n u (.cells e 34));have M:∀j,v3.ownBlock=some j->j<W3.heap.size:=fun j hj=>(a0z u j hj).2;refine Shut.out k _ _ q.all (fun _=>?_);clear k K;obtain⟨G1,hG1⟩:∃x,W3.heap.size=x:=⟨_,rfl⟩;obtain⟨W4,hW4⟩:∃x,W3.alloc (.cells e 34)=x:=⟨_,rfl⟩;rw[hG1,hW4]at C;rw[hW4]at q z;rw[hG1]at M;rw[hG1,hW4];refine ah 5 fun K k=>?_;refine aP rfl (.tmp 24) (.tmp 26) 27 rfl (w.heap.size+1) 34 i0 (.agg ()) 8 80 a1S V D E F rfl (by decide) v3 (0+n) ([]++l.flatMap jw) rfl z ⟨G1,0,none⟩ 1 1 (jw e) rfl rfl (pB C) (iS _) p.2.2.1 p.2.2.2 q.2 ?_;intro v8 W8 g b A;have o:=af (q.grown z b);have I:=af g;clear g b A;refine Shut.out k _ _ o.all (fun _=>?_);clear k K;refine ah 6 fun K k=>?_;go_simp;refine Shut.out k _ _ o.all (fun _=>?_);clear k K;refine ah 7 fun K k=>?_;go_simp;refine Shut.out k _ _ o.all (fun _=>?_);clear k K;refine wpAnyH_done (by kernel_rfl) ?_ _;go_wp2
      go_ret2
      exact⟨⟨_,by rw[ae B];rfl,fun _=>yr T I,fun h=>absurd (ae B) h⟩,o.1⟩
     .
      go_simp;have m:=af (r.alloc (.cells e 34));have L:=af (aJ W2 e 34);have u:=af (a0n H (.cells e 34));have M:∀j,(Value.slice G0 0 0).ownBlock=some j->j<W2.heap.size:=fun j hj=>(a0z H j hj).2;refine Shut.out k _ _ m.all (fun _=>?_);clear k K;obtain⟨G1,hG1⟩:∃x,W2.heap.size=x:=⟨_,rfl⟩;obtain⟨W3,hW3⟩:∃x,W2.alloc (.cells e 34)=x:=⟨_,rfl⟩;rw[hG1,hW3]at L;rw[hW3]at m u;rw[hG1]at M;rw[hG1,hW3];refine ah 2 fun K k=>?_;have Y:G0<G1:=M G0 rfl;refine iF rfl (.tmp 22) (.tmp 23) 27 rfl (w.heap.size+1) 34 i0 (.agg ()) 8 80 a1S V D E F rfl (by decide) (Value.slice G0 0 0) 0 [] rfl u _ ob n (l.flatMap jw) rfl (cb.own T (HO.later m.1 (a0a _))) (qR _) p.1 p.2.1 m.2 ?_;intro v4 W4 g b;have q:=af (m.grown u b);have z:=af g;have C:=af (L.grown b (fun e=>by have Q:G1=G0:=a1s e;omega));clear g b;refine Shut.out k _ _ q.all (fun _=>?_);clear k K;refine ah 5 fun K k=>?_;refine aP rfl (.tmp 24) (.tmp 26) 27 rfl (w.heap.size+1) 34 i0 (.agg ()) 8 80 a1S V D E F rfl (by decide) v4 (0+n) ([]++l.flatMap jw) rfl z ⟨G1,0,none⟩ 1 1 (jw e) rfl rfl (pB C) (iS _) p.2.2.1 p.2.2.2 q.2 ?_;intro v8 W8 g b A;have o:=af (q.grown z b);have I:=af g;clear g b A;refine Shut.out k _ _ o.all (fun _=>?_);clear k K;refine ah 6 fun K k=>?_;go_simp;refine Shut.out k _ _ o.all (fun _=>?_);clear k K;refine ah 7 fun K k=>?_;go_simp;refine Shut.out k _ _ o.all (fun _=>?_);clear k K;refine wpAnyH_done (by kernel_rfl) ?_ _;go_wp2
      go_ret2
      exact⟨⟨_,by rw[ae B];rfl,fun _=>yr T I,fun h=>absurd (ae B) h⟩,o.1⟩
    .
     go_simp;have r:=af (R.alloc (.cells e 34));have O:=af (aJ W1 e 34);refine Shut.out k _ _ r.all (fun _=>?_);clear k K;obtain⟨G1,hG1⟩:∃x,W1.heap.size=x:=⟨_,rfl⟩;obtain⟨W2,hW2⟩:∃x,W1.alloc (.cells e 34)=x:=⟨_,rfl⟩;rw[hG1,hW2]at O;rw[hW2]at r;rw[hG1,hW2];refine ah 0 fun K k=>?_;go_simp;have m:=af (r.alloc (.cells #[] 34));have u:=af (a0U (base:=w.heap.size+1) (size:=8) (e:=34) W2 #[] 0 r.2 (by unfold maxLen;omega) rfl);have L:=af (O.later ((a0c _ _).alloc (a0a _) (.cells #[] 34)) O.1);have M:=O.1;refine Shut.out k _ _ m.all (fun _=>?_);clear k K;obtain⟨G0,hG0⟩:∃x,W2.heap.size=x:=⟨_,rfl⟩;obtain⟨W3,hW3⟩:∃x,W2.alloc (.cells #[] 34)=x:=⟨_,rfl⟩;rw[hG0,hW3]at u;rw[hW3]at m L;rw[hG0,hW3];refine ah 2 fun K k=>?_;have Y:G1<G0:=by omega
     refine iF rfl (.tmp 22) (.tmp 23) 27 rfl (w.heap.size+1) 34 i0 (.agg ()) 8 80 a1S V D E F rfl (by decide) (Value.slice G0 0 0) 0 [] rfl u _ ob n (l.flatMap jw) rfl (cb.own T (HO.later m.1 (a0a _))) (qR _) p.1 p.2.1 m.2 ?_;intro v4 W4 g b;have q:=af (m.grown u b);have z:=af g;have C:=af (L.grown b (fun e=>by have Q:G1=G0:=a1s e;omega));clear g b;refine Shut.out k _ _ q.all (fun _=>?_);clear k K;refine ah 5 fun K k=>?_;refine aP rfl (.tmp 24) (.tmp 26) 27 rfl (w.heap.size+1) 34 i0 (.agg ()) 8 80 a1S V D E F rfl (by decide) v4 (0+n) ([]++l.flatMap jw) rfl z ⟨G1,0,none⟩ 1 1 (jw e) rfl rfl (pB C) (iS _) p.2.2.1 p.2.2.2 q.2 ?_;intro v8 W8 g b A;have o:=af (q.grown z b);have I:=af g;clear g b A;refine Shut.out k _ _ o.all (fun _=>?_);clear k K;refine ah 6 fun K k=>?_;go_simp;refine Shut.out k _ _ o.all (fun _=>?_);clear k K;refine ah 7 fun K k=>?_;go_simp;refine Shut.out k _ _ o.all (fun _=>?_);clear k K;refine wpAnyH_done (by kernel_rfl) ?_ _;go_wp2
     go_ret2
     exact⟨⟨_,by rw[ae B];rfl,fun _=>yr T I,fun h=>absurd (ae B) h⟩,o.1⟩
  .
   have B:Hid (aT l e=3):=by show _=_;rw[ae G,hA,a0d rfl]
   clear hA;go_wp2
   go_ret2
   exact⟨⟨_,by rw[ae B];rfl,fun h=>(by rw[ae B]at h;cases h),fun _=>rfl⟩,X⟩
def tN{M l:List En}{k:Nat}(a:k<M.length):dZ (M.drop k) l=if aT l (M.getD k default)=0 then dZ (M.drop (k+1)) (l++[M.getD k default])else(aT l (M.getD k default),[]):=by
 have e:M.drop k=M.getD k default :: M.drop (k+1):=by
  rw[a2Z a];simp[List.getD,a]
 rw[e];rfl
def zN(M:List En)(a:Option Addr)(c N:Nat)(hN:M.length=N)(v:Value)(l:List En)(bx b:Nat)(m:Int)(w:World)(h:fS w b v l)(hz:cB l=true)(hb:b<=w.heap.size)(hx:w.cell? ⟨bx,0,none⟩=some (.slice a N c))
  (hM:∀W,Below b w W->kF W a M) (hs:∀i,i<N->(M.getD i default).n.size<=1048576/\((M.getD i default).t.size:Int)<=9223372036854775807) (ab:N<=6) (hm:∀W,Below b w W->W.cell? ⟨2,0,none⟩=some (.int .i64 m)) :
  Calls prog 43 #[v,.pointer bx] w (Ki b w (dZ M l)):=by
 obtain⟨i0,hi,ac,ad,al⟩:=a0r Tryz.infoEnt;have ao:(N:Int)<=6:=by omega
 have V:=af hN;have HS:=af hs;have HM:=af hM;have CM:=af hm;have Y:=af (a0b h (a0b hz hb));obtain⟨n0,hn0⟩:∃n,l.length=n:=⟨_,rfl⟩;obtain⟨fa,fc,rfl,_,_⟩:=h.formN hn0;clear h hz hb hN hs hM hm ab hn0;go_enter func43,ntmps43;go_wp2_with fail
 go_loopw [0,6,7,10] (fun f _ _ i wr=>∃(k:Nat) (L:List En),k<=N/\i = .int .i64 k/\fS wr b f L/\cB L=true/\dZ (M.drop k) L=dZ M l/\Below b w wr) (fun _ _ _ i _=>N-(intOf i).toNat)
 case atStart=>exact⟨0,l,a0g _,rfl,Y.1,Y.2.1,rfl,a0c _ _⟩
 case round=>
  obtain⟨k,L,hk,rfl,ho,H,z,e⟩:=hrel;have S:=Y.2.2;have HO:=af ho;have HZ:=af H;have I:=af z;have HB:=af e;have E:Hid (b<=wr.heap.size):=a0E S e.size;obtain⟨n,hn⟩:∃n,L.length=n:=⟨_,rfl⟩;obtain⟨fa,fc,rfl,_,_⟩:=ho.formN hn;have h6:=(ep H).2;have a1:n<=6:=by omega
  have Hn:=af hn;clear ho H z S h6;by_cases G:k<N
  .
   have a0:(k:Int)<(N:Int):=by omega
   obtain⟨g,o,rfl,hg,hc⟩:=HM wr e (by have:=ae V;omega);obtain⟨c0,c1,c2,c3,c4,c5,c6,c7⟩:=hc k (by have:=ae V;omega);have K:=af G;have P:=af (ae HS k G);have x:Hid (dZ (M.drop k) L=_):=tN (by have:=ae V;omega);clear hc hk G e;generalize M.getD k default=en at *
   have hA:=(a0c wr.heap.size wr).alloc (a0a _) (.cells en 34);have C:=af (HB.trans (hA.mono E));have D:=af (HO.later hA (a0a _));have P1:=af (aJ wr en 34);have CR:=af (np fa fc L n hn en m _ (gQ hn D) (by omega) (fun i hi=>by have:=(jK HZ i (by omega)).1;omega) P.1 P.2 (CM _ (ae C)));clear hA;go_wp2_with fail;refine CR.mono ?_;rintro f x1⟨rfl,p⟩;have J:=af (C.trans (p.mono (a0E E (by simp))));have Z:=af (D.later p (a0a _));have P2:=af (P1.later p P1.1);have Q:Hid (b<=x1.heap.size):=a0E E (a0E (by simp) p.size);clear p CR c0 c1 c2 c3 c4 c5 c6 c7 C D P1 hn;by_cases j:aT L en=0
   .
    rw[show dO (aT L en) = .nilIface by rw[j];rfl];have O:Hid (cB (L++[en])=true/\dZ (M.drop (k+1)) (L++[en])=dZ M l):=by
     refine⟨(gG HZ _).2 j,?_⟩;rw[←ae I,ae x,a0d j]
    have A:Hid (n+1<=maxLen/\(n+1)*80<=140737488355328):=by show _/\_;unfold maxLen;omega
    have F:=cb.own Hn Z;have r:=ae Q;have pA:=P2.cells (n:=8) rfl;clear j x I;go_wp2_with (at_builtin;refine a0v _ rfl _ _ 27 rfl b 34 i0 (.agg ()) 8 80 a1S hi ac ad al rfl (by decide) _ _ _ rfl (a0n F _) ⟨x1.heap.size,0,none⟩ 1 1 (jw en) rfl rfl (jH x1 _ _) (iS _) A.1 A.2 (au r _) ?_;intro v5 x5 B u T;clear T;have R:=aH (v:=.slice fa n fc) u F (a0a _) r J);have aa:Hid (fS x5 b v5 (L++[en])):=cb.snoc Hn B;have X:=af R;clear B u R F r pA;go_wp2;go_roundw
    case rel=>exact⟨k+1,_,by have:=ae K;omega,by go_num,aa,O.1,O.2,X⟩
    case measure=>have:=ae K;simp[intOf];omega
   .
    rw[show dO (aT L en) = .iface 99 (.agg #[.int .i64 (aT L en)]) by unfold dO;rw[a0e j]];have U:Hid ((dZ M l).1=aT L en):=by show _=_;rw[←ae I,ae x,a0e j]
    have HC:=af j;clear j x I;generalize aT L en=q at *
    go_wp2
    go_ret2
    exact OI U HC J
  .
   obtain rfl:k=N:=by omega
   have U:Hid (dZ M l=(0,L)):=by show _=_;rw[←ae I,a2L (by rw[ae V];exact a0a _)];rfl
   clear e;go_wp2
   go_ret2
   refine⟨⟨.slice fa n fc,?_,⟨_,_,_,rfl⟩,fun _=>?_⟩,HB⟩
   . rw[ae U];rfl
   . rw[ae U];exact HO
def rZ(a:Option Addr)(n c:Nat)(w:World) :
  Calls prog 24 #[.slice a n c] w fun f w'=>f = .returned (.func (.func 43) #[] #[.pointer w.heap.size])/\w'=w.alloc (.cells #[.slice a n c] 27):=by
 go_enter func24,ntmps24;go_wp2;go_ret;exact⟨rfl,rfl⟩
def zO(s:ByteArray)(d:List En->Int×List En)(bx:Nat)(m:Int)(w:World)(R:s.size<=1048576)(I:w.cell? ⟨2,0,none⟩=some (.int .i64 m))(M:oC w)(L:dQ w)
  (hd:∀l,cB l=true->(d l).1=0->cB (d l).2=true)
  (X:∀W v l,dD s=some l->Below w.heap.size w W->fS W w.heap.size v l->Calls prog 43 #[v,.pointer bx] W (Ki w.heap.size W (d l))) :
  Calls prog 23 #[s,.func (.func 43) #[] #[.pointer bx]] w fun f w'=>f = .returned (edR s d)/\Below w.heap.size w w':=by
 have C:=af (jP s m w R I M L);have Z:=af I;have P:=af (World.block_lt_of_cell? _ _ I);have Y:=af (fun W (hb:Below w.heap.size w W)=>(hb.cell (p:=⟨2,0,none⟩) P).trans Z);have V:=af (fun W (hb:Below w.heap.size w W)=>M.later hb);have J:=af (fun W (hb:Below w.heap.size w W)=>L.later hb);have U:=af X;have Hd:=af hd;have HS:=af R;clear R I M L hd X;go_enter func23,ntmps23;go_wp2_with fail;refine C.mono ?_;rintro f x1⟨⟨v,rfl,b⟩,h⟩;have B:=af h;clear C;rcases z:dD s with _|l
 .
  have D:=af (Gf z d);clear z b h;go_wp2
  go_ret2
  exact⟨by rw[ae D];rfl,B⟩
 .
  rw[z]at b;have CD:=af (ae U x1 v l z h b);have K:=af z;clear z b h U;go_wp2_with fail;refine CD.mono ?_;rintro f x2⟨⟨v2,rfl,⟨a,n,c,rfl⟩,G⟩,E⟩;have o:=af (B.trans E);have A:=af (nn (d l).1 x2 (V _ (ae o)));have H:=af G;clear E G CD;obtain⟨q,hq⟩:∃q,d l=q:=⟨_,rfl⟩;have Hq:=af hq;rw[hq]at A H;rw[hq];clear hq;obtain⟨k,r⟩:=q;simp only at A H;simp only;obtain⟨FV,hFV⟩:∃x,dO k=x:=⟨_,rfl⟩;rw[hFV]at A;rw[hFV];clear hFV;go_wp2_with fail;refine A.mono ?_;rintro f x3⟨rfl,u⟩;have e:=af (aj o u);have j:=af u;clear u A;by_cases O:k=0
  .
   subst O;have y:cB r=true:=by have:=ae Hd l (oc K) (by rw[ae Hq]);rw[ae Hq]at this;exact this
   have Q:fS x2 w.heap.size (.slice a n c) r:=ae H rfl;obtain⟨N,hN⟩:∃n,r.length=n:=⟨_,rfl⟩;obtain⟨a',c',e',aa,_⟩:=Q.formN hN;cases e'
   have F:=Q.later j (a0a _);have h6:=(ep y).2;have T:=af (uB a c r n hN m x3 (gQ hN F) (by omega) (by omega) (fun i hi=>jK y i (by omega)) (Y _ (ae e)) (V _ (ae e)) (J _ (ae e)));have D:=af (yM K Hq);clear y Q F h6 H j o;go_wp2_with fail;refine T.mono ?_;rintro f x4⟨rfl,g⟩;have t:=af (aj e g);clear g T;go_wp2
   go_ret2
   exact⟨by rw[ae D];rfl,t⟩
  .
   have D:=af (Ge K Hq O);have S:=af (fun W=>pd s W (by have:=ae HS;omega));have hd:decide (k=0)=false:=a0m O;go_wp2_with fail;refine(S _).mono ?_;rintro f x4⟨rfl,g⟩;have t:=af (aj e g);clear g S;go_wp2
   go_ret2
   exact⟨by rw[ae D];rfl,t⟩
def om(s:ByteArray)(M:List En)(a:Option Addr)(c N:Nat)(o:M.length=N)(bx:Nat)(m:Int)(w:World)(y:s.size<=1048576)(g:w.cell? ⟨bx,0,none⟩=some (.slice a N c))(k:kF w a M)
  (r:∀i,i<N->(M.getD i default).n.size<=1048576/\((M.getD i default).t.size:Int)<=9223372036854775807) (d:N<=6) (e:w.cell? ⟨2,0,none⟩=some (.int .i64 m)) (u:oC w) (q:dQ w) :
  Calls prog 23 #[s,.func (.func 43) #[] #[.pointer bx]] w fun f w'=>f = .returned (edR s (dZ M))/\Below w.heap.size w w':=
 zO s (dZ M) bx m w y e u q (fun _ h j=>Qs h j)
  (fun W v l z hb x=>zN M a c N o v l bx w.heap.size m W x (oc z) hb.size ((hb.cell (p:=⟨bx,0,none⟩) (World.block_lt_of_cell? _ _ g)).trans g)
   (fun _ b=>k.later (hb.trans b)) r d (fun _ b=>((hb.trans b).cell (p:=⟨2,0,none⟩) (World.block_lt_of_cell? _ _ e)).trans e))
def MF{g:Nat}{e:En}(h:Blk W g (jw e)):kF W (some ⟨g,0,none⟩) [e]:=by
 intro _;refine⟨g,0,rfl,h.1,fun i a=>?_⟩;have e0:i=0:=by simp at a;exact a
 subst e0;exact Qk fun j b=>by
  rw[show(0+0*8+j)=j by omega];exact h.cells (n:=8) rfl j b
def uA(s:ByteArray)(e:En)(m:Int)(w:World)(E:s.size<=1048576)(B:e.n.size<=1048576)(F:(e.t.size:Int)<=9223372036854775807)(x:w.cell? ⟨2,0,none⟩=some (.int .i64 m))(D:oC w)(z:dQ w) :
  Calls prog 11 #[s,.agg e] w fun f w'=>f = .returned (edR s (dZ [e]))/\Below w.heap.size w w':=by
 have r:=af ((a0c w.heap.size w).alloc (a0a _) (.cells e 34));have c:=af (r.alloc r.size (.cells e 34));have P:=af (aJ (w.alloc (.cells e 34)) e 34);have G:=af (fun W (hb:Below w.heap.size w W)=>(hb.cell (p:=⟨2,0,none⟩) (World.block_lt_of_cell? _ _ x)).trans x);have CD:=af (fun W (hb:Below w.heap.size w W) g bx (hP:Blk W g (jw e)) (hx:W.cell? ⟨bx,0,none⟩=some (.slice g 1 1))=>om s [e] (some ⟨g,0,none⟩) 1 1 rfl bx m W E hx (MF hP) (fun i I=>(by obtain rfl:i=0:=(by omega);exact⟨B,F⟩)) (by omega) (G W hb) (D.later hb) (z.later hb));clear E B F x D z;go_enter func11,ntmps11;go_wp2_with fail;refine(rZ _ _ _ _).mono ?_;rintro f x1⟨rfl,l⟩;have u:=(a0c ((w.alloc (.cells e 34)).alloc (.cells e 34)).heap.size _).alloc (a0a _) (.cells #[.slice (some ⟨w.heap.size+1,0,none⟩) 1 1] 27);have q:=P.later u P.1;rw[show(w.alloc (.cells e 34)).heap.size=w.heap.size+1 by simp]at q;have A:=(aJ ((w.alloc (.cells e 34)).alloc (.cells e 34)) #[.slice (some ⟨w.heap.size+1,0,none⟩) 1 1] 27).cell 0 _ rfl;have a:=af (aj c u);have C:=af (ae CD _ (ae a) _ _ q A);obtain⟨bx,hbx⟩:∃b,((w.alloc (.cells e 34)).alloc (.cells e 34)).heap.size=b:=⟨_,rfl⟩;rw[hbx]at C;rw[hbx];rw[←l]at C a;clear l r c P q A u CD hbx;go_wp2_with fail;refine C.mono ?_;rintro f x2⟨rfl,j⟩;have o:=af (aj a j);clear j C a;obtain⟨t,k,v⟩:=yL s (dZ [e]);have H:=af v;rw[v];clear v;go_wp2
 go_ret2
 exact⟨by rw[ae H];rfl,o⟩
def pR(a b:ByteArray):Value:=match dD b with
 | none=>.tuple #[.string ⟨#[]⟩,.int .i64 1]
 | some M=>edR a (dZ M)
def nN{a b:ByteArray}(h:dD b=none):pR a b = .tuple #[.string ⟨#[]⟩,.int .i64 1]:=by unfold pR;rw[h]
def nO{a b:ByteArray}{M:List En}(h:dD b=some M):pR a b=edR a (dZ M):=by unfold pR;rw[h]
def tf(a b:ByteArray)(m:Int)(w:World)(D:a.size<=1048576)(hb:b.size<=1048576)(o:w.cell? ⟨2,0,none⟩=some (.int .i64 m))(A:oC w)(z:dQ w) :
  Calls prog 8 #[a,b] w fun f w'=>f = .returned (pR a b)/\Below w.heap.size w w':=by
 have C:=af (jP b m w hb o A z);have E:=af (fun W (hb:Below w.heap.size w W)=>(hb.cell (p:=⟨2,0,none⟩) (World.block_lt_of_cell? _ _ o)).trans o);have G:=af (fun W (hb:Below w.heap.size w W)=>A.later hb);have u:=af (fun W (hb:Below w.heap.size w W)=>z.later hb);clear hb o A z;go_enter func8,ntmps8;go_wp2_with fail;refine C.mono ?_;rintro f x1⟨⟨v,rfl,d⟩,g⟩;have q:=af g;clear C;rcases j:dD b with _|M
 .
  have s:=af (nN (a:=a) j);clear j d g;go_wp2
  go_ret2
  exact⟨by rw[ae s];rfl,q⟩
 .
  rw[j]at d;have d:fS x1 w.heap.size v M:=d;obtain⟨n,hn⟩:∃n,M.length=n:=⟨_,rfl⟩;obtain⟨aa,c,rfl,_,_⟩:=d.formN hn;have s:=af (nO (a:=a) j);have h:=oc j;have x:=(a0c x1.heap.size x1).alloc (a0a _) (.cells #[.slice aa n c] 27);have e:=af (aj g x);have CD:=af (om a M aa c n hn x1.heap.size m _ D ((aJ x1 #[.slice aa n c] 27).cell 0 _ rfl) ((gQ hn d).later x) (fun i H=>jK h i (by omega)) (by have:=(ep h).2;omega) (E _ (ae e)) (G _ (ae e)) (u _ (ae e)));clear j d g x h hn D;go_wp2_with fail;refine(rZ _ _ _ _).mono ?_;rintro f x2⟨rfl,B⟩;subst B;go_wp2_with fail;refine CD.mono ?_;rintro f x3⟨rfl,l⟩;have r:=af (aj e l);clear l CD e;obtain⟨t,k,y⟩:=yL a (dZ M);have F:=af y;rw[y];clear y;go_wp2
  go_ret2
  exact⟨by rw[ae s,ae F];rfl,r⟩
def tq(a b:ByteArray)(w:World)(ha:a.size<=1048576)(hb:b.size<=1048576) :
  Calls prog 9 #[a,b] w fun f w'=>f = .returned (pR a b)/\Below w.heap.size w w':=by
 have Z:=af (nd a w ha);have C2:=af (fun W=>nd b W hb);clear ha hb;go_enter func9,ntmps9;go_wp2_with fail;refine Z.mono ?_;rintro f x1⟨⟨v,rfl,c⟩,R⟩;have K:=af R;have Q:=af c;clear Z R c;go_wp2_with fail;refine(C2 _).mono ?_;rintro f x2⟨⟨u,rfl,c⟩,H⟩;have A:=af (aj K H);have s:=af (Q.later H (a0a _));clear C2 H Q K;rcases p:dD a with _|l
 .
  have C:Hid (pR a b = .tuple #[.string ⟨#[]⟩,.int .i64 1]):=by
   show _=_;rcases d:dD b with _|M
   . exact nN d
   . rw[nO d,Gf p]
  clear p s c;go_wp2
  go_ret2
  exact⟨by rw[ae C];rfl,A⟩
 .
  rcases d:dD b with _|M
  .
   have C:=af (nN (a:=a) d);clear p d s c;go_wp2
   go_ret2
   exact⟨by rw[ae C];rfl,A⟩
  .
   have HJ:=af (nO (a:=a) d);rw[d]at c;rw[p]at s;have Y:fS x2 _ u M:=c;have G:=oc d;have D:=af (jK G);have F:=af p;obtain⟨N,hN⟩:∃n,M.length=n:=⟨_,rfl⟩;rw[hN]at D;have aa:(N:Int)<=6:=by have:=(ep G).2;omega
   obtain⟨ma,mc,rfl,_,_⟩:=Y.formN hN;have HM:=af (fun W (hb:Below x2.heap.size x2 W)=>(gQ hN Y).later hb);have T:=af hN;clear p d c Y G hN;go_wp2_with fail
   go_loopw [6,10,11,12] (fun o i _ _ wr=>∃(k:Nat) (L:List En),k<=N/\i = .int .i64 k/\fS wr w.heap.size o L/\cB L=true/\dZ (M.drop k) L=dZ M l/\Below x2.heap.size x2 wr) (fun _ i _ _ _=>N-(intOf i).toNat)
   case atStart=>exact⟨0,l,a0g _,rfl,s,oc F,rfl,a0c _ _⟩
   case round=>
    obtain⟨k,L,hk,rfl,I,h,z,e⟩:=hrel;have HO:=af I;have HZ:=af h;have J:=af z;have HB:=af e;have t:=af (aj A e);clear z s;by_cases y:k<N
    .
     have ab:(k:Int)<(N:Int):=by omega
     obtain⟨g,o,rfl,hg,hc⟩:=HM wr e (by have:=ae T;omega);obtain⟨c0,c1,c2,c3,c4,c5,c6,c7⟩:=hc k (by have:=ae T;omega);have P:=af y;have CL:=af (xz _ L (M.getD k default) _ wr I (ep h).2 (fun i hi=>by have:=(jK h i hi).1;omega) (D k y).1 (D k y).2);have x:Hid (dZ (M.drop k) L=_):=tN (by have:=ae T;omega);obtain⟨fa,fc,hv,_,_⟩:=I.form;clear hc hk y e I h;generalize M.getD k default=en at *
     subst hv;go_wp2_with fail;refine CL.mono ?_;rintro f y1⟨⟨v2,rfl,S,_⟩,m⟩;have B:=af (aj HB m);have O:=af (aj t m);have U:Hid (w.heap.size<=wr.heap.size):=t.size;have V:=af S;clear m S CL c0 c1 c2 c3 c4 c5 c6 c7 HB t;by_cases j:aT L en=0
     .
      have E:Hid (fS y1 w.heap.size v2 (L++[en])/\cB (L++[en])=true/\dZ (M.drop (k+1)) (L++[en])=dZ M l):=by
       refine⟨(V j).mono U,(gG HZ _).2 j,?_⟩;rw[←ae J,ae x,a0d j]
      rw[j];clear j x J V;go_wp2;go_roundw
      case rel=>exact⟨k+1,_,by have:=ae P;omega,by go_num,E.1,E.2.1,E.2.2,B⟩
      case measure=>have:=ae P;simp[intOf];omega
     .
      have C:Hid (pR a b = .tuple #[a,.int .i64 (aT L en)]):=by
       show _=_;rw[ae HJ];exact Ge (r:=[]) F (by rw[←ae J,ae x,a0e j]) j
      clear x J V;generalize aT L en=q at *
      go_wp2
      go_ret2
      exact⟨by rw[ae C];rfl,O⟩
    .
     obtain rfl:k=N:=by omega
     have hd:dZ M l=(0,L):=by rw[←ae J,a2L (by rw[ae T];exact a0a _)];rfl
     obtain⟨n,hn⟩:∃n,L.length=n:=⟨_,rfl⟩;obtain⟨a2,c2,rfl,_,_⟩:=I.formN hn;have CP:=af (xy a2 c2 n L wr hn (gQ hn I) (by have:=(ep h).2;omega) (fun i hi=>Es h (by omega)));have X:=af (GV h hn);have C:=af (HJ.trans (yM F hd));clear hd h hn I e;go_wp2_with fail;refine CP.mono ?_;rintro f y1⟨rfl,m⟩;have B:=af (aj t m);rw[←ae X];clear m CP;go_wp2
     go_ret2
     exact⟨by rw[ae C];rfl,B⟩
