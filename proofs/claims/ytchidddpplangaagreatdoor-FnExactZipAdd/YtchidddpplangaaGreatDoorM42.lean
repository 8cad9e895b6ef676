/- Of what the proof is made: 4 texts, one behind the other. -/
import Derived.Test.YtchidddpplangaaGreatDoorM41
import Derived.Test.YtchidddpplangaaGreatDoorM39
import Derived.Test.YtchidddpplangaaGreatDoorM28
import Derived.Test.YtchidddpplangaaGreatDoorM2
import Derived.Deep.RegionHeld
import Derived.Laws.AppendOwnNone
import Derived.Test.YtchidddpplangaaGreatDoorM26
import Derived.Test.YtchidddpplangaaGreatDoorM32
set_option maxRecDepth 100000
set_option linter.unusedSimpArgs false
set_option linter.unusedVariables false
set_option maxHeartbeats 6400000
namespace Go.Proofs.YtchidddpplangaaGreatDoor
open Go.Proofs.Tryz
open Go.RowKit Corb
variable {W w:World}
theorem gT{P:Program}{ops:Array Oper}{o:Oper}{a:Act}{K:Act->World->Prop}{Q:Exit->Act->World->Prop}{E:Prop}
  (p:o.guard=none) (s x:Operand) (t:TypeId) (f:o.op=Op.call { callee:=Callee.builtin Builtin.append,args:=#[s,x],argTypes:=#[t,t] })
  (base:Nat) (e:TypeId) (i:TypeInfo) (z:Value) (size bytes:Nat) (k:P.underlying t=some (.slice e)) (h2:P.info? e=some i) (G:i.zero=some z) (H:i.size=size) (I:i.bytes=bytes) (J:z.cells.size=size) (L:0<size)
  (v:Value) (n:Nat) (xs:List Value) (r:a.eval s=v) (b:w.ownsRow base e size v n xs)
  (vx:Value) (base' m:Nat) (news:List Value) (y:a.eval x=vx) (c:w.ownsRow base' e size vx m news) (j:∀u∈news,u.oneCell'=true)
  (A:n+m<=maxLen) (B:(n+m)*bytes<=140737488355328) (C:base<=w.heap.size)
  (l:∀v' w',w'.ownsRow base e size v' (n+m) (xs++news)->w.grownBy w' v.ownBlock->K (a.put o.dst v') w') :
  if Region.wanted o (yielded ops a.tmps)=true then Oper.wp P o a w K Q else E:=by
 have q:=c.1;rcases c.2 with⟨e0,F⟩|⟨g,cap,D,e0,R⟩
 .
  subst F;have d:news=[]:=a2k (by rw[q];simp);subst d;have M:Region.wanted o (yielded ops a.tmps)=true:=by simp[Region.wanted,p]
  rw[a0e M];have h:=run_append_owned_none (P:=P) (w:=w) base t o.type e i size k h2 v n xs b;unfold Oper.wp;simp[execOp,f,resolve,invoke,builtin,r,y.trans e0,h,Result.andThen];refine l v w ?_ (World.grownBy.same _ _);rw[a1a,a1w];exact b
 . subst e0;exact aG p s x t f base e i z size bytes k h2 G H I J L v n xs r b ⟨g,0,none⟩ m cap news y q (a1V c rfl) j A B C fun v' w' N O _=>l v' w' N O
theorem IA(a b:ByteArray):ct a.data.toList b.data.toList=(a.toList == b.toList || (fw a.data.toList b.data.toList || fw b.data.toList a.data.toList)):=by
 unfold ct;rw[a1I,a1I,Bool.or_comm (fw b.data.toList _)]
theorem zx(a:Option Addr)(cap:Nat)(l:List En)(n:Nat)(y:l.length=n)(x:ByteArray)(w:World)(h:jR w a l)(O:(n:Int)<=1048576)(G:(x.size:Int)<=1048576)
  (F:∀i,i<n->((l.getD i default).n.size:Int)<=1048576) :
  Calls prog 20 #[.slice a n cap,.string x] w fun e w'=>e = .returned (.bool (nC l x))/\w'=w:=by
 have K:=ae F;have J:=ae h;have z:=ae (fun k (v:k<l.length)=>@sx l x k v);have A:=ae (@pC l x);rw[y]at z A;have B:=ae y;clear h F y;go_enter func20,ntmps20;go_wp2_with fail
 go_loop [5] (fun i=>∃k:Nat,k<=n/\i = .int .i64 k/\(∀j,j<k->ct (l.getD j default).n.data.toList x.data.toList=false)) (fun i=>n-(intOf i).toNat)
 case atStart=>exact⟨0,a0g _,rfl,fun j E=>absurd E (by omega)⟩
 case round=>
  obtain⟨k,v,rfl,f⟩:=hrel;have c:=ae f;clear f;by_cases d:k<n
  .
   have M:(k:Int)<(n:Int):=by omega
   obtain⟨g,o,rfl,N,D⟩:=ab J (by have:=ab B;omega);have c0:=(D k (by have:=ab B;omega)).1;have s:=ae d;have b:=ae (ab z k d);have r:=ab K k d;have H:=ae (fun W=>lX (l.getD k default).n x W r G);have I:=ae (fun W=>lX x (l.getD k default).n W G r);have q:Hid (ct (l.getD k default).n.data.toList x.data.toList=false->∀j,j<k+1->ct (l.getD j default).n.data.toList x.data.toList=false):=by
    intro e j E;by_cases u:j=k
    . rw[u];exact e
    . exact ab c j (by omega)
   rw[IA]at b q;clear D v c d r;generalize (l.getD k default).n=p at *
   generalize fw p.data.toList x.data.toList=u1 at *
   generalize fw x.data.toList p.data.toList=u2 at *
   cases C:(p.toList == x.toList)
   .
    rw[C]at b q;go_wp2_with fail;refine(ab H _).mono ?_;rintro e w1 ⟨rfl,t⟩;rw[t];clear t;cases u1
    .
     go_wp2_with fail;refine(ab I _).mono ?_;rintro e w2 ⟨rfl,t⟩;rw[t];clear t;cases u2
     .
      have L:=ae (ab q rfl);go_wp2
      go_round
      case rel=>exact⟨k+1,by have:=ab s;omega,by go_num,ab L⟩
      case measure=>have:=ab s;simp[intOf];omega
     . have m:=ae (ab b rfl);go_wp2;go_ret;exact⟨by rw[ab m];rfl,rfl⟩
    . have m:=ae (ab b rfl);go_wp2;go_ret;exact⟨by rw[ab m];rfl,rfl⟩
   . rw[C]at b;have m:=ae (ab b rfl);go_wp2;go_ret;exact⟨by rw[ab m];rfl,rfl⟩
  .
   obtain rfl:k=n:=by omega
   have m:=ae (ab A (ab c));go_wp2;go_ret;exact⟨by rw[ab m];rfl,rfl⟩
structure ESt (w:World) (e:En) (W:World):Prop where
 below:Below w.heap.size w W
 lt:w.heap.size<W.heap.size
 blk:Blk W w.heap.size [.string e.n,.int .i64 e.y,.int .i64 e.mo,.int .i64 e.d,.int .i64 e.h,.int .i64 e.mi,.int .i64 e.s,.string e.t]
theorem ESt.all{e:En}(h:ESt w e W):∀i,i<8->W.cell? ⟨w.heap.size,i,none⟩=[.string e.n,.int .i64 e.y,.int .i64 e.mo,.int .i64 e.d,.int .i64 e.h,.int .i64 e.mi,.int .i64 e.s,.string e.t][i]?:=h.blk.cells rfl
theorem ESt.drew{e:En}(h:ESt w e W):ESt w e W.drew:=⟨h.1.drew,h.2,h.3.drew⟩
theorem ESt.alloc{e:En}(h:ESt w e W)(o:Obj):ESt w e (W.alloc o):=by
 have hb:Below W.heap.size W (W.alloc o):=(a0c _ _).alloc (a0a _) _;exact⟨h.1.alloc (a0z h.2) o,a0m h.2 hb.size,h.3.later hb h.2⟩
theorem ESt.grown{W':World}{e:En}{v:Value}{n:Nat}{xs:List Value}(h:ESt w e W)(b:W.ownsRow (w.heap.size+1) 31 8 v n xs)(a:W.grownBy W' v.ownBlock):ESt w e W':=
 ⟨h.1.grown a (a0z h.2) (fun k e=>by have:=(a0w b k e).1;omega),a0m h.2 a.size,h.3.grown a (fun e=>by have:=(a0w b _ e.symm).1;omega)⟩
theorem sC{g:Nat}{vs:List Value}(h:Blk W g vs):∀j u,vs[j]?=some u->W.cell? ((⟨g,0,none⟩:Addr).add j)=some u:=fun j u a=>by
 have e:(⟨g,0,none⟩:Addr).add j=⟨g,j,none⟩:=by unfold Addr.add;split<;>simp_all
 rw[e];exact h.cell j u a
theorem wz{b n:Nat}{v:Value}{l:List En}{e:En}(a:l.length=n)(h:W.ownsRow (b+1) 31 8 v (0+n+1) ([]++l.flatMap jz++jz e)):iN W b v (l++[e]):=
 ce.mono (ce.snoc a (by rw[a0G,a1u]at h;exact h)) (a00 _)
theorem FU(v:Value)(l:List En)(e:En)(ob:Nat)(w:World)(h:iN w ob v l)(Q:l.length<=6)(hs:∀i,i<l.length->((l.getD i default).n.size:Int)<=1048576)(he:e.n.size<=1048576)(ht:(e.t.size:Int)<=9223372036854775807) :
  Calls prog 12 #[v,.agg #[.string e.n,.int .i64 e.y,.int .i64 e.mo,.int .i64 e.d,.int .i64 e.h,.int .i64 e.mi,.int .i64 e.s,.string e.t]] w fun f w'=>(∃v',f = .returned (.tuple #[v',.int .i64 (aX l e)])/\(aX l e=0->iN w' w.heap.size v' (l++[e]))/\(aX l e≠0->v'=v))/\Below w.heap.size w w':=by
 have Z:prog.follows .mixedOrders=true:=by kernel_rfl
 obtain⟨i0,V,D,E,F⟩:=a0p Tryz.infoEnt;obtain⟨n,hn⟩:∃n,l.length=n:=⟨_,rfl⟩;obtain⟨a,c,rfl,hc,_⟩:=h.formN hn;rw[hn]at Q hs;have al:(n:Int)<=6:=by omega
 have p:Hid (0+n<=maxLen/\(0+n)*80<=140737488355328/\0+n+1<=maxLen/\(0+n+1)*80<=140737488355328):=by show _/\_;unfold maxLen;omega
 have J:Hid (ESt w e (w.alloc (.cells #[.string e.n,.int .i64 e.y,.int .i64 e.mo,.int .i64 e.d,.int .i64 e.h,.int .i64 e.mi,.int .i64 e.s,.string e.t] 31))):=⟨(a0c _ _).alloc (a0a _) _,by simp,aI w _ _⟩;have CE:=ae (iE e.n e.y e.mo e.d e.h e.mi e.s e.t (w.alloc (.cells #[.string e.n,.int .i64 e.y,.int .i64 e.mo,.int .i64 e.d,.int .i64 e.h,.int .i64 e.mi,.int .i64 e.s,.string e.t] 31)) he ht);have CC:=ae (fun W (hb:Below w.heap.size w W)=>zx a c l n hn e.n W (kh hn (h.later hb (a0a _))) (by omega) (by omega) hs);have T:=ae hn;have HO:=ae h;clear h hs he ht hn hc Q;go_enter func12,ntmps12;go_wp2_with fail;refine(ab CE).mono ?_;rintro f x1 ⟨rfl,P⟩;have N:Hid (ESt w e x1):=⟨ai (ab J).1 P,a0m (ab J).2 P.size,(ab J).3.later P (ab J).2⟩;clear CE P J;have X:=ae (ab N).1;cases U:je e
 .
  have B:Hid (aX l e=1):=by show _=_;unfold aX;rw[a0d (by rw[U];decide)]
  rw[show gE e.n e.y e.mo e.d e.h e.mi e.s e.t=false from U];clear U;go_wp2
  go_ret2
  exact⟨⟨_,by rw[ab B];rfl,fun h=>(by rw[ab B]at h;cases h),fun _=>rfl⟩,ab X⟩
 .
  have G:Hid (aX l e=if nC l e.n then 3 else if 6<=n then 4 else 0):=by show _=_;unfold aX;rw[a0e U,ab T]
  rw[show gE e.n e.y e.mo e.d e.h e.mi e.s e.t=true from U];clear U;have pA:=(ab N).all;go_wp2_with fail;refine(ab CC _ (ab X)).mono ?_;rintro f x2 ⟨rfl,aa⟩;rw[aa];clear CC pA aa x2;cases hA:nC l e.n
  .
   rw[hA]at G;clear hA;by_cases Q:6<=n
   .
    have B:Hid (aX l e=4):=by show _=_;rw[ab G,a0d (by decide),a0e Q]
    have ac:(6:Int)<=(n:Int):=by omega
    go_wp2
    go_ret2
    exact⟨⟨_,by rw[ab B];rfl,fun h=>(by rw[ab B]at h;cases h),fun _=>rfl⟩,ab X⟩
   .
    have B:Hid (aX l e=0):=by show _=_;rw[ab G,a0d (by decide),a0d Q]
    have ac:¬ (6:Int)<=(n:Int):=by omega
    clear G Q X;go_wp2_with fail;refine wp_region_held_drew (S:=fun W=>∀i,i<8->W.cell? ⟨w.heap.size,i,none⟩=[.string e.n,.int .i64 e.y,.int .i64 e.mo,.int .i64 e.d,.int .i64 e.h,.int .i64 e.mi,.int .i64 e.s,.string e.t][i]?) Z ((ab N).drew.all) (fun hS=>?_);refine af 1 (.slice a n c) rfl (by kernel_rfl) (fun _ _ _ h=>h) rfl (fun W ad=>by go_simp) hS ?_;refine af 3 (.agg #[.string e.n,.int .i64 e.y,.int .i64 e.mo,.int .i64 e.d,.int .i64 e.h,.int .i64 e.mi,.int .i64 e.s,.string e.t]) rfl (by kernel_rfl) (fun _ _ _ h=>h) rfl (fun W ad=>by go_simp) hS ?_;clear hS;have R:=ae (ab N).drew;generalize x1.drew=W1 at *
    refine wpAnyH_ready (rs:=[0,4]) (by kernel_rfl) (by simp) ?_;refine AllReadyH.cons rfl (fun K k=>?_) (AllReadyH.cons rfl (fun K k=>?_) (AllReadyH.nil))
    .
     go_simp;have r:=ae ((ab R).alloc (.cells #[] 31));have H:=ae (a0Y (base:=w.heap.size+1) (size:=8) (e:=31) W1 #[] 0 (ab R).2 (by unfold maxLen;omega) rfl);refine Shut.out k _ _ (ab r).all (fun _=>?_);clear k K;obtain⟨G0,hG0⟩:∃x,W1.heap.size=x:=⟨_,rfl⟩;obtain⟨W2,hW2⟩:∃x,W1.alloc (.cells #[] 31)=x:=⟨_,rfl⟩;rw[hG0,hW2]at H;rw[hW2]at r;rw[hG0,hW2];refine wpAnyH_ready (rs:=[2,4]) (by kernel_rfl) (by simp) ?_;refine AllReadyH.cons rfl (fun K k=>?_) (AllReadyH.cons rfl (fun K k=>?_) (AllReadyH.nil))
     .
      refine gT rfl (.tmp 22) (.tmp 23) 36 rfl (w.heap.size+1) 31 i0 (.agg #[.string ⟨#[]⟩,.int .i64 0,.int .i64 0,.int .i64 0,.int .i64 0,.int .i64 0,.int .i64 0,.string ⟨#[]⟩]) 8 80 a14 V D E F rfl (by decide) (Value.slice (some ⟨G0,0,none⟩) 0 0) 0 [] rfl (ab H) _ ob n (l.flatMap jz) rfl (ce.own (ab T) ((ab HO).later (ab r).1 (a0a _))) (pK _) (ab p).1 (ab p).2.1 (ab r).2 ?_;intro v3 W3 g b;have m:=ae ((ab r).grown (ab H) b);have u:=ae g;clear g b;refine Shut.out k _ _ (ab m).all (fun _=>?_);clear k K;refine ag 4 (by kernel_rfl) rfl fun K k=>?_;go_simp;have q:=ae ((ab m).alloc (.cells #[.string e.n,.int .i64 e.y,.int .i64 e.mo,.int .i64 e.d,.int .i64 e.h,.int .i64 e.mi,.int .i64 e.s,.string e.t] 31));have C:=ae (aI W3 #[.string e.n,.int .i64 e.y,.int .i64 e.mo,.int .i64 e.d,.int .i64 e.h,.int .i64 e.mi,.int .i64 e.s,.string e.t] 31);have z:=ae (a0j (ab u) (.cells #[.string e.n,.int .i64 e.y,.int .i64 e.mo,.int .i64 e.d,.int .i64 e.h,.int .i64 e.mi,.int .i64 e.s,.string e.t] 31));have M:∀j,v3.ownBlock=some j->j<W3.heap.size:=fun j hj=>(a0w (ab u) j hj).2;refine Shut.out k _ _ (ab q).all (fun _=>?_);clear k K;obtain⟨G1,hG1⟩:∃x,W3.heap.size=x:=⟨_,rfl⟩;obtain⟨W4,hW4⟩:∃x,W3.alloc (.cells #[.string e.n,.int .i64 e.y,.int .i64 e.mo,.int .i64 e.d,.int .i64 e.h,.int .i64 e.mi,.int .i64 e.s,.string e.t] 31)=x:=⟨_,rfl⟩;rw[hG1,hW4]at C;rw[hW4]at q z;rw[hG1]at M;rw[hG1,hW4];refine ag 5 (by kernel_rfl) rfl fun K k=>?_;refine aG rfl (.tmp 24) (.tmp 26) 36 rfl (w.heap.size+1) 31 i0 (.agg #[.string ⟨#[]⟩,.int .i64 0,.int .i64 0,.int .i64 0,.int .i64 0,.int .i64 0,.int .i64 0,.string ⟨#[]⟩]) 8 80 a14 V D E F rfl (by decide) v3 (0+n) ([]++l.flatMap jz) rfl (ab z) ⟨G1,0,none⟩ 1 1 (jz e) rfl rfl (sC (ab C)) (jd _) (ab p).2.2.1 (ab p).2.2.2 (ab q).2 ?_;intro v8 W8 g b A;have o:=ae ((ab q).grown (ab z) b);have I:=ae g;clear g b A;refine Shut.out k _ _ (ab o).all (fun _=>?_);clear k K;refine ag 6 (by kernel_rfl) rfl fun K k=>?_;go_simp;refine Shut.out k _ _ (ab o).all (fun _=>?_);clear k K;refine ag 7 (by kernel_rfl) rfl fun K k=>?_;go_simp;refine Shut.out k _ _ (ab o).all (fun _=>?_);clear k K;refine wpAnyH_done (by kernel_rfl) ?_ _;go_wp2
      go_ret2
      exact⟨⟨_,by rw[ab B];rfl,fun _=>wz (ab T) (ab I),fun h=>absurd (ab B) h⟩,(ab o).1⟩
     .
      go_simp;have m:=ae ((ab r).alloc (.cells #[.string e.n,.int .i64 e.y,.int .i64 e.mo,.int .i64 e.d,.int .i64 e.h,.int .i64 e.mi,.int .i64 e.s,.string e.t] 31));have L:=ae (aI W2 #[.string e.n,.int .i64 e.y,.int .i64 e.mo,.int .i64 e.d,.int .i64 e.h,.int .i64 e.mi,.int .i64 e.s,.string e.t] 31);have u:=ae (a0j (ab H) (.cells #[.string e.n,.int .i64 e.y,.int .i64 e.mo,.int .i64 e.d,.int .i64 e.h,.int .i64 e.mi,.int .i64 e.s,.string e.t] 31));have M:∀j,(Value.slice (some ⟨G0,0,none⟩) 0 0).ownBlock=some j->j<W2.heap.size:=fun j hj=>(a0w (ab H) j hj).2;refine Shut.out k _ _ (ab m).all (fun _=>?_);clear k K;obtain⟨G1,hG1⟩:∃x,W2.heap.size=x:=⟨_,rfl⟩;obtain⟨W3,hW3⟩:∃x,W2.alloc (.cells #[.string e.n,.int .i64 e.y,.int .i64 e.mo,.int .i64 e.d,.int .i64 e.h,.int .i64 e.mi,.int .i64 e.s,.string e.t] 31)=x:=⟨_,rfl⟩;rw[hG1,hW3]at L;rw[hW3]at m u;rw[hG1]at M;rw[hG1,hW3];refine ag 2 (by kernel_rfl) rfl fun K k=>?_;have Y:G0<G1:=M G0 rfl;refine gT rfl (.tmp 22) (.tmp 23) 36 rfl (w.heap.size+1) 31 i0 (.agg #[.string ⟨#[]⟩,.int .i64 0,.int .i64 0,.int .i64 0,.int .i64 0,.int .i64 0,.int .i64 0,.string ⟨#[]⟩]) 8 80 a14 V D E F rfl (by decide) (Value.slice (some ⟨G0,0,none⟩) 0 0) 0 [] rfl (ab u) _ ob n (l.flatMap jz) rfl (ce.own (ab T) ((ab HO).later (ab m).1 (a0a _))) (pK _) (ab p).1 (ab p).2.1 (ab m).2 ?_;intro v4 W4 g b;have q:=ae ((ab m).grown (ab u) b);have z:=ae g;have C:=ae ((ab L).grown b (fun e=>by have Q:G1=G0:=a1m e;omega));clear g b;refine Shut.out k _ _ (ab q).all (fun _=>?_);clear k K;refine ag 5 (by kernel_rfl) rfl fun K k=>?_;refine aG rfl (.tmp 24) (.tmp 26) 36 rfl (w.heap.size+1) 31 i0 (.agg #[.string ⟨#[]⟩,.int .i64 0,.int .i64 0,.int .i64 0,.int .i64 0,.int .i64 0,.int .i64 0,.string ⟨#[]⟩]) 8 80 a14 V D E F rfl (by decide) v4 (0+n) ([]++l.flatMap jz) rfl (ab z) ⟨G1,0,none⟩ 1 1 (jz e) rfl rfl (sC (ab C)) (jd _) (ab p).2.2.1 (ab p).2.2.2 (ab q).2 ?_;intro v8 W8 g b A;have o:=ae ((ab q).grown (ab z) b);have I:=ae g;clear g b A;refine Shut.out k _ _ (ab o).all (fun _=>?_);clear k K;refine ag 6 (by kernel_rfl) rfl fun K k=>?_;go_simp;refine Shut.out k _ _ (ab o).all (fun _=>?_);clear k K;refine ag 7 (by kernel_rfl) rfl fun K k=>?_;go_simp;refine Shut.out k _ _ (ab o).all (fun _=>?_);clear k K;refine wpAnyH_done (by kernel_rfl) ?_ _;go_wp2
      go_ret2
      exact⟨⟨_,by rw[ab B];rfl,fun _=>wz (ab T) (ab I),fun h=>absurd (ab B) h⟩,(ab o).1⟩
    .
     go_simp;have r:=ae ((ab R).alloc (.cells #[.string e.n,.int .i64 e.y,.int .i64 e.mo,.int .i64 e.d,.int .i64 e.h,.int .i64 e.mi,.int .i64 e.s,.string e.t] 31));have O:=ae (aI W1 #[.string e.n,.int .i64 e.y,.int .i64 e.mo,.int .i64 e.d,.int .i64 e.h,.int .i64 e.mi,.int .i64 e.s,.string e.t] 31);refine Shut.out k _ _ (ab r).all (fun _=>?_);clear k K;obtain⟨G1,hG1⟩:∃x,W1.heap.size=x:=⟨_,rfl⟩;obtain⟨W2,hW2⟩:∃x,W1.alloc (.cells #[.string e.n,.int .i64 e.y,.int .i64 e.mo,.int .i64 e.d,.int .i64 e.h,.int .i64 e.mi,.int .i64 e.s,.string e.t] 31)=x:=⟨_,rfl⟩;rw[hG1,hW2]at O;rw[hW2]at r;rw[hG1,hW2];refine ag 0 (by kernel_rfl) rfl fun K k=>?_;go_simp;have m:=ae ((ab r).alloc (.cells #[] 31));have u:=ae (a0Y (base:=w.heap.size+1) (size:=8) (e:=31) W2 #[] 0 (ab r).2 (by unfold maxLen;omega) rfl);have L:=ae ((ab O).later ((a0c _ _).alloc (a0a _) (.cells #[] 31)) (ab O).1);have M:=(ab O).1;refine Shut.out k _ _ (ab m).all (fun _=>?_);clear k K;obtain⟨G0,hG0⟩:∃x,W2.heap.size=x:=⟨_,rfl⟩;obtain⟨W3,hW3⟩:∃x,W2.alloc (.cells #[] 31)=x:=⟨_,rfl⟩;rw[hG0,hW3]at u;rw[hW3]at m L;rw[hG0,hW3];refine ag 2 (by kernel_rfl) rfl fun K k=>?_;have Y:G1<G0:=by omega
     refine gT rfl (.tmp 22) (.tmp 23) 36 rfl (w.heap.size+1) 31 i0 (.agg #[.string ⟨#[]⟩,.int .i64 0,.int .i64 0,.int .i64 0,.int .i64 0,.int .i64 0,.int .i64 0,.string ⟨#[]⟩]) 8 80 a14 V D E F rfl (by decide) (Value.slice (some ⟨G0,0,none⟩) 0 0) 0 [] rfl (ab u) _ ob n (l.flatMap jz) rfl (ce.own (ab T) ((ab HO).later (ab m).1 (a0a _))) (pK _) (ab p).1 (ab p).2.1 (ab m).2 ?_;intro v4 W4 g b;have q:=ae ((ab m).grown (ab u) b);have z:=ae g;have C:=ae ((ab L).grown b (fun e=>by have Q:G1=G0:=a1m e;omega));clear g b;refine Shut.out k _ _ (ab q).all (fun _=>?_);clear k K;refine ag 5 (by kernel_rfl) rfl fun K k=>?_;refine aG rfl (.tmp 24) (.tmp 26) 36 rfl (w.heap.size+1) 31 i0 (.agg #[.string ⟨#[]⟩,.int .i64 0,.int .i64 0,.int .i64 0,.int .i64 0,.int .i64 0,.int .i64 0,.string ⟨#[]⟩]) 8 80 a14 V D E F rfl (by decide) v4 (0+n) ([]++l.flatMap jz) rfl (ab z) ⟨G1,0,none⟩ 1 1 (jz e) rfl rfl (sC (ab C)) (jd _) (ab p).2.2.1 (ab p).2.2.2 (ab q).2 ?_;intro v8 W8 g b A;have o:=ae ((ab q).grown (ab z) b);have I:=ae g;clear g b A;refine Shut.out k _ _ (ab o).all (fun _=>?_);clear k K;refine ag 6 (by kernel_rfl) rfl fun K k=>?_;go_simp;refine Shut.out k _ _ (ab o).all (fun _=>?_);clear k K;refine ag 7 (by kernel_rfl) rfl fun K k=>?_;go_simp;refine Shut.out k _ _ (ab o).all (fun _=>?_);clear k K;refine wpAnyH_done (by kernel_rfl) ?_ _;go_wp2
     go_ret2
     exact⟨⟨_,by rw[ab B];rfl,fun _=>wz (ab T) (ab I),fun h=>absurd (ab B) h⟩,(ab o).1⟩
  .
   have B:Hid (aX l e=3):=by show _=_;rw[ab G,hA,a0e rfl]
   clear hA;go_wp2
   go_ret2
   exact⟨⟨_,by rw[ab B];rfl,fun h=>(by rw[ab B]at h;cases h),fun _=>rfl⟩,ab X⟩
theorem H5{M l:List En}{k:Nat}(a:k<M.length):iP (M.drop k) l=if aX l (M.getD k default)=0 then iP (M.drop (k+1)) (l++[M.getD k default])else(aX l (M.getD k default),[]):=by
 have e:M.drop k=M.getD k default :: M.drop (k+1):=by
  rw[a2V a];simp[List.getD,a]
 rw[e];rfl
theorem yd(M:List En)(a:Option Addr)(c N:Nat)(hN:M.length=N)(v:Value)(l:List En)(bx b:Nat)(m:Int)(w:World)(h:iN w b v l)(hz:dD l=true)(hb:b<=w.heap.size)(hx:w.cell? ⟨bx,0,none⟩=some (.slice a N c))
  (hM:∀W,Below b w W->jR W a M) (hs:∀i,i<N->(M.getD i default).n.size<=1048576/\((M.getD i default).t.size:Int)<=9223372036854775807) (ac:N<=6) (hm:∀W,Below b w W->W.cell? ⟨2,0,none⟩=some (.int .i64 m)) :
  Calls prog 37 #[v,.pointer (some ⟨bx,0,none⟩)] w (Hv b w (iP M l)):=by
 obtain⟨i0,hi,ad,al,a0⟩:=a0p Tryz.infoEnt;have a1:(N:Int)<=6:=by omega
 have V:=ae hN;have HS:=ae hs;have HM:=ae hM;have CM:=ae hm;have Y:=ae (a0b h (a0b hz hb));obtain⟨n0,hn0⟩:∃n,l.length=n:=⟨_,rfl⟩;obtain⟨fa,fc,rfl,_,_⟩:=h.formN hn0;clear h hz hb hN hs hM hm ac hn0;go_enter func37,ntmps37;go_wp2_with fail
 go_loopw [0,6,7,10] (fun f _ _ i wr=>∃(k:Nat) (L:List En),k<=N/\i = .int .i64 k/\iN wr b f L/\dD L=true/\iP (M.drop k) L=iP M l/\Below b w wr) (fun _ _ _ i _=>N-(intOf i).toNat)
 case atStart=>exact⟨0,l,a0g _,rfl,(ab Y).1,(ab Y).2.1,rfl,a0c _ _⟩
 case round=>
  obtain⟨k,L,hk,rfl,ho,H,z,e⟩:=hrel;have S:=(ab Y).2.2;have HO:=ae ho;have HZ:=ae H;have I:=ae z;have HB:=ae e;have E:Hid (b<=wr.heap.size):=a0C S e.size;obtain⟨n,hn⟩:∃n,L.length=n:=⟨_,rfl⟩;obtain⟨fa,fc,rfl,_,_⟩:=ho.formN hn;have h6:=(jQ H).2;have a3:n<=6:=by omega
  have Hn:=ae hn;clear ho H z S h6;by_cases G:k<N
  .
   have a2:(k:Int)<(N:Int):=by omega
   obtain⟨g,o,rfl,hg,hc⟩:=(ab HM) wr e (by have:=ab V;omega);obtain⟨c0,c1,c2,c3,c4,c5,c6,c7⟩:=hc k (by have:=ab V;omega);have K:=ae G;have P:=ae (ab HS k G);have x:Hid (iP (M.drop k) L=_):=H5 (by have:=ab V;omega);clear hc hk G e;generalize M.getD k default=en at *
   have hA:=(a0c wr.heap.size wr).alloc (a0a _) (.cells #[.string en.n,.int .i64 en.y,.int .i64 en.mo,.int .i64 en.d,.int .i64 en.h,.int .i64 en.mi,.int .i64 en.s,.string en.t] 31);have C:=ae ((ab HB).trans (hA.mono (ab E)));have D:=ae ((ab HO).later hA (a0a _));have P1:=ae (aI wr #[.string en.n,.int .i64 en.y,.int .i64 en.mo,.int .i64 en.d,.int .i64 en.h,.int .i64 en.mi,.int .i64 en.s,.string en.t] 31);have CR:=ae (mz fa fc L n hn en m _ (kh hn (ab D)) (by omega) (fun i hi=>by have:=(qJ (ab HZ) i (by omega)).1;omega) (ab P).1 (ab P).2 (ab CM _ (ab C)));clear hA;go_wp2_with fail;refine(ab CR).mono ?_;rintro f x1 ⟨rfl,p⟩;have J:=ae ((ab C).trans (p.mono (a0C (ab E) (by simp))));have Z:=ae ((ab D).later p (a0a _));have P2:=ae ((ab P1).later p (ab P1).1);have Q:Hid (b<=x1.heap.size):=a0C (ab E) (a0C (by simp) p.size);clear p CR c0 c1 c2 c3 c4 c5 c6 c7 C D P1 hn;by_cases j:aX L en=0
   .
    rw[show dB (aX L en) = .nilIface by rw[j];rfl];have O:Hid (dD (L++[en])=true/\iP (M.drop (k+1)) (L++[en])=iP M l):=by
     refine⟨(kI (ab HZ) _).2 j,?_⟩;rw[←ab I,ab x,a0e j]
    have A:Hid (n+1<=maxLen/\(n+1)*80<=140737488355328):=by show _/\_;unfold maxLen;omega
    have F:=ce.own (ab Hn) (ab Z);have r:=ab Q;have pA:=(ab P2).cells (n:=8) rfl;clear j x I;go_wp2_with (at_builtin;refine a0r _ rfl _ _ 36 rfl b 31 i0 (.agg #[.string ⟨#[]⟩,.int .i64 0,.int .i64 0,.int .i64 0,.int .i64 0,.int .i64 0,.int .i64 0,.string ⟨#[]⟩]) 8 80 a14 hi ad al a0 rfl (by decide) _ _ _ rfl (a0j F _) ⟨x1.heap.size,0,none⟩ 1 1 (jz en) rfl rfl (iZ x1 _ _) (jd _) (ab A).1 (ab A).2 (an r _) ?_;intro v5 x5 B u T;clear T;have R:=aB (v:=.slice fa n fc) u F (a0a _) r (ab J));have aa:Hid (iN x5 b v5 (L++[en])):=ce.snoc (ab Hn) B;have X:=ae R;clear B u R F r pA;go_wp2;go_roundw
    case rel=>exact⟨k+1,_,by have:=ab K;omega,by go_num,ab aa,(ab O).1,(ab O).2,ab X⟩
    case measure=>have:=ab K;simp[intOf];omega
   .
    rw[show dB (aX L en) = .iface 76 (.agg #[.int .i64 (aX L en)]) by unfold dB;rw[a0d j]];have U:Hid ((iP M l).1=aX L en):=by show _=_;rw[←ab I,ab x,a0d j]
    have HC:=ae j;clear j x I;generalize aX L en=q at *
    go_wp2
    go_ret2
    exact Lw (ab U) (ab HC) (ab J)
  .
   obtain rfl:k=N:=by omega
   have U:Hid (iP M l=(0,L)):=by show _=_;rw[←ab I,a26 (by rw[ab V];exact a0a _)];rfl
   clear e;go_wp2
   go_ret2
   refine⟨⟨.slice fa n fc,?_,⟨_,_,_,rfl⟩,fun _=>?_⟩,ab HB⟩
   . rw[ab U];rfl
   . rw[ab U];exact ab HO
theorem yS(a:Option Addr)(n c:Nat)(w:World) :
  Calls prog 16 #[.slice a n c] w fun f w'=>f = .returned (.func (.func 37) #[] #[.pointer (some ⟨w.heap.size,0,none⟩)])/\w'=w.alloc (.cells #[.slice a n c] 36):=by
 go_enter func16,ntmps16;go_wp2;go_ret;exact⟨rfl,rfl⟩
theorem ye(s:ByteArray)(d:List En->Int×List En)(bx:Nat)(m:Int)(w:World)(R:s.size<=1048576)(I:w.cell? ⟨2,0,none⟩=some (.int .i64 m))(M:ox w)(L:dH w)
  (hd:∀l,dD l=true->(d l).1=0->dD (d l).2=true)
  (X:∀W v l,eq s=some l->Below w.heap.size w W->iN W w.heap.size v l->Calls prog 37 #[v,.pointer (some ⟨bx,0,none⟩)] W (Hv w.heap.size W (d l))) :
  Calls prog 15 #[.string s,.func (.func 37) #[] #[.pointer (some ⟨bx,0,none⟩)]] w fun f w'=>f = .returned (edR s d)/\Below w.heap.size w w':=by
 have C:=ae (tf s m w R I M L);have Z:=ae I;have P:=ae (World.block_lt_of_cell? _ _ I);have Y:=ae (fun W (hb:Below w.heap.size w W)=>(hb.cell (p:=⟨2,0,none⟩) (ab P)).trans (ab Z));have V:=ae (fun W (hb:Below w.heap.size w W)=>M.later hb);have J:=ae (fun W (hb:Below w.heap.size w W)=>L.later hb);have U:=ae X;have Hd:=ae hd;have HS:=ae R;clear R I M L hd X;go_enter func15,ntmps15;go_wp2_with fail;refine(ab C).mono ?_;rintro f x1 ⟨⟨v,rfl,b⟩,h⟩;have B:=ae h;clear C;rcases z:eq s with _|l
 .
  have D:=ae (D9 z d);clear z b h;go_wp2
  go_ret2
  exact⟨by rw[ab D];rfl,ab B⟩
 .
  rw[z]at b;have CD:=ae (ab U x1 v l z h b);have K:=ae z;clear z b h U;go_wp2_with fail;refine(ab CD).mono ?_;rintro f x2 ⟨⟨v2,rfl,⟨a,n,c,rfl⟩,G⟩,E⟩;have o:=ae ((ab B).trans E);have A:=ae (my (d l).1 x2 (ab V _ (ab o)));have H:=ae G;clear E G CD;obtain⟨q,hq⟩:∃q,d l=q:=⟨_,rfl⟩;have Hq:=ae hq;rw[hq]at A H;rw[hq];clear hq;obtain⟨k,r⟩:=q;simp only at A H;simp only;obtain⟨FV,hFV⟩:∃x,dB k=x:=⟨_,rfl⟩;rw[hFV]at A;rw[hFV];clear hFV;go_wp2_with fail;refine(ab A).mono ?_;rintro f x3 ⟨rfl,u⟩;have e:=ae (ai (ab o) u);have j:=ae u;clear u A;by_cases O:k=0
  .
   subst O;have y:dD r=true:=by have:=ab Hd l (si (ab K)) (by rw[ab Hq]);rw[ab Hq]at this;exact this
   have Q:iN x2 w.heap.size (.slice a n c) r:=ab H rfl;obtain⟨N,hN⟩:∃n,r.length=n:=⟨_,rfl⟩;obtain⟨a',c',e',aa,_⟩:=Q.formN hN;cases e'
   have F:=Q.later (ab j) (a0a _);have h6:=(jQ y).2;have T:=ae (tg a c r n hN m x3 (kh hN F) (by omega) (by omega) (fun i hi=>qJ y i (by omega)) (ab Y _ (ab e)) (ab V _ (ab e)) (ab J _ (ab e)));have D:=ae (IK (ab K) (ab Hq));clear y Q F h6 H j o;go_wp2_with fail;refine(ab T).mono ?_;rintro f x4 ⟨rfl,g⟩;have t:=ae (ai (ab e) g);clear g T;go_wp2
   go_ret2
   exact⟨by rw[ab D];rfl,ab t⟩
  .
   have D:=ae (MQ (ab K) (ab Hq) O);have S:=ae (fun W=>oh s W (by have:=ab HS;omega));have hd:decide (k=0)=false:=a0h O;go_wp2_with fail;refine(ab S _).mono ?_;rintro f x4 ⟨rfl,g⟩;have t:=ae (ai (ab e) g);clear g S;go_wp2
   go_ret2
   exact⟨by rw[ab D];rfl,ab t⟩
theorem uN(s:ByteArray)(M:List En)(a:Option Addr)(c N:Nat)(o:M.length=N)(bx:Nat)(m:Int)(w:World)(y:s.size<=1048576)(g:w.cell? ⟨bx,0,none⟩=some (.slice a N c))(k:jR w a M)
  (r:∀i,i<N->(M.getD i default).n.size<=1048576/\((M.getD i default).t.size:Int)<=9223372036854775807) (d:N<=6) (e:w.cell? ⟨2,0,none⟩=some (.int .i64 m)) (u:ox w) (q:dH w) :
  Calls prog 15 #[.string s,.func (.func 37) #[] #[.pointer (some ⟨bx,0,none⟩)]] w fun f w'=>f = .returned (edR s (iP M))/\Below w.heap.size w w':=
 ye s (iP M) bx m w y e u q (fun _ h j=>M5 h j)
  (fun W v l z hb x=>yd M a c N o v l bx w.heap.size m W x (si z) hb.size ((hb.cell (p:=⟨bx,0,none⟩) (World.block_lt_of_cell? _ _ g)).trans g)
   (fun _ b=>k.later (hb.trans b)) r d (fun _ b=>((hb.trans b).cell (p:=⟨2,0,none⟩) (World.block_lt_of_cell? _ _ e)).trans e))
theorem JR{g:Nat}{e:En}(h:Blk W g (jz e)):jR W (some ⟨g,0,none⟩) [e]:=by
 intro _;refine⟨g,0,rfl,h.1,fun i a=>?_⟩;have e0:i=0:=by simp at a;exact a
 subst e0;exact MU fun j b=>by
  rw[show(0+0*8+j)=j by omega];exact h.cells (n:=8) rfl j b
theorem te(s:ByteArray)(e:En)(m:Int)(w:World)(E:s.size<=1048576)(B:e.n.size<=1048576)(F:(e.t.size:Int)<=9223372036854775807)(x:w.cell? ⟨2,0,none⟩=some (.int .i64 m))(D:ox w)(z:dH w) :
  Calls prog 8 #[.string s,.agg #[.string e.n,.int .i64 e.y,.int .i64 e.mo,.int .i64 e.d,.int .i64 e.h,.int .i64 e.mi,.int .i64 e.s,.string e.t]] w fun f w'=>f = .returned (edR s (iP [e]))/\Below w.heap.size w w':=by
 have r:=ae ((a0c w.heap.size w).alloc (a0a _) (.cells #[.string e.n,.int .i64 e.y,.int .i64 e.mo,.int .i64 e.d,.int .i64 e.h,.int .i64 e.mi,.int .i64 e.s,.string e.t] 31));have c:=ae ((ab r).alloc (ab r).size (.cells #[.string e.n,.int .i64 e.y,.int .i64 e.mo,.int .i64 e.d,.int .i64 e.h,.int .i64 e.mi,.int .i64 e.s,.string e.t] 31));have P:=ae (aI (w.alloc (.cells #[.string e.n,.int .i64 e.y,.int .i64 e.mo,.int .i64 e.d,.int .i64 e.h,.int .i64 e.mi,.int .i64 e.s,.string e.t] 31)) #[.string e.n,.int .i64 e.y,.int .i64 e.mo,.int .i64 e.d,.int .i64 e.h,.int .i64 e.mi,.int .i64 e.s,.string e.t] 31);have G:=ae (fun W (hb:Below w.heap.size w W)=>(hb.cell (p:=⟨2,0,none⟩) (World.block_lt_of_cell? _ _ x)).trans x);have CD:=ae (fun W (hb:Below w.heap.size w W) g bx (hP:Blk W g (jz e)) (hx:W.cell? ⟨bx,0,none⟩=some (.slice (some ⟨g,0,none⟩) 1 1))=>uN s [e] (some ⟨g,0,none⟩) 1 1 rfl bx m W E hx (JR hP) (fun i I=>(by obtain rfl:i=0:=(by omega);exact⟨B,F⟩)) (by omega) (ab G W hb) (D.later hb) (z.later hb));clear E B F x D z;go_enter func8,ntmps8;go_wp2_with fail;refine(yS _ _ _ _).mono ?_;rintro f x1 ⟨rfl,l⟩;have u:=(a0c ((w.alloc (.cells #[.string e.n,.int .i64 e.y,.int .i64 e.mo,.int .i64 e.d,.int .i64 e.h,.int .i64 e.mi,.int .i64 e.s,.string e.t] 31)).alloc (.cells #[.string e.n,.int .i64 e.y,.int .i64 e.mo,.int .i64 e.d,.int .i64 e.h,.int .i64 e.mi,.int .i64 e.s,.string e.t] 31)).heap.size _).alloc (a0a _) (.cells #[.slice (some ⟨w.heap.size+1,0,none⟩) 1 1] 36);have q:=(ab P).later u (ab P).1;rw[show(w.alloc (.cells #[.string e.n,.int .i64 e.y,.int .i64 e.mo,.int .i64 e.d,.int .i64 e.h,.int .i64 e.mi,.int .i64 e.s,.string e.t] 31)).heap.size=w.heap.size+1 by simp]at q;have A:=(aI ((w.alloc (.cells #[.string e.n,.int .i64 e.y,.int .i64 e.mo,.int .i64 e.d,.int .i64 e.h,.int .i64 e.mi,.int .i64 e.s,.string e.t] 31)).alloc (.cells #[.string e.n,.int .i64 e.y,.int .i64 e.mo,.int .i64 e.d,.int .i64 e.h,.int .i64 e.mi,.int .i64 e.s,.string e.t] 31)) #[.slice (some ⟨w.heap.size+1,0,none⟩) 1 1] 36).cell 0 _ rfl;have a:=ae (ai (ab c) u);have C:=ae (ab CD _ (ab a) _ _ q A);obtain⟨bx,hbx⟩:∃b,((w.alloc (.cells #[.string e.n,.int .i64 e.y,.int .i64 e.mo,.int .i64 e.d,.int .i64 e.h,.int .i64 e.mi,.int .i64 e.s,.string e.t] 31)).alloc (.cells #[.string e.n,.int .i64 e.y,.int .i64 e.mo,.int .i64 e.d,.int .i64 e.h,.int .i64 e.mi,.int .i64 e.s,.string e.t] 31)).heap.size=b:=⟨_,rfl⟩;rw[hbx]at C;rw[hbx];rw[←l]at C a;clear l r c P q A u CD hbx;go_wp2_with fail;refine(ab C).mono ?_;rintro f x2 ⟨rfl,j⟩;have o:=ae (ai (ab a) j);clear j C a;obtain⟨t,k,v⟩:=D8 s (iP [e]);have H:=ae v;rw[v];clear v;go_wp2
 go_ret2
 exact⟨by rw[ab H];rfl,ab o⟩
theorem DW(l:List En)(e:En):iP [e] l=if aX l e=0 then(0,l++[e])else(aX l e,[]):=rfl
theorem uA(s:ByteArray)(e:En)(w:World)(A:s.size<=1048576)(K:e.n.size<=1048576)(M:(e.t.size:Int)<=9223372036854775807) :
  Calls prog 6 #[.string s,.agg #[.string e.n,.int .i64 e.y,.int .i64 e.mo,.int .i64 e.d,.int .i64 e.h,.int .i64 e.mi,.int .i64 e.s,.string e.t]] w fun f w'=>f = .returned (edR s (iP [e]))/\Below w.heap.size w w':=by
 have J:=ae ((a0c w.heap.size w).alloc (a0a _) (.cells #[.string e.n,.int .i64 e.y,.int .i64 e.mo,.int .i64 e.d,.int .i64 e.h,.int .i64 e.mi,.int .i64 e.s,.string e.t] 31));have P:=ae (aI w #[.string e.n,.int .i64 e.y,.int .i64 e.mo,.int .i64 e.d,.int .i64 e.h,.int .i64 e.mi,.int .i64 e.s,.string e.t] 31);have C:=ae (fun W=>uB s W A);have CA:=ae (fun W v l ob h O A=>FU v l e ob W h O A K M);clear A K M;go_enter func6,ntmps6;go_wp2_with fail;refine(ab C _).mono ?_;rintro f x1 ⟨⟨v,rfl,b⟩,k⟩;have o:=ae (ai (ab J) k);have N:=ae ((ab P).later k (ab P).1);clear C k J P;rcases m:eq s with _|l
 .
  have r:=ae (D9 m (iP [e]));clear m b;go_wp2
  go_ret2
  exact⟨by rw[ab r];rfl,ab o⟩
 .
  rw[m]at b;have b:iN x1 _ v l:=b;have g:=si m;have H:=ae (ab CA x1 v l _ b (jQ g).2 (fun i L=>by have:=(qJ g i L).1;omega));have E:=ae m;obtain⟨a,c,R,_,_⟩:=b.form;have S:=(ab N).cells (n:=8) rfl;clear m b CA g;subst R;go_wp2_with fail;refine(ab H).mono ?_;rintro f x2 ⟨⟨v2,rfl,z,_⟩,u⟩;have p:=ae (ai (ab o) u);have D:=ae z;clear u z H S;by_cases j:aX l e=0
  .
   have hd:iP [e] l=(0,l++[e]):=by rw[DW,a0e j]
   have g:=(kI (si (ab E)) e).2 j;obtain⟨n,hn⟩:∃n,(l++[e]).length=n:=⟨_,rfl⟩;have G:=ab D j;obtain⟨a2,c2,rfl,_,_⟩:=G.formN hn;have I:=ae (FR a2 c2 n (l++[e]) x2 hn (kh hn G) (by have:=(jQ g).2;omega) (fun i L=>IW g (by omega)));have F:=ae (MM g hn);have r:=ae (IK (ab E) hd);rw[j];clear j hd g hn G D;go_wp2_with fail;refine(ab I).mono ?_;rintro f x3 ⟨rfl,x⟩;have B:=ae (ai (ab p) x);rw[←ab F];clear x I;go_wp2
   go_ret2
   exact⟨by rw[ab r];rfl,ab B⟩
  .
   have hd:iP [e] l=(aX l e,[]):=by rw[DW,a0d j]
   have r:=ae (MQ (ab E) hd j);have Q:decide (aX l e=0)=false:=a0h j;clear hd D;generalize aX l e=q at *
   go_wp2
   go_ret2
   exact⟨by rw[ab r];rfl,ab p⟩
theorem uQ(s n:ByteArray)(y mo d h mi q:Int)(t:ByteArray)(m:Int)(w:World)(S:s.size<=maxLen)(A:n.size<=maxLen)(U:t.size<=maxLen)(I:w.cell? ⟨2,0,none⟩=some (.int .i64 m))(Q:ox w)(O:dH w) :
  Ds 3 #[.string s,.agg #[.string n,.int .i64 y,.int .i64 mo,.int .i64 d,.int .i64 h,.int .i64 mi,.int .i64 q,.string t]] w (.bool true):=by
 unfold maxLen at S A U;have l:(t.size:Int)<=9223372036854775807:=by omega
 have G:=ae ((a0c w.heap.size w).alloc (a0a _) (.cells #[.string n,.int .i64 y,.int .i64 mo,.int .i64 d,.int .i64 h,.int .i64 mi,.int .i64 q,.string t] 25));have P:=ae (aI w #[.string n,.int .i64 y,.int .i64 mo,.int .i64 d,.int .i64 h,.int .i64 mi,.int .i64 q,.string t] 25);by_cases V:(1048576:Int)<(s.size:Int)
 . go_enter func3,ntmps3;go_wp2;go_ret;exact⟨rfl,ab G⟩
 .
  have L:=ae (AL n y mo d h mi q t (w.alloc (.cells #[.string n,.int .i64 y,.int .i64 mo,.int .i64 d,.int .i64 h,.int .i64 mi,.int .i64 q,.string t] 25)) (by omega) (by omega));have J:=ae (fun W (hh:n.size<=1048576)=>uA s ⟨n,y,mo,d,h,mi,q,t⟩ W (by omega) hh l);have K:=ae (fun W (hb:Below w.heap.size w W) (hh:n.size<=1048576)=>te s ⟨n,y,mo,d,h,mi,q,t⟩ m W (by omega) hh l ((hb.cell (p:=⟨2,0,none⟩) (World.block_lt_of_cell? _ _ I)).trans I) (Q.later hb) (O.later hb));clear I Q O S A U l;have B:=(ab P).cells (n:=8) rfl;go_enter func3,ntmps3;go_wp2_with fail;refine(ab L).mono ?_;rintro e x1 ⟨⟨k,rfl,R⟩,f⟩;have a:=ae (ai (ab G) f);have C:=ae ((ab P).later f (ab P).1);have M:=ae R;clear f R L B P G;by_cases k0:k<0
  . go_wp2;go_ret;exact⟨rfl,ab a⟩
  .
   have j:n.size<=1048576:=by have:=ab M (by omega);omega
   have o:=ae (fun W=>ab J W j);have r:=ae (fun W hb=>ab K W hb j);have B:=(ab C).cells (n:=8) rfl;clear J K j M;go_wp2_with fail;refine(ru n y mo d h mi q t _).mono ?_;rintro e x2 ⟨rfl,g⟩;have u:=ae (ai (ab a) g);have F:=ae ((ab C).later g (ab C).1);clear g B C a;go_wp2_with fail;refine(ab o _).mono ?_;rintro e x3 ⟨rfl,i⟩;have v:=ae (ai (ab u) i);have N:=ae ((ab F).later i (ab F).1);clear i F u o;have D:=ae (fun W (hb:Below w.heap.size w W)=>ab r W hb);obtain⟨T,c,H⟩:=D8 s (iP [⟨n,y,mo,d,h,mi,q,t⟩]);rw[H]at D;rw[H];clear H r;have B:=(ab N).cells (n:=8) rfl;go_wp2_with fail;refine(ru n y mo d h mi q t _).mono ?_;rintro e x4 ⟨rfl,x⟩;have b:=ae (ai (ab v) x);clear x B N v;go_wp2_with fail;refine(ab D _ (ab b)).mono ?_;rintro e x5 ⟨rfl,z⟩;have E:=ae (ai (ab b) z);clear z D b;go_wp2;go_ret;exact⟨rfl,ab E⟩
end Go.Proofs.YtchidddpplangaaGreatDoor
