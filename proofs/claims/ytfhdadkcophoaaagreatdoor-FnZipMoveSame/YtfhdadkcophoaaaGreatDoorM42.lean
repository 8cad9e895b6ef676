/- Of what the proof is made: 2 texts, one behind the other. -/
import Derived.Lib.QuietBelow
import Derived.Test.YtfhdadkcophoaaaGreatDoorM41
import Derived.Test.YtfhdadkcophoaaaGreatDoorM40
import Derived.Test.YtfhdadkcophoaaaGreatDoorM3
import Derived.Test.YtfhdadkcophoaaaGreatDoorM29
import Derived.Test.YtfhdadkcophoaaaGreatDoorM2
import Derived.Deep.RegionHeld
import Derived.Laws.AppendOwnNone
set_option linter.unusedSimpArgs false
set_option linter.unusedVariables false
set_option maxHeartbeats 6400000
namespace Go.Proofs.YtfhdadkcophoaaaGreatDoor
open Go.RowKit Corb
set_option maxRecDepth 100000
theorem fK{P:Program}{ops:Array Oper}{o:Oper}{a:Act}{w:World}{K:Act->World->Prop}{Q:Exit->Act->World->Prop}{E:Prop}
  (hg:o.guard=none) (s x:Operand) (t:TypeId) (hop:o.op=Op.call { callee:=Callee.builtin Builtin.append,args:=#[s,x],argTypes:=#[t,t] })
  (base:Nat) (e:TypeId) (i:TypeInfo) (z:Value) (size bytes:Nat) (h1:P.underlying t=some (.slice e)) (h2:P.info? e=some i) (h3:i.zero=some z) (h4:i.size=size) (h5:i.bytes=bytes) (h6:z.cells.size=size) (h7:0<size)
  (v:Value) (n:Nat) (xs:List Value) (hs:a.eval s=v) (hown:w.ownsRow base e size v n xs)
  (vx:Value) (base' m:Nat) (news:List Value) (hx:a.eval x=vx) (hsrc:w.ownsRow base' e size vx m news) (h1c:∀u∈news,u.oneCell'=true)
  (b1:n+m<=maxLen) (b2:(n+m)*bytes<=140737488355328) (b3:base<=w.heap.size)
  (hK:∀v' w',w'.ownsRow base e size v' (n+m) (xs++news)->w.grownBy w' v.ownBlock->K (a.put o.dst v') w') :
  if Region.wanted o (yielded ops a.tmps)=true then Oper.wp P o a w K Q else E:=by
 have hl:=hsrc.1;rcases hsrc.2 with⟨e0,h0⟩|⟨g,cap,cur,e0,hr⟩
 ·
  subst h0;have hnil:news=[]:=a13 (by rw[hl];simp);subst hnil;have hw:Region.wanted o (yielded ops a.tmps)=true:=by simp[Region.wanted,hg]
  rw[a0d hw];have hrun:=run_append_owned_none (P:=P) (w:=w) base t o.type e i size h1 h2 v n xs hown;unfold Oper.wp;simp[execOp,hop,resolve,invoke,builtin,hs,hx.trans e0,hrun,Result.andThen];refine hK v w ?_ (World.grownBy.same _ _);rw[a1l,a0X];exact hown
 · subst e0;exact cP hg s x t hop base e i z size bytes h1 h2 h3 h4 h5 h6 h7 v n xs hs hown ⟨g,0,none⟩ m cap news hx hl (a1R hsrc rfl) h1c b1 b2 b3 fun v' w' q1 q2 _=>hK v' w' q1 q2
theorem Fs(a b:ByteArray):bf a.data.toList b.data.toList=(a.toList == b.toList || (dQ a.data.toList b.data.toList || dQ b.data.toList a.data.toList)):=by
 unfold bf;rw[Lib.toList_data,Lib.toList_data,Bool.or_comm (dQ b.data.toList _)]
theorem wM(a:Option Addr)(cap:Nat)(l:List En)(n:Nat)(hn:l.length=n)(x:ByteArray)(w:World)(h:gT w a l)(hl:(n:Int)<=1048576)(hx:(x.size:Int)<=1048576)
  (hs:∀i,i<n->((l.getD i default).n.size:Int)<=1048576) :
  Calls Tryz.prog 139 #[.slice a n cap,.string x] w fun e w'=>e = .returned (.bool (gk l x))/\w'=w:=by
 have HS:=af hs;have HR:=af h;have HH:=af (fun k (hk:k<l.length)=>@pX l x k hk);have HM:=af (@nK l x);rw[hn]at HH HM;have HN:=af hn;clear h hs hn;go_enter Tryz.func139,Tryz.ntmps139;go_wp2_with fail
 go_loop [5] (fun i=>∃k:Nat,k<=n/\i = .int .i64 k/\(∀j,j<k->bf (l.getD j default).n.data.toList x.data.toList=false)) (fun i=>n-(intOf i).toNat)
 case atStart=>exact⟨0,a0h _,rfl,fun j hj=>absurd hj (by omega)⟩
 case round=>
  obtain⟨k,hk,rfl,hall⟩:=hrel;have HALL:=af hall;clear hall;by_cases hkn:k<n
  ·
   have hkI:(k:Int)<(n:Int):=by omega
   obtain⟨g,o,rfl,hg,hc⟩:=ae HR (by have:=ae HN;omega);have c0:=(hc k (by have:=ae HN;omega)).1;have HKN:=af hkn;have HHk:=af (ae HH k hkn);have hsk:=ae HS k hkn;have C1:=af (fun W=>kx (l.getD k default).n x W hsk hx);have C2:=af (fun W=>kx x (l.getD k default).n W hx hsk);have HNX:Hid (bf (l.getD k default).n.data.toList x.data.toList=false->∀j,j<k+1->bf (l.getD j default).n.data.toList x.data.toList=false):=by
    intro e j hj;by_cases hjk:j=k
    · rw[hjk];exact e
    · exact ae HALL j (by omega)
   rw[Fs]at HHk HNX;clear hc hk HALL hkn hsk;generalize (l.getD k default).n=p at *
   generalize dQ p.data.toList x.data.toList=u1 at *
   generalize dQ x.data.toList p.data.toList=u2 at *
   cases hB:(p.toList == x.toList)
   ·
    rw[hB]at HHk HNX;go_wp2_with fail;refine(ae C1 _).mono ?_;rintro e w1 ⟨rfl,hw⟩;rw[hw];clear hw;cases u1
    ·
     go_wp2_with fail;refine(ae C2 _).mono ?_;rintro e w2 ⟨rfl,hw⟩;rw[hw];clear hw;cases u2
     ·
      have HX:=af (ae HNX rfl);go_wp2
      go_round
      case rel=>exact⟨k+1,by have:=ae HKN;omega,by go_num,ae HX⟩
      case measure=>have:=ae HKN;simp[intOf];omega
     · have HE:=af (ae HHk rfl);go_wp2;go_ret;exact⟨by rw[ae HE];rfl,rfl⟩
    · have HE:=af (ae HHk rfl);go_wp2;go_ret;exact⟨by rw[ae HE];rfl,rfl⟩
   · rw[hB]at HHk;have HE:=af (ae HHk rfl);go_wp2;go_ret;exact⟨by rw[ae HE];rfl,rfl⟩
  ·
   obtain rfl:k=n:=by omega
   have HE:=af (ae HM (ae HALL));go_wp2;go_ret;exact⟨by rw[ae HE];rfl,rfl⟩
structure ESt (w:World) (e:En) (W:World):Prop where
 below:Below w.heap.size w W
 lt:w.heap.size<W.heap.size
 blk:Blk W w.heap.size [.string e.n,.int .i64 e.y,.int .i64 e.mo,.int .i64 e.d,.int .i64 e.h,.int .i64 e.mi,.int .i64 e.s,.string e.t]
theorem ESt.all{w W:World}{e:En}(h:ESt w e W):∀i,i<8->W.cell? ⟨w.heap.size,i,none⟩=[.string e.n,.int .i64 e.y,.int .i64 e.mo,.int .i64 e.d,.int .i64 e.h,.int .i64 e.mi,.int .i64 e.s,.string e.t][i]?:=h.blk.cells rfl
theorem ESt.drew{w W:World}{e:En}(h:ESt w e W):ESt w e W.drew:=⟨h.1.drew,h.2,h.3.drew⟩
theorem ESt.alloc{w W:World}{e:En}(h:ESt w e W)(o:Obj):ESt w e (W.alloc o):=by
 have hb:Below W.heap.size W (W.alloc o):=(a0b _ _).alloc (a0a _) _;exact⟨h.1.alloc (a0u h.2) o,a0g h.2 hb.size,h.3.later hb h.2⟩
theorem ESt.grown{w W W':World}{e:En}{v:Value}{n:Nat}{xs:List Value}(h:ESt w e W)(ho:W.ownsRow (w.heap.size+1) 26 8 v n xs)(hg:W.grownBy W' v.ownBlock):ESt w e W':=
 ⟨h.1.grown hg (a0u h.2) (fun k e=>by have:=(a0C ho k e).1;omega),a0g h.2 hg.size,h.3.grown hg (fun e=>by have:=(a0C ho _ e.symm).1;omega)⟩
theorem jZ{W:World}{g:Nat}{vs:List Value}(h:Blk W g vs):∀j u,vs[j]?=some u->W.cell? ((⟨g,0,none⟩:Addr).add j)=some u:=fun j u hj=>by
 have e:(⟨g,0,none⟩:Addr).add j=⟨g,j,none⟩:=by unfold Addr.add;split<;>simp_all
 rw[e];exact h.cell j u hj
theorem tY{W:World}{b n:Nat}{v:Value}{l:List En}{e:En}(hn:l.length=n)(h:W.ownsRow (b+1) 26 8 v (0+n+1) ([]++l.flatMap bp++bp e)):dC W b v (l++[e]):=
 aQ.mono (aQ.snoc hn (by rw[a0G,a0R]at h;exact h)) (a01 _)
theorem Di(v:Value)(l:List En)(e:En)(ob:Nat)(w:World)(h:dC w ob v l)(h6:l.length<=6)(hs:∀i,i<l.length->((l.getD i default).n.size:Int)<=1048576)(he:e.n.size<=1048576)(ht:(e.t.size:Int)<=9223372036854775807) :
  Calls Tryz.prog 103 #[v,.agg #[.string e.n,.int .i64 e.y,.int .i64 e.mo,.int .i64 e.d,.int .i64 e.h,.int .i64 e.mi,.int .i64 e.s,.string e.t]] w fun f w'=>(∃v',f = .returned (.tuple #[v',.int .i64 (aH l e)])/\(aH l e=0->dC w' w.heap.size v' (l++[e]))/\(aH l e≠0->v'=v))/\Below w.heap.size w w':=by
 have hmix:Tryz.prog.follows .mixedOrders=true:=by kernel_rfl
 obtain⟨i0,hi,hz0,hz1,hz2⟩:=a0r Tryz.infoEnt;obtain⟨n,hn⟩:∃n,l.length=n:=⟨_,rfl⟩;obtain⟨a,c,rfl,hc,_⟩:=h.formN hn;rw[hn]at h6 hs;have hnI:(n:Int)<=6:=by omega
 have HBd:Hid (0+n<=maxLen/\(0+n)*80<=140737488355328/\0+n+1<=maxLen/\(0+n+1)*80<=140737488355328):=by show _/\_;unfold maxLen;omega
 have HPw:Hid (ESt w e (w.alloc (.cells #[.string e.n,.int .i64 e.y,.int .i64 e.mo,.int .i64 e.d,.int .i64 e.h,.int .i64 e.mi,.int .i64 e.s,.string e.t] 26))):=⟨(a0b _ _).alloc (a0a _) _,by simp,az w _ _⟩;have CE:=af (ee e.n e.y e.mo e.d e.h e.mi e.s e.t (w.alloc (.cells #[.string e.n,.int .i64 e.y,.int .i64 e.mo,.int .i64 e.d,.int .i64 e.h,.int .i64 e.mi,.int .i64 e.s,.string e.t] 26)) he ht);have CC:=af (fun W (hb:Below w.heap.size w W)=>wM a c l n hn e.n W (bq hn (h.later hb (a0a _))) (by omega) (by omega) hs);have Hn:=af hn;have HO:=af h;clear h hs he ht hn hc h6;go_enter Tryz.func103,Tryz.ntmps103;go_wp2_with fail;refine(ae CE).mono ?_;rintro f x1 ⟨rfl,hb1⟩;have HP0:Hid (ESt w e x1):=⟨ag (ae HPw).1 hb1,a0g (ae HPw).2 hb1.size,(ae HPw).3.later hb1 (ae HPw).2⟩;clear CE hb1 HPw;have HB:=af (ae HP0).1;cases hE:fe e
 ·
  have HC:Hid (aH l e=1):=by show _=_;unfold aH;rw[a0e (by rw[hE];decide)]
  rw[show eZ e.n e.y e.mo e.d e.h e.mi e.s e.t=false from hE];clear hE;go_wp2
  go_ret2
  exact⟨⟨_,by rw[ae HC];rfl,fun h=>(by rw[ae HC]at h;cases h),fun _=>rfl⟩,ae HB⟩
 ·
  have HC0:Hid (aH l e=if gk l e.n then 3 else if 6<=n then 4 else 0):=by show _=_;unfold aH;rw[a0d hE,ae Hn]
  rw[show eZ e.n e.y e.mo e.d e.h e.mi e.s e.t=true from hE];clear hE;have pA:=(ae HP0).all;go_wp2_with fail;refine(ae CC _ (ae HB)).mono ?_;rintro f x2 ⟨rfl,hx2⟩;rw[hx2];clear CC pA hx2 x2;cases hA:gk l e.n
  ·
   rw[hA]at HC0;clear hA;by_cases h6:6<=n
   ·
    have HC:Hid (aH l e=4):=by show _=_;rw[ae HC0,a0e (by decide),a0d h6]
    have h6I:(6:Int)<=(n:Int):=by omega
    go_wp2
    go_ret2
    exact⟨⟨_,by rw[ae HC];rfl,fun h=>(by rw[ae HC]at h;cases h),fun _=>rfl⟩,ae HB⟩
   ·
    have HC:Hid (aH l e=0):=by show _=_;rw[ae HC0,a0e (by decide),a0e h6]
    have h6I:¬ (6:Int)<=(n:Int):=by omega
    clear HC0 h6 HB;go_wp2_with fail;refine wp_region_held_drew (S:=fun W=>∀i,i<8->W.cell? ⟨w.heap.size,i,none⟩=[.string e.n,.int .i64 e.y,.int .i64 e.mo,.int .i64 e.d,.int .i64 e.h,.int .i64 e.mi,.int .i64 e.s,.string e.t][i]?) hmix ((ae HP0).drew.all) (fun hS=>?_);refine ai 1 (.slice a n c) rfl (by kernel_rfl) (fun _ _ _ h=>h) rfl (fun W hSw=>by go_simp) hS ?_;refine ai 3 (.agg #[.string e.n,.int .i64 e.y,.int .i64 e.mo,.int .i64 e.d,.int .i64 e.h,.int .i64 e.mi,.int .i64 e.s,.string e.t]) rfl (by kernel_rfl) (fun _ _ _ h=>h) rfl (fun W hSw=>by go_simp) hS ?_;clear hS;have HP1:=af (ae HP0).drew;generalize x1.drew=W1 at *
    refine wpAnyH_ready (rs:=[0,4]) (by kernel_rfl) (by simp) ?_;refine AllReadyH.cons rfl (fun K hK=>?_) (AllReadyH.cons rfl (fun K hK=>?_) (AllReadyH.nil))
    ·
     go_simp;have HP2:=af ((ae HP1).alloc (.cells #[] 26));have HO2:=af (a1a (base:=w.heap.size+1) (size:=8) (e:=26) W1 #[] 0 (ae HP1).2 (by unfold maxLen;omega) rfl);refine Shut.out hK _ _ (ae HP2).all (fun _=>?_);clear hK K;obtain⟨G0,hG0⟩:∃x,W1.heap.size=x:=⟨_,rfl⟩;obtain⟨W2,hW2⟩:∃x,W1.alloc (.cells #[] 26)=x:=⟨_,rfl⟩;rw[hG0,hW2]at HO2;rw[hW2]at HP2;rw[hG0,hW2];refine wpAnyH_ready (rs:=[2,4]) (by kernel_rfl) (by simp) ?_;refine AllReadyH.cons rfl (fun K hK=>?_) (AllReadyH.cons rfl (fun K hK=>?_) (AllReadyH.nil))
     ·
      refine fK rfl (.tmp 22) (.tmp 23) 30 rfl (w.heap.size+1) 26 i0 (.agg #[.string ⟨#[]⟩,.int .i64 0,.int .i64 0,.int .i64 0,.int .i64 0,.int .i64 0,.int .i64 0,.string ⟨#[]⟩]) 8 80 a1i hi hz0 hz1 hz2 rfl (by decide) (Value.slice (some ⟨G0,0,none⟩) 0 0) 0 [] rfl (ae HO2) _ ob n (l.flatMap bp) rfl (aQ.own (ae Hn) ((ae HO).later (ae HP2).1 (a0a _))) (lk _) (ae HBd).1 (ae HBd).2.1 (ae HP2).2 ?_;intro v3 W3 hown hgrow;have HP3:=af ((ae HP2).grown (ae HO2) hgrow);have HO3:=af hown;clear hown hgrow;refine Shut.out hK _ _ (ae HP3).all (fun _=>?_);clear hK K;refine aj 4 (by kernel_rfl) rfl fun K hK=>?_;go_simp;have HP4:=af ((ae HP3).alloc (.cells #[.string e.n,.int .i64 e.y,.int .i64 e.mo,.int .i64 e.d,.int .i64 e.h,.int .i64 e.mi,.int .i64 e.s,.string e.t] 26));have HX4:=af (az W3 #[.string e.n,.int .i64 e.y,.int .i64 e.mo,.int .i64 e.d,.int .i64 e.h,.int .i64 e.mi,.int .i64 e.s,.string e.t] 26);have HO4:=af (a0m (ae HO3) (.cells #[.string e.n,.int .i64 e.y,.int .i64 e.mo,.int .i64 e.d,.int .i64 e.h,.int .i64 e.mi,.int .i64 e.s,.string e.t] 26));have hlt:∀j,v3.ownBlock=some j->j<W3.heap.size:=fun j hj=>(a0C (ae HO3) j hj).2;refine Shut.out hK _ _ (ae HP4).all (fun _=>?_);clear hK K;obtain⟨G1,hG1⟩:∃x,W3.heap.size=x:=⟨_,rfl⟩;obtain⟨W4,hW4⟩:∃x,W3.alloc (.cells #[.string e.n,.int .i64 e.y,.int .i64 e.mo,.int .i64 e.d,.int .i64 e.h,.int .i64 e.mi,.int .i64 e.s,.string e.t] 26)=x:=⟨_,rfl⟩;rw[hG1,hW4]at HX4;rw[hW4]at HP4 HO4;rw[hG1]at hlt;rw[hG1,hW4];refine aj 5 (by kernel_rfl) rfl fun K hK=>?_;refine cP rfl (.tmp 24) (.tmp 26) 30 rfl (w.heap.size+1) 26 i0 (.agg #[.string ⟨#[]⟩,.int .i64 0,.int .i64 0,.int .i64 0,.int .i64 0,.int .i64 0,.int .i64 0,.string ⟨#[]⟩]) 8 80 a1i hi hz0 hz1 hz2 rfl (by decide) v3 (0+n) ([]++l.flatMap bp) rfl (ae HO4) ⟨G1,0,none⟩ 1 1 (bp e) rfl rfl (jZ (ae HX4)) (eW _) (ae HBd).2.2.1 (ae HBd).2.2.2 (ae HP4).2 ?_;intro v8 W8 hown hgrow hnil;have HP8:=af ((ae HP4).grown (ae HO4) hgrow);have HO8:=af hown;clear hown hgrow hnil;refine Shut.out hK _ _ (ae HP8).all (fun _=>?_);clear hK K;refine aj 6 (by kernel_rfl) rfl fun K hK=>?_;go_simp;refine Shut.out hK _ _ (ae HP8).all (fun _=>?_);clear hK K;refine aj 7 (by kernel_rfl) rfl fun K hK=>?_;go_simp;refine Shut.out hK _ _ (ae HP8).all (fun _=>?_);clear hK K;refine wpAnyH_done (by kernel_rfl) ?_ _;go_wp2
      go_ret2
      exact⟨⟨_,by rw[ae HC];rfl,fun _=>tY (ae Hn) (ae HO8),fun h=>absurd (ae HC) h⟩,(ae HP8).1⟩
     ·
      go_simp;have HP3:=af ((ae HP2).alloc (.cells #[.string e.n,.int .i64 e.y,.int .i64 e.mo,.int .i64 e.d,.int .i64 e.h,.int .i64 e.mi,.int .i64 e.s,.string e.t] 26));have HX3:=af (az W2 #[.string e.n,.int .i64 e.y,.int .i64 e.mo,.int .i64 e.d,.int .i64 e.h,.int .i64 e.mi,.int .i64 e.s,.string e.t] 26);have HO3:=af (a0m (ae HO2) (.cells #[.string e.n,.int .i64 e.y,.int .i64 e.mo,.int .i64 e.d,.int .i64 e.h,.int .i64 e.mi,.int .i64 e.s,.string e.t] 26));have hlt:∀j,(Value.slice (some ⟨G0,0,none⟩) 0 0).ownBlock=some j->j<W2.heap.size:=fun j hj=>(a0C (ae HO2) j hj).2;refine Shut.out hK _ _ (ae HP3).all (fun _=>?_);clear hK K;obtain⟨G1,hG1⟩:∃x,W2.heap.size=x:=⟨_,rfl⟩;obtain⟨W3,hW3⟩:∃x,W2.alloc (.cells #[.string e.n,.int .i64 e.y,.int .i64 e.mo,.int .i64 e.d,.int .i64 e.h,.int .i64 e.mi,.int .i64 e.s,.string e.t] 26)=x:=⟨_,rfl⟩;rw[hG1,hW3]at HX3;rw[hW3]at HP3 HO3;rw[hG1]at hlt;rw[hG1,hW3];refine aj 2 (by kernel_rfl) rfl fun K hK=>?_;have hlt0:G0<G1:=hlt G0 rfl;refine fK rfl (.tmp 22) (.tmp 23) 30 rfl (w.heap.size+1) 26 i0 (.agg #[.string ⟨#[]⟩,.int .i64 0,.int .i64 0,.int .i64 0,.int .i64 0,.int .i64 0,.int .i64 0,.string ⟨#[]⟩]) 8 80 a1i hi hz0 hz1 hz2 rfl (by decide) (Value.slice (some ⟨G0,0,none⟩) 0 0) 0 [] rfl (ae HO3) _ ob n (l.flatMap bp) rfl (aQ.own (ae Hn) ((ae HO).later (ae HP3).1 (a0a _))) (lk _) (ae HBd).1 (ae HBd).2.1 (ae HP3).2 ?_;intro v4 W4 hown hgrow;have HP4:=af ((ae HP3).grown (ae HO3) hgrow);have HO4:=af hown;have HX4:=af ((ae HX3).grown hgrow (fun e=>by have h6:G1=G0:=a1u e;omega));clear hown hgrow;refine Shut.out hK _ _ (ae HP4).all (fun _=>?_);clear hK K;refine aj 5 (by kernel_rfl) rfl fun K hK=>?_;refine cP rfl (.tmp 24) (.tmp 26) 30 rfl (w.heap.size+1) 26 i0 (.agg #[.string ⟨#[]⟩,.int .i64 0,.int .i64 0,.int .i64 0,.int .i64 0,.int .i64 0,.int .i64 0,.string ⟨#[]⟩]) 8 80 a1i hi hz0 hz1 hz2 rfl (by decide) v4 (0+n) ([]++l.flatMap bp) rfl (ae HO4) ⟨G1,0,none⟩ 1 1 (bp e) rfl rfl (jZ (ae HX4)) (eW _) (ae HBd).2.2.1 (ae HBd).2.2.2 (ae HP4).2 ?_;intro v8 W8 hown hgrow hnil;have HP8:=af ((ae HP4).grown (ae HO4) hgrow);have HO8:=af hown;clear hown hgrow hnil;refine Shut.out hK _ _ (ae HP8).all (fun _=>?_);clear hK K;refine aj 6 (by kernel_rfl) rfl fun K hK=>?_;go_simp;refine Shut.out hK _ _ (ae HP8).all (fun _=>?_);clear hK K;refine aj 7 (by kernel_rfl) rfl fun K hK=>?_;go_simp;refine Shut.out hK _ _ (ae HP8).all (fun _=>?_);clear hK K;refine wpAnyH_done (by kernel_rfl) ?_ _;go_wp2
      go_ret2
      exact⟨⟨_,by rw[ae HC];rfl,fun _=>tY (ae Hn) (ae HO8),fun h=>absurd (ae HC) h⟩,(ae HP8).1⟩
    ·
     go_simp;have HP2:=af ((ae HP1).alloc (.cells #[.string e.n,.int .i64 e.y,.int .i64 e.mo,.int .i64 e.d,.int .i64 e.h,.int .i64 e.mi,.int .i64 e.s,.string e.t] 26));have HX2:=af (az W1 #[.string e.n,.int .i64 e.y,.int .i64 e.mo,.int .i64 e.d,.int .i64 e.h,.int .i64 e.mi,.int .i64 e.s,.string e.t] 26);refine Shut.out hK _ _ (ae HP2).all (fun _=>?_);clear hK K;obtain⟨G1,hG1⟩:∃x,W1.heap.size=x:=⟨_,rfl⟩;obtain⟨W2,hW2⟩:∃x,W1.alloc (.cells #[.string e.n,.int .i64 e.y,.int .i64 e.mo,.int .i64 e.d,.int .i64 e.h,.int .i64 e.mi,.int .i64 e.s,.string e.t] 26)=x:=⟨_,rfl⟩;rw[hG1,hW2]at HX2;rw[hW2]at HP2;rw[hG1,hW2];refine aj 0 (by kernel_rfl) rfl fun K hK=>?_;go_simp;have HP3:=af ((ae HP2).alloc (.cells #[] 26));have HO3:=af (a1a (base:=w.heap.size+1) (size:=8) (e:=26) W2 #[] 0 (ae HP2).2 (by unfold maxLen;omega) rfl);have HX3:=af ((ae HX2).later ((a0b _ _).alloc (a0a _) (.cells #[] 26)) (ae HX2).1);have hlt:=(ae HX2).1;refine Shut.out hK _ _ (ae HP3).all (fun _=>?_);clear hK K;obtain⟨G0,hG0⟩:∃x,W2.heap.size=x:=⟨_,rfl⟩;obtain⟨W3,hW3⟩:∃x,W2.alloc (.cells #[] 26)=x:=⟨_,rfl⟩;rw[hG0,hW3]at HO3;rw[hW3]at HP3 HX3;rw[hG0,hW3];refine aj 2 (by kernel_rfl) rfl fun K hK=>?_;have hlt0:G1<G0:=by omega
     refine fK rfl (.tmp 22) (.tmp 23) 30 rfl (w.heap.size+1) 26 i0 (.agg #[.string ⟨#[]⟩,.int .i64 0,.int .i64 0,.int .i64 0,.int .i64 0,.int .i64 0,.int .i64 0,.string ⟨#[]⟩]) 8 80 a1i hi hz0 hz1 hz2 rfl (by decide) (Value.slice (some ⟨G0,0,none⟩) 0 0) 0 [] rfl (ae HO3) _ ob n (l.flatMap bp) rfl (aQ.own (ae Hn) ((ae HO).later (ae HP3).1 (a0a _))) (lk _) (ae HBd).1 (ae HBd).2.1 (ae HP3).2 ?_;intro v4 W4 hown hgrow;have HP4:=af ((ae HP3).grown (ae HO3) hgrow);have HO4:=af hown;have HX4:=af ((ae HX3).grown hgrow (fun e=>by have h6:G1=G0:=a1u e;omega));clear hown hgrow;refine Shut.out hK _ _ (ae HP4).all (fun _=>?_);clear hK K;refine aj 5 (by kernel_rfl) rfl fun K hK=>?_;refine cP rfl (.tmp 24) (.tmp 26) 30 rfl (w.heap.size+1) 26 i0 (.agg #[.string ⟨#[]⟩,.int .i64 0,.int .i64 0,.int .i64 0,.int .i64 0,.int .i64 0,.int .i64 0,.string ⟨#[]⟩]) 8 80 a1i hi hz0 hz1 hz2 rfl (by decide) v4 (0+n) ([]++l.flatMap bp) rfl (ae HO4) ⟨G1,0,none⟩ 1 1 (bp e) rfl rfl (jZ (ae HX4)) (eW _) (ae HBd).2.2.1 (ae HBd).2.2.2 (ae HP4).2 ?_;intro v8 W8 hown hgrow hnil;have HP8:=af ((ae HP4).grown (ae HO4) hgrow);have HO8:=af hown;clear hown hgrow hnil;refine Shut.out hK _ _ (ae HP8).all (fun _=>?_);clear hK K;refine aj 6 (by kernel_rfl) rfl fun K hK=>?_;go_simp;refine Shut.out hK _ _ (ae HP8).all (fun _=>?_);clear hK K;refine aj 7 (by kernel_rfl) rfl fun K hK=>?_;go_simp;refine Shut.out hK _ _ (ae HP8).all (fun _=>?_);clear hK K;refine wpAnyH_done (by kernel_rfl) ?_ _;go_wp2
     go_ret2
     exact⟨⟨_,by rw[ae HC];rfl,fun _=>tY (ae Hn) (ae HO8),fun h=>absurd (ae HC) h⟩,(ae HP8).1⟩
  ·
   have HC:Hid (aH l e=3):=by show _=_;rw[ae HC0,hA,a0d rfl]
   clear hA;go_wp2
   go_ret2
   exact⟨⟨_,by rw[ae HC];rfl,fun h=>(by rw[ae HC]at h;cases h),fun _=>rfl⟩,ae HB⟩
theorem EO{M l:List En}{k:Nat}(hk:k<M.length):fX (M.drop k) l=if aH l (M.getD k default)=0 then fX (M.drop (k+1)) (l++[M.getD k default])else(aH l (M.getD k default),[]):=by
 have e:M.drop k=M.getD k default :: M.drop (k+1):=by
  rw[a27 hk];simp[List.getD,hk]
 rw[e];rfl
theorem vo(M:List En)(a:Option Addr)(c N:Nat)(hN:M.length=N)(v:Value)(l:List En)(bx b:Nat)(m:Int)(w:World)(h:dC w b v l)(hz:aY l=true)(hb:b<=w.heap.size)(hx:w.cell? ⟨bx,0,none⟩=some (.slice a N c))
  (hM:∀W,Below b w W->gT W a M) (hs:∀i,i<N->(M.getD i default).n.size<=1048576/\((M.getD i default).t.size:Int)<=9223372036854775807) (hN6:N<=6) (hm:∀W,Below b w W->W.cell? ⟨2,0,none⟩=some (.int .i64 m)) :
  Calls Tryz.prog 65 #[v,.pointer (some ⟨bx,0,none⟩)] w (vn b w (fX M l)):=by
 obtain⟨i0,hi,hz0,hz1,hz2⟩:=a0r Tryz.infoEnt;have hNI:(N:Int)<=6:=by omega
 have HN:=af hN;have HS:=af hs;have HM:=af hM;have CM:=af hm;have HI:=af (a0c h (a0c hz hb));obtain⟨n0,hn0⟩:∃n,l.length=n:=⟨_,rfl⟩;obtain⟨fa,fc,rfl,_,_⟩:=h.formN hn0;clear h hz hb hN hs hM hm hN6 hn0;go_enter Tryz.func65,Tryz.ntmps65;go_wp2_with fail
 go_loopw [0,6,7,10] (fun f _ _ i wr=>∃(k:Nat) (L:List En),k<=N/\i = .int .i64 k/\dC wr b f L/\aY L=true/\fX (M.drop k) L=fX M l/\Below b w wr) (fun _ _ _ i _=>N-(intOf i).toNat)
 case atStart=>exact⟨0,l,a0h _,rfl,(ae HI).1,(ae HI).2.1,rfl,a0b _ _⟩
 case round=>
  obtain⟨k,L,hk,rfl,ho,hzL,hadd,hbel⟩:=hrel;have hbw:=(ae HI).2.2;have HO:=af ho;have HZ:=af hzL;have HA:=af hadd;have HB:=af hbel;have HSz:Hid (b<=wr.heap.size):=a0D hbw hbel.size;obtain⟨n,hn⟩:∃n,L.length=n:=⟨_,rfl⟩;obtain⟨fa,fc,rfl,_,_⟩:=ho.formN hn;have h6:=(da hzL).2;have hn6:n<=6:=by omega
  have Hn:=af hn;clear ho hzL hadd hbw h6;by_cases hkN:k<N
  ·
   have hkI:(k:Int)<(N:Int):=by omega
   obtain⟨g,o,rfl,hg,hc⟩:=(ae HM) wr hbel (by have:=ae HN;omega);obtain⟨c0,c1,c2,c3,c4,c5,c6,c7⟩:=hc k (by have:=ae HN;omega);have HKN:=af hkN;have HSk:=af (ae HS k hkN);have HST:Hid (fX (M.drop k) L=_):=EO (by have:=ae HN;omega);clear hc hk hkN hbel;generalize M.getD k default=en at *
   have hA:=(a0b wr.heap.size wr).alloc (a0a _) (.cells #[.string en.n,.int .i64 en.y,.int .i64 en.mo,.int .i64 en.d,.int .i64 en.h,.int .i64 en.mi,.int .i64 en.s,.string en.t] 26);have HB1:=af ((ae HB).trans (hA.mono (ae HSz)));have HO1:=af ((ae HO).later hA (a0a _));have P1:=af (az wr #[.string en.n,.int .i64 en.y,.int .i64 en.mo,.int .i64 en.d,.int .i64 en.h,.int .i64 en.mi,.int .i64 en.s,.string en.t] 26);have CR:=af (kU fa fc L n hn en m _ (bq hn (ae HO1)) (by omega) (fun i hi=>by have:=(lK (ae HZ) i (by omega)).1;omega) (ae HSk).1 (ae HSk).2 (ae CM _ (ae HB1)));clear hA;go_wp2_with fail;refine(ae CR).mono ?_;rintro f x1 ⟨rfl,hb1⟩;have HB2:=af ((ae HB1).trans (hb1.mono (a0D (ae HSz) (by simp))));have HO2:=af ((ae HO1).later hb1 (a0a _));have P2:=af ((ae P1).later hb1 (ae P1).1);have HSz2:Hid (b<=x1.heap.size):=a0D (ae HSz) (a0D (by simp) hb1.size);clear hb1 CR c0 c1 c2 c3 c4 c5 c6 c7 HB1 HO1 P1 hn;by_cases hc0:aH L en=0
   ·
    rw[show cH (aH L en) = .nilIface by rw[hc0];rfl];have HNX:Hid (aY (L++[en])=true/\fX (M.drop (k+1)) (L++[en])=fX M l):=by
     refine⟨(eK (ae HZ) _).2 hc0,?_⟩;rw[←ae HA,ae HST,a0d hc0]
    have hlen:Hid (n+1<=maxLen/\(n+1)*80<=140737488355328):=by show _/\_;unfold maxLen;omega
    have hf1:=aQ.own (ae Hn) (ae HO2);have hbs1:=ae HSz2;have pA:=(ae P2).cells (n:=8) rfl;clear hc0 HST HA;go_wp2_with (at_builtin;refine a0F _ rfl _ _ 30 rfl b 26 i0 (.agg #[.string ⟨#[]⟩,.int .i64 0,.int .i64 0,.int .i64 0,.int .i64 0,.int .i64 0,.int .i64 0,.string ⟨#[]⟩]) 8 80 a1i hi hz0 hz1 hz2 rfl (by decide) _ _ _ rfl (a0m hf1 _) ⟨x1.heap.size,0,none⟩ 1 1 (bp en) rfl rfl (gO x1 _ _) (eW _) (ae hlen).1 (ae hlen).2 (ay hbs1 _) ?_;intro v5 x5 hown hgrow hnil;clear hnil;have hb6:=aK (v:=.slice fa n fc) hgrow hf1 (a0a _) hbs1 (ae HB2));have HO5:Hid (dC x5 b v5 (L++[en])):=aQ.snoc (ae Hn) hown;have HB5:=af hb6;clear hown hgrow hb6 hf1 hbs1 pA;go_wp2;go_roundw
    case rel=>exact⟨k+1,_,by have:=ae HKN;omega,by go_num,ae HO5,(ae HNX).1,(ae HNX).2,ae HB5⟩
    case measure=>have:=ae HKN;simp[intOf];omega
   ·
    rw[show cH (aH L en) = .iface 92 (.agg #[.int .i64 (aH L en)]) by unfold cH;rw[a0e hc0]];have HD:Hid ((fX M l).1=aH L en):=by show _=_;rw[←ae HA,ae HST,a0e hc0]
    have HC:=af hc0;clear hc0 HST HA;generalize aH L en=q at *
    go_wp2
    go_ret2
    exact AJ (ae HD) (ae HC) (ae HB2)
  ·
   obtain rfl:k=N:=by omega
   have HD:Hid (fX M l=(0,L)):=by show _=_;rw[←ae HA,a2V (by rw[ae HN];exact a0a _)];rfl
   clear hbel;go_wp2
   go_ret2
   refine⟨⟨.slice fa n fc,?_,⟨_,_,_,rfl⟩,fun _=>?_⟩,ae HB⟩
   · rw[ae HD];rfl
   · rw[ae HD];exact ae HO
theorem oG(a:Option Addr)(n c:Nat)(w:World) :
  Calls Tryz.prog 34 #[.slice a n c] w fun f w'=>f = .returned (.func (.func 65) #[] #[.pointer (some ⟨w.heap.size,0,none⟩)])/\w'=w.alloc (.cells #[.slice a n c] 30):=by
 go_enter Tryz.func34,Tryz.ntmps34;go_wp2;go_ret;exact⟨rfl,rfl⟩
theorem vp(s:ByteArray)(d:List En->Int×List En)(bx:Nat)(m:Int)(w:World)(hs:s.size<=1048576)(hm:w.cell? ⟨2,0,none⟩=some (.int .i64 m))(hg:iq w)(hO:bY w)
  (hd:∀l,aY l=true->(d l).1=0->aY (d l).2=true)
  (hD:∀W v l,dp s=some l->Below w.heap.size w W->dC W w.heap.size v l->Calls Tryz.prog 65 #[v,.pointer (some ⟨bx,0,none⟩)] W (vn w.heap.size W (d l))) :
  Calls Tryz.prog 33 #[.string s,.func (.func 65) #[] #[.pointer (some ⟨bx,0,none⟩)]] w fun f w'=>f = .returned (edR s d)/\Below w.heap.size w w':=by
 have C:=af (dH s m w hs hm hg hO);have HM:=af hm;have hmb:=af (World.block_lt_of_cell? _ _ hm);have CM:=af (fun W (hb:Below w.heap.size w W)=>(hb.cell (p:=⟨2,0,none⟩) (ae hmb)).trans (ae HM));have HG:=af (fun W (hb:Below w.heap.size w W)=>hg.later hb);have HOr:=af (fun W (hb:Below w.heap.size w W)=>hO.later hb);have HD:=af hD;have Hd:=af hd;have HS:=af hs;clear hs hm hg hO hd hD;go_enter Tryz.func33,Tryz.ntmps33;go_wp2_with fail;refine(ae C).mono ?_;rintro f x1 ⟨⟨v,rfl,hown⟩,hb1⟩;have HB1:=af hb1;clear C;rcases hz:dp s with _|l
 ·
  have HE:=af (AL hz d);clear hz hown hb1;go_wp2
  go_ret2
  exact⟨by rw[ae HE];rfl,ae HB1⟩
 ·
  rw[hz]at hown;have CD:=af (ae HD x1 v l hz hb1 hown);have HZ:=af hz;clear hz hown hb1 HD;go_wp2_with fail;refine(ae CD).mono ?_;rintro f x2 ⟨⟨v2,rfl,⟨a,n,c,rfl⟩,hv2⟩,hb2⟩;have HB2:=af ((ae HB1).trans hb2);have CC:=af (iG (d l).1 x2 (ae HG _ (ae HB2)));have HV:=af hv2;clear hb2 hv2 CD;obtain⟨q,hq⟩:∃q,d l=q:=⟨_,rfl⟩;have Hq:=af hq;rw[hq]at CC HV;rw[hq];clear hq;obtain⟨k,r⟩:=q;simp only at CC HV;simp only;obtain⟨FV,hFV⟩:∃x,cH k=x:=⟨_,rfl⟩;rw[hFV]at CC;rw[hFV];clear hFV;go_wp2_with fail;refine(ae CC).mono ?_;rintro f x3 ⟨rfl,hb3⟩;have HB3:=af (ag (ae HB2) hb3);have HB23:=af hb3;clear hb3 CC;by_cases hk:k=0
  ·
   subst hk;have hzb:aY r=true:=by have:=ae Hd l (nJ (ae HZ)) (by rw[ae Hq]);rw[ae Hq]at this;exact this
   have hr:dC x2 w.heap.size (.slice a n c) r:=ae HV rfl;obtain⟨N,hN⟩:∃n,r.length=n:=⟨_,rfl⟩;obtain⟨a',c',e',hc',_⟩:=hr.formN hN;cases e'
   have hr3:=hr.later (ae HB23) (a0a _);have h6:=(da hzb).2;have CP:=af (bB a c r n hN m x3 (bq hN hr3) (by omega) (by omega) (fun i hi=>lK hzb i (by omega)) (ae CM _ (ae HB3)) (ae HG _ (ae HB3)) (ae HOr _ (ae HB3)));have HE:=af (nU (ae HZ) (ae Hq));clear hzb hr hr3 h6 HV HB23 HB2;go_wp2_with fail;refine(ae CP).mono ?_;rintro f x4 ⟨rfl,hb4⟩;have HB4:=af (ag (ae HB3) hb4);clear hb4 CP;go_wp2
   go_ret2
   exact⟨by rw[ae HE];rfl,ae HB4⟩
  ·
   have HE:=af (vV (ae HZ) (ae Hq) hk);have CK:=af (fun W=>jC s W (by have:=ae HS;omega));have hd:decide (k=0)=false:=a0n hk;go_wp2_with fail;refine(ae CK _).mono ?_;rintro f x4 ⟨rfl,hb4⟩;have HB4:=af (ag (ae HB3) hb4);clear hb4 CK;go_wp2
   go_ret2
   exact⟨by rw[ae HE];rfl,ae HB4⟩
theorem lM(s:ByteArray)(M:List En)(a:Option Addr)(c N:Nat)(hN:M.length=N)(bx:Nat)(m:Int)(w:World)(hs:s.size<=1048576)(hx:w.cell? ⟨bx,0,none⟩=some (.slice a N c))(hM:gT w a M)
  (hS:∀i,i<N->(M.getD i default).n.size<=1048576/\((M.getD i default).t.size:Int)<=9223372036854775807) (hN6:N<=6) (hm:w.cell? ⟨2,0,none⟩=some (.int .i64 m)) (hg:iq w) (hO:bY w) :
  Calls Tryz.prog 33 #[.string s,.func (.func 65) #[] #[.pointer (some ⟨bx,0,none⟩)]] w fun f w'=>f = .returned (edR s (fX M))/\Below w.heap.size w w':=
 vp s (fX M) bx m w hs hm hg hO (fun _ h h0=>Lf h h0)
  (fun W v l hz hb ho=>vo M a c N hN v l bx w.heap.size m W ho (nJ hz) hb.size ((hb.cell (p:=⟨bx,0,none⟩) (World.block_lt_of_cell? _ _ hx)).trans hx)
   (fun _ hb2=>hM.later (hb.trans hb2)) hS hN6 (fun _ hb2=>((hb.trans hb2).cell (p:=⟨2,0,none⟩) (World.block_lt_of_cell? _ _ hm)).trans hm))
theorem xy{W:World}{g:Nat}{e:En}(h:Blk W g (bp e)):gT W (some ⟨g,0,none⟩) [e]:=by
 intro _;refine⟨g,0,rfl,h.1,fun i hi=>?_⟩;have e0:i=0:=by simp at hi;exact hi
 subst e0;exact KZ fun j hj=>by
  rw[show(0+0*8+j)=j by omega];exact h.cells (n:=8) rfl j hj
theorem hH(s:ByteArray)(e:En)(m:Int)(w:World)(hs:s.size<=1048576)(he:e.n.size<=1048576)(ht:(e.t.size:Int)<=9223372036854775807)(hm:w.cell? ⟨2,0,none⟩=some (.int .i64 m))(hg:iq w)(hO:bY w) :
  Calls Tryz.prog 14 #[.string s,.agg #[.string e.n,.int .i64 e.y,.int .i64 e.mo,.int .i64 e.d,.int .i64 e.h,.int .i64 e.mi,.int .i64 e.s,.string e.t]] w fun f w'=>f = .returned (edR s (fX [e]))/\Below w.heap.size w w':=by
 have hA:=af ((a0b w.heap.size w).alloc (a0a _) (.cells #[.string e.n,.int .i64 e.y,.int .i64 e.mo,.int .i64 e.d,.int .i64 e.h,.int .i64 e.mi,.int .i64 e.s,.string e.t] 26));have hA2:=af ((ae hA).alloc (ae hA).size (.cells #[.string e.n,.int .i64 e.y,.int .i64 e.mo,.int .i64 e.d,.int .i64 e.h,.int .i64 e.mi,.int .i64 e.s,.string e.t] 26));have P:=af (az (w.alloc (.cells #[.string e.n,.int .i64 e.y,.int .i64 e.mo,.int .i64 e.d,.int .i64 e.h,.int .i64 e.mi,.int .i64 e.s,.string e.t] 26)) #[.string e.n,.int .i64 e.y,.int .i64 e.mo,.int .i64 e.d,.int .i64 e.h,.int .i64 e.mi,.int .i64 e.s,.string e.t] 26);have CM:=af (fun W (hb:Below w.heap.size w W)=>(hb.cell (p:=⟨2,0,none⟩) (World.block_lt_of_cell? _ _ hm)).trans hm);have CD:=af (fun W (hb:Below w.heap.size w W) g bx (hP:Blk W g (bp e)) (hx:W.cell? ⟨bx,0,none⟩=some (.slice (some ⟨g,0,none⟩) 1 1))=>lM s [e] (some ⟨g,0,none⟩) 1 1 rfl bx m W hs hx (xy hP) (fun i hi=>(by obtain rfl:i=0:=(by omega);exact⟨he,ht⟩)) (by omega) (ae CM W hb) (hg.later hb) (hO.later hb));clear hs he ht hm hg hO;go_enter Tryz.func14,Tryz.ntmps14;go_wp2_with fail;refine(oG _ _ _ _).mono ?_;rintro f x1 ⟨rfl,hx1⟩;have hB:=(a0b ((w.alloc (.cells #[.string e.n,.int .i64 e.y,.int .i64 e.mo,.int .i64 e.d,.int .i64 e.h,.int .i64 e.mi,.int .i64 e.s,.string e.t] 26)).alloc (.cells #[.string e.n,.int .i64 e.y,.int .i64 e.mo,.int .i64 e.d,.int .i64 e.h,.int .i64 e.mi,.int .i64 e.s,.string e.t] 26)).heap.size _).alloc (a0a _) (.cells #[.slice (some ⟨w.heap.size+1,0,none⟩) 1 1] 30);have P1:=(ae P).later hB (ae P).1;rw[show(w.alloc (.cells #[.string e.n,.int .i64 e.y,.int .i64 e.mo,.int .i64 e.d,.int .i64 e.h,.int .i64 e.mi,.int .i64 e.s,.string e.t] 26)).heap.size=w.heap.size+1 by simp]at P1;have hc:=(az ((w.alloc (.cells #[.string e.n,.int .i64 e.y,.int .i64 e.mo,.int .i64 e.d,.int .i64 e.h,.int .i64 e.mi,.int .i64 e.s,.string e.t] 26)).alloc (.cells #[.string e.n,.int .i64 e.y,.int .i64 e.mo,.int .i64 e.d,.int .i64 e.h,.int .i64 e.mi,.int .i64 e.s,.string e.t] 26)) #[.slice (some ⟨w.heap.size+1,0,none⟩) 1 1] 30).cell 0 _ rfl;have HB1:=af (ag (ae hA2) hB);have C:=af (ae CD _ (ae HB1) _ _ P1 hc);obtain⟨bx,hbx⟩:∃b,((w.alloc (.cells #[.string e.n,.int .i64 e.y,.int .i64 e.mo,.int .i64 e.d,.int .i64 e.h,.int .i64 e.mi,.int .i64 e.s,.string e.t] 26)).alloc (.cells #[.string e.n,.int .i64 e.y,.int .i64 e.mo,.int .i64 e.d,.int .i64 e.h,.int .i64 e.mi,.int .i64 e.s,.string e.t] 26)).heap.size=b:=⟨_,rfl⟩;rw[hbx]at C;rw[hbx];rw[←hx1]at C HB1;clear hx1 hA hA2 P P1 hc hB CD hbx;go_wp2_with fail;refine(ae C).mono ?_;rintro f x2 ⟨rfl,hb2⟩;have HB2:=af (ag (ae HB1) hb2);clear hb2 C HB1;obtain⟨t,k,hE⟩:=uo s (fX [e]);have HE:=af hE;rw[hE];clear hE;go_wp2
 go_ret2
 exact⟨by rw[ae HE];rfl,ae HB2⟩
def qG(a b:ByteArray):Value:=match dp b with
 | none=>.tuple #[.string ⟨#[]⟩,.int .i64 1]
 | some M=>edR a (fX M)
theorem sZ{a b:ByteArray}(h:dp b=none):qG a b = .tuple #[.string ⟨#[]⟩,.int .i64 1]:=by unfold qG;rw[h]
theorem s9{a b:ByteArray}{M:List En}(h:dp b=some M):qG a b=edR a (fX M):=by unfold qG;rw[h]
theorem jN(a b:ByteArray)(m:Int)(w:World)(ha:a.size<=1048576)(hb:b.size<=1048576)(hm:w.cell? ⟨2,0,none⟩=some (.int .i64 m))(hg:iq w)(hO:bY w) :
  Calls Tryz.prog 21 #[.string a,.string b] w fun f w'=>f = .returned (qG a b)/\Below w.heap.size w w':=by
 have C:=af (dH b m w hb hm hg hO);have CM:=af (fun W (hb:Below w.heap.size w W)=>(hb.cell (p:=⟨2,0,none⟩) (World.block_lt_of_cell? _ _ hm)).trans hm);have HG:=af (fun W (hb:Below w.heap.size w W)=>hg.later hb);have HOr:=af (fun W (hb:Below w.heap.size w W)=>hO.later hb);clear hb hm hg hO;go_enter Tryz.func21,Tryz.ntmps21;go_wp2_with fail;refine(ae C).mono ?_;rintro f x1 ⟨⟨v,rfl,hown⟩,hb1⟩;have HB1:=af hb1;clear C;rcases hz:dp b with _|M
 ·
  have HE:=af (sZ (a:=a) hz);clear hz hown hb1;go_wp2
  go_ret2
  exact⟨by rw[ae HE];rfl,ae HB1⟩
 ·
  rw[hz]at hown;have hown:dC x1 w.heap.size v M:=hown;obtain⟨n,hn⟩:∃n,M.length=n:=⟨_,rfl⟩;obtain⟨aa,c,rfl,_,_⟩:=hown.formN hn;have HE:=af (s9 (a:=a) hz);have hzb:=nJ hz;have hB:=(a0b x1.heap.size x1).alloc (a0a _) (.cells #[.slice aa n c] 30);have HB2:=af (ag hb1 hB);have CD:=af (lM a M aa c n hn x1.heap.size m _ ha ((az x1 #[.slice aa n c] 30).cell 0 _ rfl) ((bq hn hown).later hB) (fun i hi=>lK hzb i (by omega)) (by have:=(da hzb).2;omega) (ae CM _ (ae HB2)) (ae HG _ (ae HB2)) (ae HOr _ (ae HB2)));clear hz hown hb1 hB hzb hn ha;go_wp2_with fail;refine(oG _ _ _ _).mono ?_;rintro f x2 ⟨rfl,hx2⟩;subst hx2;go_wp2_with fail;refine(ae CD).mono ?_;rintro f x3 ⟨rfl,hb3⟩;have HB3:=af (ag (ae HB2) hb3);clear hb3 CD HB2;obtain⟨t,k,hF⟩:=uo a (fX M);have HF:=af hF;rw[hF];clear hF;go_wp2
  go_ret2
  exact⟨by rw[ae HE,ae HF];rfl,ae HB3⟩
end Go.Proofs.YtfhdadkcophoaaaGreatDoor
