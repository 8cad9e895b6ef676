/- Texts. -/
import Derived.Deep.Strs
import Derived.ShutString
import Derived.Test.YtfannoajibacnaaGreatDoorM34
import Derived.Test.YtfannoajibacnaaGreatDoorM36
set_option linter.all false
set_option maxRecDepth 100000
set_option maxHeartbeats 6400000
namespace Go.Proofs.YtfannoajibacnaaGreatDoor
open Go.Proofs.Tryz
open Go.RowKit Go.Deep Go.ChangeShapes Go.WideShapes
def Tryz.et:prog.globalNamed "errors.errorType" = some 0:=by kernel_rfl
def Tryz.rtt:(prog.cutTypes.find? (·.1 == "internal/reflectlite.rtype")).map (·.2)=some 178:=by kernel_rfl
def Tryz.tsize:∃n,prog.types.size=n/\((List.range n).filter fun t=>prog.rowNamed t [101,114,114,111,114])=[53]:=⟨_,rfl,by kernel_rfl⟩
def Rv{laid:List (String×DataW Unit)}{W:World}(h:laidMetH prog laid W)
  (hm:("errors.errorType",(DataW.iface "internal/reflectlite.rtype" (.agg [.ptr (.lit (.string [101,114,114,111,114]))]):DataW Unit))∈laid.filter fun x=>x.2.handleName?.isSome):j9 W:=by
 have h':handlesMet prog (laid.filter fun x=>x.2.handleName?.isSome) W:=by
  unfold laidMetH at h;generalize (laid.filter fun x=>x.2.handleName?.isSome)=fl at *
  cases fl with
  | nil=>cases hm
  | cons a r=>exact h.2
 obtain⟨name,u,ty,e1,e2,e3,e4,e5⟩:=h' _ hm;have en:name=[101,114,114,111,114]:=(a1A e1).symm;subst en;obtain rfl:=a1A (Tryz.rtt.symm.trans e2);obtain⟨n,hn,hone⟩:=Tryz.tsize;have hmm:ty∈(List.range n).filter fun t=>prog.rowNamed t [101,114,114,111,114]:=List.mem_filter.2 ⟨List.mem_range.2 (by rw[←hn];exact e3),e4⟩;rw[hone]at hmm;obtain rfl:=a09.1 hmm;have hh:typeHandle prog 53 = .pointer (some ⟨5,53,none⟩):=by kernel_rfl
 rw[hh]at e5;unfold j9;simpa using World.var?_cell Tryz.et e5 0
def Bq{P:Program}{w0:World}{laid:List (String×DataW Unit)}(args:Array Value)(b:w0.layFits P laid []=true)(c:w0.layIfaces P laid (w0.layVars P laid)=true) :
  laidMet P laid ((w0.layVars P laid).forCall (fun _ _=>0) ⟨#[],args,[]⟩).memory:=by
 have e1:(laid.filter fun x=>(laid.map (·.1)).contains x.1)=laid:=List.filter_eq_self.2 fun x a=>List.contains_iff_mem.2 (a2S.2 ⟨x,a,rfl⟩);have e2:(laid.filter fun x=>!(laid.map (·.1)).contains x.1)=[]:=List.filter_eq_nil_iff.2 fun x a=>by rw[List.contains_iff_mem.2 (a2S.2 ⟨x,a,rfl⟩)];simp
 have h:laidMet P laid (w0.layVars P laid):=laidMet_layVars (w0:=w0) (laid.map (·.1)) [] (by rw[e1]) (by rw[e1];exact b) (by rw[e1];exact c) (by rw[e2];exact LaidIn.none);exact h.of_heap (by simp[World.memory,World.forCall,Input.heap])
end Go.Proofs.YtfannoajibacnaaGreatDoor
namespace Go.Proofs.YtfannoajibacnaaGreatDoor
open Go.Proofs.Tryz
open Go.RowKit Corb
variable {W w:World}{d h mi mo s y:Int}{n t:ByteArray}
def nv.drew(k:nv w n y mo d h mi s t W):nv w n y mo d h mi s t W.drew:=⟨k.1.drew,k.2.1,k.2.2⟩
def nv.set(k:nv w n y mo d h mi s t W){A:Nat}(a:w.heap.size<A)(o:Nat)(v:Value):nv w n y mo d h mi s t (W.setCell ⟨A,o,none⟩ v):=by
 have e:(W.setCell ⟨A,o,none⟩ v).heap[w.heap.size]?=W.heap[w.heap.size]?:=a0M W ⟨A,o,none⟩ v w.heap.size (a1P a);obtain⟨b,c,e0,e1,e2,e3,e4,e5,e6,e7⟩:=k;exact⟨ai b (a0s a) _,by simpa using c,(World.cell?_of_block (w:=W) e).trans e0,(World.cell?_of_block (w:=W) e).trans e1,(World.cell?_of_block (w:=W) e).trans e2,(World.cell?_of_block (w:=W) e).trans e3,(World.cell?_of_block (w:=W) e).trans e4,(World.cell?_of_block (w:=W) e).trans e5,(World.cell?_of_block (w:=W) e).trans e6,(World.cell?_of_block (w:=W) e).trans e7⟩
def LhS(w:World)(n:ByteArray)(y mo d h mi s:Int)(t:ByteArray)(W:World):Prop:=nv w n y mo d h mi s t W/\Blk W (w.heap.size+1) [.int .i64 0,.int .i64 0,.int .i64 0,.int .i64 0,.int .i64 0,.string ⟨#[]⟩,.string ⟨#[]⟩]
def LhS.later{W':World}(k:LhS w n y mo d h mi s t W)(hb:Below W.heap.size W W'):LhS w n y mo d h mi s t W':=⟨k.1.later hb,k.2.later hb k.2.1⟩
def LhS.drew(k:LhS w n y mo d h mi s t W):LhS w n y mo d h mi s t W.drew:=⟨k.1.drew,k.2.drew⟩
def LhS.set(k:LhS w n y mo d h mi s t W){A:Nat}(a:w.heap.size+1<A)(o:Nat)(v:Value):LhS w n y mo d h mi s t (W.setCell ⟨A,o,none⟩ v):=⟨k.1.set (by omega) o v,k.2.set_other v (by omega)⟩
def uS(n t:ByteArray)(y mo d h mi s:Int)(w:World)(F:t.size<=1048576)(B:dp w) :
  Ds 33 #[.agg #[n,y,mo,d,h,mi,s,t]] w (.agg #[.int .i64 (dh t:Nat),.int .i64 (stI y mo d h mi s),.int .i64 (aE 0 t.data.toList:Nat),.int .i64 ((aO t).size:Nat),t.size,n,.string (aO t)]):=by
 have o:=cE
 have E:=af (fun W=>sU y mo d h mi s W);have C:=af (fun W=>tZ t W (by unfold maxLen;omega));have q:=af (fun W (B:dp W)=>sS t W F B);have u:=af B;have T0':Hid (LhS w n y mo d h mi s t ((w.alloc (.cells #[n,y,mo,d,h,mi,s,t] 26)).alloc (.cells #[.int .i64 0,.int .i64 0,.int .i64 0,.int .i64 0,.int .i64 0,.string ⟨#[]⟩,.string ⟨#[]⟩] 64))):=by
  have e1:nv w n y mo d h mi s t (w.alloc (.cells #[n,y,mo,d,h,mi,s,t] 26)):=⟨cC,by simp,by simp,by simp,by simp,by simp,by simp,by simp,by simp,by simp⟩;have e2:=ay (w.alloc (.cells #[n,y,mo,d,h,mi,s,t] 26)) #[.int .i64 0,.int .i64 0,.int .i64 0,.int .i64 0,.int .i64 0,.string ⟨#[]⟩,.string ⟨#[]⟩] 64;have e3:(w.alloc (.cells #[n,y,mo,d,h,mi,s,t] 26)).heap.size=w.heap.size+1:=by simp
  rw[e3]at e2;exact⟨e1.later cC,e2⟩
 have r:Hid ((cw t).size<t.size/\8=dh t/\cw t=aO t∨¬ (cw t).size<t.size/\0=dh t/\t=aO t):=by
  show _∨_;unfold dh aO;by_cases m:(cw t).size<t.size
  . exact a0J ⟨m,by rw[a0d m],by rw[a0d m]⟩
  . exact Or.inr ⟨m,by rw[a0e m],by rw[a0e m]⟩
 generalize cw t=fl at *
 generalize dh t=hw at *
 generalize aO t=bd at *
 generalize stI y mo d h mi s=st at *
 generalize aE 0 t.data.toList=cr at *
 clear F B;go_enter func33,ntmps33;go_wp2_with fail;obtain⟨W0,hW0⟩:∃x,(w.alloc (.cells #[n,y,mo,d,h,mi,s,t] 26)).alloc (.cells #[.int .i64 0,.int .i64 0,.int .i64 0,.int .i64 0,.int .i64 0,.string ⟨#[]⟩,.string ⟨#[]⟩] 64)=x:=⟨_,rfl⟩;rw[hW0]at T0';rw[hW0];have T0:=T0';clear T0' hW0;refine wp_region_held_drew (S:=fun W=>si W w.heap.size n y mo d h mi s t) o T0.1.2.2 (fun i=>?_);refine ag 0 (.pointer (some ⟨w.heap.size,7,none⟩)) rfl (fun W c=>by obtain⟨s0,s1,s2,s3,s4,s5,s6,s7⟩:=c;go_simp) i ?_;refine ag 1 (.string t) rfl (fun W c=>by obtain⟨s0,s1,s2,s3,s4,s5,s6,s7⟩:=c;go_simp) i ?_;have T1:Hid (LhS w n y mo d h mi s t W0.drew):=T0.drew;generalize W0.drew=W1 at *
 refine ah 2 fun K g=>?_;go_simp;refine Shut.out g _ _ T1.1.2.2 (fun i=>?_);clear g K;refine ah 3 fun K g=>?_;go_simp;refine Shut.out g _ _ T1.1.2.2 (fun i=>?_);clear g K;refine wpAnyH_done (by kernel_rfl) ?_ _;clear i;obtain⟨c0,c1,c2,c3,c4,G,H,I⟩:=T1.1.2.2;go_wp2_with fail;refine(q W1 (u.later T1.1.1)).mono ?_;rintro e W3⟨rfl,j⟩;have T3:=af (T1.later j);clear j c0 c1 c2 c3 c4 G H I q u T0 T1;go_upto_if 16 with fail;go_cut[3,4]from 9 to 17 (fun a b wx=>a = .int .i64 (hw:Nat)/\b = .string bd/\LhS w n y mo d h mi s t wx)
 case first=>
  rcases ae r with⟨m,e1,e2⟩|⟨m,e1,e2⟩
  .
   have J:(fl.size:Int)<(t.size:Int):=by omega
   have E1:=af e1;have E2:=af e2;clear e1 e2 m;go_wp2_with fail
   go_meet
   case rel=>exact⟨by rw[←ae E1];rfl,by rw[ae E2],T3⟩
  .
   have J:¬ (fl.size:Int)<(t.size:Int):=by omega
   have E1:=af e1;have E2:=af e2;clear e1 e2 m;go_wp2_with fail
   go_meet
   case rel=>exact⟨by rw[←ae E1];rfl,by rw[←ae E2],T3⟩
 case rest=>
  obtain⟨rfl,rfl,T3'⟩:=hcut;have T3:=af T3';clear T3' r;obtain⟨W3,hW3⟩:∃x,wc=x:=⟨_,rfl⟩;rw[hW3]at T3;rw[hW3];clear hW3;go_wp2_with fail;go_cut[6] (fun v wx=>∃A,v = .pointer (some ⟨A,0,none⟩)/\w.heap.size+1<A/\LhS w n y mo d h mi s t wx/\Blk wx A [.int .i64 (hw:Nat),.int .i64 st,.int .i64 (cr:Nat),.int .i64 (bd.size:Nat),.int .i64 (t.size:Nat),.string n])
  case first=>
   refine wp_region_held_drew (S:=fun W=>si W w.heap.size n y mo d h mi s t) o T3.1.2.2 (fun i=>?_);refine ag 0 (.int .i64 (hw:Nat)) rfl (fun W c=>by obtain⟨s0,s1,s2,s3,s4,s5,s6,s7⟩:=c;go_simp) i ?_;refine ag 1 (.pointer (some ⟨w.heap.size,1,none⟩)) rfl (fun W c=>by obtain⟨s0,s1,s2,s3,s4,s5,s6,s7⟩:=c;go_simp) i ?_;refine ag 2 (.agg #[y,mo,d,h,mi,s]) rfl (fun W c=>by obtain⟨s0,s1,s2,s3,s4,s5,s6,s7⟩:=c;go_simp) i ?_;refine ag 4 (.pointer (some ⟨w.heap.size,7,none⟩)) rfl (fun W c=>by obtain⟨s0,s1,s2,s3,s4,s5,s6,s7⟩:=c;go_simp) i ?_;refine ag 5 (.string t) rfl (fun W c=>by obtain⟨s0,s1,s2,s3,s4,s5,s6,s7⟩:=c;go_simp) i ?_;refine ag 7 (.string bd) rfl (fun W c=>by obtain⟨s0,s1,s2,s3,s4,s5,s6,s7⟩:=c;go_simp) i ?_;refine ag 8 (.int .i64 (bd.size:Nat)) rfl (fun W c=>by obtain⟨s0,s1,s2,s3,s4,s5,s6,s7⟩:=c;go_simp) i ?_;refine ag 9 (.pointer (some ⟨w.heap.size,7,none⟩)) rfl (fun W c=>by obtain⟨s0,s1,s2,s3,s4,s5,s6,s7⟩:=c;go_simp) i ?_;refine ag 10 (.string t) rfl (fun W c=>by obtain⟨s0,s1,s2,s3,s4,s5,s6,s7⟩:=c;go_simp) i ?_;refine ag 11 (.int .i64 (t.size:Nat)) rfl (fun W c=>by obtain⟨s0,s1,s2,s3,s4,s5,s6,s7⟩:=c;go_simp) i ?_;refine ag 12 (.pointer w.heap.size) rfl (fun W c=>by obtain⟨s0,s1,s2,s3,s4,s5,s6,s7⟩:=c;go_simp) i ?_;refine ag 13 (.string n) rfl (fun W c=>by obtain⟨s0,s1,s2,s3,s4,s5,s6,s7⟩:=c;go_simp) i ?_;have T4:Hid (LhS w n y mo d h mi s t W3.drew):=T3.drew;generalize W3.drew=W4 at *
   refine wpAnyH_ready (rs:=[3,15]) (by kernel_rfl) (by simp) ?_;refine AllReadyH.cons rfl (fun K g=>?_) (AllReadyH.cons rfl (fun K g=>?_) (AllReadyH.nil))
   .
    go_simp;go_at_call 72;refine(E W4).mono ?_;rintro e W5⟨rfl,j⟩;have T5:=af (T4.later j);refine Shut.out g _ _ T5.1.2.2 (fun i=>?_);clear g K j;refine wpAnyH_ready (rs:=[6,15]) (by kernel_rfl) (by simp) ?_;refine AllReadyH.cons rfl (fun K g=>?_) (AllReadyH.cons rfl (fun K g=>?_) (AllReadyH.nil))
    .
     go_simp;go_at_call 73;refine(C W5).mono ?_;rintro e W6⟨rfl,j⟩;have T6:=af (T5.later j);refine Shut.out g _ _ T6.1.2.2 (fun i=>?_);clear g K j;refine ag 14 (.agg #[hw,st,cr,bd.size,t.size,n]) rfl (fun W c=>by obtain⟨s0,s1,s2,s3,s4,s5,s6,s7⟩:=c;go_simp) i ?_;refine ah 15 fun K g=>?_;go_simp;have j:Below W6.heap.size W6 (W6.alloc (.cells #[.int .i64 0,.int .i64 0,.int .i64 0,.int .i64 0,.int .i64 0,.string ⟨#[]⟩] 62)):=cC;have T7:=af (T6.later j);have f:Hid (Blk (W6.alloc (.cells #[.int .i64 0,.int .i64 0,.int .i64 0,.int .i64 0,.int .i64 0,.string ⟨#[]⟩] 62)) W6.heap.size [.int .i64 0,.int .i64 0,.int .i64 0,.int .i64 0,.int .i64 0,.string ⟨#[]⟩]):=ay _ _ _;have k:=T6.2.1;refine Shut.out g _ _ T7.1.2.2 (fun i=>?_);clear g K;obtain⟨A,hAe⟩:∃x,W6.heap.size=x:=⟨_,rfl⟩;obtain⟨W7,hW7⟩:∃x,W6.alloc (.cells #[.int .i64 0,.int .i64 0,.int .i64 0,.int .i64 0,.int .i64 0,.string ⟨#[]⟩] 62)=x:=⟨_,rfl⟩;rw[hW7]at T7 i;rw[hAe,hW7]at f;rw[hAe]at k;rw[hAe,hW7];clear j;refine ah 16 fun K g=>?_;have a0:=f.cell 0 _ rfl;have f0:=f.free 0 (by decide);have a1:=f.cell 1 _ rfl;have f1:=f.free 1 (by decide);have a2:=f.cell 2 _ rfl;have f2:=f.free 2 (by decide);have a3:=f.cell 3 _ rfl;have f3:=f.free 3 (by decide);have a4:=f.cell 4 _ rfl;have f4:=f.free 4 (by decide);have a5:=f.cell 5 _ rfl;have f5:=f.free 5 (by decide);go_simp;have TX:=af ((((((T7.set k 0 (.int .i64 (hw:Nat))).set k 1 (.int .i64 st)).set k 2 (.int .i64 (cr:Nat))).set k 3 (.int .i64 (bd.size:Nat))).set k 4 (.int .i64 (t.size:Nat))).set k 5 (.string n));have l:=af ((((((f.set 0 (.int .i64 (hw:Nat))).set 1 (.int .i64 st)).set 2 (.int .i64 (cr:Nat))).set 3 (.int .i64 (bd.size:Nat))).set 4 (.int .i64 (t.size:Nat))).set 5 (.string n));clear a0 f0 a1 f1 a2 f2 a3 f3 a4 f4 a5 f5;refine Shut.out g _ _ TX.1.2.2 (fun i=>?_);clear g K;refine wpAnyH_done (by kernel_rfl) ?_ _;clear i;go_wp2_with fail
     go_meet
     case rel=>exact⟨A,rfl,k,TX,l⟩
    .
     go_simp;have j:Below W5.heap.size W5 (W5.alloc (.cells #[.int .i64 0,.int .i64 0,.int .i64 0,.int .i64 0,.int .i64 0,.string ⟨#[]⟩] 62)):=cC;have T6:=af (T5.later j);have p:Hid (Blk (W5.alloc (.cells #[.int .i64 0,.int .i64 0,.int .i64 0,.int .i64 0,.int .i64 0,.string ⟨#[]⟩] 62)) W5.heap.size [.int .i64 0,.int .i64 0,.int .i64 0,.int .i64 0,.int .i64 0,.string ⟨#[]⟩]):=ay _ _ _;have k:=T5.2.1;refine Shut.out g _ _ T6.1.2.2 (fun i=>?_);clear g K;obtain⟨A,hAe⟩:∃x,W5.heap.size=x:=⟨_,rfl⟩;obtain⟨W6,hW6⟩:∃x,W5.alloc (.cells #[.int .i64 0,.int .i64 0,.int .i64 0,.int .i64 0,.int .i64 0,.string ⟨#[]⟩] 62)=x:=⟨_,rfl⟩;rw[hW6]at T6 i;rw[hAe,hW6]at p;rw[hAe]at k;rw[hAe,hW6];clear j;refine ah 6 fun K g=>?_;go_simp;go_at_call 73;refine(C W6).mono ?_;rintro e W7⟨rfl,j⟩;have T7:=af (T6.later j);have f:=af (p.later j p.1);refine Shut.out g _ _ T7.1.2.2 (fun i=>?_);clear g K j;refine ag 14 (.agg #[hw,st,cr,bd.size,t.size,n]) rfl (fun W c=>by obtain⟨s0,s1,s2,s3,s4,s5,s6,s7⟩:=c;go_simp) i ?_;refine ah 16 fun K g=>?_;have a0:=f.cell 0 _ rfl;have f0:=f.free 0 (by decide);have a1:=f.cell 1 _ rfl;have f1:=f.free 1 (by decide);have a2:=f.cell 2 _ rfl;have f2:=f.free 2 (by decide);have a3:=f.cell 3 _ rfl;have f3:=f.free 3 (by decide);have a4:=f.cell 4 _ rfl;have f4:=f.free 4 (by decide);have a5:=f.cell 5 _ rfl;have f5:=f.free 5 (by decide);go_simp;have TX:=af ((((((T7.set k 0 (.int .i64 (hw:Nat))).set k 1 (.int .i64 st)).set k 2 (.int .i64 (cr:Nat))).set k 3 (.int .i64 (bd.size:Nat))).set k 4 (.int .i64 (t.size:Nat))).set k 5 (.string n));have l:=af ((((((f.set 0 (.int .i64 (hw:Nat))).set 1 (.int .i64 st)).set 2 (.int .i64 (cr:Nat))).set 3 (.int .i64 (bd.size:Nat))).set 4 (.int .i64 (t.size:Nat))).set 5 (.string n));clear a0 f0 a1 f1 a2 f2 a3 f3 a4 f4 a5 f5;refine Shut.out g _ _ TX.1.2.2 (fun i=>?_);clear g K;refine wpAnyH_done (by kernel_rfl) ?_ _;clear i;go_wp2_with fail
     go_meet
     case rel=>exact⟨A,rfl,k,TX,l⟩
   .
    go_simp;have j:Below W4.heap.size W4 (W4.alloc (.cells #[.int .i64 0,.int .i64 0,.int .i64 0,.int .i64 0,.int .i64 0,.string ⟨#[]⟩] 62)):=cC;have T5:=af (T4.later j);have D:Hid (Blk (W4.alloc (.cells #[.int .i64 0,.int .i64 0,.int .i64 0,.int .i64 0,.int .i64 0,.string ⟨#[]⟩] 62)) W4.heap.size [.int .i64 0,.int .i64 0,.int .i64 0,.int .i64 0,.int .i64 0,.string ⟨#[]⟩]):=ay _ _ _;have k:=T4.2.1;refine Shut.out g _ _ T5.1.2.2 (fun i=>?_);clear g K;obtain⟨A,hAe⟩:∃x,W4.heap.size=x:=⟨_,rfl⟩;obtain⟨W5,hW5⟩:∃x,W4.alloc (.cells #[.int .i64 0,.int .i64 0,.int .i64 0,.int .i64 0,.int .i64 0,.string ⟨#[]⟩] 62)=x:=⟨_,rfl⟩;rw[hW5]at T5 i;rw[hAe,hW5]at D;rw[hAe]at k;rw[hAe,hW5];clear j;refine ah 3 fun K g=>?_;go_simp;go_at_call 72;refine(E W5).mono ?_;rintro e W6⟨rfl,j⟩;have T6:=af (T5.later j);have p:=af (D.later j D.1);refine Shut.out g _ _ T6.1.2.2 (fun i=>?_);clear g K j;refine ah 6 fun K g=>?_;go_simp;go_at_call 73;refine(C W6).mono ?_;rintro e W7⟨rfl,j⟩;have T7:=af (T6.later j);have f:=af (p.later j p.1);refine Shut.out g _ _ T7.1.2.2 (fun i=>?_);clear g K j;refine ag 14 (.agg #[hw,st,cr,bd.size,t.size,n]) rfl (fun W c=>by obtain⟨s0,s1,s2,s3,s4,s5,s6,s7⟩:=c;go_simp) i ?_;refine ah 16 fun K g=>?_;have a0:=f.cell 0 _ rfl;have f0:=f.free 0 (by decide);have a1:=f.cell 1 _ rfl;have f1:=f.free 1 (by decide);have a2:=f.cell 2 _ rfl;have f2:=f.free 2 (by decide);have a3:=f.cell 3 _ rfl;have f3:=f.free 3 (by decide);have a4:=f.cell 4 _ rfl;have f4:=f.free 4 (by decide);have a5:=f.cell 5 _ rfl;have f5:=f.free 5 (by decide);go_simp;have TX:=af ((((((T7.set k 0 (.int .i64 (hw:Nat))).set k 1 (.int .i64 st)).set k 2 (.int .i64 (cr:Nat))).set k 3 (.int .i64 (bd.size:Nat))).set k 4 (.int .i64 (t.size:Nat))).set k 5 (.string n));have l:=af ((((((f.set 0 (.int .i64 (hw:Nat))).set 1 (.int .i64 st)).set 2 (.int .i64 (cr:Nat))).set 3 (.int .i64 (bd.size:Nat))).set 4 (.int .i64 (t.size:Nat))).set 5 (.string n));clear a0 f0 a1 f1 a2 f2 a3 f3 a4 f4 a5 f5;refine Shut.out g _ _ TX.1.2.2 (fun i=>?_);clear g K;refine wpAnyH_done (by kernel_rfl) ?_ _;clear i;go_wp2_with fail
    go_meet
    case rel=>exact⟨A,rfl,k,TX,l⟩
  case rest=>
   obtain⟨A,rfl,k,TX',z⟩:=hcut;have TX:=af TX';have l:=af z;clear TX' z T3;have a0:=l.cell 0 _ rfl;have a1:=l.cell 1 _ rfl;have a2:=l.cell 2 _ rfl;have a3:=l.cell 3 _ rfl;have a4:=l.cell 4 _ rfl;have a5:=l.cell 5 _ rfl;have L:=TX.2.cell 0 _ rfl;have g0:=TX.2.free 0 (by decide);have M:=TX.2.cell 1 _ rfl;have g1:=TX.2.free 1 (by decide);have N:=TX.2.cell 2 _ rfl;have g2:=TX.2.free 2 (by decide);have O:=TX.2.cell 3 _ rfl;have g3:=TX.2.free 3 (by decide);have P:=TX.2.cell 4 _ rfl;have g4:=TX.2.free 4 (by decide);have Q:=TX.2.cell 5 _ rfl;have g5:=TX.2.free 5 (by decide);have R:=TX.2.cell 6 _ rfl;have g6:=TX.2.free 6 (by decide);have TZ:=af (((((((TX.1.set (a0j _) 0 (.int .i64 (hw:Nat))).set (a0j _) 1 (.int .i64 st)).set (a0j _) 2 (.int .i64 (cr:Nat))).set (a0j _) 3 (.int .i64 (bd.size:Nat))).set (a0j _) 4 (.int .i64 (t.size:Nat))).set (a0j _) 5 (.string n)).set (a0j _) 6 (.string bd));have ZZ:=af (((((((TX.2.set 0 (.int .i64 (hw:Nat))).set 1 (.int .i64 st)).set 2 (.int .i64 (cr:Nat))).set 3 (.int .i64 (bd.size:Nat))).set 4 (.int .i64 (t.size:Nat))).set 5 (.string n)).set 6 (.string bd));go_wp2;have z0:=ZZ.cell 0 _ rfl;have z1:=ZZ.cell 1 _ rfl;have z2:=ZZ.cell 2 _ rfl;have z3:=ZZ.cell 3 _ rfl;have z4:=ZZ.cell 4 _ rfl;have z5:=ZZ.cell 5 _ rfl;have z6:=ZZ.cell 6 _ rfl;refine a0x (v:=.agg #[hw,st,cr,bd.size,t.size,n,bd]) (by simp[results,results33,go_sem,z0,z1,z2,z3,z4,z5,z6]) rfl ⟨rfl,?_⟩;exact TZ.1
theorem pY:∀(l cur:List UInt8),(∀p∈dW cur l,p.length<=10)->cur.length+l.length+1<=11*(dW cur l).length
 | [],cur,h=>by
  have:=h cur (by simp[dW]);simp[dW];omega
 | b :: l,cur,h=>by
  by_cases e:b=47
  . simp only[dW,a0d e]at h ⊢;have c:=h cur (by simp);have h2:=pY l [] (fun p a=>h p (by simp[a]));simp at h2 ⊢;omega
  . simp only[dW,a0e e]at h ⊢;have h2:=pY l (cur++[b]) h;simp at h2 ⊢;omega
def Ih{l:List UInt8}(h:fC l=true):l.length<=43:=by
 simp only[fC,a0k,a1c,a0v]at h;have:=pY l [] (fun p a=>by
  have:=h.1 p a;simp only[gx,a0k,a0v]at this;omega)
 have h2:=h.2;unfold py at h2;simp at this;omega
def dk(k:gQ n y mo d h mi s t=true):n.size<=43/\t.size<=300/\du y mo d h mi s=true:=by
 simp only[gQ,a0k,a0v]at k;have:=Ih k.1;exact⟨by simpa using this,k.2.2,k.2.1⟩
def oC(k:du y mo d h mi s=true):((0<=y/\y<=100000)/\(0<=mo/\mo<=100)/\(0<=d/\d<=100)/\(0<=h/\h<=100)/\(0<=mi/\mi<=100) /\ -100<=s/\s<=100)/\(((((y-1980)*16+mo)*32+d)*32+h)*64+mi)*32+Int.tdiv s 2=((stN y mo d h mi s).toNat:Int)/\(stN y mo d h mi s).toNat<4294967296/\stI y mo d h mi s=((stN y mo d h mi s).toNat:Int):=by
 have e1:stI y mo d h mi s=stN y mo d h mi s:=by simp[stI,k]
 obtain⟨f,b,hd,e,a,c,h2⟩:=Qk k;have e2:Int.tdiv s 2=s/2:=Int.tdiv_eq_ediv_of_nonneg c.1;have e3:0<=stN y mo d h mi s/\stN y mo d h mi s<4294967296:=by unfold stN;omega
 rw[e1,e2];have e4:(((((y-1980)*16+mo)*32+d)*32+h)*64+mi)*32+s/2=stN y mo d h mi s:=rfl;rw[e4];refine⟨by omega,by omega,by omega,by omega⟩
