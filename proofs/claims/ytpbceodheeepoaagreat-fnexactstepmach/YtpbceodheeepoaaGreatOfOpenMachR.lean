import Derived.Test.YtpbceodheeepoaaGreatOfCoreF
import Derived.Test.YtpbceodheeepoaaGreatOfMachCopy2
import Derived.OpenShut
import Derived.Test.YtpbceodheeepoaaGreatOfMachImpl
set_option maxRecDepth 100000
namespace Go.Proofs.YtpbceodheeepoaaGreat
open Go.ChangeShapes Go.WideShapes Go.ChangeAt Go.RowKit Go.Deep
theorem cells_u64:Tryz.prog.cellsOf 67=1:=by kernel_rfl
theorem cells_u8:Tryz.prog.cellsOf 5=1:=by kernel_rfl
theorem cells_i64:Tryz.prog.cellsOf 2=1:=by kernel_rfl
theorem cells_bool:Tryz.prog.cellsOf 4=1:=by kernel_rfl
theorem cells_lObs:Tryz.prog.cellsOf 115=2:=by kernel_rfl
theorem cells_lHeap:Tryz.prog.cellsOf 112=3:=by kernel_rfl
theorem cells_lMach:Tryz.prog.cellsOf 42=9:=by kernel_rfl
theorem cells_u64S:Tryz.prog.cellsOf 24=1:=by kernel_rfl
theorem cells_u8S:Tryz.prog.cellsOf 22=1:=by kernel_rfl
theorem cells_lHeapS:Tryz.prog.cellsOf 39=1:=by kernel_rfl
theorem cells_lObsS:Tryz.prog.cellsOf 40=1:=by kernel_rfl
section
variable{H:Type}{enc:TypeId×Value->H}{w:World}{base:Nat}{spare:Nat->Bool}{held:Bool}
theorem slice_shape{P:Program}{t e:TypeId}{fuel:Nat}{v:Value}{x:DataW H×List MemPlace}(ht:P.underlying t=some (.slice e))(h:DataW.trod enc P w base spare held fuel t [v]=some x):∃ao len cap,v=.slice ao len cap:=by
 rcases open_slice ht h with⟨h0,_⟩|⟨a,len',cap',m,n,D,Pl,hcs,_⟩
 ·simp only[List.cons.injEq,and_true]at h0;exact⟨_,_,_,h0⟩
 ·simp only[List.cons.injEq,and_true]at hcs;exact⟨_,_,_,hcs⟩
theorem open_nums{t e:TypeId}{k:IntKind}{fuel:Nat}{ao:Option Addr}{len cap:Nat}{x:DataW H×List MemPlace}(ht:Tryz.prog.underlying t=some (.slice e))(he:Tryz.prog.underlying e=some (.int k))(ce:Tryz.prog.cellsOf e=1)
 (h:DataW.trod enc Tryz.prog w base spare held fuel t [.slice ao len cap]=some x):len<=maxLen/\∃R,InRow w ao len (numF k R):=by
 obtain⟨hm,f,hin,hel⟩:=open_row ht ce (by omega) h;refine⟨hm,?_⟩;obtain⟨R,hR⟩:=choose_lt (n:=len) (p:=fun i(r:Int)=>f i=.int k r) (fun i hi=>by
  obtain⟨n,y,hy⟩:=hel i hi;simp[List.range,List.range.loop]at hy;obtain⟨r,e1,_⟩:=DataW.trod_int he hy;simp at e1;exact⟨r,e1⟩)
 refine⟨R,?_⟩;rw[Nat.mul_one]at hin;exact hin.congr fun i hi=>hR i hi
theorem open_obsS{fuel:Nat}{ao:Option Addr}{len cap:Nat}{x:DataW H×List MemPlace}(h:DataW.trod enc Tryz.prog w base spare held fuel 40 [.slice ao len cap]=some x):len<=maxLen/\∃K V,InRow w ao (len*2) (obsF K V):=by
 obtain⟨hm,f,hin,hel⟩:=open_row Tryz.underlying40 cells_lObs (by omega) h;refine⟨hm,?_⟩;obtain⟨G,hG⟩:=choose_lt (n:=len) (p:=fun i(g:Int×Int)=>f (i*2)=.int .i64 g.1/\f (i*2+1)=.int .u64 g.2) (fun i hi=>by
  obtain⟨n,y,hy⟩:=hel i hi;obtain⟨y0,y1,m,_,_,h0,h1⟩:=trod_struct2 Tryz.underlying115 hy;simp[List.range,List.range.loop,cells_i64,cells_u64]at h0 h1;obtain⟨k,e0,_⟩:=DataW.trod_int Tryz.underlying2 h0;obtain⟨v,e1,_⟩:=DataW.trod_int Tryz.underlying67 h1;simp at e0 e1;exact⟨(k,v),e0,e1⟩)
 refine⟨fun i=>(G i).1,fun i=>(G i).2,hin.congr fun p hp=>?_⟩;have h1:p/2<len:=by omega
 obtain⟨q0,q1⟩:=hG (p/2) h1;unfold obsF;by_cases e:p%2=0
 ·rw[if_pos e,<-q0,show p/2*2=p by omega]
 ·rw[if_neg e,<-q1,show p/2*2+1=p by omega]
theorem wf_u64{n:Int}(h:(Lit.int .u64 n).wf=true):0<=n/\n<=18446744073709551615:=by
 simpa[Lit.wf,IntKind.min,IntKind.max,IntKind.signed,IntKind.bits]using h
theorem open_heapS{fuel:Nat}{ao:Option Addr}{len cap:Nat}{x:DataW H×List MemPlace}(h:DataW.trod enc Tryz.prog w base spare held fuel 39 [.slice ao len cap]=some x):
 len<=maxLen/\∃Hp,InRow w ao (len*3) (heapF Hp)/\∀i,i<len->(Hp i).len<=maxLen/\(0<=(Hp i).base/\(Hp i).base<=18446744073709551615)/\InRow w (Hp i).ao (Hp i).len (numF .u8 (Hp i).dat):=by
 obtain⟨hm,f,hin,hel⟩:=open_row Tryz.underlying39 cells_lHeap (by omega) h;refine⟨hm,?_⟩;have:Inhabited HeapV:=⟨⟨0,false,none,0,0,fun _=>0⟩⟩
 obtain⟨Hp,hG⟩:=choose_lt (n:=len) (p:=fun i(g:HeapV)=>f (i*3)=.int .u64 g.base/\f (i*3+1)=.bool g.wr/\f (i*3+2)=.slice g.ao g.len g.cap/\g.len<=maxLen/\(0<=g.base/\g.base<=18446744073709551615)/\InRow w g.ao g.len (numF .u8 g.dat)) (fun i hi=>by
  obtain⟨n,y,hy⟩:=hel i hi;obtain⟨xs,m,_,_,_,hlen,hf⟩:=DataW.trod_struct Tryz.underlying112 hy;match xs,hlen with
  |[y0,y1,y2],_=>
   have h0:=hf 0 _ rfl;have h1:=hf 1 _ rfl;have h2:=hf 2 _ rfl;simp[List.range,List.range.loop,cells_u64,cells_bool,cells_u8S]at h0 h1 h2;obtain⟨b,e0,_,wb⟩:=DataW.trod_int Tryz.underlying67 h0;obtain⟨v,e1,_⟩:=DataW.trod_bool Tryz.underlying4 h1;obtain⟨ao',len',cap',e2⟩:=slice_shape Tryz.underlying22 h2;rw[e2]at h2;obtain⟨ml,D,hD⟩:=open_nums Tryz.underlying22 Tryz.underlying5 cells_u8 h2;simp at e0 e1;exact⟨⟨b,v,ao',len',cap',D⟩,e0,e1,e2,ml,wf_u64 wb,hD⟩)
 refine⟨Hp,hin.congr fun p hp=>?_,fun i hi=>(hG i hi).2.2.2⟩;have h1:p/3<len:=by omega
 obtain⟨q0,q1,q2,_⟩:=hG (p/3) h1;unfold heapF;by_cases e:p%3=0
 ·rw[if_pos e,<-q0,show p/3*3=p by omega]
 ·rw[if_neg e]
  by_cases e':p%3=1
  ·rw[if_pos e',<-q1,show p/3*3+1=p by omega]
  ·rw[if_neg e',<-q2,show p/3*3+2=p by omega]
theorem open_mach{fuel:Nat}{cs:List Value}{x:DataW H×List MemPlace}(h:DataW.trod enc Tryz.prog w base spare held fuel 42 cs=some x):
 ∃(aoR:Option Addr)(nR capR:Nat)(R:Nat->Int)(z c hz hc:Bool)(aoH:Option Addr)(nH capH:Nat)(Hp:Nat->HeapV)(pc st:Int)(aoO:Option Addr)(nO capO:Nat)(K V:Nat->Int),
  cs=[.slice aoR nR capR,.bool z,.bool c,.bool hz,.bool hc,.slice aoH nH capH,.int .i64 pc,.int .i64 st,.slice aoO nO capO]/\nR<=maxLen/\nH<=maxLen/\(∀i,i<nH->(Hp i).len<=maxLen)/\nO<=maxLen/\(∀i,i<nH->0<=(Hp i).base/\(Hp i).base<=18446744073709551615)/\MachIn w aoR nR R aoH nH Hp aoO nO K V:=by
 obtain⟨xs,n,_,_,hl,hlen,hf⟩:=DataW.trod_struct Tryz.underlying42 h;rw[cells_lMach]at hl;match cs,hl with
 |[c0,c1,c2,c3,c4,c5,c6,c7,c8],_=>
  match xs,hlen with
  |[y0,y1,y2,y3,y4,y5,y6,y7,y8],_=>
   have h0:=hf 0 _ rfl;have h1:=hf 1 _ rfl;have h2:=hf 2 _ rfl;have h3:=hf 3 _ rfl;have h4:=hf 4 _ rfl;have h5:=hf 5 _ rfl;have h6:=hf 6 _ rfl;have h7:=hf 7 _ rfl;have h8:=hf 8 _ rfl;simp[cells_u64S,cells_bool,cells_lHeapS,cells_i64,cells_lObsS]at h0 h1 h2 h3 h4 h5 h6 h7 h8;obtain⟨aoR,nR,capR,rfl⟩:=slice_shape Tryz.underlying24 h0;obtain⟨mR,R,iR⟩:=open_nums Tryz.underlying24 Tryz.underlying67 cells_u64 h0;obtain⟨z,e1,_⟩:=DataW.trod_bool Tryz.underlying4 h1;obtain⟨c,e2,_⟩:=DataW.trod_bool Tryz.underlying4 h2;obtain⟨hz,e3,_⟩:=DataW.trod_bool Tryz.underlying4 h3;obtain⟨hc,e4,_⟩:=DataW.trod_bool Tryz.underlying4 h4;obtain⟨aoH,nH,capH,rfl⟩:=slice_shape Tryz.underlying39 h5;obtain⟨mH,Hp,iH,iD⟩:=open_heapS h5;obtain⟨pc,e6,_⟩:=DataW.trod_int Tryz.underlying2 h6;obtain⟨st,e7,_⟩:=DataW.trod_int Tryz.underlying2 h7;obtain⟨aoO,nO,capO,rfl⟩:=slice_shape Tryz.underlying40 h8;obtain⟨mO,K,V,iO⟩:=open_obsS h8;simp at e1 e2 e3 e4 e6 e7;subst e1 e2 e3 e4 e6 e7;exact⟨aoR,nR,capR,R,z,c,hz,hc,aoH,nH,capH,Hp,pc,st,aoO,nO,capO,K,V,rfl,mR,mH,fun i hi=>(iD i hi).1,mO,fun i hi=>(iD i hi).2.1,iR,iH,fun i hi=>(iD i hi).2.2,iO⟩
end
theorem wf_u8{n:Int}(h:(Lit.int .u8 n).wf=true):0<=n/\n<=255:=by
 simpa[Lit.wf,IntKind.min,IntKind.max,IntKind.signed,IntKind.bits]using h
section
variable{H:Type}{enc:TypeId×Value->H}{w:World}{base:Nat}{spare:Nat->Bool}{held:Bool}
theorem open_numsR{t e:TypeId}{k:IntKind}{fuel:Nat}{ao:Option Addr}{len cap:Nat}{x:DataW H×List MemPlace}(ht:Tryz.prog.underlying t=some (.slice e))(he:Tryz.prog.underlying e=some (.int k))(ce:Tryz.prog.cellsOf e=1)
 (h:DataW.trod enc Tryz.prog w base spare held fuel t [.slice ao len cap]=some x):len<=maxLen/\∃R,InRow w ao len (numF k R)/\∀i,i<len->(Lit.int k (R i)).wf=true:=by
 obtain⟨hm,f,hin,hel⟩:=open_row ht ce (by omega) h;refine⟨hm,?_⟩;obtain⟨R,hR⟩:=choose_lt (n:=len) (p:=fun i(r:Int)=>f i=.int k r/\(Lit.int k r).wf=true) (fun i hi=>by
  obtain⟨n,y,hy⟩:=hel i hi;simp[List.range,List.range.loop]at hy;obtain⟨r,e1,_,wb⟩:=DataW.trod_int he hy;simp at e1;exact⟨r,e1,wb⟩)
 refine⟨R,?_,fun i hi=>(hR i hi).2⟩;rw[Nat.mul_one]at hin;exact hin.congr fun i hi=>(hR i hi).1
theorem open_heapSR{fuel:Nat}{ao:Option Addr}{len cap:Nat}{x:DataW H×List MemPlace}(h:DataW.trod enc Tryz.prog w base spare held fuel 39 [.slice ao len cap]=some x):
 len<=maxLen/\∃Hp,InRow w ao (len*3) (heapF Hp)/\∀i,i<len->(Hp i).len<=maxLen/\(0<=(Hp i).base/\(Hp i).base<=18446744073709551615)/\InRow w (Hp i).ao (Hp i).len (numF .u8 (Hp i).dat)/\∀j,j<(Hp i).len->0<=(Hp i).dat j/\(Hp i).dat j<=255:=by
 obtain⟨hm,f,hin,hel⟩:=open_row Tryz.underlying39 cells_lHeap (by omega) h;refine⟨hm,?_⟩;have:Inhabited HeapV:=⟨⟨0,false,none,0,0,fun _=>0⟩⟩
 obtain⟨Hp,hG⟩:=choose_lt (n:=len) (p:=fun i(g:HeapV)=>f (i*3)=.int .u64 g.base/\f (i*3+1)=.bool g.wr/\f (i*3+2)=.slice g.ao g.len g.cap/\g.len<=maxLen/\(0<=g.base/\g.base<=18446744073709551615)/\InRow w g.ao g.len (numF .u8 g.dat)/\∀j,j<g.len->0<=g.dat j/\g.dat j<=255) (fun i hi=>by
  obtain⟨n,y,hy⟩:=hel i hi;obtain⟨xs,m,_,_,_,hlen,hf⟩:=DataW.trod_struct Tryz.underlying112 hy;match xs,hlen with
  |[y0,y1,y2],_=>
   have h0:=hf 0 _ rfl;have h1:=hf 1 _ rfl;have h2:=hf 2 _ rfl;simp[List.range,List.range.loop,cells_u64,cells_bool,cells_u8S]at h0 h1 h2;obtain⟨b,e0,_,wb⟩:=DataW.trod_int Tryz.underlying67 h0;obtain⟨v,e1,_⟩:=DataW.trod_bool Tryz.underlying4 h1;obtain⟨ao',len',cap',e2⟩:=slice_shape Tryz.underlying22 h2;rw[e2]at h2;obtain⟨ml,D,hD,wD⟩:=open_numsR Tryz.underlying22 Tryz.underlying5 cells_u8 h2;simp at e0 e1;exact⟨⟨b,v,ao',len',cap',D⟩,e0,e1,e2,ml,wf_u64 wb,hD,fun j hj=>wf_u8 (wD j hj)⟩)
 refine⟨Hp,hin.congr fun p hp=>?_,fun i hi=>(hG i hi).2.2.2⟩;have h1:p/3<len:=by omega
 obtain⟨q0,q1,q2,_⟩:=hG (p/3) h1;unfold heapF;by_cases e:p%3=0
 ·rw[if_pos e,<-q0,show p/3*3=p by omega]
 ·rw[if_neg e]
  by_cases e':p%3=1
  ·rw[if_pos e',<-q1,show p/3*3+1=p by omega]
  ·rw[if_neg e',<-q2,show p/3*3+2=p by omega]
theorem open_machR{fuel:Nat}{cs:List Value}{x:DataW H×List MemPlace}(h:DataW.trod enc Tryz.prog w base spare held fuel 42 cs=some x):
 ∃(aoR:Option Addr)(nR capR:Nat)(R:Nat->Int)(z c hz hc:Bool)(aoH:Option Addr)(nH capH:Nat)(Hp:Nat->HeapV)(pc st:Int)(aoO:Option Addr)(nO capO:Nat)(K V:Nat->Int),
  cs=[.slice aoR nR capR,.bool z,.bool c,.bool hz,.bool hc,.slice aoH nH capH,.int .i64 pc,.int .i64 st,.slice aoO nO capO]/\nR<=maxLen/\nH<=maxLen/\(∀i,i<nH->(Hp i).len<=maxLen)/\nO<=maxLen/\InRange R nH Hp/\MachIn w aoR nR R aoH nH Hp aoO nO K V:=by
 obtain⟨xs,n,_,_,hl,hlen,hf⟩:=DataW.trod_struct Tryz.underlying42 h;rw[cells_lMach]at hl;match cs,hl with
 |[c0,c1,c2,c3,c4,c5,c6,c7,c8],_=>
  match xs,hlen with
  |[y0,y1,y2,y3,y4,y5,y6,y7,y8],_=>
   have h0:=hf 0 _ rfl;have h1:=hf 1 _ rfl;have h2:=hf 2 _ rfl;have h3:=hf 3 _ rfl;have h4:=hf 4 _ rfl;have h5:=hf 5 _ rfl;have h6:=hf 6 _ rfl;have h7:=hf 7 _ rfl;have h8:=hf 8 _ rfl;simp[cells_u64S,cells_bool,cells_lHeapS,cells_i64,cells_lObsS]at h0 h1 h2 h3 h4 h5 h6 h7 h8;obtain⟨aoR,nR,capR,rfl⟩:=slice_shape Tryz.underlying24 h0;obtain⟨mR,R0,iR,wR⟩:=open_numsR Tryz.underlying24 Tryz.underlying67 cells_u64 h0;obtain⟨z,e1,_⟩:=DataW.trod_bool Tryz.underlying4 h1;obtain⟨c,e2,_⟩:=DataW.trod_bool Tryz.underlying4 h2;obtain⟨hz,e3,_⟩:=DataW.trod_bool Tryz.underlying4 h3;obtain⟨hc,e4,_⟩:=DataW.trod_bool Tryz.underlying4 h4;obtain⟨aoH,nH,capH,rfl⟩:=slice_shape Tryz.underlying39 h5;obtain⟨mH,Hp,iH,iD⟩:=open_heapSR h5;obtain⟨pc,e6,_⟩:=DataW.trod_int Tryz.underlying2 h6;obtain⟨st,e7,_⟩:=DataW.trod_int Tryz.underlying2 h7;obtain⟨aoO,nO,capO,rfl⟩:=slice_shape Tryz.underlying40 h8;obtain⟨mO,K,V,iO⟩:=open_obsS h8;simp at e1 e2 e3 e4 e6 e7;subst e1 e2 e3 e4 e6 e7;refine⟨aoR,nR,capR,fun i=>if i<nR then R0 i else 0,z,c,hz,hc,aoH,nH,capH,Hp,pc,st,aoO,nO,capO,K,V,rfl,mR,mH,fun i hi=>(iD i hi).1,mO,⟨fun i _=>?_,fun i hi=>(iD i hi).2.1,fun i hi=>(iD i hi).2.2.2⟩,iR.congr fun i hi=>?_,iH,fun i hi=>(iD i hi).2.2.1,iO⟩
   ·by_cases hi:i<nR
    ·simp only[if_pos hi];exact wf_u64 (wR i hi)
    ·simp only[if_neg hi];decide
   ·simp only[numF,if_pos hi]
end
end Go.Proofs.YtpbceodheeepoaaGreat
