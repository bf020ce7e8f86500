import Derived.Test.YtfpeecaaleijcaaGreatDoorOfCl
import Derived.Test.YtfpeecaaleijcaaGreatDoorOfInsSame
import Derived.Deep.Cut
import Derived.Deep.RegionHeld3
import Derived.Lib.ItoaNum
set_option maxHeartbeats 32000000
set_option maxRecDepth 20000
namespace Go.Proofs.YtfpeecaaleijcaaGreatDoor
open Go.RowKit
theorem Za(w:World)(b:Nat)(c:Int)(h0:0<=c)(h1:c<256)(h:w.cell? (Va b 0)=some (.int .u8 c)):
 (convert 22 9 (Vs b 1 1)).run Tryz.prog w=.ok (.string ⟨#[UInt8.ofNat c.toNat]⟩) w:=
 run_convert_bytes_back (P:=Tryz.prog) _ 22 9 5 ⟨b,0,none⟩ 1 [UInt8.ofNat c.toNat] Tryz.underlying22 Tryz.underlying5 Tryz.underlying9 (fun j hj=>by
  obtain rfl:j=0:=by simpa using hj
  refine h.trans ?_;simp;omega)
theorem Ei(w:World)(c:Int)(h0:0<=c)(h1:c<256):
 (convert 22 9 (Vs w.heap.size 1 1)).run Tryz.prog (w.alloc (.cells #[.int .u8 c] 5))=.ok (.string ⟨#[UInt8.ofNat c.toNat]⟩) (w.alloc (.cells #[.int .u8 c] 5)):=
 run_convert_bytes_back (P:=Tryz.prog) _ 22 9 5 ⟨w.heap.size,0,none⟩ 1 [UInt8.ofNat c.toNat] Tryz.underlying22 Tryz.underlying5 Tryz.underlying9 (fun j hj=>by
  obtain rfl:j=0:=by simpa using hj
  simp[go_sem];omega)
def Cn(x:Int):ByteArray:=⟨(Lib.itoa x).toArray⟩
theorem Z9(n:Nat)(h:n<10):Cn n=⟨#[UInt8.ofNat (48+n)]⟩:=by
 unfold Cn Lib.itoa;rw[if_neg (by omega)];simp[Lib.decDigits_one h]
theorem aW(n:Nat)(h:¬n<10):Cn n=Cn ((n/10:Nat):Int)++⟨#[UInt8.ofNat (48+n%10)]⟩:=by
 unfold Cn Lib.itoa;rw[if_neg (by omega),if_neg (by omega)];simp only[Int.toNat_natCast];rw[Lib.decDigits,dif_neg h];exact ByteArray.ext (by simp)
theorem hst(r:Nat):UInt8.ofNat (48+(r:Int)).toNat=UInt8.ofNat (48+r):=by congr 1
theorem NH(n:Nat):(Lib.decDigits n).length<=n+1:=by
 induction n using Nat.strongRecOn with
 |ind n ih=>
  rw[Lib.decDigits];by_cases h:n<10
  ·rw[dif_pos h];simp
  ·rw[dif_neg h]
   have:=ih (n/10) (by omega);simp;omega
theorem EJ(x:Int):(Cn x).size<=x.natAbs+2:=by
 unfold Cn Lib.itoa;split
 ·have:=NH x.natAbs
  simp[ByteArray.size];omega
 ·have:=NH x.toNat
  simp[ByteArray.size];omega
theorem Yb(x:Int)(h:x<0):Cn x=⟨#[45]⟩++Cn (-x):=by
 unfold Cn Lib.itoa;rw[if_pos h,if_neg (by omega)];have e:(-x).toNat=x.natAbs:=by omega
 rw[e];exact ByteArray.ext (by simp)
theorem MN(n:Nat):n<4000000000000000000->∀w:World,
 Calls Tryz.prog 27 #[Vi n] w fun e w'=>e=.returned (.string (Cn n))/\Below w.heap.size w w':=by
 induction n using Nat.strongRecOn with
 |ind n ih=>
 intro hn w;by_cases h:n<10
 ·rw[Z9 n h]
  have h0:(n:Int)<10:=by omega
  have h1:(0:Int)<=n:=by omega
  clear h hn ih;go_enter Tryz.func27,Tryz.ntmps27;go_upto_region 4 with fail;have hcv:=Ei w (48+n) (by omega) (by omega);have h2:(48+(n:Int))%256=48+n:=by omega
  go_wp2;go_ret;exact⟨rfl,Ak⟩
 ·rw[aW n h]
  have h0:(10:Int)<=n:=by omega
  have h1:(0:Int)<=n:=by omega
  obtain⟨q,hq⟩:∃q,q=n/10:=⟨_,rfl⟩
  obtain⟨r,hr⟩:∃r,r=n%10:=⟨_,rfl⟩
  rw[<-hq,<-hr];have hsz:¬9223372036854775807<(Cn q).size+1:=by have:=EJ q;omega
  have hr1:(0:Int)<=r:=by omega
  have hr2:(r:Int)<10:=by omega
  have IH:Hid (∀w:World,Calls Tryz.prog 27 #[Vi q] w fun e w'=>e=.returned (.string (Cn q))/\Below w.heap.size w w'):=fun w=>ih q (by omega) (by omega) w
  have HN:=hxy hn;clear ih h hn;have HQ:=hxy hq;have HR:=hxy hr;clear hq hr;go_enter Tryz.func27,Tryz.ntmps27;go_upto_region 5 with fail;have hq:=HQ.out;have hr:=HR.out;have hq1:Int.tdiv (n:Int) 10=q:=by rw[hq];exact Int.ofNat_tdiv n 10|>.symm
  have hr3:Int.tmod (n:Int) 10=r:=by rw[hr];exact Int.ofNat_tmod n 10|>.symm
  have h2:IntKind.u8.wrap (48+(r:Int))=48+r:=by rw[IntKind.wrap_u8];omega
  have h3:IntKind.i64.wrap (48+(r:Int))=48+r:=by rw[IntKind.wrap_i64];omega
  have hnn:=HN.out;have h4:IntKind.i64.wrap (q:Int)=q:=by rw[IntKind.wrap_i64];omega
  clear hnn;clear hq hr;refine wp_region_held_drew (S:=fun w'=>Below w.heap.size w w') (by kernel_rfl) (Below.refl _ _).drew (fun _=>?_);refine AB 0 rfl ?_;refine AB 1 rfl ?_;refine AB 3 rfl ?_;refine AB 4 rfl ?_;refine AB 5 rfl ?_;refine AB 6 rfl ?_;obtain⟨u,hu,hbd⟩:∃u,w.drew=u/\Below w.heap.size w u:=⟨_,rfl,(Below.refl _ _).drew⟩
  rw[hu];clear hu;refine wpAnyH_ready (rs:=[2,7]) (by kernel_rfl) (by simp) ?_;refine AllReadyH.cons rfl (fun KK hK=>?_) (AllReadyH.cons rfl (fun KK hK=>?_) AllReadyH.nil)
  ·go_simp
   refine(IH.out _).mono ?_;rintro e w1⟨rfl,hb⟩;have hB1:=hbd.trans (hb.mono hbd.size);refine hK.out _ _ hB1 (fun _=>?_);clear hK KK;try simp only[Act.put,BP,BN,BK,BQ,BS,BM]
   refine AO 7 rfl (fun KK hK=>?_);go_simp;refine hK.out _ _ (hB1.alloc hB1.size _) (fun _=>?_);clear hK KK;try simp only[Act.put,BP,BN,BK,BQ,BS,BM]
   have hcv:=Ei w1 (48+r) (by omega) (by omega);refine AO 8 rfl (fun KK hK=>?_);go_simp;refine hK.out _ _ (hB1.alloc hB1.size _) (fun _=>?_);clear hK KK;try simp only[Act.put,BP,BN,BK,BQ,BS,BM]
   refine AB 9 rfl ?_
   refine AB 10 rfl ?_
   refine wpAnyH_done (by kernel_rfl) ?_ _
   go_wp2_with fail
   go_ret
   exact⟨by rw[hst r];rfl,hB1.alloc hB1.size _⟩
  ·go_simp
   refine hK.out _ _ (hbd.alloc hbd.size _) (fun _=>?_)
   clear hK KK
   try simp only[Act.put,BP,BN,BK,BQ,BS,BM]
   have hcv:=Ei u (48+r) (by omega) (by omega)
   refine wpAnyH_ready (rs:=[2,8]) (by kernel_rfl) (by simp) ?_
   refine AllReadyH.cons rfl (fun KK hK=>?_) (AllReadyH.cons rfl (fun KK hK=>?_) AllReadyH.nil)
   ·go_simp
    refine(IH.out _).mono ?_
    rintro e w1⟨rfl,hb⟩
    have hB0:Below w.heap.size w (u.alloc (.cells #[.int .u8 (48+r)] 5)):=hbd.alloc hbd.size _
    have hB1:=hB0.trans (hb.mono hB0.size)
    have hcv1:=Za w1 u.heap.size (48+r) (by omega) (by omega) ((hb.cell (p:=⟨u.heap.size,0,none⟩) (by simp[go_sem])).trans (by simp[go_sem]))
    refine hK.out _ _ hB1 (fun _=>?_)
    clear hK KK
    try simp only[Act.put,BP,BN,BK,BQ,BS,BM]
    refine AO 8 rfl (fun KK hK=>?_)
    go_simp
    refine hK.out _ _ hB1 (fun _=>?_)
    clear hK KK
    try simp only[Act.put,BP,BN,BK,BQ,BS,BM]
    refine AB 9 rfl ?_
    refine AB 10 rfl ?_
    refine wpAnyH_done (by kernel_rfl) ?_ _
    go_wp2_with fail
    go_ret
    exact⟨by rw[hst r];rfl,hB1⟩
   ·go_simp
    refine hK.out _ _ (hbd.alloc hbd.size _) (fun _=>?_)
    clear hK KK
    try simp only[Act.put,BP,BN,BK,BQ,BS,BM]
    refine AO 2 rfl (fun KK hK=>?_)
    go_simp
    refine(IH.out _).mono ?_
    rintro e w1⟨rfl,hb⟩
    have hB0:Below w.heap.size w (u.alloc (.cells #[.int .u8 (48+r)] 5)):=hbd.alloc hbd.size _
    have hB1:=hB0.trans (hb.mono hB0.size)
    refine hK.out _ _ hB1 (fun _=>?_)
    clear hK KK
    try simp only[Act.put,BP,BN,BK,BQ,BS,BM]
    refine AB 9 rfl ?_
    refine AB 10 rfl ?_
    refine wpAnyH_done (by kernel_rfl) ?_ _
    go_wp2_with fail
    go_ret
    exact⟨by rw[hst r];rfl,hB1⟩
theorem Dv(x:Int)(h:x.natAbs<4000000000000000000)(w:World):
 Calls Tryz.prog 27 #[Vi x] w fun e w'=>e=.returned (.string (Cn x))/\Below w.heap.size w w':=by
 by_cases hx:x<0
 ·rw[Yb x hx]
  obtain⟨n,hn⟩:∃n:Nat,-x=n:=⟨x.natAbs,by omega⟩
  have hw:IntKind.i64.wrap (-x)=n:=by rw[IntKind.wrap_i64];omega
  have hsz:¬9223372036854775807<1+(Cn n).size:=by have:=EJ n;omega
  have HD:Hid (∀w,Calls Tryz.prog 27 #[Vi n] w fun e w'=>e=.returned (.string (Cn n))/\Below w.heap.size w w'):=MN n (by omega);rw[hn];clear h hn;go_enter Tryz.func27,Tryz.ntmps27;go_wp2_with fail;refine(HD.out _).mono ?_;rintro e w1⟨rfl,hb⟩;go_wp2_with fail;go_ret;exact⟨rfl,hb⟩
 ·obtain⟨n,rfl⟩:∃n:Nat,x=n:=⟨x.toNat,by omega⟩
  exact MN n (by omega) w
theorem FH(x:Int)(h:x.natAbs<1000001)(w:World):
 Calls Tryz.prog 27 #[Vi x] w fun e w'=>e=.returned (.string (Cn x))/\Below w.heap.size w w':=Dv x (by omega) w
def Ld:List ByteArray:=[⟨#[]⟩,⟨#[109,111,118]⟩,⟨#[109,111,118,105]⟩,⟨#[97,100,100]⟩,⟨#[115,117,98]⟩,⟨#[109,117,108]⟩,⟨#[97,110,100]⟩,⟨#[111,114]⟩,⟨#[120,111,114]⟩,⟨#[100,105,118]⟩,⟨#[97,100,100,105]⟩,⟨#[97,110,100,105]⟩,⟨#[115,104,108]⟩,⟨#[115,104,114]⟩,⟨#[97,100,100,115]⟩,⟨#[97,100,99]⟩,⟨#[115,117,98,115]⟩,⟨#[99,109,112]⟩,⟨#[99,109,112,105]⟩,⟨#[115,101,108,122]⟩,⟨#[115,101,108,99]⟩,⟨#[108,100,98]⟩,⟨#[108,100,113]⟩,⟨#[115,116,98]⟩,⟨#[115,116,113]⟩,⟨#[108,100,98,120]⟩,⟨#[108,100,113,120]⟩,⟨#[115,116,98,120]⟩,⟨#[115,116,113,120]⟩,⟨#[106,109,112]⟩,⟨#[106,122]⟩,⟨#[106,110,122]⟩,⟨#[106,99]⟩,⟨#[106,110,99]⟩,⟨#[104,97,108,116]⟩]
def J9(op:Int):ByteArray:=Ld.getD op.toNat ⟨#[]⟩
def Kv(d op:Int):ByteArray:=
 if op=34 then(if d=0 then⟨#[]⟩else⟨#[]⟩)else
 if op=1 then(if d=0 then⟨#[37,114,65,44,32,37,114,68]⟩else⟨#[114,68,44,32,114,65]⟩)else
 if op=2 then(if d=0 then⟨#[36,73,44,32,37,114,68]⟩else⟨#[114,68,44,32,73]⟩)else
 if op=10∨op=11∨op=12∨op=13 then(if d=0 then⟨#[37,114,65,44,32,36,73,44,32,37,114,68]⟩else⟨#[114,68,44,32,114,65,44,32,73]⟩)else
 if op=17 then(if d=0 then⟨#[37,114,65,44,32,37,114,66]⟩else⟨#[114,65,44,32,114,66]⟩)else
 if op=18 then(if d=0 then⟨#[37,114,65,44,32,36,73]⟩else⟨#[114,65,44,32,73]⟩)else
 if op=21∨op=22 then(if d=0 then⟨#[73,40,37,114,65,41,44,32,37,114,68,32,35,32,104,72]⟩else⟨#[114,68,44,32,91,114,65,32,43,32,73,93,32,59,32,104,72]⟩)else
 if op=23∨op=24 then(if d=0 then⟨#[37,114,68,44,32,73,40,37,114,65,41,32,35,32,104,72]⟩else⟨#[91,114,65,32,43,32,73,93,44,32,114,68,32,59,32,104,72]⟩)else
 if op=25∨op=26 then(if d=0 then⟨#[40,37,114,65,44,37,114,66,41,44,32,37,114,68,32,35,32,104,72]⟩else⟨#[114,68,44,32,91,114,65,32,43,32,114,66,93,32,59,32,104,72]⟩)else
 if op=27∨op=28 then(if d=0 then⟨#[37,114,68,44,32,40,37,114,65,44,37,114,66,41,32,35,32,104,72]⟩else⟨#[91,114,65,32,43,32,114,66,93,44,32,114,68,32,59,32,104,72]⟩)else
 if op=29∨op=30∨op=31∨op=32∨op=33 then(if d=0 then⟨#[46,76,64]⟩else⟨#[76,64]⟩)else
 (if d=0 then⟨#[37,114,65,44,32,37,114,66,44,32,37,114,68]⟩else⟨#[114,68,44,32,114,65,44,32,114,66]⟩)
theorem Vt(w:World):
 Calls Tryz.prog 84 #[] w fun e w'=>e=.returned (.slice (some ⟨w.heap.size,0,none⟩) 35 35)/\w'=w.alloc (.cells (Ld.map Value.string).toArray 9):=by
 go_enter Tryz.func84,Tryz.ntmps84;go_wp2;go_ret;exact⟨rfl,rfl⟩
def iy(d:Int)(u:ByteArray)(bD bA bB bI:Bool)(s1 s2 s3 s4:ByteArray):Prop:=
 (d=0/\u=⟨#[68,65]⟩/\bD=true/\bA=true/\bB=false/\bI=false/\s1=⟨#[37,114,65]⟩/\s2=⟨#[37,114,65]⟩/\s3=⟨#[37,114,65]⟩/\s4=⟨#[37,114,65,44,32,37,114,68]⟩)∨
 (d=0/\u=⟨#[68,73]⟩/\bD=true/\bA=false/\bB=false/\bI=true/\s1=⟨#[]⟩/\s2=⟨#[]⟩/\s3=⟨#[36,73]⟩/\s4=⟨#[36,73,44,32,37,114,68]⟩)∨
 (d=0/\u=⟨#[68,65,66]⟩/\bD=true/\bA=true/\bB=true/\bI=false/\s1=⟨#[37,114,65]⟩/\s2=⟨#[37,114,65,44,32,37,114,66]⟩/\s3=⟨#[37,114,65,44,32,37,114,66]⟩/\s4=⟨#[37,114,65,44,32,37,114,66,44,32,37,114,68]⟩)∨
 (d=0/\u=⟨#[68,65,73]⟩/\bD=true/\bA=true/\bB=false/\bI=true/\s1=⟨#[37,114,65]⟩/\s2=⟨#[37,114,65]⟩/\s3=⟨#[37,114,65,44,32,36,73]⟩/\s4=⟨#[37,114,65,44,32,36,73,44,32,37,114,68]⟩)∨
 (d=0/\u=⟨#[65,66]⟩/\bD=false/\bA=true/\bB=true/\bI=false/\s1=⟨#[37,114,65]⟩/\s2=⟨#[37,114,65,44,32,37,114,66]⟩/\s3=⟨#[37,114,65,44,32,37,114,66]⟩/\s4=⟨#[37,114,65,44,32,37,114,66]⟩)∨
 (d=0/\u=⟨#[65,73]⟩/\bD=false/\bA=true/\bB=false/\bI=true/\s1=⟨#[37,114,65]⟩/\s2=⟨#[37,114,65]⟩/\s3=⟨#[37,114,65,44,32,36,73]⟩/\s4=⟨#[37,114,65,44,32,36,73]⟩)∨
 (d=1/\u=⟨#[68,65]⟩/\bD=true/\bA=true/\bB=false/\bI=false/\s1=⟨#[114,68]⟩/\s2=⟨#[114,68,44,32,114,65]⟩/\s3=⟨#[114,68,44,32,114,65]⟩/\s4=⟨#[114,68,44,32,114,65]⟩)∨
 (d=1/\u=⟨#[68,73]⟩/\bD=true/\bA=false/\bB=false/\bI=true/\s1=⟨#[114,68]⟩/\s2=⟨#[114,68]⟩/\s3=⟨#[114,68]⟩/\s4=⟨#[114,68,44,32,73]⟩)∨
 (d=1/\u=⟨#[68,65,66]⟩/\bD=true/\bA=true/\bB=true/\bI=false/\s1=⟨#[114,68]⟩/\s2=⟨#[114,68,44,32,114,65]⟩/\s3=⟨#[114,68,44,32,114,65,44,32,114,66]⟩/\s4=⟨#[114,68,44,32,114,65,44,32,114,66]⟩)∨
 (d=1/\u=⟨#[68,65,73]⟩/\bD=true/\bA=true/\bB=false/\bI=true/\s1=⟨#[114,68]⟩/\s2=⟨#[114,68,44,32,114,65]⟩/\s3=⟨#[114,68,44,32,114,65]⟩/\s4=⟨#[114,68,44,32,114,65,44,32,73]⟩)∨
 (d=1/\u=⟨#[65,66]⟩/\bD=false/\bA=true/\bB=true/\bI=false/\s1=⟨#[]⟩/\s2=⟨#[114,65]⟩/\s3=⟨#[114,65,44,32,114,66]⟩/\s4=⟨#[114,65,44,32,114,66]⟩)∨
 (d=1/\u=⟨#[65,73]⟩/\bD=false/\bA=true/\bB=false/\bI=true/\s1=⟨#[]⟩/\s2=⟨#[114,65]⟩/\s3=⟨#[114,65]⟩/\s4=⟨#[114,65,44,32,73]⟩)
theorem Tq(op d:Int)(w:World)(u:ByteArray)(bD bA bB bI:Bool)(s1 s2 s3 s4:ByteArray)(hu:Af op=u)(kj:Ce op=false)(k34:(op==34)=false)(k23:(op==23)=false)(k24:(op==24)=false)(k27:(op==27)=false)(k28:(op==28)=false)
 (hD:A8 u 68=bD)(hA:A8 u 65=bA)(hB:A8 u 66=bB)(hI:A8 u 73=bI)(hH:A8 u 72=false)(h:iy d u bD bA bB bI s1 s2 s3 s4):
 Calls Tryz.prog 83 #[.int .i64 op,.int .i64 d] w fun e w'=>e=.returned (.string s4)/\Below w.heap.size w w':=by
 have hl:u.size<=maxLen:=hu▸Bu op;obtain⟨J,hj⟩:∃J:Value->Value->Prop,∀i o,J i o=((i=.int .i64 0/\o=.string ⟨#[]⟩)∨(i=.int .i64 1/\o=.string s1)∨(i=.int .i64 2/\o=.string s2)∨(i=.int .i64 3/\o=.string s3)∨(i=.int .i64 4/\o=.string s4)):=⟨_,fun _ _=>rfl⟩
 rcases h with⟨rfl,rfl,rfl,rfl,rfl,rfl,rfl,rfl,rfl,rfl⟩|⟨rfl,rfl,rfl,rfl,rfl,rfl,rfl,rfl,rfl,rfl⟩|⟨rfl,rfl,rfl,rfl,rfl,rfl,rfl,rfl,rfl,rfl⟩|⟨rfl,rfl,rfl,rfl,rfl,rfl,rfl,rfl,rfl,rfl⟩|⟨rfl,rfl,rfl,rfl,rfl,rfl,rfl,rfl,rfl,rfl⟩|⟨rfl,rfl,rfl,rfl,rfl,rfl,rfl,rfl,rfl,rfl⟩|⟨rfl,rfl,rfl,rfl,rfl,rfl,rfl,rfl,rfl,rfl⟩|⟨rfl,rfl,rfl,rfl,rfl,rfl,rfl,rfl,rfl,rfl⟩|⟨rfl,rfl,rfl,rfl,rfl,rfl,rfl,rfl,rfl,rfl⟩|⟨rfl,rfl,rfl,rfl,rfl,rfl,rfl,rfl,rfl,rfl⟩|⟨rfl,rfl,rfl,rfl,rfl,rfl,rfl,rfl,rfl,rfl⟩|⟨rfl,rfl,rfl,rfl,rfl,rfl,rfl,rfl,rfl,rfl⟩;all_goals
  have HJ:Hid _:=hj;clear hj;go_enter Tryz.func83,Tryz.ntmps83;go_wp2_with(first|(go_at_call 114;refine(CK _ _).mono ?_;rintro e w1⟨rfl,hw1⟩;rw[hw1];clear hw1)|(go_at_call 116;refine(Ct _ _ _ hl (by decide) (by decide)).mono ?_;rintro e w1⟨rfl,hw1⟩;rw[hw1];clear hw1)|(go_at_call 115;refine(CW _ _).mono ?_;rintro e w1⟨rfl,hw1⟩;rw[hw1];clear hw1));go_loopw [9,11,12](fun o i _ wr=>Below w.heap.size w wr/\J i o)(fun _ i _ _=>4-(intOf i).toNat)
  case atStart=>exact⟨Below.refl _ _,by rw[HJ.out];exact .inl ⟨rfl,rfl⟩⟩
  case round=>
   obtain⟨hb,hrel⟩:=hrel;rw[HJ.out]at hrel;rcases hrel with⟨rfl,rfl⟩|⟨rfl,rfl⟩|⟨rfl,rfl⟩|⟨rfl,rfl⟩|⟨rfl,rfl⟩;rotate_right
   ·go_wp2
    go_ret;exact⟨rfl,hb⟩
   all_goals
    have c65:(convert 22 9 (.slice (some ⟨wr.heap.size,0,none⟩) 1 1)).run Tryz.prog (wr.alloc (.cells #[.int .u8 65] 5))=.ok (.string ⟨#[65]⟩) (wr.alloc (.cells #[.int .u8 65] 5)):=Ei wr 65 (by decide) (by decide);have c66:(convert 22 9 (.slice (some ⟨wr.heap.size,0,none⟩) 1 1)).run Tryz.prog (wr.alloc (.cells #[.int .u8 66] 5))=.ok (.string ⟨#[66]⟩) (wr.alloc (.cells #[.int .u8 66] 5)):=Ei wr 66 (by decide) (by decide);have c68:(convert 22 9 (.slice (some ⟨wr.heap.size,0,none⟩) 1 1)).run Tryz.prog (wr.alloc (.cells #[.int .u8 68] 5))=.ok (.string ⟨#[68]⟩) (wr.alloc (.cells #[.int .u8 68] 5)):=Ei wr 68 (by decide) (by decide);have c73:(convert 22 9 (.slice (some ⟨wr.heap.size,0,none⟩) 1 1)).run Tryz.prog (wr.alloc (.cells #[.int .u8 73] 5))=.ok (.string ⟨#[73]⟩) (wr.alloc (.cells #[.int .u8 73] 5)):=Ei wr 73 (by decide) (by decide);have e00:∀h,(⟨#[65,66,73,68]⟩:ByteArray)[0]'h=65:=fun _=>rfl
    have e01:∀h,(⟨#[65,66,73,68]⟩:ByteArray)[1]'h=66:=fun _=>rfl
    have e02:∀h,(⟨#[65,66,73,68]⟩:ByteArray)[2]'h=73:=fun _=>rfl
    have e03:∀h,(⟨#[65,66,73,68]⟩:ByteArray)[3]'h=68:=fun _=>rfl
    have e10:∀h,(⟨#[68,65,66,73]⟩:ByteArray)[0]'h=68:=fun _=>rfl
    have e11:∀h,(⟨#[68,65,66,73]⟩:ByteArray)[1]'h=65:=fun _=>rfl
    have e12:∀h,(⟨#[68,65,66,73]⟩:ByteArray)[2]'h=66:=fun _=>rfl
    have e13:∀h,(⟨#[68,65,66,73]⟩:ByteArray)[3]'h=73:=fun _=>rfl
    go_wp2_with(first|(go_at_call 114;refine(CK _ _).mono ?_;rintro e w1⟨rfl,hw1⟩;rw[hw1];clear hw1)|(go_at_call 116;refine(Ct _ _ _ hl (by decide) (by decide)).mono ?_;rintro e w1⟨rfl,hw1⟩;rw[hw1];clear hw1)|(go_at_call 115;refine(CW _ _).mono ?_;rintro e w1⟨rfl,hw1⟩;rw[hw1];clear hw1));go_roundw
    case rel=>exact⟨by first|exact hb|exact hb.alloc hb.size _,by rw[HJ.out];first|exact .inr (.inl ⟨rfl,rfl⟩)|exact .inr (.inr (.inl ⟨rfl,rfl⟩))|exact .inr (.inr (.inr (.inl ⟨rfl,rfl⟩)))|exact .inr (.inr (.inr (.inr ⟨rfl,rfl⟩)))⟩
    case measure=>simp[intOf]
theorem WS(op d:Int)(w:World)(u:ByteArray)(bH j:Bool)(hu:Af op=u)(hH:A8 u 72=bH)(hj:Ce op=j)(hd:d=0∨d=1)(h:(u=⟨#[68,65,73,72]⟩/\bH=true/\j=false/\(op=21∨op=22∨op=23∨op=24))∨(u=⟨#[68,65,66,72]⟩/\bH=true/\j=false/\(op=25∨op=26∨op=27∨op=28))∨(u=⟨#[73]⟩/\bH=false/\j=true/\(op=29∨op=30∨op=31∨op=32∨op=33))∨(u=⟨#[]⟩/\bH=false/\j=false/\(op=34))):
 Calls Tryz.prog 83 #[.int .i64 op,.int .i64 d] w fun e w'=>e=.returned (.string (Kv d op))/\Below w.heap.size w w':=by
 have hl:u.size<=maxLen:=hu▸Bu op;rcases hd with rfl|rfl<;>rcases h with⟨rfl,rfl,rfl,rfl|rfl|rfl|rfl⟩|⟨rfl,rfl,rfl,rfl|rfl|rfl|rfl⟩|⟨rfl,rfl,rfl,rfl|rfl|rfl|rfl|rfl⟩|⟨rfl,rfl,rfl,rfl⟩
 all_goals
  go_enter Tryz.func83,Tryz.ntmps83;go_wp2_with(first|(go_at_call 114;refine(CK _ _).mono ?_;rintro e w1⟨rfl,hw1⟩;rw[hw1];clear hw1)|(go_at_call 116;refine(Ct _ _ _ hl (by decide) (by decide)).mono ?_;rintro e w1⟨rfl,hw1⟩;rw[hw1];clear hw1)|(go_at_call 115;refine(CW _ _).mono ?_;rintro e w1⟨rfl,hw1⟩;rw[hw1];clear hw1));all_goals(go_ret;exact⟨rfl,Below.refl _ _⟩)
theorem Wq(op d:Int)(w:World)(h1:1<=op)(h2:op<=34)(hd:d=0∨d=1):
 Calls Tryz.prog 83 #[.int .i64 op,.int .i64 d] w fun e w'=>e=.returned (.string (Kv d op))/\Below w.heap.size w w':=by
 obtain h|h:op<=20∨21<=op:=by omega
 ·obtain rfl|rfl|rfl|rfl|rfl|rfl|rfl|rfl|rfl|rfl|rfl|rfl|rfl|rfl|rfl|rfl|rfl|rfl|rfl|rfl:op=1∨op=2∨op=3∨op=4∨op=5∨op=6∨op=7∨op=8∨op=9∨op=10∨op=11∨op=12∨op=13∨op=14∨op=15∨op=16∨op=17∨op=18∨op=19∨op=20:=by omega
  all_goals rcases hd with rfl|rfl
  all_goals exact Tq _ _ w _ _ _ _ _ _ _ _ _ rfl rfl rfl rfl rfl rfl rfl rfl rfl rfl rfl rfl (by first|exact .inl ⟨rfl,rfl,rfl,rfl,rfl,rfl,rfl,rfl,rfl,rfl⟩|exact .inr (.inl ⟨rfl,rfl,rfl,rfl,rfl,rfl,rfl,rfl,rfl,rfl⟩)|exact .inr (.inr (.inl ⟨rfl,rfl,rfl,rfl,rfl,rfl,rfl,rfl,rfl,rfl⟩))|exact .inr (.inr (.inr (.inl ⟨rfl,rfl,rfl,rfl,rfl,rfl,rfl,rfl,rfl,rfl⟩)))|exact .inr (.inr (.inr (.inr (.inl ⟨rfl,rfl,rfl,rfl,rfl,rfl,rfl,rfl,rfl,rfl⟩))))|exact .inr (.inr (.inr (.inr (.inr (.inl ⟨rfl,rfl,rfl,rfl,rfl,rfl,rfl,rfl,rfl,rfl⟩)))))|exact .inr (.inr (.inr (.inr (.inr (.inr (.inl ⟨rfl,rfl,rfl,rfl,rfl,rfl,rfl,rfl,rfl,rfl⟩))))))|exact .inr (.inr (.inr (.inr (.inr (.inr (.inr (.inl ⟨rfl,rfl,rfl,rfl,rfl,rfl,rfl,rfl,rfl,rfl⟩)))))))|exact .inr (.inr (.inr (.inr (.inr (.inr (.inr (.inr (.inl ⟨rfl,rfl,rfl,rfl,rfl,rfl,rfl,rfl,rfl,rfl⟩))))))))|exact .inr (.inr (.inr (.inr (.inr (.inr (.inr (.inr (.inr (.inl ⟨rfl,rfl,rfl,rfl,rfl,rfl,rfl,rfl,rfl,rfl⟩)))))))))|exact .inr (.inr (.inr (.inr (.inr (.inr (.inr (.inr (.inr (.inr (.inl ⟨rfl,rfl,rfl,rfl,rfl,rfl,rfl,rfl,rfl,rfl⟩))))))))))|exact .inr (.inr (.inr (.inr (.inr (.inr (.inr (.inr (.inr (.inr (.inr ⟨rfl,rfl,rfl,rfl,rfl,rfl,rfl,rfl,rfl,rfl⟩)))))))))))
 ·refine WS op d w _ _ _ rfl rfl rfl hd ?_
  obtain rfl|rfl|rfl|rfl|rfl|rfl|rfl|rfl|rfl|rfl|rfl|rfl|rfl|rfl:op=21∨op=22∨op=23∨op=24∨op=25∨op=26∨op=27∨op=28∨op=29∨op=30∨op=31∨op=32∨op=33∨op=34:=by omega
  all_goals first|exact .inl ⟨rfl,rfl,rfl,by decide⟩|exact .inr (.inl ⟨rfl,rfl,rfl,by decide⟩)|exact .inr (.inr (.inl ⟨rfl,rfl,rfl,by decide⟩))|exact .inr (.inr (.inr ⟨rfl,rfl,rfl,by decide⟩))
end Go.Proofs.YtfpeecaaleijcaaGreatDoor
