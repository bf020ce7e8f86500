import Derived.Test.YtiphbmhoifggiaaGreatDoorUnitMake3
import Derived.Test.YtiphbmhoifggiaaGreatDoorAsmShow
import Derived.Test.YtiphbmhoifggiaaGreatDoorSigWalks
namespace Go.Proofs.YtiphbmhoifggiaaGreatDoor
open Go.RowKit
def bs(l:List UInt8):ByteArray:=⟨l.toArray⟩
theorem bs_app(a b:List UInt8):bs a++bs b=bs (a++b):=ByteArray.ext (by simp[bs])
theorem bs_size(l:List UInt8):(bs l).size=l.length:=by simp[bs,ByteArray.size]
theorem bs_list(s:ByteArray):bs s.data.toList=s:=by cases s;simp[bs]
theorem bs_data(l:List UInt8):(bs l).data.toList=l:=by simp[bs]
def cndL(c:Int):List UInt8:=if c=1 then[122]else if c=2 then[110,122]else if c=3 then[99]else[110,99]
def insT(s:SV):List UInt8:=(lineS 1 s.op s.d s.a s.b s.imm s.h).data.toList
def hdT(s:SV):List UInt8:=(if s.k=3 then[119,104,105,108,101,32]else[105,102,32])++cndL s.cond++[10]
def callT(s:SV):List UInt8:=[99,97,108,108,32]++Lib.itoa s.proc++[10]
def elseT:List UInt8:=[101,108,115,101,10]
def endT:List UInt8:=[101,110,100,10]
def prB(L:Nat->SV)(i te:Nat):List UInt8:=
 if _h:i<te then
  if _hs:i+1+(L i).thn.toNat+(L i).els.toNat<=te then
   if(L i).k=1 then insT (L i)++[10]++prB L (i+1+(L i).thn.toNat+(L i).els.toNat) te
   else if(L i).k=4 then callT (L i)++prB L (i+1+(L i).thn.toNat+(L i).els.toNat) te
   else hdT (L i)++prB L (i+1) (i+1+(L i).thn.toNat)++(if 0<(L i).els then elseT++prB L (i+1+(L i).thn.toNat) (i+1+(L i).thn.toNat+(L i).els.toNat)else[])++endT++prB L (i+1+(L i).thn.toNat+(L i).els.toNat) te
  else[]
 else[]
section
variable{L:Nat->SV}{i te:Nat}
theorem prB_end(h:¬i<te):prB L i te=[]:=by rw[prB,dif_neg h]
theorem prB_1(h:i<te)(hs:i+1+(L i).thn.toNat+(L i).els.toNat<=te)(k:(L i).k=1):prB L i te=insT (L i)++[10]++prB L (i+1+(L i).thn.toNat+(L i).els.toNat) te:=by rw[prB,dif_pos h,dif_pos hs,if_pos k]
theorem prB_4(h:i<te)(hs:i+1+(L i).thn.toNat+(L i).els.toNat<=te)(k:(L i).k=4):prB L i te=callT (L i)++prB L (i+1+(L i).thn.toNat+(L i).els.toNat) te:=by rw[prB,dif_pos h,dif_pos hs,if_neg (by omega),if_pos k]
theorem prB_c(h:i<te)(hs:i+1+(L i).thn.toNat+(L i).els.toNat<=te)(k:(L i).k=2∨(L i).k=3):prB L i te=hdT (L i)++prB L (i+1) (i+1+(L i).thn.toNat)++(if 0<(L i).els then elseT++prB L (i+1+(L i).thn.toNat) (i+1+(L i).thn.toNat+(L i).els.toNat)else[])++endT++prB L (i+1+(L i).thn.toNat+(L i).els.toNat) te:=by rw[prB,dif_pos h,dif_pos hs,if_neg (by omega),if_neg (by omega)]
end
theorem dgl_len:∀(k n:Nat),n<10^(k+1)->(Lib.decDigits n).length<=k+1
 |0,n,h=>by rw[Lib.decDigits,dif_pos (by omega)];simp
 |k+1,n,h=>by
  rw[Lib.decDigits];by_cases h1:n<10
  ·rw[dif_pos h1];simp
  ·rw[dif_neg h1]
   have:=dgl_len k (n/10) (by rw[Nat.pow_succ]at h;omega);simp;omega
theorem itoa_len(x:Int)(h:x.natAbs<10000000000000000):(Lib.itoa x).length<=17:=by
 unfold Lib.itoa;split
 ·have:=dgl_len 15 x.natAbs (by omega)
  simp;omega
 ·have:=dgl_len 15 x.toNat (by omega)
  omega
theorem digS_len(x:Int)(h:x.natAbs<10000000000000000):(digS x).size<=17:=by
 have:=itoa_len x h;simpa[digS,ByteArray.size]using this
theorem ins_small{op d a b imm h:Int}(hh:implIns op d a b imm h=true):1<=op/\op<=34/\d.natAbs<=1000000/\a.natAbs<=1000000/\b.natAbs<=1000000/\imm.natAbs<=1000000/\h.natAbs<=1000000:=by
 unfold implIns at hh;simp only[Bool.and_eq_true]at hh;obtain⟨⟨⟨⟨⟨h0,h1⟩,h2⟩,h3⟩,h4⟩,h5⟩:=hh;have fb:∀(u:Bool)(v lo hi:Int),fieldB u v lo hi=true->((lo<=v/\v<=hi)∨v=0):=fun u v lo hi hh=>by
  unfold fieldB at hh;cases u with
  |true=>simp[inB]at hh;exact .inl hh
  |false=>simp at hh;exact .inr hh
 have k0:1<=op/\op<=34:=by simpa[inB]using h0
 have k1:=fb _ _ _ _ h1;have k2:=fb _ _ _ _ h2;have k3:=fb _ _ _ _ h3;have k4:=fb _ _ _ _ h4;have k5:=fb _ _ _ _ h5;have i1: -1000000<=immLo op:=by unfold immLo;split<;>omega
 have i2:immHi op<=1000000:=by
  unfold immHi;split
  ·omega
  ·split<;>omega
 omega
theorem line_len{d op dd a b imm h:Int}(hh:implIns op dd a b imm h=true):(lineS d op dd a b imm h).size<=530:=by
 obtain⟨_,_,h1,h2,h3,h4,h5⟩:=ins_small hh;have hf:∀c,(rbS dd a b imm h c).size<=17:=fun c=>by
  unfold rbS;repeat' apply ite_size
  ·exact digS_len _ (by omega)
  ·exact digS_len _ (by omega)
  ·exact digS_len _ (by omega)
  ·exact digS_len _ (by omega)
  ·exact digS_len _ (by omega)
  ·exact digS_len _ (by omega)
  ·show 1<=17;omega
 have k3:=rend_size (rbS dd a b imm h) 17 hf (shpS d op).data.toList (begS d op);have k4:=shpS_size d op;have k5:=nmS_size op;have k6:(begS d op).size<=11:=by
  unfold begS;apply ite_size
  ·omega
  ·simp only[ByteArray.size_append]
   show(nmS op).size+1<=11;omega
 have k7:(shpS d op).data.toList.length=(shpS d op).size:=rfl;unfold lineS;omega
theorem st_ins{s:SV}{procs:Int}(h:stOK s procs=true)(k:s.k=1):implIns s.op s.d s.a s.b s.imm s.h=true/\s.op<29:=by
 unfold stOK at h;rw[if_pos k]at h;simp only[Bool.and_eq_true,decide_eq_true_eq]at h;exact⟨h.1,h.2.1⟩
theorem insT_len{s:SV}{procs:Int}(h:stOK s procs=true)(k:s.k=1):(insT s).length<=530:=line_len (st_ins h k).1
theorem callT_len{s:SV}{procs:Int}(h:stOK s procs=true)(k:s.k=4)(hp:procs<=100):(callT s).length<=40:=by
 have h1:=st_call h k;have:=itoa_len s.proc (by omega);unfold callT;simp only[List.length_append,List.length_cons,List.length_nil];omega
theorem hdT_len(s:SV):(hdT s).length<=9:=by
 have h1:(cndL s.cond).length<=2:=by unfold cndL;repeat' split
                                     all_goals decide
 have h2:(if s.k=3 then([119,104,105,108,101,32]:List UInt8)else[105,102,32]).length<=6:=by split<;>decide
 unfold hdT;simp only[List.length_append,List.length_cons,List.length_nil];omega
theorem prB_len{L:Nat->SV}{me procs deep:Int}(hp:procs<=100):∀(m i te:Nat)(depth:Int),te-i<=m->i<=te->(chk L me procs deep i te depth).1=0->(prB L i te).length<=(te-i)*600:=by
 intro m;induction m with
 |zero=>intro i te depth hm hit _;rw[prB_end (by omega)];simp
 |succ m ih=>
  intro i te depth hm hit hc;by_cases h:i<te
  rotate_left
  ·rw[prB_end h];simp
  obtain⟨sok,hs,c1,c2,c3⟩:=chk_next hc h;have e3:=ih _ te depth (by omega) hs c3;have e1:=ih (i+1) (i+1+(L i).thn.toNat) _ (by omega) (by omega) c1;have e2:=ih (i+1+(L i).thn.toNat) (i+1+(L i).thn.toNat+(L i).els.toNat) _ (by omega) (by omega) c2;by_cases k1:(L i).k=1
  ·have:=insT_len sok k1
   rw[prB_1 h hs k1];simp only[List.length_append,List.length_cons,List.length_nil];omega
  by_cases k4:(L i).k=4
  ·have:=callT_len sok k4 hp
   rw[prB_4 h hs k4];simp only[List.length_append];omega
  ·have k23:(L i).k=2∨(L i).k=3:=by
    rcases st_one sok with k|k|k|k
    ·exact absurd k k1
    ·exact .inl k
    ·exact .inr k
    ·exact absurd k k4
   have hh:=hdT_len (L i);have e4:(if 0<(L i).els then elseT++prB L (i+1+(L i).thn.toNat) (i+1+(L i).thn.toNat+(L i).els.toNat)else[]).length<=5+(L i).els.toNat*600:=by
    split
    ·rw[List.length_append]
     show 5+_<=_;omega
    ·simp
   have e5:endT.length=4:=rfl;rw[prB_c h hs k23];simp only[List.length_append];omega
end Go.Proofs.YtiphbmhoifggiaaGreatDoor
