import Derived.Test.YtdbhgaegblclaaaDoorAsmNew
set_option maxHeartbeats 3200000
namespace Go.Proofs.YtdbhgaegblclaaaDoor
open Go.RowKit
theorem row_base{w:World}{b1 b2 e size n:Nat}{v:Value}{xs:List Value}(h:w.ownsRow b1 e size v n xs)(hb:b2<=b1):w.ownsRow b2 e size v n xs:=by
 refine⟨h.1,?_⟩;rcases h.2 with h|⟨g,cap,cur,rfl,h1,h2⟩
 ·exact .inl h
 ·exact .inr ⟨g,cap,cur,rfl,Nat.le_trans hb h1,h2⟩
theorem implPrint_bad(b off len cap:Nat)(F:Nat->Nat->Int)(d:Int)(w:World)(hm:len<=1048576)(hat:At w b off (len*6) (insF F))(hok:(flatOK len F&&inB d 0 1)=false):
 Calls Tryd.prog 8 #[.slice (some ⟨b,off,none⟩) len cap,.int .i64 d] w fun e w'=>∃v n,e=.returned v/\w'.ownsRow w.heap.size 5 1 v n (Lib.byteCells [])/\(n:Int)<=1099511627776/\Below w.heap.size w w':=by
 have hb:=hat.lt;have HA:Hid (At w b off (len*6) (insF F)):=hat;clear hat;have fin:∀w1,Below w.heap.size w w1->(∃v n,Ending.returned (.slice (some ⟨w1.heap.size,0,none⟩) 0 0)=.returned v/\(w1.alloc (.cells #[] 5)).ownsRow w.heap.size 5 1 v n (Lib.byteCells [])/\(n:Int)<=1099511627776/\Below w.heap.size w (w1.alloc (.cells #[] 5))):=fun w1 h1=>
  ⟨_,0,rfl,⟨rfl,Or.inr ⟨_,0,#[],rfl,h1.size,heap_alloc_newB w1 _,Nat.le_refl _,Nat.zero_le _,rfl,rfl⟩⟩,by decide,h1.alloc h1.size _⟩
 have FIN:Hid (∀w1,Below w.heap.size w w1->(∃v n,Ending.returned (.slice (some ⟨w1.heap.size,0,none⟩) 0 0)=.returned v/\(w1.alloc (.cells #[] 5)).ownsRow w.heap.size 5 1 v n (Lib.byteCells [])/\(n:Int)<=1099511627776/\Below w.heap.size w (w1.alloc (.cells #[] 5)))):=fin;clear fin;cases hin:inB d 0 1 with
 |false=>
  clear hok;go_enter Tryd.func8,Tryd.ntmps8;go_wp2_with(first|(go_at_call 30;refine(isDialect_any _ _).mono ?_;rintro e w2⟨rfl,hw2⟩;rw[hw2,hin];clear hw2));go_ret;exact FIN.out _ (Below.refl _ _)
 |true=>
  have hf:flatOK len F=false:=by simpa[hin]using hok
  clear hok;go_enter Tryd.func8,Tryd.ntmps8;go_wp2_with(first|(go_at_call 30;refine(isDialect_any _ _).mono ?_;rintro e w2⟨rfl,hw2⟩;rw[hw2,hin];clear hw2)|(go_at_call 10;refine(implFlat_any b off len cap F _ hm HA.out).mono ?_;rintro e w1⟨rfl,hb1⟩;rw[hf]));go_ret;exact FIN.out _ hb1
theorem implPrint_ok(b off len cap:Nat)(F:Nat->Nat->Int)(d:Int)(w:World)(hm:len<=1048576)(hat:At w b off (len*6) (insF F))(hok:flatOK len F=true)(hd:d=0∨d=1)
 (ht1:Lib.TabIs Tryd.prog w "internal/strconv.uint64pow10" .u64 Lib.pow10Tab)(ht2:Lib.TabIs Tryd.prog w "strings.asciiSpace" .u8 Lib.asciiSpaceTab):
 Calls Tryd.prog 8 #[.slice (some ⟨b,off,none⟩) len cap,.int .i64 d] w fun e w'=>∃v n,e=.returned v/\w'.ownsRow w.heap.size 5 1 v n (Lib.byteCells (txt d len F len))/\(n:Int)<=1099511627776/\Below w.heap.size w w':=by
 have hb:=hat.lt;have HA:Hid (At w b off (len*6) (insF F)):=hat;have HD:Hid (d=0∨d=1):=hd;have HOK:Hid (flatOK len F=true):=hok;have hl2:=(flat_parts hok).2.1;have T1:Hid (Lib.TabBelow Tryd.prog w.heap.size w "internal/strconv.uint64pow10" .u64 Lib.pow10Tab):=Lib.tabBelow_of_tabIs ht1;have T2:Hid (Lib.TabBelow Tryd.prog w.heap.size w "strings.asciiSpace" .u8 Lib.asciiSpaceTab):=Lib.tabBelow_of_tabIs ht2;have hin:inB d 0 1=true:=by unfold inB;rcases hd with rfl|rfl<;>rfl
 clear hat hok hd ht1 ht2;go_enter Tryd.func8,Tryd.ntmps8;go_upto_region 3 with(first|(go_at_call 30;refine(isDialect_any _ _).mono ?_;rintro e w2⟨rfl,hw2⟩;rw[hw2,hin];clear hw2)|(go_at_call 10;refine(implFlat_any b off len cap F _ hm HA.out).mono ?_;rintro e w1⟨rfl,hb1⟩;rw[HOK.out]));have B1:Hid (Below w.heap.size w w1):=hb1;clear hb1 hin;go_wp2_with fail;refine(newScribe_any d w1 (T2.out _ B1.out)).mono ?_;rintro e w2⟨sb,nb,ob,mb,rfl,sc2,hb2,ls,ln,lm,_,_⟩;have B2:Hid (Below w.heap.size w w2):=B1.out.trans (hb2.mono B1.out.size);have P2:Hid (SC w2 sb nb ob mb d):=sc2;have Z2:Hid (sb<w2.heap.size/\nb<w2.heap.size/\mb<w2.heap.size):=⟨ls,ln,lm⟩
 clear sc2 hb2 ls ln lm B1;go_wp2_with fail;refine(jumpTargets_any b off len cap F w2 (HA.out.below B2.out hb) HOK.out).mono ?_;rintro e w3⟨rfl,hb3,har3⟩;have B3:Hid (Below w.heap.size w w3):=B2.out.trans (hb3.mono B2.out.size);have P3:Hid (SC w3 sb nb ob mb d):=P2.out.below hb3 Z2.out.1 Z2.out.2.1 Z2.out.2.2;have R3:Hid (Arr w3 w2.heap.size len (fun j=>.bool (reachB F j len))):=har3;obtain⟨rb,hrb⟩:∃x,w2.heap.size=x:=⟨_,rfl⟩
 obtain⟨B,hBd⟩:∃x,w3.heap.size=x:=⟨_,rfl⟩
 have Z3:Hid (sb<B/\nb<B/\mb<B/\rb<B/\w.heap.size<=B/\b<B):=(by
  have h1:=Z2.out;have h2:=har3.lt;have h3:=B3.out.size;omega:sb<B/\nb<B/\mb<B/\rb<B/\w.heap.size<=B/\b<B)
 have T3:Hid (Lib.TabBelow Tryd.prog B w3 "internal/strconv.uint64pow10" .u64 Lib.pow10Tab):=(by
  rw[<-hBd];exact Lib.tabBelow_of_tabIs (T1.out _ B3.out):Lib.TabBelow Tryd.prog B w3 "internal/strconv.uint64pow10" .u64 Lib.pow10Tab)
 have A3:Hid (At w3 b off (len*6) (insF F)):=HA.out.below B3.out hb;have HBD:Hid (B<=w3.heap.size):=(by omega:B<=w3.heap.size)
 rw[hrb]at R3⊢;clear hb3 har3 P2 Z2 B2 T1 T2 HA hrb hBd;go_wp2_with fail;go_loopw [7,8,9,25](fun tv _ _ j wr=>∃k n:Nat,k<=len/\n<=k*60000300/\j=.int .i64 k/\wr.ownsRow B 5 1 tv n (Lib.byteCells (txt d len F k))/\Below B w3 wr)(fun _ _ _ j _=>len-(intOf j).toNat)
 case atStart=>exact⟨0,0,Nat.zero_le _,Nat.zero_le _,rfl,World.ownsRow_nil _ _ _ _,Below.refl _ _⟩
 case round=>
  obtain⟨k,n,hk,hn,rfl,hown,hbr⟩:=hrel;have OR:Hid (wr.ownsRow B 5 1 u7 n (Lib.byteCells (txt d len F k))):=hown;have HN:Hid (n<=k*60000300):=hn;have BR:Hid (Below B w3 wr):=hbr;clear hown hn hbr;by_cases hlt:k<len
  rotate_left
  ·obtain rfl:k=len:=by omega
   go_wp2_with fail;go_ret;have z:=Z3.out;refine⟨_,n,rfl,row_base OR.out (by omega),by have:=HN.out;omega,B3.out.trans (BR.out.mono (by omega))⟩
  have hl1:(k:Int)<len:=by omega
  have z:=Z3.out;have hBr:B<=wr.heap.size:=Nat.le_trans HBD.out BR.out.size;have AR:Hid (At wr b off (len*6) (insF F)):=A3.out.below BR.out z.2.2.2.2.2;have g0:wr.cell? ⟨b,off+k*6,none⟩=some (.int .i64 (F k 0)):=(AR.out.cell (i:=k*6+0) (by omega)).trans (congrArg some (insF_at F k 0 (by omega)));have g1:wr.cell? ⟨b,off+k*6+1,none⟩=some (.int .i64 (F k 1)):=(AR.out.cell (i:=k*6+1) (by omega)).trans (congrArg some (insF_at F k 1 (by omega)));have g2:wr.cell? ⟨b,off+k*6+2,none⟩=some (.int .i64 (F k 2)):=(AR.out.cell (i:=k*6+2) (by omega)).trans (congrArg some (insF_at F k 2 (by omega)));have g3:wr.cell? ⟨b,off+k*6+3,none⟩=some (.int .i64 (F k 3)):=(AR.out.cell (i:=k*6+3) (by omega)).trans (congrArg some (insF_at F k 3 (by omega)));have g4:wr.cell? ⟨b,off+k*6+4,none⟩=some (.int .i64 (F k 4)):=(AR.out.cell (i:=k*6+4) (by omega)).trans (congrArg some (insF_at F k 4 (by omega)));have g5:wr.cell? ⟨b,off+k*6+5,none⟩=some (.int .i64 (F k 5)):=(AR.out.cell (i:=k*6+5) (by omega)).trans (congrArg some (insF_at F k 5 (by omega)));go_upto_region 8 with fail;go_cut [8,9](fun s8 s9 wx=>s8=.int .i64 k/\s9=.pointer (some ⟨wr.heap.size,0,none⟩)/\Below wr.heap.size wr wx/\wx.heap[wr.heap.size]?=some (.cells #[.int .i64 (F k 0),.int .i64 (F k 1),.int .i64 (F k 2),.int .i64 (F k 3),.int .i64 (F k 4),.int .i64 (F k 5)] 56))
  case first=>
   go_wp2_with fail;go_meet;exact⟨rfl,rfl,(Below.refl _ _).alloc (Nat.le_refl _) _,heap_alloc_newB wr _⟩
  case rest=>
   obtain⟨rfl,rfl,hbx,hx⟩:=hcut;clear g0 g1 g2 g3 g4 g5 AR;obtain⟨xb,hxb⟩:∃q,wr.heap.size=q:=⟨_,rfl⟩
   have BX:Hid (Below B w3 wc):=BR.out.trans (hbx.mono hBr);have PX:Hid (SC wc sb nb ob mb d):=P3.out.below BX.out z.1 z.2.1 z.2.2.1;have OX:Hid (wc.ownsRow B 5 1 u7 n (Lib.byteCells (txt d len F k))):=row_belowB OR.out hbx;have TX:Hid (Lib.TabBelow Tryd.prog B wc "internal/strconv.uint64pow10" .u64 Lib.pow10Tab):=T3.out.on BX.out;have hBx:B<=wc.heap.size:=Nat.le_trans hBr hbx.size;have hr:wc.cell? ⟨rb,k,none⟩=some (.bool (reachB F k len)):=(BX.out.cell (p:=⟨rb,k,none⟩) z.2.2.2.1).trans (R3.out.cell hlt);rw[hxb]at hx⊢;have HX:Hid (wc.heap[xb]?=some (.cells #[.int .i64 (F k 0),.int .i64 (F k 1),.int .i64 (F k 2),.int .i64 (F k 3),.int .i64 (F k 4),.int .i64 (F k 5)] 56)):=hx;have IP:Hid (1<=F k 0/\F k 0<=34/\(F k 1).natAbs<1000001/\(F k 2).natAbs<1000001/\(F k 3).natAbs<1000001/\(F k 4).natAbs<1000001/\(F k 5).natAbs<1000001):=ins_parts ((flat_parts HOK.out).2.2 k hlt);clear hbx hx BR OR;have st:∀v(m:Nat)(wz:World),wz.ownsRow B 5 1 v m (Lib.byteCells (txt d len F k++(if reachB F k len=true then(labS d k++⟨#[10]⟩).data.toList else[])++(lineS d (F k 0) (F k 1) (F k 2) (F k 3) (F k 4) (F k 5)++⟨#[10]⟩).data.toList))->wz.ownsRow B 5 1 v m (Lib.byteCells (txt d len F (k+1))):=fun v m wz h=>by
    show World.ownsRow _ _ _ _ _ _ (Lib.byteCells (txt d len F k++lineAt d len F k));unfold lineAt;rw[<-List.append_assoc];exact h
   have ST:Hid (∀v(m:Nat)(wz:World),wz.ownsRow B 5 1 v m (Lib.byteCells (txt d len F k++(if reachB F k len=true then(labS d k++⟨#[10]⟩).data.toList else[])++(lineS d (F k 0) (F k 1) (F k 2) (F k 3) (F k 4) (F k 5)++⟨#[10]⟩).data.toList))->wz.ownsRow B 5 1 v m (Lib.byteCells (txt d len F (k+1)))):=st;have KN:Hid ((k:Int).natAbs<1000001):=(by omega:(k:Int).natAbs<1000001)
   clear st;cases hrv:reachB F k len with
   |true=>
    rw[hrv]at hr;go_wp2_with fail;refine(addLabel_any B n u7 (txt d len F k) sb nb ob mb d k wc PX.out HD.out hBx OX.out (by have:=HN.out;omega) KN.out TX.out).mono ?_;rintro e wl⟨vl,nl,rfl,hol,hnl,hkp,hbl⟩;have BL:Hid (Below B w3 wl):=BX.out.trans hbl;have PL:Hid (SC wl sb nb ob mb d):=PX.out.below hbl z.1 z.2.1 z.2.2.1;have OL:Hid (wl.ownsRow B 5 1 vl nl (Lib.byteCells (txt d len F k++(labS d k++⟨#[10]⟩).data.toList))):=hol;have TL:Hid (Lib.TabBelow Tryd.prog B wl "internal/strconv.uint64pow10" .u64 Lib.pow10Tab):=TX.out.on hbl;have HNL:Hid (nl<=n+30000100):=hnl;have hBl:B<=wl.heap.size:=Nat.le_trans hBx hbl.size;have hxl:=hkp xb _ HX.out;have c0:=heap_cell hxl 0;have c1:=heap_cell hxl 1;have c2:=heap_cell hxl 2;have c3:=heap_cell hxl 3;have c4:=heap_cell hxl 4;have c5:=heap_cell hxl 5;clear hol hnl hkp hbl hxl hr BX PX OX TX HX;go_wp2_with fail;refine(addIns_any B nl vl (txt d len F k++(labS d k++⟨#[10]⟩).data.toList) sb nb ob mb d (F k 0) (F k 1) (F k 2) (F k 3) (F k 4) (F k 5) wl PL.out HD.out IP.out.1 IP.out.2.1 hBl z.1 z.2.1 z.2.2.1 OL.out (by have:=HNL.out;have:=HN.out;omega) IP.out.2.2.1 IP.out.2.2.2.1 IP.out.2.2.2.2.1 IP.out.2.2.2.2.2.1 IP.out.2.2.2.2.2.2 TL.out).mono ?_;rintro e wi⟨vi,ni,rfl,hoi,hni,hbi⟩;have OI:Hid (wi.ownsRow B 5 1 vi ni (Lib.byteCells (txt d len F (k+1)))):=(by
     refine ST.out vi ni wi ?_;rw[if_pos hrv];exact hoi:wi.ownsRow B 5 1 vi ni (Lib.byteCells (txt d len F (k+1))))
    have BI:Hid (Below B w3 wi):=BL.out.trans hbi;have HNI:Hid (ni<=nl+30000200):=hni;clear hoi hni hbi c0 c1 c2 c3 c4 c5;go_wp2_with fail;go_roundw
    case rel=>exact⟨k+1,ni,by omega,by have:=HNI.out;have:=HNL.out;have:=HN.out;omega,by go_num,OI.out,BI.out⟩
    case measure=>simp[intOf];omega
   |false=>
    rw[hrv]at hr;have c0:=heap_cell HX.out 0;have c1:=heap_cell HX.out 1;have c2:=heap_cell HX.out 2;have c3:=heap_cell HX.out 3;have c4:=heap_cell HX.out 4;have c5:=heap_cell HX.out 5;go_wp2_with fail;refine(addIns_any B n u7 (txt d len F k) sb nb ob mb d (F k 0) (F k 1) (F k 2) (F k 3) (F k 4) (F k 5) wc PX.out HD.out IP.out.1 IP.out.2.1 hBx z.1 z.2.1 z.2.2.1 OX.out (by have:=HN.out;omega) IP.out.2.2.1 IP.out.2.2.2.1 IP.out.2.2.2.2.1 IP.out.2.2.2.2.2.1 IP.out.2.2.2.2.2.2 TX.out).mono ?_;rintro e wi⟨vi,ni,rfl,hoi,hni,hbi⟩;have OI:Hid (wi.ownsRow B 5 1 vi ni (Lib.byteCells (txt d len F (k+1)))):=(by
     refine ST.out vi ni wi ?_;rw[if_neg (by simp[hrv]),List.append_nil];exact hoi:wi.ownsRow B 5 1 vi ni (Lib.byteCells (txt d len F (k+1))))
    have BI:Hid (Below B w3 wi):=BX.out.trans hbi;have HNI:Hid (ni<=n+30000200):=hni;clear hoi hni hbi c0 c1 c2 c3 c4 c5 hr;go_wp2_with fail;go_roundw
    case rel=>exact⟨k+1,ni,by omega,by have:=HNI.out;have:=HN.out;omega,by go_num,OI.out,BI.out⟩
    case measure=>simp[intOf];omega
theorem implPrint_any(b off len cap:Nat)(F:Nat->Nat->Int)(d:Int)(w:World)(hm:len<=1048576)(hat:At w b off (len*6) (insF F))
 (ht1:Lib.TabIs Tryd.prog w "internal/strconv.uint64pow10" .u64 Lib.pow10Tab)(ht2:Lib.TabIs Tryd.prog w "strings.asciiSpace" .u8 Lib.asciiSpaceTab):
 Calls Tryd.prog 8 #[.slice (some ⟨b,off,none⟩) len cap,.int .i64 d] w fun e w'=>∃v n,e=.returned v/\w'.ownsRow w.heap.size 5 1 v n (Lib.byteCells (prT d len F))/\(n:Int)<=1099511627776/\Below w.heap.size w w':=by
 cases h:(flatOK len F&&inB d 0 1)with
 |false=>rw[prT,if_neg (by simp[h])];exact implPrint_bad b off len cap F d w hm hat h
 |true=>
  rw[prT,if_pos h];rw[Bool.and_eq_true]at h;have h2:=h.2;unfold inB at h2;simp only[Bool.and_eq_true,decide_eq_true_eq]at h2;exact implPrint_ok b off len cap F d w hm hat h.1 (by omega) ht1 ht2
end Go.Proofs.YtdbhgaegblclaaaDoor
