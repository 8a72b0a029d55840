"""The numbers of the calls that are named elsewhere than in the tables of calls."""

SEND_ITEM = 1
RETRANSMIT = 2
DELIVER_FRAME = 3
SEND_ACK = 6
DELIVER_ACK = 7
