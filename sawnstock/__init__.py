"""Stock: blocks are sawn from boards, and each cut of the saw takes its kerf."""
