"""Swarmwhole: content in pieces, shared by a swarm that forges, breaks and falls."""
