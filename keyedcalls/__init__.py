"""A server for remote calls whose clock the caller advances. It is called through keyedcalls.server.answers."""
